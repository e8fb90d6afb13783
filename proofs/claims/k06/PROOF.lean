import PyProof.Rows.All
import Wide.All
import OpenK.AllK
import Wide.FinOn
import PyProof.EqAt
import PyProof.EqKinds
import PyProof.TupleCall
import PyProof.ReprRoads
import KE.KExcSuper
import HandS.ForExc
import HandS.IsInst
import HandS.ExcIs
import HandS.ExcInit
import HandS.Defaults
import HandS.Lambda
import HandS.NoneIn
import HandS.ExcField
import HandS.ForMost
import KE.KExcIs
import HandS.Base
import HandS.Conv
import PySem.Challenge.RW_baysout_k06_sides_and_stretches_that_mee
import HandS.Wide
import HandS.Walk
import HandS.Style
import KE.KDflt
import HandS.TupLe
import HandS.EndTab
set_option Elab.async false
set_option linter.all false
set_option maxRecDepth 100000
set_option maxHeartbeats 4000000
/-! Own errors whose __init__ says super().__init__(text) and keeps its fields: made, raised, caught by the base, kept behind the suite, asked. -/
namespace Err
open PySem PySem.W PySem.Calls PyProof.Rows PySem.HandSPX
/-- what the written part says of the class at C, of its __init__ at fI, its cell and its code object -/
structure Own (P : Program) (K : Frag) (C : Addr) (qual : Str) (st : Stmt) : Prop where
  cls : ∃ nm q N bs bm sn sub ab col dd k0 k1 k2 k3 k5, K.lookup C = some (excClassObj nm q C N bs bm true sn sub ab col dd k0 k1 k2 k3 k5 "ValueError.__new__") ∧ refsVE bm = true
  sa : findIn K (.ref C) "__setattr__" = some (some (.builtin "object.__setattr__"))
  op : nsIn K cStatics "thirdparty.any" = some none
  sup : ks_superIn K C C "__init__" = some (some (.builtin "ValueError.__init__"))
  slf : mroIn K C (.ref C) = some true
  vE : subIn K (.ref C) (.type "ValueError") = some true
  fn : ∃ (fI cc cda : Addr) (oc kV doc pm ct : Value) (od an : Option Addr) (osl : Array (Option Value)),
    findIn K (.ref C) "__init__" = some (some (.ref fI)) ∧ typeIn K (.ref fI) = some (.type "function") ∧
    K.lookup fI = some ⟨oc, od, .func (ksFn "__init__" qual (L2.defArgs st) (L2.defBody st) (L2.defScope st) .none kV doc pm an (.ref cda) ct cc), osl⟩ ∧ codeIn K (.ref cda) qual = true ∧
    (∃ cl cld csl, K.lookup cc = some ⟨cl, cld, .cell (some (.ref C)), csl⟩) ∧
    ∃ ccl cdd vs ccs file tf, K.lookup cda = some ⟨ccl, cdd, .fields vs, ccs⟩ ∧ vs[2]? = some (.str file tf) ∧ ((P.main.file : Str) == file) = true
/-- the module's names at a heap, as far as super is asked -/
structure Sup (mg : Str → Option Value) (h : Heap) : Prop where
  glob : h.Ns mainGlobals mg
  blt : ∃ mb, h.Ns builtinsNs mb ∧ mb "super" = some (.type "super")
  none : mg "super" = none
section
variable {P : Program} {w : World} {A : Around} {E : Value → Shared → Prop} {K : Frag} {mg : Str → Option Value} {C : Addr} {qual : Str} {st : Stmt}
theorem Own.data (T : Own P K C qual st) {h : Heap} (X : K.In h) : ∃ oD cd, h.get? C = some oD ∧ oD.data = .cls cd ∧ clsIn K C = some cd ∧ refsVE cd.mro = true ∧ cd.hasDict = true := by
  obtain ⟨nm, q, N, bs, bm, sn, sub, ab, col, dd, k0, k1, k2, k3, k5, hC, hb⟩ := T.cls
  refine ⟨_, _, X _ _ hC, rfl, ?_, (show refsVE (.ref C :: bm) = true from hb), rfl⟩
  unfold clsIn
  rw [hC] <;> rfl
/-- super().__init__(text), the first statement of an __init__ entered with self at x -/
theorem sup_first {f cc cda x L t0 : Addr} {s : Shared} {q1 q2 q3 q4 q5 q6 : Pos} {text : Str} {j : Nat} {rest body : List Stmt} {m : Str → Option Value} {fd : FuncData} {ar : Arg} {Q : Flow → Shared → Prop} {scope : Scope} {pl : Sem Bool}
    (T : Own P K C qual st) (X : K.In s.heap) (S : Sup mg s.heap) (top : (P.main.scope.names.lookup ("super" : Str)).isSome = false)
    (hf : ∃ o, s.heap.get? f = some o ∧ o.data = .func fd) (hp : (fd.params.posonlyargs ++ fd.params.args).head? = some ar)
    (cel : ∃ cl cld csl, K.lookup cc = some ⟨cl, cld, .cell (some (.ref C)), csl⟩)
    (cod : ∃ ccl cdd vs ccs file tf, K.lookup cda = some ⟨ccl, cdd, .fields vs, ccs⟩ ∧ vs[2]? = some (.str file tf) ∧ ((P.main.file : Str) == file) = true)
    (ks : scope.names.lookup ("super" : Str) = some .globalImplicit) (kc : scope.names.lookup ("__class__" : Str) = some .free) (ka : scope.names.lookup ar.arg = some .local) (kf : scope.kind = .function)
    (hn : s.heap.Ns L m) (hv : m ar.arg = some (.ref x)) (hx : s.heap.get? x = some (excO C t0))
    (he : eval (.Call (.Attribute (.Call (.Name "super" q1) [] [] q2) "__init__" q3) [.Constant (.str text) j q4] [] q5) (ksEnv qual scope L f (.ref cda) cc) = (do
      let ov ← attributeBase (.Call (.Name "super" q1) [] [] q2) "__init__" (ksEnv qual scope L f (.ref cda) cc) (eval (.Call (.Name "super" q1) [] [] q2) (ksEnv qual scope L f (.ref cda) cc))
      standAt q3.atName
      let (f', first) ← holding [ov] (getMethod ov "__init__" pl)
      callWith q5 f' first (backTo q5 (starEach [.Constant (.str text) j q4] (ksEnv qual scope L f (.ref cda) cc))) []))
    (hw : swapsWith (.Call (.Attribute (.Call (.Name "super" q1) [] [] q2) "__init__" q3) [.Constant (.str text) j q4] [] q5) none q6.line (ksEnv qual scope L f (.ref cda) cc) = pure false)
    (hst : starEach [.Constant (.str text) j q4] (ksEnv qual scope L f (.ref cda) cc) = [(false, eval (.Constant (.str text) j q4) (ksEnv qual scope L f (.ref cda) cc))])
    (h : ∀ h' tk t1, (∀ b o, b ≠ x → s.heap.get? b = some o → h'.get? b = some o) → h'.get? x = some (excO C t1) → _root_.PySem.wpAt (model P w) A (.func body (ksEnv qual scope L f (.ref cda) cc)) (execs rest (ksEnv qual scope L f (.ref cda) cc)) Q E { s with heap := h', toks := tk }) :
    _root_.PySem.wpAt (model P w) A (.func body (ksEnv qual scope L f (.ref cda) cc)) (execs (.Expr (.Call (.Attribute (.Call (.Name "super" q1) [] [] q2) "__init__" q3) [.Constant (.str text) j q4] [] q5) q6 :: rest) (ksEnv qual scope L f (.ref cda) cc)) Q E s := by
  obtain ⟨oD, cd, hD, hDd, hcl, hmro, hdict⟩ := T.data X
  obtain ⟨o, hfo, hfd⟩ := hf
  obtain ⟨cl, cld, csl, hcc⟩ := cel
  obtain ⟨ccl, cdd, vs, ccs, file, tf, hco, hvs, hfile⟩ := cod
  obtain ⟨mb, hb, hsup⟩ := S.blt
  obtain ⟨hp0, g, d, t, os⟩ := s
  have I : InstAt hp0 x (excO C t0) C none := ⟨hx, rfl, rfl, trivial⟩
  refine ks_wpAt_execs_cons (ks_wpAt_Expr_any (ks_wpAt_MethodCall (pl := pl) ?_ (he := he)) (hi := by simp [interactive, kf]) (hs := hw))
  refine ks_wpAt_super_base (env := ksEnv qual scope L f (.ref cda) cc) ks kc (by decide) rfl hfo hfd hp rfl (X _ _ hco) rfl hvs hfile top ?_
  refine ks_loadName_global kf ks (loadGlobal_builtin (env := ksEnv qual scope L f (.ref cda) cc) S.glob S.none hb hsup ⟨rfl, ?_⟩)
  refine wpAny_loadName_free kf kc rfl ⟨_, X _ _ hcc, rfl⟩ ?_
  refine wpAny_loadName_local kf ka hn hv ?_
  refine ks_wpAny_isType_cls hD hDd ⟨rfl, ?_⟩
  refine ks_wpAny_call_super hD hDd hx rfl (fun c e => by cases e) (looks_mroIn X T.slf) (fun h1 e1 k1 => ?_)
  have X1 : K.In h1 := X.keeps k1
  have I1 : InstAt h1 x (excO C t0) C none := ⟨k1 _ _ hx, rfl, rfl, trivial⟩
  have hm := T.sup
  unfold ks_superIn at hm
  rw [hcl] at hm
  refine kxs_getMethod kxs_ValueError e1 (looks_opaque X1 T.op) (l₀ := cd.mro) (fun A Q E s k q => wpAny_bind ((looks_clsIn X1 hcl) A _ E s k (wpAny_pure q))) rfl X1 hm (I1.type.andThen (looks_subIn X1 T.vE)) (ks_ne X1 I1 hcl) (by decide) ?_
  show wpAny _ _ (callWith q5 (Value.ref h1.objs.size) [] (backTo q5 (starEach [.Constant (.str text) j q4] (ksEnv qual scope L f (.ref cda) cc))) []) _ _ _
  rw [hst]
  refine kxs_callWith (i := "ValueError.__init__") (x := x) rfl (evalArgs_plain ?_)
  show wpAny _ _ (spliced ((false, eval (.Constant (.str text) j q4) (ksEnv qual scope L f (.ref cda) cc)) :: [])) _ _ _
  refine Calls.spliced_cons (Calls.Constant_str (Calls.spliced_nil ?_))
  have hu : (h1.push (kxs_mw "ValueError.__init__" x)).get? h1.objs.size = some (kxs_mw "ValueError.__init__" x) := Heap.get?_push_size _ rfl
  have hx2 : (h1.push (kxs_mw "ValueError.__init__" x)).get? x = some (excO C t0) := Heap.get?_push_of_some _ (k1 _ _ hx)
  refine ⟨hu, ?_⟩
  obtain ⟨nm, q, N, bs, bm, sn, sub, ab, col, dd, k0, ka', k2, k3, k5, hC, hbm⟩ := T.cls
  have hC2 := Heap.get?_push_of_some (kxs_mw "ValueError.__init__" x) (X1 _ _ hC)
  refine wpAny_call (codeAny_of_tree ?_)
  show wpAny _ A.in1 (callAny (.ref h1.objs.size) ⟨_, []⟩) _ _ _
  simp only [callAny]
  refine wpAny_bind (wpAny_load hu ?_)
  simp only [kxs_mw, show (Value.type "method-wrapper" == Value.type "method" || Value.type "method-wrapper" == Value.type "builtin_function_or_method" || Value.type "method-wrapper" == Value.type "method-wrapper") = true by decide, if_true]
  refine KFB.if_so (by decide) (wpAny_bind (check_bound_init F.excBase_ValueError.toExcCallFacts hC2 hx2 rfl ?_))
  refine wpAny_bind (wpAny_pure (wpAny_pure ⟨plainId_quiet F.excBase_ValueError.init.plain _, codeAny_builtin F.excBase_ValueError.initEntry ?_⟩))
  refine exc_init_tree (cls := .ref C) (t0 := t0) (dv := none) (c2 := .none) (c3 := .none) (b4 := .bool false) hx2 (by rw [sizeLine_eq]; show 1 ≤ 16777216; decide) fun h' k' e' _ => ?_
  exact h h' _ _ (fun b o hb eb => k' b o hb (Heap.get?_push_of_some _ (k1 _ _ eb))) e'
/-- a name of the frame, by its slot -/
theorem ld {M : Model} {s : Shared} {env : Env} {m : Str → Option Value} {x : Str} {pos : Pos} {v : Value} {Q : Value → Shared → Prop} (hn : s.heap.Ns env.locals m) (hv : m x = some v) (h : Q v s) (hk : env.scope.kind = .function) (hl : env.kindOf x = some .local)
    (hd : (x == ("__debug__" : Str)) = false) : wpAny M A (eval (.Name x pos) env) Q E s := wpAny_Name (wpAny_loadName_local hk hl hn hv h) hd
/-- self.f = f, the first field -/
theorem fld_first {env : Env} {x t1 : Addr} {s : Shared} {f : Str} {v : Value} {r1 r2 r3 r4 : Pos} {rest : List Stmt} {m : Str → Option Value} {Q : Flow → Shared → Prop}
    (T : Own P K C qual st) (X : K.In s.heap) (hn : s.heap.Ns env.locals m) (hx : s.heap.get? x = some (excO C t1)) (no : findIn K (.ref C) f = some none) (vs : m "self" = some (.ref x)) (vf : m f = some v) (hk : env.scope.kind = .function) (ls : env.kindOf "self" = some .local) (lf : env.kindOf f = some .local)
    (hd : (f == ("__debug__" : Str)) = false) (hw : swapsWith (.Name f r3) (some (.Attribute (.Name "self" r1) f r2)) r4.line env = pure false)
    (h : ∀ h' tk dx, (∀ b o, b ≠ x → s.heap.get? b = some o → h'.get? b = some o) → s.heap.objs.size ≤ dx → dx ≠ x → h'.get? x = some { cls := .ref C, dict := some dx, data := .fields #[.ref t1, .none, .none, .none, .bool false, .none] } →
      h'.Ns1 dx (fun y => if y = f then some v else none) → wpAny (model P w) A (execs rest env) Q E { s with heap := h', toks := tk }) :
    wpAny (model P w) A (execs (.Assign [.Attribute (.Name "self" r1) f r2] (.Name f r3) r4 :: rest) env) Q E s := by
  obtain ⟨oD, cd, hD, hDd, hcl, hmro, hdict⟩ := T.data X
  refine wpAny_execs_cons (plainObj_wpAny_Assign_Attribute (ld hn vf (ld hn vs ?_ hk ls (by decide)) hk lf hd) hw)
  obtain ⟨hp, g, d, t, os⟩ := s
  refine set_plain X (ox := excO C t1) (od := none) ⟨hx, rfl, rfl, trivial⟩ T.sa ?_
  exact exc_osa X hx hcl hmro hdict no fun h' tk' dx k dn dne hx' hn' => h h' tk' dx k dn dne hx' hn'
/-- self.f = f, a further field -/
theorem fld_next {env : Env} {x t1 dx : Addr} {s : Shared} {f g1 : Str} {v v1 : Value} {r1 r2 r3 r4 : Pos} {rest : List Stmt} {m : Str → Option Value} {Q : Flow → Shared → Prop}
    (T : Own P K C qual st) (X : K.In s.heap) (hn : s.heap.Ns env.locals m) (hx : s.heap.get? x = some { cls := .ref C, dict := some dx, data := .fields #[.ref t1, .none, .none, .none, .bool false, .none] }) (ns : s.heap.Ns1 dx (fun y => if y = g1 then some v1 else none)) (no : findIn K (.ref C) f = some none)
    (vs : m "self" = some (.ref x)) (vf : m f = some v) (hk : env.scope.kind = .function) (ls : env.kindOf "self" = some .local) (lf : env.kindOf f = some .local)
    (hd : (f == ("__debug__" : Str)) = false) (hw : swapsWith (.Name f r3) (some (.Attribute (.Name "self" r1) f r2)) r4.line env = pure false)
    (h : ∀ h' tk, (∀ b o, b ≠ dx → s.heap.get? b = some o → h'.get? b = some o) → h'.Ns1 dx (fun y => if y = f then some v else if y = g1 then some v1 else none) → wpAny (model P w) A (execs rest env) Q E { s with heap := h', toks := tk }) :
    wpAny (model P w) A (execs (.Assign [.Attribute (.Name "self" r1) f r2] (.Name f r3) r4 :: rest) env) Q E s := by
  obtain ⟨oD, cd, hD, hDd, hcl, hmro, hdict⟩ := T.data X
  refine wpAny_execs_cons (plainObj_wpAny_Assign_Attribute (ld hn vf (ld hn vs ?_ hk ls (by decide)) hk lf hd) hw)
  obtain ⟨hp, g, d, t, os⟩ := s
  obtain ⟨od, _, _, hod, _, _⟩ := ns.count (Within.cons g1 v1 Within.nil)
  refine set_plain X (ox := { cls := .ref C, dict := some dx, data := .fields #[.ref t1, .none, .none, .none, .bool false, .none] }) (od := some od) ⟨hx, rfl, rfl, hod⟩ T.sa ?_
  exact OEX.osa_old X hx ns (Within.cons g1 v1 Within.nil) (by show 1 ≤ 1000; decide) hcl hmro hdict no fun h' tk' k hn' => h h' tk' k hn'
end
end Err
set_option Elab.async false
set_option linter.all false
set_option maxRecDepth 100000
set_option maxHeartbeats 4000000
namespace Err
open PySem PySem.W PySem.Calls PyProof.Rows PySem.HandSPX
/-- what the machine asks of the first statement, over the def's own frames -/
structure SupOk (qual : Str) (sc : Scope) (q1 q2 q3 q4 q5 q6 : Pos) (text : Str) (j : Nat) (pl : Sem Bool) : Prop where
  he : ∀ (L f cda cc : Addr), eval (.Call (.Attribute (.Call (.Name "super" q1) [] [] q2) "__init__" q3) [.Constant (.str text) j q4] [] q5) (ksEnv qual sc L f (.ref cda) cc) = (do
      let ov ← attributeBase (.Call (.Name "super" q1) [] [] q2) "__init__" (ksEnv qual sc L f (.ref cda) cc) (eval (.Call (.Name "super" q1) [] [] q2) (ksEnv qual sc L f (.ref cda) cc))
      standAt q3.atName
      let (f', first) ← holding [ov] (getMethod ov "__init__" pl)
      callWith q5 f' first (backTo q5 (starEach [.Constant (.str text) j q4] (ksEnv qual sc L f (.ref cda) cc))) [])
  hw : ∀ (L f cda cc : Addr), swapsWith (.Call (.Attribute (.Call (.Name "super" q1) [] [] q2) "__init__" q3) [.Constant (.str text) j q4] [] q5) none q6.line (ksEnv qual sc L f (.ref cda) cc) = pure false
  hst : ∀ (L f cda cc : Addr), starEach [.Constant (.str text) j q4] (ksEnv qual sc L f (.ref cda) cc) = [(false, eval (.Constant (.str text) j q4) (ksEnv qual sc L f (.ref cda) cc))]
  ks : sc.names.lookup ("super" : Str) = some .globalImplicit
  kc : sc.names.lookup ("__class__" : Str) = some .free
  ka : sc.names.lookup ("self" : Str) = some .local
  kf : sc.kind = .function
  co : sc.isCoroutine = false
  gen : sc.isGenerator = false
  cell : ∀ x ∈ sc.names, x.2 ≠ .cell
structure FldOk (qual : Str) (sc : Scope) (f : Str) (r1 r2 r3 r4 : Pos) : Prop where
  hw : ∀ (L a cda cc : Addr), swapsWith (.Name f r3) (some (.Attribute (.Name "self" r1) f r2)) r4.line (ksEnv qual sc L a (.ref cda) cc) = pure false
  lf : sc.names.lookup f = some .local
  hd : (f == ("__debug__" : Str)) = false
/-- an __init__(self, f): super().__init__(text); self.f = f -/
structure One (qual : Str) (st : Stmt) (f : Str) : Prop where
  ex : ∃ (q1 q2 q3 q4 q5 q6 r1 r2 r3 r4 : Pos) (text : Str) (j : Nat) (pl : Sem Bool), SupOk qual (L2.defScope st) q1 q2 q3 q4 q5 q6 text j pl ∧ FldOk qual (L2.defScope st) f r1 r2 r3 r4 ∧
    L2.defBody st = [.Expr (.Call (.Attribute (.Call (.Name "super" q1) [] [] q2) "__init__" q3) [.Constant (.str text) j q4] [] q5) q6, .Assign [.Attribute (.Name "self" r1) f r2] (.Name f r3) r4]
  head : ∃ ar, ((L2.defArgs st).posonlyargs ++ (L2.defArgs st).args).head? = some ar ∧ ar.arg = "self"
  ne : f ≠ "self"
/-- what a made error is -/
structure Made (h h' : Heap) (e C d : Addr) (mp : Str → Option Value) : Prop where
  keep : ∀ b o, h.get? b = some o → h'.get? b = some o
  new : h.objs.size ≤ e
  obj : ∃ oe vs, h'.get? e = some oe ∧ oe.cls = .ref C ∧ oe.dict = some d ∧ oe.data = .fields vs ∧ vs[1]? = some .none
  dbig : h.objs.size ≤ d
  dne : d ≠ e
  ns : h'.Ns1 d mp
section
variable {P : Program} {w : World} {A : Around} {R : Result → Shared → Prop} {K : Frag} {mg : Str → Option Value} {C : Addr} {qual : Str} {st : Stmt}
theorem init1 {fI cc cda x t0 : Addr} {oc kV doc pm ct v : Value} {od an : Option Addr} {osl : Array (Option Value)} {s : Shared} {f : Str} {args : Args}
    (T : Own P K C qual st) (O : One qual st f) (no : findIn K (.ref C) f = some none) (X : K.In s.heap) (S : Sup mg s.heap) (top : (P.main.scope.names.lookup ("super" : Str)).isSome = false) (lim : s.heap.NoLimit) (room : A.depth < recursionLimit)
    (lk : K.lookup fI = some ⟨oc, od, .func (ksFn "__init__" qual (L2.defArgs st) (L2.defBody st) (L2.defScope st) .none kV doc pm an (.ref cda) ct cc), osl⟩) (cd : codeIn K (.ref cda) qual = true)
    (cel : ∃ cl cld csl, K.lookup cc = some ⟨cl, cld, .cell (some (.ref C)), csl⟩)
    (cod : ∃ ccl cdd vs ccs file tf, K.lookup cda = some ⟨ccl, cdd, .fields vs, ccs⟩ ∧ vs[2]? = some (.str file tf) ∧ ((P.main.file : Str) == file) = true)
    (bnd : BindsTo s (ksFn "__init__" qual (L2.defArgs st) (L2.defBody st) (L2.defScope st) .none kV doc pm an (.ref cda) ct cc) args [("self", .ref x), (f, v)])
    (hx : s.heap.get? x = some (excO C t0)) (nx : K.lookup x = none)
    (h : ∀ h' tk dx t1, (∀ b o, b ≠ x → s.heap.get? b = some o → h'.get? b = some o) → s.heap.objs.size ≤ dx → dx ≠ x → h'.get? x = some { cls := .ref C, dict := some dx, data := .fields #[.ref t1, .none, .none, .none, .bool false, .none] } →
      h'.Ns1 dx (fun y => if y = f then some v else none) → R (.ok (.ret .none)) { s with heap := h', toks := tk }) :
    codeAny (model P w) A (.call (.ref fI) args) R s := by
  obtain ⟨q1, q2, q3, q4, q5, q6, r1, r2, r3, r4, text, j, pl, U, V, hb⟩ := O.ex
  obtain ⟨ar, har, har2⟩ := O.head
  refine ks_codeAny_call_defAt (fd := ksFn "__init__" qual (L2.defArgs st) (L2.defBody st) (L2.defScope st) .none kV doc pm an (.ref cda) ct cc) (body := L2.defBody st) (binds := [("self", .ref x), (f, v)]) room (X _ _ lk) rfl lim (codeRec_of X cd) rfl bnd U.cell ?_ (fun h₁ hns hk₁ => ?_) U.co U.gen U.kf
  · intro y hy
    rcases List.mem_cons.mp hy with rfl | hy
    · exact U.ka
    · obtain rfl := List.mem_singleton.mp hy
      exact V.lf
  · have neL : ∀ {b : Addr} {o : Obj}, s.heap.get? b = some o → b ≠ s.heap.objs.size := fun e => Nat.ne_of_lt (Heap.lt_size e)
    show _root_.PySem.wpAt (model P w) _ (.func (L2.defBody st) (ksEnv qual (L2.defScope st) s.heap.objs.size fI (.ref cda) cc)) (execs (L2.defBody st) (ksEnv qual (L2.defScope st) s.heap.objs.size fI (.ref cda) cc)) _ _ _
    have mself : (fun y => (List.reverse [(("self" : Str), Value.ref x), (f, v)]).lookup y) "self" = some (.ref x) := by
      have e : (("self" : Str) == f) = false := beq_eq_false_iff_ne.mpr (Ne.symm O.ne)
      show List.lookup ("self" : Str) [(f, v), ("self", Value.ref x)] = _
      simp [List.lookup, e]
    have mf : (fun y => (List.reverse [(("self" : Str), Value.ref x), (f, v)]).lookup y) f = some v := by
      show List.lookup f [(f, v), ("self", Value.ref x)] = _
      simp [List.lookup]
    rw [hb]
    refine sup_first (mg := mg) (m := fun y => (List.reverse [(("self" : Str), Value.ref x), (f, v)]).lookup y) (fd := ksFn "__init__" qual (L2.defArgs st) (L2.defBody st) (L2.defScope st) .none kV doc pm an (.ref cda) ct cc) (ar := ar) T (X.keeps hk₁) ?_ top ⟨_, hk₁ _ _ (X _ _ lk), rfl⟩ har cel cod U.ks U.kc (by rw [har2]; exact U.ka) U.kf hns (by rw [har2]; exact mself) (hk₁ _ _ hx) (U.he _ _ _ _) (U.hw _ _ _ _) (U.hst _ _ _ _) fun h' tk t1 k1 e1 => ?_
    · obtain ⟨mb, a, b⟩ := S.blt
      exact ⟨S.glob.keeps hk₁, ⟨mb, a.keeps hk₁, b⟩, S.none⟩
    · have xL : s.heap.objs.size ≠ x := Ne.symm (neL hx)
      have hn2 : h'.Ns s.heap.objs.size (fun y => (List.reverse [(("self" : Str), Value.ref x), (f, v)]).lookup y) := by
        obtain ⟨o, es, ep, ho, r⟩ := hns
        exact ⟨o, es, ep, k1 _ _ xL ho, r⟩
      refine wpAt_of_wpAny ?_
      refine fld_first (env := ksEnv qual (L2.defScope st) s.heap.objs.size fI (.ref cda) cc) (m := fun y => (List.reverse [(("self" : Str), Value.ref x), (f, v)]).lookup y) T ?_ hn2 e1 no mself mf U.kf U.ka V.lf V.hd (V.hw _ _ _ _) fun h2 tk2 dx k2 big dne e2 n2 => ?_
      · intro b o hb
        refine k1 b o (fun z => ?_) (X.keeps hk₁ b o hb)
        rw [z, nx] at hb
        cases hb
      · refine wpAny_execs_nil ?_
        exact h h2 tk2 dx t1 (fun b o hb e => k2 b o hb (k1 b o hb (hk₁ b o e))) (Nat.le_trans (Nat.le_of_lt hn2.lt) big) dne e2 n2
/-- C(v): a new error with its own dict -/
theorem made1 {v : Value} {s : Shared} {f : Str} (T : Own P K C qual st) (O : One qual st f) (no : findIn K (.ref C) f = some none) (X : K.In s.heap) (S : Sup mg s.heap) (top : (P.main.scope.names.lookup ("super" : Str)).isSome = false) (lim : s.heap.NoLimit) (room : A.depth + 1 < recursionLimit)
    (bnd : ∀ (kV doc pm ct : Value) (an : Option Addr) (cda cc x : Addr), bindArgs (ksFn "__init__" qual (L2.defArgs st) (L2.defBody st) (L2.defScope st) .none kV doc pm an (.ref cda) ct cc) ⟨[.ref x, v], []⟩ = pure [(("self" : Str), Value.ref x), (f, v)])
    (h : ∀ h' tk e d, Made s.heap h' e C d (fun y => if y = f then some v else none) → R (.ok (.ret (.ref e))) { s with heap := h', toks := tk }) :
    codeAny (model P w) A (.call (.ref C) ⟨[v], []⟩) R s := by
  obtain ⟨fI, cc, cda, oc, kV, doc, pm, ct, od, an, osl, hi, ti, lk, cd, cel, cod⟩ := T.fn
  obtain ⟨nm, q, N, bs, bm, sn, sub, ab, col, dd, k0, k1, k2, k3, k5, hC, hbm⟩ := T.cls
  obtain ⟨hp, g, dr, tk, os⟩ := s
  have k : ∀ b o, hp.get? b = some o → ((hp.push (kdv_tup [v])).push (excO C hp.objs.size)).get? b = some o := fun b o e => Heap.get?_push_of_some _ (Heap.get?_push_of_some _ e)
  have hget : ((hp.push (kdv_tup [v])).push (excO C hp.objs.size)).get? (hp.objs.size + 1) = some (excO C hp.objs.size) := by heap_get
  have nx : K.lookup (hp.objs.size + 1) = none := by
    cases e : K.lookup (hp.objs.size + 1) with
    | none => rfl
    | some o =>
      have z := Heap.lt_size (show hp.get? (hp.objs.size + 1) = some o from X _ _ e)
      exact absurd (Nat.lt_of_succ_lt z) (Nat.lt_irrefl _)
  obtain ⟨mb, Sa, Sb⟩ := S.blt
  refine call_own F.excBase_ValueError (fun Y => refsVE_contains Y bm hbm) (X _ _ hC) (looks_findIn X hi) (fun self => bind_fn X self ti) (by rw [sizeLine_eq]; show 1 ≤ 16777216; decide) ?_
  refine init1 (mg := mg) (s := ⟨(hp.push (kdv_tup [v])).push (excO C hp.objs.size), g, dr, tk, os⟩) T O no (X.keeps k) ⟨S.glob.keeps k, ⟨mb, Sa.keeps k, Sb⟩, S.none⟩ top (lim.keeps k) (by show A.depth + 1 < recursionLimit; exact room) lk cd cel cod (.of_eq (bnd _ _ _ _ _ _ _ _)) hget nx ?_
  intro h' tk' dx t1 k' big dne he hns
  have z : hp.objs.size + 1 + 1 ≤ dx := by
    first
      | (simpa only [Heap.size_push] using big)
      | exact big
  exact ⟨rfl, h h' tk' (hp.objs.size + 1) dx ⟨fun b o e => k' b o (Nat.ne_of_lt (Nat.lt_succ_of_lt (Heap.lt_size e))) (k b o e), Nat.le_succ _, ⟨_, _, he, rfl, rfl, rfl, rfl⟩, Nat.le_trans (Nat.le_trans (Nat.le_succ _) (Nat.le_succ _)) z, dne, hns⟩⟩
end
end Err
set_option Elab.async false
set_option linter.all false
set_option maxRecDepth 100000
set_option maxHeartbeats 4000000
/-! A call of an own error class by keywords. -/
namespace Err
open PySem PySem.W PySem.Calls PyProof.Rows PySem.HandSPX
section
variable {M : Model} {A : Around} {E : Value → Shared → Prop} {h : Heap} {g : Array GenState} {d : Drawn} {t : Nat} {os : OsState}
variable {nm q : Str} {C N : Addr} {bs bm bmB : List Value} {hdct : Bool} {sn : List Str} {sub : List Value} {ab : Bool} {col : Option Bool} {dd : Option Addr} {k0 k1 k2 k3 k5 : Option Value} {B newId initId : String}
theorem new_checked (F : ExcBaseFacts B newId initId bmB) (hT : ∀ X : String, bm.contains (.type X) = bmB.contains (.type X)) {rest : List Value} {kws : List (Str × Value)} {Q : Unit → Shared → Prop}
    (hC : h.get? C = some (excClassObj nm q C N bs bm hdct sn sub ab col dd k0 k1 k2 k3 k5 newId))
    (hq : Q () ⟨h, g, d, t, os⟩) : wpAny M A (checkBuiltinCall newId ⟨.ref C :: rest, kws⟩) Q E ⟨h, g, d, t, os⟩ := by
  have hB : (Value.ref C :: bm).contains (.type B) = true := by
    rw [List.contains_cons, hT, F.hasB]
    exact Bool.or_true _
  have hst := F.noStar
  simp only [checkBuiltinCall, F.newKind, F.newSplit, F.newRow]
  repeat (first
    | refine wpAny_loadPart_at hC ?_
    | (refine wpAny_isSubtype_exc hC ?_; rw [hB])
    | refine wpAny_staticBase_exc hC ?_
    | refine wpAny_madeBy_exc hC ?_
    | simp only [bne_self_eq_false, Bool.false_eq_true, if_false]
    | wp_step)
  exact hq
end
section
variable {prog : Program} {w : World} {A : Around} {E : Value → Shared → Prop} {R : Result → Shared → Prop} {h : Heap} {g : Array GenState} {d : Drawn} {t : Nat} {os : OsState}
variable {nm q : Str} {C N : Addr} {bs bm bmB : List Value} {hdct : Bool} {sn : List Str} {sub : List Value} {ab : Bool} {col : Option Bool} {dd : Option Addr} {k0 k1 k2 k3 k5 : Option Value} {B newId initId : String}
theorem newK (F : ExcBaseFacts B newId initId bmB) (hT : ∀ X : String, bm.contains (.type X) = bmB.contains (.type X)) {rest : List Value} {kws : List (Str × Value)}
    (hC : h.get? C = some (excClassObj nm q C N bs bm hdct sn sub ab col dd k0 k1 k2 k3 k5 newId)) (hrest : rest.length ≤ sizeLine)
    (hq : R (.ok (.ret (.ref (h.objs.size + 1)))) ⟨(h.push (kdv_tup rest)).push (excO C h.objs.size), g, d, t, os⟩) :
    codeAny (model prog w) A (.builtin newId ⟨.ref C :: rest, kws⟩) R ⟨h, g, d, t, os⟩ := by
  have ends := F.ends
  have yB : (Value.ref C :: bm).contains (.type B) = true := by
    rw [List.contains_cons, hT, F.hasB]
    exact Bool.or_true _
  have nA : (Value.ref C :: bm).contains (.type "AttributeError") = false := by
    rw [List.contains_cons, hT, F.noAttr]
    rfl
  have nN : (Value.ref C :: bm).contains (.type "NameError") = false := by
    rw [List.contains_cons, hT, F.noName]
    rfl
  refine codeAny_builtinAt F.entry ?_
  unfold Builtin.«BaseException.__new__»
  refine _root_.PySem.wpAt_bind ?_
  show _root_.PySem.wpAt _ _ _ (stack >>= _) _ _ _
  refine _root_.PySem.wpAt_bind (_root_.PySem.wpAt_stack fun p below => _root_.PySem.wpAt_of_wpAny ?_)
  wp_walk
  refine _root_.PySem.wpAt_of_wpAny ?_
  rw [F.owner]
  repeat (first
    | with_reducible refine wpAny_madeHere_exc F.canon hC ?_
    | with_reducible refine wpAny_loadPart_at hC ?_
    | (with_reducible refine wpAny_isSubtype_exc hC ?_; first | rw [yB] | rw [nA] | rw [nN])
    | wp_step)
  show R _ _
  rw [Heap.size_push]
  exact hq
/-- type.__call__ with keywords: BaseException.__new__, then the own __init__ -/
theorem typeK (F : ExcBaseFacts B newId initId bmB) (hT : ∀ X : String, bm.contains (.type X) = bmB.contains (.type X)) {rest : List Value} {kws : List (Str × Value)} {fI : Addr} {Q : Fin → Shared → Prop}
    (hC : h.get? C = some (excClassObj nm q C N bs bm hdct sn sub ab col dd k0 k1 k2 k3 k5 newId))
    (hi : Looks (model prog w) h (typeLookup (.ref C) "__init__") (some (.ref fI))) (hb : ∀ self, Looks (model prog w) h (bindSpecial (.ref fI) self) (.ref fI, [self])) (hrest : rest.length ≤ sizeLine)
    (hq : codeAny (model prog w) A (.call (.ref fI) ⟨.ref (h.objs.size + 1) :: rest, kws⟩)
      (fun r s' => match r with | .ok (.ret v) => v = .none ∧ Q (.done (.ret (.ref (h.objs.size + 1)))) s' | .ok _ => False | .error e => E e s')
      ⟨(h.push (kdv_tup rest)).push (excO C h.objs.size), g, d, t, os⟩) :
    wpAny (model prog w) A (Builtin.«type.__call__» ⟨.ref C :: rest, kws⟩) Q E ⟨h, g, d, t, os⟩ := by
  repeat (first
    | with_reducible refine wpAny_loadPart_at hC ?_
    | with_reducible refine wpAny_madeBy_exc hC ?_
    | wp_step)
  refine codeAny_call_builtin_code (Code.quiet_builtin _ F.quiet) (new_checked F hT hC ?_)
  refine newK F hT hC hrest ?_
  show wpAny _ _ _ _ _ _
  have kp : ∀ b o, h.get? b = some o → ((h.push (kdv_tup rest)).push (excO C h.objs.size)).get? b = some o := fun b o e => Heap.get?_push_of_some _ (Heap.get?_push_of_some _ e)
  have C1 := kp _ _ hC
  have e1 : ((h.push (kdv_tup rest)).push (excO C h.objs.size)).get? (h.objs.size + 1) = some (excO C h.objs.size) := by heap_get
  have cc : (Value.ref C :: bm).contains (.ref C) = true := by simp
  have i1 := hi.keeps kp
  have b1 := (hb (.ref (h.objs.size + 1))).keeps kp
  unfold isInstance
  repeat (first
    | with_reducible refine wpAny_loadPart_at e1 ?_
    | (with_reducible refine wpAny_isSubtype_exc C1 ?_; rw [cc])
    | wp_step)
  show wpAny _ _ (typeLookup (.ref C) _) _ _ _
  refine i1.at ?_
  refine wpAny_holding (wpAny_bind (b1.at ?_))
  refine wpAny_bind (wpAny_call (codeAny_mono hq fun r s' z => ?_))
  rcases r with e | fl
  · exact z
  · cases fl with
    | next => exact z.elim
    | brk => exact z.elim
    | cont => exact z.elim
    | ret v =>
      obtain ⟨rfl, z⟩ := z
      first
        | exact wpAny_pure (wpAny_pure z)
        | (wp_walk; exact z)
theorem chkK {rest : List Value} {kws : List (Str × Value)} {Q : Unit → Shared → Prop} (hC : h.get? C = some (excClassObj nm q C N bs bm hdct sn sub ab col dd k0 k1 k2 k3 k5 newId))
    (hq : Q () ⟨h, g, d, t, os⟩) : wpAny (model prog w) A (checkBuiltinCall "type.__call__" ⟨.ref C :: rest, kws⟩) Q E ⟨h, g, d, t, os⟩ := by
  have f3 := tc_sub
  have hTy : (⟨h, g, d, t, os⟩ : Shared).TypeIs (.ref C) "type" := ⟨_, hC, rfl⟩
  simp only [checkBuiltinCall, tc_kind, tc_split]
  repeat (any_goals (first
    | assumption
    | with_reducible refine wpAny_loadPart_at hC ?_
    | with_reducible refine wpAny_onRaise ?_
    | with_reducible refine wpAny_map ?_
    | wp_step))
/-- C(.., k=..) -/
theorem callK (F : ExcBaseFacts B newId initId bmB) (hT : ∀ X : String, bm.contains (.type X) = bmB.contains (.type X)) {rest : List Value} {kws : List (Str × Value)} {fI : Addr}
    (hC : h.get? C = some (excClassObj nm q C N bs bm hdct sn sub ab col dd k0 k1 k2 k3 k5 newId))
    (hi : Looks (model prog w) h (typeLookup (.ref C) "__init__") (some (.ref fI))) (hb : ∀ self, Looks (model prog w) h (bindSpecial (.ref fI) self) (.ref fI, [self])) (hrest : rest.length ≤ sizeLine)
    (hq : codeAny (model prog w) (A.under (.builtin "type.__call__" ⟨.ref C :: rest, kws⟩)) (.call (.ref fI) ⟨.ref (h.objs.size + 1) :: rest, kws⟩) (InitBack (h.objs.size + 1) R)
      ⟨(h.push (kdv_tup rest)).push (excO C h.objs.size), g, d, t, os⟩) :
    codeAny (model prog w) A (.call (.ref C) ⟨rest, kws⟩) R ⟨h, g, d, t, os⟩ := by
  have f1 := tc_lookup
  have f2 := tc_bind (.ref C)
  have hTy : (⟨h, g, d, t, os⟩ : Shared).TypeIs (.ref C) "type" := ⟨_, hC, rfl⟩
  refine codeAny_of_tree ?_
  show wpAny _ _ (callAny (.ref C) _) _ _ _
  repeat (any_goals (first
    | assumption
    | with_reducible refine wpAny_loadPart_at hC ?_
    | wp_step))
  refine ⟨rfl, ?_⟩
  refine codeAny_call_builtin_at (Code.quiet_builtin _ (by decide +kernel)) entry_typeCall (chkK hC (typeK F hT hC hi hb hrest ?_))
  refine codeAny_mono hq fun r s' z => ?_
  rcases r with e | (v | _ | _ | _) <;> exact z
end
/-- an __init__(self, f, g): super().__init__(text); self.f = f; self.g = g -/
structure Two (qual : Str) (st : Stmt) (f g : Str) : Prop where
  ex : ∃ (q1 q2 q3 q4 q5 q6 r1 r2 r3 r4 t1 t2 t3 t4 : Pos) (text : Str) (j : Nat) (pl : Sem Bool), SupOk qual (L2.defScope st) q1 q2 q3 q4 q5 q6 text j pl ∧ FldOk qual (L2.defScope st) f r1 r2 r3 r4 ∧ FldOk qual (L2.defScope st) g t1 t2 t3 t4 ∧
    L2.defBody st = [.Expr (.Call (.Attribute (.Call (.Name "super" q1) [] [] q2) "__init__" q3) [.Constant (.str text) j q4] [] q5) q6, .Assign [.Attribute (.Name "self" r1) f r2] (.Name f r3) r4, .Assign [.Attribute (.Name "self" t1) g t2] (.Name g t3) t4]
  head : ∃ ar, ((L2.defArgs st).posonlyargs ++ (L2.defArgs st).args).head? = some ar ∧ ar.arg = "self"
  nf : f ≠ "self"
  ng : g ≠ "self"
  fg : f ≠ g
section
variable {P : Program} {w : World} {A : Around} {R : Result → Shared → Prop} {K : Frag} {mg : Str → Option Value} {C : Addr} {qual : Str} {st : Stmt}
theorem init2 {fI cc cda x t0 : Addr} {oc kV doc pm ct v u : Value} {od an : Option Addr} {osl : Array (Option Value)} {s : Shared} {f g : Str} {args : Args}
    (T : Own P K C qual st) (O : Two qual st f g) (no : findIn K (.ref C) f = some none) (no2 : findIn K (.ref C) g = some none) (X : K.In s.heap) (S : Sup mg s.heap) (top : (P.main.scope.names.lookup ("super" : Str)).isSome = false) (lim : s.heap.NoLimit) (room : A.depth < recursionLimit)
    (lk : K.lookup fI = some ⟨oc, od, .func (ksFn "__init__" qual (L2.defArgs st) (L2.defBody st) (L2.defScope st) .none kV doc pm an (.ref cda) ct cc), osl⟩) (cd : codeIn K (.ref cda) qual = true)
    (cel : ∃ cl cld csl, K.lookup cc = some ⟨cl, cld, .cell (some (.ref C)), csl⟩)
    (cod : ∃ ccl cdd vs ccs file tf, K.lookup cda = some ⟨ccl, cdd, .fields vs, ccs⟩ ∧ vs[2]? = some (.str file tf) ∧ ((P.main.file : Str) == file) = true)
    (bnd : BindsTo s (ksFn "__init__" qual (L2.defArgs st) (L2.defBody st) (L2.defScope st) .none kV doc pm an (.ref cda) ct cc) args [("self", .ref x), (f, v), (g, u)])
    (hx : s.heap.get? x = some (excO C t0)) (nx : K.lookup x = none)
    (h : ∀ h' tk dx t1, (∀ b o, b ≠ x → s.heap.get? b = some o → h'.get? b = some o) → s.heap.objs.size ≤ dx → dx ≠ x → h'.get? x = some { cls := .ref C, dict := some dx, data := .fields #[.ref t1, .none, .none, .none, .bool false, .none] } →
      h'.Ns1 dx (fun y => if y = g then some u else if y = f then some v else none) → R (.ok (.ret .none)) { s with heap := h', toks := tk }) :
    codeAny (model P w) A (.call (.ref fI) args) R s := by
  obtain ⟨q1, q2, q3, q4, q5, q6, r1, r2, r3, r4, w1, w2, w3, w4, text, j, pl, U, V, W, hb⟩ := O.ex
  obtain ⟨ar, har, har2⟩ := O.head
  refine ks_codeAny_call_defAt (fd := ksFn "__init__" qual (L2.defArgs st) (L2.defBody st) (L2.defScope st) .none kV doc pm an (.ref cda) ct cc) (body := L2.defBody st) (binds := [("self", .ref x), (f, v), (g, u)]) room (X _ _ lk) rfl lim (codeRec_of X cd) rfl bnd U.cell ?_ (fun h₁ hns hk₁ => ?_) U.co U.gen U.kf
  · intro y hy
    rcases List.mem_cons.mp hy with rfl | hy
    · exact U.ka
    · rcases List.mem_cons.mp hy with rfl | hy
      · exact V.lf
      · obtain rfl := List.mem_singleton.mp hy
        exact W.lf
  · have neL : ∀ {b : Addr} {o : Obj}, s.heap.get? b = some o → b ≠ s.heap.objs.size := fun e => Nat.ne_of_lt (Heap.lt_size e)
    show _root_.PySem.wpAt (model P w) _ (.func (L2.defBody st) (ksEnv qual (L2.defScope st) s.heap.objs.size fI (.ref cda) cc)) (execs (L2.defBody st) (ksEnv qual (L2.defScope st) s.heap.objs.size fI (.ref cda) cc)) _ _ _
    have e1 : (("self" : Str) == f) = false := beq_eq_false_iff_ne.mpr (Ne.symm O.nf)
    have e2 : (("self" : Str) == g) = false := beq_eq_false_iff_ne.mpr (Ne.symm O.ng)
    have e3 : (f == g) = false := beq_eq_false_iff_ne.mpr O.fg
    have mself : (fun y => (List.reverse [(("self" : Str), Value.ref x), (f, v), (g, u)]).lookup y) "self" = some (.ref x) := by
      show List.lookup ("self" : Str) [(g, u), (f, v), ("self", Value.ref x)] = _
      simp [List.lookup, e1, e2]
    have mf : (fun y => (List.reverse [(("self" : Str), Value.ref x), (f, v), (g, u)]).lookup y) f = some v := by
      show List.lookup f [(g, u), (f, v), ("self", Value.ref x)] = _
      simp [List.lookup, e3]
    have mG : (fun y => (List.reverse [(("self" : Str), Value.ref x), (f, v), (g, u)]).lookup y) g = some u := by
      show List.lookup g [(g, u), (f, v), ("self", Value.ref x)] = _
      simp [List.lookup]
    rw [hb]
    refine sup_first (mg := mg) (m := fun y => (List.reverse [(("self" : Str), Value.ref x), (f, v), (g, u)]).lookup y) (fd := ksFn "__init__" qual (L2.defArgs st) (L2.defBody st) (L2.defScope st) .none kV doc pm an (.ref cda) ct cc) (ar := ar) T (X.keeps hk₁) ?_ top ⟨_, hk₁ _ _ (X _ _ lk), rfl⟩ har cel cod U.ks U.kc (by rw [har2]; exact U.ka) U.kf hns (by rw [har2]; exact mself) (hk₁ _ _ hx) (U.he _ _ _ _) (U.hw _ _ _ _) (U.hst _ _ _ _) fun h' tk t1 k1 e1 => ?_
    · obtain ⟨mb, a, b⟩ := S.blt
      exact ⟨S.glob.keeps hk₁, ⟨mb, a.keeps hk₁, b⟩, S.none⟩
    · have xL : s.heap.objs.size ≠ x := Ne.symm (neL hx)
      have hn2 : h'.Ns s.heap.objs.size (fun y => (List.reverse [(("self" : Str), Value.ref x), (f, v), (g, u)]).lookup y) := by
        obtain ⟨o, es, ep, ho, r⟩ := hns
        exact ⟨o, es, ep, k1 _ _ xL ho, r⟩
      have Kin : ∀ {G : Heap} {z : Addr}, K.lookup z = none → (∀ b o, b ≠ z → h₁.get? b = some o → G.get? b = some o) → K.In G := fun {G z} nz k b o hb => by
        refine k b o (fun q => ?_) (X.keeps hk₁ b o hb)
        rw [q, nz] at hb
        cases hb
      refine _root_.PySem.wpAt_of_wpAny ?_
      refine fld_first (env := ksEnv qual (L2.defScope st) s.heap.objs.size fI (.ref cda) cc) (m := fun y => (List.reverse [(("self" : Str), Value.ref x), (f, v), (g, u)]).lookup y) T (Kin nx k1) hn2 e1 no mself mf U.kf U.ka V.lf V.hd (V.hw _ _ _ _) fun h2 tk2 dx k2 big dne e2 n2 => ?_
      have sz1 : s.heap.objs.size < h'.objs.size := hn2.lt
      have Ldx : s.heap.objs.size ≠ dx := Nat.ne_of_lt (Nat.lt_of_lt_of_le sz1 big)
      have hn3 : h2.Ns s.heap.objs.size (fun y => (List.reverse [(("self" : Str), Value.ref x), (f, v), (g, u)]).lookup y) := by
        obtain ⟨o, es, ep, ho, r⟩ := hn2
        exact ⟨o, es, ep, k2 _ _ xL ho, r⟩
      refine fld_next (env := ksEnv qual (L2.defScope st) s.heap.objs.size fI (.ref cda) cc) (g1 := f) (v1 := v) (m := fun y => (List.reverse [(("self" : Str), Value.ref x), (f, v), (g, u)]).lookup y) T (Kin nx fun b o hb e => k2 b o hb (k1 b o hb e)) hn3 e2 n2 no2 mself mG U.kf U.ka W.lf W.hd (W.hw _ _ _ _) fun h3 tk3 k3 n3 => ?_
      refine wpAny_execs_nil ?_
      refine h h3 tk3 dx t1 (fun b o hb e => k3 b o (fun q => ?_) (k2 b o hb (k1 b o hb (hk₁ b o e)))) (Nat.le_trans (Nat.le_of_lt sz1) big) dne (k3 x _ (Ne.symm dne) e2) n3
      have lt := Heap.lt_size e
      rw [q] at lt
      exact Nat.lt_irrefl _ (Nat.lt_of_lt_of_le lt (Nat.le_trans (Nat.le_of_lt sz1) big))
/-- C(..): what the __init__ leaves is a made error -/
theorem madeK {s : Shared} {rest : List Value} {kws : List (Str × Value)} {mp : Str → Option Value} (T : Own P K C qual st) (X : K.In s.heap) (S : Sup mg s.heap) (lim : s.heap.NoLimit) (size : rest.length ≤ sizeLine)
    (init : ∀ (fI cc cda x t0 : Addr) (oc kV doc pm ct : Value) (od an : Option Addr) (osl : Array (Option Value)) (s' : Shared) (A' : Around) (R' : Result → Shared → Prop), A'.depth = A.depth + 1 → K.In s'.heap → Sup mg s'.heap → s'.heap.NoLimit →
      K.lookup fI = some ⟨oc, od, .func (ksFn "__init__" qual (L2.defArgs st) (L2.defBody st) (L2.defScope st) .none kV doc pm an (.ref cda) ct cc), osl⟩ → codeIn K (.ref cda) qual = true →
      (∃ cl cld csl, K.lookup cc = some ⟨cl, cld, .cell (some (.ref C)), csl⟩) → (∃ ccl cdd vs ccs file tf, K.lookup cda = some ⟨ccl, cdd, .fields vs, ccs⟩ ∧ vs[2]? = some (.str file tf) ∧ ((P.main.file : Str) == file) = true) →
      s'.heap.get? x = some (excO C t0) → K.lookup x = none →
      (∀ h' tk dx t1, (∀ b o, b ≠ x → s'.heap.get? b = some o → h'.get? b = some o) → s'.heap.objs.size ≤ dx → dx ≠ x → h'.get? x = some { cls := .ref C, dict := some dx, data := .fields #[.ref t1, .none, .none, .none, .bool false, .none] } →
        h'.Ns1 dx mp → R' (.ok (.ret .none)) { s' with heap := h', toks := tk }) → codeAny (model P w) A' (.call (.ref fI) ⟨.ref x :: rest, kws⟩) R' s')
    (h : ∀ h' tk e d, Made s.heap h' e C d mp → R (.ok (.ret (.ref e))) { s with heap := h', toks := tk }) :
    codeAny (model P w) A (.call (.ref C) ⟨rest, kws⟩) R s := by
  obtain ⟨fI, cc, cda, oc, kV, doc, pm, ct, od, an, osl, hi, ti, lk, cd, cel, cod⟩ := T.fn
  obtain ⟨nm, q, N, bs, bm, sn, sub, ab, col, dd, k0, k1, k2, k3, k5, hC, hbm⟩ := T.cls
  obtain ⟨hp, g, dr, tk, os⟩ := s
  have k : ∀ b o, hp.get? b = some o → ((hp.push (kdv_tup rest)).push (excO C hp.objs.size)).get? b = some o := fun b o e => Heap.get?_push_of_some _ (Heap.get?_push_of_some _ e)
  have hget : ((hp.push (kdv_tup rest)).push (excO C hp.objs.size)).get? (hp.objs.size + 1) = some (excO C hp.objs.size) := by heap_get
  have nx : K.lookup (hp.objs.size + 1) = none := by
    cases e : K.lookup (hp.objs.size + 1) with
    | none => rfl
    | some o =>
      have z := Heap.lt_size (show hp.get? (hp.objs.size + 1) = some o from X _ _ e)
      exact absurd (Nat.lt_of_succ_lt z) (Nat.lt_irrefl _)
  obtain ⟨mb, Sa, Sb⟩ := S.blt
  refine callK F.excBase_ValueError (fun Y => refsVE_contains Y bm hbm) (X _ _ hC) (looks_findIn X hi) (fun self => bind_fn X self ti) size ?_
  refine init fI cc cda (hp.objs.size + 1) hp.objs.size oc kV doc pm ct od an osl ⟨(hp.push (kdv_tup rest)).push (excO C hp.objs.size), g, dr, tk, os⟩ _ _ rfl (X.keeps k) ⟨S.glob.keeps k, ⟨mb, Sa.keeps k, Sb⟩, S.none⟩ (lim.keeps k) lk cd cel cod hget nx ?_
  intro h' tk' dx t1 k' big dne he hns
  have z : hp.objs.size + 1 + 1 ≤ dx := by
    first
      | (simpa only [Heap.size_push] using big)
      | exact big
  exact ⟨rfl, h h' tk' (hp.objs.size + 1) dx ⟨fun b o e => k' b o (Nat.ne_of_lt (Nat.lt_succ_of_lt (Heap.lt_size e))) (k b o e), Nat.le_succ _, ⟨_, _, he, rfl, rfl, rfl, rfl⟩, Nat.le_trans (Nat.le_trans (Nat.le_succ _) (Nat.le_succ _)) z, dne, hns⟩⟩
end
end Err
set_option Elab.async false
set_option linter.all false
set_option maxRecDepth 100000
set_option maxHeartbeats 4000000
/-! Own errors at the hand layer: made by place and by keywords, kept behind the except suite, their fields and classes asked. -/
namespace Err
open PySem PySem.Spec PyProof.Rows L2
/-- the error at a: its class, its dict -/
def ExT (a : Addr) (cls : Value) (d : Option Addr) : HO := .ext fun h => ∃ oe vs, h.get? a = some oe ∧ Zc cls d oe ∧ oe.data = .fields vs
theorem ext_ok {P : Program} {w : World} {H : Hp} {h : Heap} {a : Addr} {oe : Obj} {vs : Array Value} {cls : Value} {d : Option Addr} (e : h.get? a = some oe) (z : Zc cls d oe) (v : oe.data = .fields vs) : ObjOk P w H h a (ExT a cls d) :=
  ⟨⟨oe, vs, e, z, v⟩, ⟨oe, e⟩, fun h1 h2 ⟨o1, v1, a1, b1, c1⟩ st => ⟨o1, v1, st _ a1, b1, c1⟩⟩
section
variable {X : Cx} {pins : List (Addr × Obj)} {σ : L2.St} {H : Hp} {s : Shared}
/-- an error that stands in the heap is known from now on -/
theorem track {a : Addr} {oe : Obj} {vs : Array Value} {cls : Value} {d : Option Addr} (J : Inv X pins σ H s) (ha : s.heap.get? a = some oe) (hd : oe.data = .fields vs) (hz : Zc cls d oe) (na : H a = none) (nL : a ≠ X.env.locals)
    (n0 : ∀ o, X.s_0.heap.get? a = some o → False) (np : ∀ p ∈ X.pn ++ pins, p.1 ≠ a) : Inv X pins σ (upd H a (ExT a cls d)) s := by
  have ne0 : ∀ {b : Addr} {o : Obj}, X.s_0.heap.get? b = some o → b ≠ a := fun {b o} e z => n0 o (by rw [← z]; exact e)
  have neH : ∀ {b : Addr} {o : HO}, H b = some o → b ≠ a := fun e => ne_of_none e na
  have neC : ∀ {x : Str} {c : Addr}, X.env.cells.lookup x = some c → c ≠ a := fun {x c} e z => by
    obtain ⟨v, o, ho, hv⟩ := J.cell x c e
    rw [z, ha] at ho
    cases ho
    rw [hd] at hv
    cases hv
  refine ⟨J.ok, J.os, J.bare, ⟨J.base.keep, J.base.slot, fun b o e n hx => ?_, J.base.there, fun b xs e => ?_, fun b o u e => ?_, fun b ps e => ?_⟩, J.loc, J.cell, ?_, fun x c e => ?_, fun p hp => ?_, fun b u e => ?_, J.len⟩
  · rw [upd_ne (ne0 e)]
    exact J.base.free b o e n hx
  · have z := J.base.tups b xs e
    rw [upd_ne (neH z)]
    exact z
  · have z := J.base.frzs b o u e
    rw [upd_ne (neH z)]
    exact z
  · obtain ⟨more, z⟩ := J.base.tbls b ps e
    exact ⟨more, by rw [upd_ne (neH z)]; exact z⟩
  · rw [upd_ne (Ne.symm nL)]
    exact J.free
  · rw [upd_ne (neC e)]
    exact J.freeC x c e
  · obtain ⟨z1, z2, z3, z4, z5⟩ := J.pin p hp
    exact ⟨z1, by rw [upd_ne (np p hp)]; exact z2, z3, z4, z5⟩
  · by_cases hb : b = a
    · subst hb
      rw [upd_same] at e
      cases e
      exact ext_ok ha hz hd
    · rw [upd_ne hb] at e
      refine (J.hok b u e).stay (fun _ _ _ q => q) (fun c q => ?_) fun c xs q => ?_
      · rw [upd_ne (neH q)]
        exact q
      · rw [upd_ne (neH q)]
        exact q
end
/-- what 'except x as n' wishes, the error known within the suite and behind it -/
def wKeep (K : PySem.W.Frag) (c : Value) (i : Nat) (ts : Addr → TS) (Wout : WX) (D : Ends) : WX := fun cls d σ H =>
  ∃ b, PySem.W.exmOne K cls c = some b ∧ (b = true → ∀ a, H a = none → ts a { nx := fun σ' H' => D.nx (σ'.set i none) H', rt := D.rt, bk := fun σ' H' => D.bk (σ'.set i none) H', ct := fun σ' H' => D.ct (σ'.set i none) H' } (σ.set i (some (.ref a))) (upd H a (ExT a cls d))) ∧
    (b = false → Wout cls d σ H)
section
variable {X : Cx} {x n : Str} {c : Value} {i : Nat} {body suite : List Stmt} {b₀ : Stmt} {np pos pos' : Pos} {tb : WX → TS} {ts : Addr → TS} {Wout : WX}
theorem ps_try_keep (hs : X.stack = X.env :: X.outer) (hf : X.env.frame = some X.env.locals) (hex : X.ex = []) (hN : X.N.Nodup) (hi : X.N[i]? = some n) (hln : X.env.kindOf n = some .local) (hc : Names X x c) (tk : Takes X Wout)
    (hb : ∀ (W : WX) (pn : List (Addr × Obj)) (xe : Value → Shared → Prop), Takes (X.tr pn xe) W → PassesOwn (model X.prog X.w) X.A X.env xe → PSs (X.tr pn xe) body (tb W))
    (hsu : ∀ (a : Addr) (pn : List (Addr × Obj)), PSs (X.suite a pn) (b₀ :: suite) (ts a)) :
    PS X (.Try body [.ExceptHandler (some (.Name x np)) (some n) (b₀ :: suite) pos'] [] [] pos) (fun D σ H => tb (wKeep X.K c i ts Wout D) D σ H) := by
  refine ⟨fun pins s σ H D I h => ?_⟩
  have ok := I.ok
  have fr1 : X.A.frames = some (X.env :: X.outer) := by
    rw [ok.frames]
    exact congrArg some hs
  have loc1 : Loc X.env.scope n := Or.inl hln
  refine wpAny_Try_except ?_
  refine wpAny_mono ((hb (wKeep X.K c i ts Wout D) (X.pn ++ pins)
      (fun e s₁ => wpAny (model X.prog X.w) X.A (noteFrame e X.env) (fun _ s₂ => wpAny (model X.prog X.w) X.A (setFlight e none)
        (fun _ s₃ => wpAny (model X.prog X.w) X.A (handleBy e X.env [.ExceptHandler (some (.Name x np)) (some n) (b₀ :: suite) pos']) (SP X pins D) X.xe s₃) X.xe s₂) X.xe s₁)
      (fun u s' xx => ?grab) PassesOwn.looking).run [] s σ H D (I.toTry _) h) (fun f s1 hsp => ?thru) (fun e s1 he => he)
  case grab =>
    obtain ⟨a, B, sI, pins', τ, G, cls, d, rfl, J', nb, up, sky, na, os, ag, b, hb1, hyes, hno⟩ := xx
    have J : Inv X pins τ G sI := J'.ofTry ok
    rw [show (X.tr (X.pn ++ pins) _).stack = X.env :: X.outer from hs] at sky
    show wpAny (model X.prog X.w) X.A (noteFrame (.ref a) X.env) _ _ _
    refine Sky.land Zc.steady fr1 hf sky fun h3 fl3 up3 => ?_
    have J3 : Inv X pins τ G { s' with heap := h3 } := J.landed nb fl3.1 (up.trans up3) os ag
    obtain ⟨oe3, vs3, he3, hz3, hd3⟩ := fl3.there
    have nfr : a ∉ frs (X.env :: X.outer) := fun hm => by
      obtain ⟨_, o', e', hnf⟩ := fl3.2.2.1.mem hm
      rw [he3] at e'
      cases e'
      exact hnf _ hd3
    have nL : a ≠ X.env.locals := fun z => nfr (List.mem_filterMap.mpr ⟨X.env, List.mem_cons_self, by rw [hf, z]⟩)
    have nI : ∀ o, sI.heap.get? a = some o → False := fun o e => by
      have z := nb a o e (by rw [show (X.tr (X.pn ++ pins) _).stack = X.env :: X.outer from hs]; exact nfr)
      rw [fl3.2.1] at z
      cases z
    have n0 : ∀ o, X.s_0.heap.get? a = some o → False := fun o e => by
      obtain ⟨o', z⟩ := J.base.there a o e (by rw [hex]; exact fun q => nomatch q)
      exact nI o' z
    have npin : ∀ p ∈ X.pn ++ pins, p.1 ≠ a := fun p hp z => by
      have q := (J.pin p hp).1
      rw [z] at q
      exact nI _ q
    have S3 : Inv (X.suite a (X.pn ++ pins)) [] τ (upd G a (ExT a cls d)) { s' with heap := h3 } := by
      have T3 := track J3 he3 hd3 hz3 na nL n0 npin
      exact ⟨T3.ok.suite _ _, T3.os, T3.bare, T3.base, T3.loc, T3.cell, T3.free, T3.freeC, fun p hp => T3.pin p (by rw [List.append_nil] at hp; exact hp), T3.hok, T3.len⟩
    refine wpAny_handleBy_cons (codeAny_handlers_test ?_) (by intro q; cases q)
    have LT : PySem.W.Looks (model X.prog X.w) h3 (typeOf (.ref a)) cls := fun A Q E s k q => wpAny_typeOf_ref (k _ _ he3) (by rw [hz3.1]; exact q)
    have LM := PySem.W.exm_one (M := model X.prog X.w) (J3.kIn) LT hb1
    have test : ∀ {Q : Value → Shared → Prop} {E : Value → Shared → Prop}, Q c { s' with heap := h3 } → wpAny (model X.prog X.w) (X.A.mark (some (.ref a))) (eval (.Name x np) X.env) Q E { s' with heap := h3 } := fun {Q E} q => by
      obtain ⟨g1, g2, g3 | ⟨g3, g4, g5⟩⟩ := hc
      · exact ld_glob (X := X.suite a (X.pn ++ pins)) S3 g1 g3 q g2
      · exact ld_blt (X := X.suite a (X.pn ++ pins)) S3 g1 g3 g4 q g5 g2
    refine test (LM.here ?_)
    cases b with
    | true =>
      refine codeAny_handlers_suite_as ?_
      refine HandSPX.lands_againZ fl3 fun h4 fl4 up4 => ?_
      have J4 : Inv X pins τ G { s' with heap := h4 } := J.landed nb fl4.1 ((up.trans up3).trans up4) os ag
      obtain ⟨oe4, vs4, he4, hz4, hd4⟩ := fl4.there
      have S4 : Inv (X.suite a (X.pn ++ pins)) [] τ (upd G a (ExT a cls d)) { s' with heap := h4 } := by
        have T4 := track J4 he4 hd4 hz4 na nL n0 npin
        exact ⟨T4.ok.suite _ _, T4.os, T4.bare, T4.base, T4.loc, T4.cell, T4.free, T4.freeC, fun p hp => T4.pin p (by rw [List.append_nil] at hp; exact hp), T4.hok, T4.len⟩
      refine store_ok (X := X.suite a (X.pn ++ pins)) (v := .ref a) S4 hN hi loc1 rfl (fun s5 S5 => ?_) (.inr hln)
      refine wpAny_mono ((hsu a (X.pn ++ pins)).run [] s5 _ _ _ S5 (hyes rfl a na)) (fun f s6 hsp => ?_) (fun _ _ z => False.elim z)
      have fin : ∀ {σ6 : L2.St} {H6 : Hp} {Q : Shared → Prop}, Inv (X.suite a (X.pn ++ pins)) [] σ6 H6 s6 → (∀ s7, Inv X pins (σ6.set i none) H6 s7 → Q s7) →
          wpAny (model X.prog X.w) X.A (do bindName X.env n .none; unbindBehindTheSuite X.env n pos') (fun _ s7 => Q s7) X.xe s6 := fun {σ6 H6 Q} S6 hq =>
        gone_ok (⟨ok, S6.os, S6.bare, S6.base, S6.loc, S6.cell, S6.free, S6.freeC, fun p hp => S6.pin p (List.mem_append_left _ hp), S6.hok, S6.len⟩ : Inv X pins σ6 H6 s6) hN hi hln hq
      cases f with
      | next =>
        obtain ⟨σ6, H6, S6, q6⟩ := hsp
        exact fin S6 fun s7 J7 => ⟨_, _, J7, q6⟩
      | brk =>
        obtain ⟨σ6, H6, S6, q6⟩ := hsp
        exact fin S6 fun s7 J7 => ⟨_, _, J7, q6⟩
      | cont =>
        obtain ⟨σ6, H6, S6, q6⟩ := hsp
        exact fin S6 fun s7 J7 => ⟨_, _, J7, q6⟩
      | ret u =>
        obtain ⟨v6, σ6, H6, S6, r6, q6⟩ := hsp
        exact fin S6 fun s7 J7 => ⟨_, _, _, J7, r6, q6⟩
    | false =>
      show wpAny _ X.A (handleBy (.ref a) X.env []) _ _ _
      refine wpAny_handleBy_nil ?_
      obtain ⟨k1, k2, k3, oe, vs, T, oT, ts', he, hz, hd, h1, hr⟩ := id fl3
      unfold PySem.passOn
      refine wpAny_bind (wpAny_field he hd h1 ?_)
      rw [if_neg (show ¬ ((Value.ref T == Value.none) = true) from by simp)]
      have on : wpAny (model X.prog X.w) X.A (setFlight (.ref a) X.env.frame) (fun _ s4 => wpAny (model X.prog X.w) X.A (throw (.ref a) : Sem Flow) (SP X pins D) X.xe s4) X.xe { s' with heap := h3 } := by
        rw [hf]
        refine HandSPX.setFlight_upZ fl3 fun h4 hh4 up4 => wpAny_throw (tk _ _ ?_)
        refine ⟨a, B, sI, pins, τ, G, cls, d, rfl, J, ?_, (up.trans up3).trans up4, .inr (.inr ?_), na, os, ag, hno rfl⟩
        · exact nb
        · rw [hs]
          exact hh4
      first
        | exact wpAny_bind (wpAny_pure (wpAny_bind on))
        | exact wpAny_bind on
  case thru =>
    cases f with
    | next =>
      obtain ⟨τ, G, J', q⟩ := hsp
      exact wpAny_execs_nil ⟨τ, G, J'.ofTry ok, q⟩
    | brk =>
      obtain ⟨τ, G, J', q⟩ := hsp
      exact ⟨τ, G, J'.ofTry ok, q⟩
    | cont =>
      obtain ⟨τ, G, J', q⟩ := hsp
      exact ⟨τ, G, J'.ofTry ok, q⟩
    | ret u =>
      obtain ⟨v, τ, G, J', r, q⟩ := hsp
      exact ⟨v, τ, G, J'.ofTry ok, r, q⟩
end
end Err
set_option Elab.async false
set_option linter.all false
set_option maxRecDepth 100000
set_option maxHeartbeats 4000000
namespace Err
open PySem PySem.Spec PyProof.Rows L2
/-- what the written part says of an error class x at C, beside Own -/
structure ErrC (P : Program) (K : PySem.W.Frag) (mg : Str → Option Value) (x qual : Str) (st : Stmt) (C : Addr) : Prop where
  own : Own P K C qual st
  gC : mg x = some (.ref C)
  kC : PySem.W.keepIn K (.ref C) = true
  exC : PySem.W.subIn K (.ref C) (.type "BaseException") = some true
  tyC : PySem.W.typeIn K (.ref C) = some (.type "type")
theorem relO1 {v : V} {v' : Value} (r : RelV v v') (f y : Str) : RelO (List.lookup y [(f, v)]) (if y = f then some v' else none) := by
  by_cases h : y = f
  · subst h
    rw [if_pos rfl]
    simp only [List.lookup, beq_self_eq_true]
    exact r
  · rw [if_neg h]
    have q : (y == f) = false := beq_eq_false_iff_ne.mpr h
    simp only [List.lookup, q]
    trivial
theorem relO2 {v u : V} {v' u' : Value} (r : RelV v v') (r2 : RelV u u') (f g y : Str) : RelO (List.lookup y [(g, u), (f, v)]) (if y = g then some u' else if y = f then some v' else none) := by
  by_cases h : y = g
  · subst h
    rw [if_pos rfl]
    simp only [List.lookup, beq_self_eq_true]
    exact r2
  · rw [if_neg h]
    have q : (y == g) = false := beq_eq_false_iff_ne.mpr h
    have e : List.lookup y [(g, u), (f, v)] = List.lookup y [(f, v)] := by simp only [List.lookup, q]
    rw [e]
    exact relO1 r f y
section
variable {X : Cx} {pins : List (Addr × Obj)} {σ : L2.St} {H : Hp} {Q : XK}
theorem mk_done {hp h' : Heap} {g : Array GenState} {dr : Drawn} {tk tk' : Nat} {os : OsState} {e C d : Addr} {mp : Str → Option Value} {fs : List (Str × V)} (I : Inv X pins σ H ⟨hp, g, dr, tk, os⟩) (M : Made hp h' e C d mp) (rl : ∀ y, RelO (fs.lookup y) (mp y))
    (exC : PySem.W.subIn X.K (.ref C) (.type "BaseException") = some true) (tyC : PySem.W.typeIn X.K (.ref C) = some (.type "type")) (q : ∀ d, H d = none → Q (.ref C) (some d) (upd H d (.xd fs))) : MkP X pins σ Q (.ref e) ⟨h', g, dr, tk', os⟩ := by
  obtain ⟨oe, fv, hoe, hc, hd, hdat, h1⟩ := M.obj
  have hns := M.ns
  obtain ⟨G, g1, g2⟩ := restrict h' fun b => decide (b ≠ e)
  have gk : ∀ b, b ≠ e → G.get? b = h'.get? b := fun b hb => g1 b (decide_eq_true hb)
  have ge : G.get? e = none := g2 e (by simp)
  have old : ∀ b o, hp.get? b = some o → G.get? b = some o := fun b o z => by
    rw [gk b (Nat.ne_of_lt (Nat.lt_of_lt_of_le (Heap.lt_size z) M.new))]
    exact M.keep b o z
  have ob : ObjOk X.prog X.w (upd H d (.xd fs)) G d (.xd fs) := ⟨mp, hns.at (fun o z => (gk d M.dne).trans z), rl⟩
  have J : Inv X pins σ (upd H d (.xd fs)) ⟨G, g, dr, tk', os⟩ := I.laid (t' := tk') old M.dbig ob
  refine ⟨e, oe, fv, ⟨G, g, dr, tk', os⟩, _, .ref C, some d, rfl, J, fun b o z => ?_, ge, hoe, ⟨hc, hd⟩, hdat, h1, ?_, rfl, I.bare, raises_own exC tyC, q d (I.hok.fresh M.dbig)⟩
  · by_cases hb : b = e
    · have z' : G.get? b = some o := z
      rw [hb, ge] at z'
      cases z'
    · rw [← gk b hb]
      exact z
  · rw [upd_ne (Ne.symm M.dne)]
    exact I.hok.fresh M.new
theorem sup_of {s : Shared} (I : Inv X pins σ H s) (no : X.mg "super" = none) : Sup X.mg s.heap := by
  obtain ⟨mb, b1, b2⟩ := I.mod.blt
  refine ⟨I.mod.glob.keeps I.bk, ⟨mb, b1.keeps I.bk, ?_⟩, no⟩
  rw [b2 "super" (by decide)]
  rfl
end
/-- a call of the class with n values by place and the keywords ks makes an error with the fields fs -/
def Makes (P : Program) (w : World) (K : PySem.W.Frag) (mg : Str → Option Value) (C : Addr) (n : Nat) (ks : List Str) (fs : List V → List V → List (Str × V)) : Prop :=
  ∀ (A : Around) (R : Result → Shared → Prop) (s : Shared) (us ws : List Value) (xs zs : List V), us.length = n → ws.length = ks.length → Vals xs us → Vals zs ws → K.In s.heap → Sup mg s.heap → s.heap.NoLimit → A.depth + 1 < recursionLimit →
    (∀ h' tk e d mp, Made s.heap h' e C d mp → (∀ y, RelO ((fs xs zs).lookup y) (mp y)) → R (.ok (.ret (.ref e))) { s with heap := h', toks := tk }) → codeAny (model P w) A (.call (.ref C) ⟨us, ks.zip ws⟩) R s
def f10 (f : Str) : List V → List V → List (Str × V) := fun xs _ => match xs with | [v] => [(f, v)] | _ => []
def f01 (f : Str) : List V → List V → List (Str × V) := fun _ zs => match zs with | [v] => [(f, v)] | _ => []
def f20 (f g : Str) : List V → List V → List (Str × V) := fun xs _ => match xs with | [v, u] => [(g, u), (f, v)] | _ => []
def f02 (f g : Str) : List V → List V → List (Str × V) := fun _ zs => match zs with | [u, v] => [(g, u), (f, v)] | _ => []
theorem one_val {xs : List V} {us : List Value} (r : Vals xs us) (h : us.length = 1) : ∃ v v', xs = [v] ∧ us = [v'] ∧ RelV v v' := by
  cases r with
  | nil => cases h
  | cons a t =>
    cases t with
    | nil => exact ⟨_, _, rfl, rfl, a⟩
    | cons b t => simp at h
theorem two_vals {xs : List V} {us : List Value} (r : Vals xs us) (h : us.length = 2) : ∃ v u v' u', xs = [v, u] ∧ us = [v', u'] ∧ RelV v v' ∧ RelV u u' := by
  cases r with
  | nil => cases h
  | cons a t =>
    obtain ⟨u, u', rfl, rfl, ru⟩ := one_val t (by simpa using h)
    exact ⟨_, _, _, _, rfl, rfl, a, ru⟩
theorem no_val {us : List Value} (h : us.length = 0) : us = [] := List.length_eq_zero_iff.mp h
section
variable {P : Program} {w : World} {K : PySem.W.Frag} {mg : Str → Option Value} {C : Addr} {qual f g : Str} {st : Stmt}
abbrev iFn (qual : Str) (st : Stmt) (kV doc pm ct : Value) (an : Option Addr) (cda cc : Addr) : FuncData := PySem.W.ksFn "__init__" qual (L2.defArgs st) (L2.defBody st) (L2.defScope st) .none kV doc pm an (.ref cda) ct cc
theorem size1 (v : Value) : [v].length ≤ sizeLine := by
  rw [sizeLine_eq]
  exact (by decide : 1 ≤ 16777216)
theorem size2 (v u : Value) : [v, u].length ≤ sizeLine := by
  rw [sizeLine_eq]
  exact (by decide : 2 ≤ 16777216)
theorem size0 : ([] : List Value).length ≤ sizeLine := by
  rw [sizeLine_eq]
  exact (by decide : 0 ≤ 16777216)
theorem mk10 (T : Own P K C qual st) (O : One qual st f) (no : PySem.W.findIn K (.ref C) f = some none) (top : (P.main.scope.names.lookup ("super" : Str)).isSome = false)
    (bnd : ∀ (kV doc pm ct : Value) (an : Option Addr) (cda cc : Addr) (xv v : Value), bindArgs (iFn qual st kV doc pm ct an cda cc) ⟨[xv, v], []⟩ = pure [(("self" : Str), xv), (f, v)]) : Makes P w K mg C 1 [] (f10 f) := by
  intro A R s us ws xs zs n1 n2 r1 r2 KX S lim room q
  obtain ⟨v, v', rfl, rfl, rv⟩ := one_val r1 n1
  obtain rfl := no_val n2
  refine madeK (mp := fun y => if y = f then some v' else none) T KX S lim (size1 v') (fun fI cc cda x t0 oc kV doc pm ct od an osl s' A' R' dep KX' S' lim' lk cd cel cod hx nx h => ?_) fun h' tk e d M => q h' tk e d _ M (relO1 rv f)
  exact init1 T O no KX' S' top lim' (by omega) lk cd cel cod (.of_eq (bnd _ _ _ _ _ _ _ _ _)) hx nx h
theorem mk01 (T : Own P K C qual st) (O : One qual st f) (no : PySem.W.findIn K (.ref C) f = some none) (top : (P.main.scope.names.lookup ("super" : Str)).isSome = false)
    (bnd : ∀ (kV doc pm ct : Value) (an : Option Addr) (cda cc : Addr) (xv v : Value), bindArgs (iFn qual st kV doc pm ct an cda cc) ⟨[xv], [(f, v)]⟩ = pure [(("self" : Str), xv), (f, v)]) : Makes P w K mg C 0 [f] (f01 f) := by
  intro A R s us ws xs zs n1 n2 r1 r2 KX S lim room q
  obtain ⟨v, v', rfl, rfl, rv⟩ := one_val r2 n2
  obtain rfl := no_val n1
  refine madeK (mp := fun y => if y = f then some v' else none) T KX S lim size0 (fun fI cc cda x t0 oc kV doc pm ct od an osl s' A' R' dep KX' S' lim' lk cd cel cod hx nx h => ?_) fun h' tk e d M => q h' tk e d _ M (relO1 rv f)
  exact init1 T O no KX' S' top lim' (by omega) lk cd cel cod (.of_eq (bnd _ _ _ _ _ _ _ _ _)) hx nx h
theorem mk20 (T : Own P K C qual st) (O : Two qual st f g) (no : PySem.W.findIn K (.ref C) f = some none) (no2 : PySem.W.findIn K (.ref C) g = some none) (top : (P.main.scope.names.lookup ("super" : Str)).isSome = false)
    (bnd : ∀ (kV doc pm ct : Value) (an : Option Addr) (cda cc : Addr) (xv v u : Value), bindArgs (iFn qual st kV doc pm ct an cda cc) ⟨[xv, v, u], []⟩ = pure [(("self" : Str), xv), (f, v), (g, u)]) : Makes P w K mg C 2 [] (f20 f g) := by
  intro A R s us ws xs zs n1 n2 r1 r2 KX S lim room q
  obtain ⟨v, u, v', u', rfl, rfl, rv, ru⟩ := two_vals r1 n1
  obtain rfl := no_val n2
  refine madeK (mp := fun y => if y = g then some u' else if y = f then some v' else none) T KX S lim (size2 v' u') (fun fI cc cda x t0 oc kV doc pm ct od an osl s' A' R' dep KX' S' lim' lk cd cel cod hx nx h => ?_) fun h' tk e d M => q h' tk e d _ M (relO2 rv ru f g)
  exact init2 T O no no2 KX' S' top lim' (by omega) lk cd cel cod (.of_eq (bnd _ _ _ _ _ _ _ _ _ _)) hx nx h
theorem mk02 (T : Own P K C qual st) (O : Two qual st f g) (no : PySem.W.findIn K (.ref C) f = some none) (no2 : PySem.W.findIn K (.ref C) g = some none) (top : (P.main.scope.names.lookup ("super" : Str)).isSome = false)
    (bnd : ∀ (kV doc pm ct : Value) (an : Option Addr) (cda cc : Addr) (xv v u : Value), bindArgs (iFn qual st kV doc pm ct an cda cc) ⟨[xv], [(g, u), (f, v)]⟩ = pure [(("self" : Str), xv), (f, v), (g, u)]) : Makes P w K mg C 0 [g, f] (f02 f g) := by
  intro A R s us ws xs zs n1 n2 r1 r2 KX S lim room q
  obtain ⟨u, v, u', v', rfl, rfl, ru, rv⟩ := two_vals r2 n2
  obtain rfl := no_val n1
  refine madeK (mp := fun y => if y = g then some u' else if y = f then some v' else none) T KX S lim size0 (fun fI cc cda x t0 oc kV doc pm ct od an osl s' A' R' dep KX' S' lim' lk cd cel cod hx nx h => ?_) fun h' tk e d M => q h' tk e d _ M (relO2 rv ru f g)
  exact init2 T O no no2 KX' S' top lim' (by omega) lk cd cel cod (.of_eq (bnd _ _ _ _ _ _ _ _ _ _)) hx nx h
end
/-- C(..), C(k=..): the error, its dict -/
def tMkA (C : Addr) (fs : List V → List V → List (Str × V)) (ta : TA) : L2.St → Hp → XK → Prop := fun σ H Q => ta σ H fun xs H1 => ∀ d, H1 d = none → Q (.ref C) (some d) (upd H1 d (.xd (fs xs [])))
def tMkW (C : Addr) (fs : List V → List V → List (Str × V)) (tk : TA) : L2.St → Hp → XK → Prop := fun σ H Q => tk σ H fun zs H1 => ∀ d, H1 d = none → Q (.ref C) (some d) (upd H1 d (.xd (fs [] zs)))
/-- as many as there are -/
def Len (t : TA) (n : Nat) : Prop := ∀ σ H Q, t σ H Q → t σ H fun xs H' => xs.length = n ∧ Q xs H'
section
variable {X : Cx} {x qual : Str} {st : Stmt} {C : Addr} {es : List Expr} {kws : List Keyword} {ta : TA} {p pos : Pos} {k n : Nat} {ks : List Str} {fs : List V → List V → List (Str × V)}
theorem pmkA {e : Expr} (T : ErrC X.prog X.K X.mg x qual st C) (Mk : Makes X.prog X.w X.K X.mg C n [] fs) (sup : X.mg "super" = none) (hr : Room (k + 1) X.A) (ha : PA X (e :: es) ta) (ln : Len ta n) (hg : Gl X x := by rfl) (hdb : (x == ("__debug__" : Str)) = false := by decide)
    (he : starEach (e :: es) X.env = (false, eval e X.env) :: starEach es X.env := by rfl) (hpl : (backTo pos (starEach es X.env)).any (·.1) = false := by rfl) : PMk X (.Call (.Name x p) (e :: es) [] pos) (tMkA C fs ta) := by
  intro pins s σ H Q I h
  refine wpAny_Call_Name_kw (ld_glob I hg T.gC ?_ hdb)
  refine PySem.W.callWith_K (h₀ := X.base) I.ok.mod.kin T.kC (thn (ha.run pos pins s σ H _ I (ln _ _ _ h)) fun us s1 hh => ?_) he hpl
  obtain ⟨xs, H1, I1, r1, len, q1⟩ := hh
  refine ⟨I1.kIn, ?_⟩
  show wpAny _ _ (call (.ref C) us) _ _ _
  have hlim := I1.nolimit
  have S := sup_of I1 sup
  have KX := I1.kIn
  obtain ⟨hp, g, dr, tk, os⟩ := s1
  refine wpAny_call (Mk _ _ _ us [] xs [] (r1.length.symm.trans len) rfl r1 .nil KX S hlim (by have := hr.dp; omega) fun h' tk' e d mp M rl => ?_)
  exact mk_done I1 M rl T.exC T.tyC q1
theorem pmkW {tk : TA} (T : ErrC X.prog X.K X.mg x qual st C) (Mk : Makes X.prog X.w X.K X.mg C 0 ks fs) (sup : X.mg "super" = none) (hr : Room (k + 1) X.A) (words : PK X kws tk) (ln : Len tk ks.length) (hg : Gl X x := by rfl) (hdb : (x == ("__debug__" : Str)) = false := by decide)
    (named : (backToKw pos (keywordEach kws X.env)).all (·.1.isSome) = true := by rfl) (names : (backToKw pos (keywordEach kws X.env)).filterMap (·.1) = ks := by rfl)
    (plain : ((backTo pos (starEach [] X.env)).any (·.1) || (backToKw pos (keywordEach kws X.env)).any (·.1.isNone)) = false := by rfl) : PMk X (.Call (.Name x p) [] kws pos) (tMkW C fs tk) := by
  intro pins s σ H Q I h
  refine wpAny_Call_Name_kw (ld_glob I hg T.gC (PySem.W.callWith_KW0 (h₀ := X.base) I.ok.mod.kin T.kC named ?_ plain) hdb)
  refine thn (words.run pos pins s σ H _ I (ln _ _ _ h)) fun ws s1 hh => ?_
  obtain ⟨zs, H1, I1, r1, len, q1⟩ := hh
  refine ⟨I1.kIn, ?_⟩
  rw [names]
  have hlim := I1.nolimit
  have S := sup_of I1 sup
  have KX := I1.kIn
  obtain ⟨hp, g, dr, tk', os⟩ := s1
  refine wpAny_call (Mk _ _ _ [] ws [] zs rfl (r1.length.symm.trans len) .nil r1 KX S hlim (by have := hr.dp; omega) fun h' tk' e d mp M rl => ?_)
  exact mk_done I1 M rl T.exC T.tyC q1
end
/-! ### its fields, its classes -/
/-- e.f, e an error that is known -/
def tFld (K : PySem.W.Frag) (f : Str) (te : TE) : TE := fun σ H Q => te σ H fun x H1 => ∃ (a C d : Addr) (fs : List (Str × V)) (v : V), x = .ref a ∧ H1 a = some (ExT a (.ref C) (some d)) ∧ H1 d = some (.xd fs) ∧ fs.lookup f = some v ∧ XfC K C ∧ PySem.W.findIn K (.ref C) f = some none ∧ Q v H1
section
variable {X : Cx}
theorem inst_of {P : Program} {w : World} {H : Hp} {h : Heap} {a C d : Addr} {fs : List (Str × V)} (ok : HOk P w H h) (e1 : H a = some (ExT a (.ref C) (some d))) (e2 : H d = some (.xd fs)) :
    ∃ (oe od : Obj) (mA : Str → Option Value), PySem.W.InstAt h a oe C (some od) ∧ (∀ name, PySem.W.lookIn name od = some (mA name)) ∧ ∀ f, RelO (fs.lookup f) (mA f) := by
  obtain ⟨⟨oe, vs, ha, hz, hd⟩, _, _⟩ := (show ObjOk P w H h a (ExT a (.ref C) (some d)) from ok a _ e1)
  obtain ⟨mA, hns, hr⟩ := (show ObjOk P w H h d (.xd fs) from ok d _ e2)
  obtain ⟨od, ho, hl⟩ := lookIn_ns hns
  refine ⟨oe, od, mA, ⟨ha, hz.1, ?_, ?_⟩, hl, hr⟩
  · unfold PySem.W.notCls
    rw [hd] <;> rfl
  · rw [hz.2]
    exact ho
theorem pe_fld {e : Expr} {te : TE} {pos : Pos} {f : Str} (he : PE X e te) (hb : attributeBase e f X.env (eval e X.env) = eval e X.env := by rfl) : PE X (.Attribute e f pos) (tFld X.K f te) := by
  refine ⟨fun pins s σ H Q I h => ?_⟩
  refine attr_of hb (thn (he.run pins s σ H _ I h) fun u s1 hh => ?_)
  obtain ⟨x, H1, I1, rx, a, C, d, fs, v, rfl, e1, e2, l, T, no, q⟩ := hh
  obtain rfl : u = Value.ref a := rx
  obtain ⟨oe, od, mA, J, hl, hr⟩ := inst_of I1.hok e1 e2
  obtain ⟨u, hu, ru⟩ := RelO.some_of (v := v) (o := mA f) (by rw [← l]; exact hr f)
  exact HandSPX.exc_get I1.kIn J T.ga T.gg T.exC (PySem.W.findObj_own T.hdC no rfl (by rw [hl, hu])) (handed_of ru) ⟨v, H1, I1.tok _, ru, q⟩
/-- what the class must say for isinstance of its instances -/
structure IsC (K : PySem.W.Frag) (C : Addr) : Prop extends XfC K C where
  ha : PySem.W.findIn K (.ref C) "__class__" = some (some (.builtin "object.__class__"))
  hn : PySem.W.specialIn K (.builtin "object.__class__") "__get__" = some (some (.builtin "getset_descriptor.__get__"))
  ht : PySem.W.takesIn K (.builtin "object.__class__") = some true
  hm : PySem.W.mroIn K C (.type "object") = some true
theorem IsC.kit {K : PySem.W.Frag} {C a : Addr} {oe : Obj} {od : Option Obj} (T : IsC K C) : PySem.W.KitX K (.ref a) (.ref C) (fun h => PySem.W.InstAt h a oe C od) := by
  refine PySem.W.kitx_exc ?_ T.ga T.gg T.exC T.ha T.hn T.ht T.hm
  have z := T.hdC
  unfold PySem.W.hasDictIn at z
  cases e : PySem.W.clsIn K C with
  | none =>
    rw [e] at z
    exact absurd z (by decide)
  | some cd => rfl
/-- isinstance(e, c), e an error that is known -/
def rIsX (K : PySem.W.Frag) : List V → Hp → VK → Prop := fun xs H Q => ∃ (a C d : Addr) (fs : List (Str × V)) (c : V) (cv : Value) (b : Bool), xs = [.ref a, c] ∧ H a = some (ExT a (.ref C) (some d)) ∧ H d = some (.xd fs) ∧ IsC K C ∧ ClsV c cv ∧ PySem.W.kitOne K (.ref C) cv = some b ∧ Q (.bl b) H
theorem call_isX : CallR X (.builtin "isinstance") (rIsX X.K) := by
  intro pins s σ H xs us Q I r h
  obtain ⟨a, C, d, fs, c, cv, b, rfl, e1, e2, T, kc, e, q⟩ := h
  obtain ⟨u1, u2, rfl, r1, r2⟩ := vals2 r
  cases (show u1 = Value.ref a from r1)
  have w2 := kc.eq r2
  subst w2
  obtain ⟨oe, od, mA, J, _, _⟩ := inst_of I.hok e1 e2
  exact PySem.W.kia_one T.kit I.kIn J e (fun z => nomatch z) fun tk => ⟨.bl b, H, I.tok tk, rfl, q⟩
/-- isinstance(e, (c1, c2, ..)) -/
def rIsXT (K : PySem.W.Frag) : List V → Hp → VK → Prop := fun xs H Q => ∃ (a C d : Addr) (fs : List (Str × V)) (tp : Addr) (cs : List V) (us : List Value) (b : Bool), xs = [.ref a, .ref tp] ∧ H a = some (ExT a (.ref C) (some d)) ∧ H d = some (.xd fs) ∧ IsC K C ∧
  H tp = some (.tup cs) ∧ Paired ClsV cs us ∧ PySem.W.kitAny K (.ref C) us = some b ∧ Q (.bl b) H
theorem call_isXT : CallR X (.builtin "isinstance") (rIsXT X.K) := by
  intro pins s σ H xs us Q I r h
  obtain ⟨a, C, d, fs, tp, cs, ws, b, rfl, e1, e2, T, hT, k, e, q⟩ := h
  obtain ⟨u1, u2, rfl, r1, r2⟩ := vals2 r
  cases (show u1 = Value.ref a from r1)
  cases (show u2 = Value.ref tp from r2)
  obtain ⟨oe, od, mA, J, _, _⟩ := inst_of I.hok e1 e2
  obtain ⟨_, its, rv, o, h1, h2, n, h3⟩ := (show ObjOk X.prog X.w H s.heap tp (.tup cs) from I.hok tp _ hT)
  have e3 := ClsV.all k rv
  subst e3
  obtain ⟨oc, od', dt, sl⟩ := o
  simp only at h2 h3
  subst h2 h3
  exact PySem.W.kia_tup T.kit I.kIn J h1 e (fun z => nomatch z) fun tk => ⟨.bl b, H, I.tok tk, rfl, q⟩
end
end Err
set_option Elab.async false
set_option linter.all false
set_option maxRecDepth 100000
set_option maxHeartbeats 4000000
/-! Error classes directly below one base, itself below ValueError: what the written part says of each. -/
namespace Err
open PySem PySem.Spec PyProof.Rows L2
abbrev veT : List Value := [.type "ValueError", .type "Exception", .type "BaseException", .type "object"]
/-- the base: class FenceError(ValueError): pass -/
structure Base (K : PySem.W.Frag) (mg : Str → Option Value) (x : Str) (F : Addr) : Prop where
  g : mg x = some (.ref F)
  lk : ∃ q N bs sn sub ab col dd k0 k1 k2 k3 k5, K.lookup F = some (excClassObj x q F N bs veT true sn sub ab col dd k0 k1 k2 k3 k5 "ValueError.__new__")
  op : PySem.W.nsIn K PySem.cStatics "thirdparty.any" = some none
  hn : PySem.W.specialIn K (.builtin "object.__class__") "__get__" = some (some (.builtin "getset_descriptor.__get__"))
  ht : PySem.W.takesIn K (.builtin "object.__class__") = some true
/-- a class below it -/
structure EC (P : Program) (K : PySem.W.Frag) (mg : Str → Option Value) (F : Addr) (x qual : Str) (st : Stmt) (C : Addr) : Prop where
  g : mg x = some (.ref C)
  lk : ∃ q N bs sn sub ab col dd k0 k1 k2 k3 k5, K.lookup C = some (excClassObj x q C N bs (.ref F :: veT) true sn sub ab col dd k0 k1 k2 k3 k5 "ValueError.__new__")
  sa : PySem.W.findIn K (.ref C) "__setattr__" = some (some (.builtin "object.__setattr__"))
  ga : PySem.W.findIn K (.ref C) "__getattribute__" = some (some (.builtin "BaseException.__getattribute__"))
  gg : PySem.W.findIn K (.ref C) "__getattr__" = some none
  ha : PySem.W.findIn K (.ref C) "__class__" = some (some (.builtin "object.__class__"))
  kC : PySem.W.keepIn K (.ref C) = true
  sup : PySem.W.ks_superIn K C C "__init__" = some (some (.builtin "ValueError.__init__"))
  fn : ∃ (fI cc cda : Addr) (oc kV doc pm ct : Value) (od an : Option Addr) (osl : Array (Option Value)),
    PySem.W.findIn K (.ref C) "__init__" = some (some (.ref fI)) ∧ PySem.W.typeIn K (.ref fI) = some (.type "function") ∧
    K.lookup fI = some ⟨oc, od, .func (PySem.W.ksFn "__init__" qual (L2.defArgs st) (L2.defBody st) (L2.defScope st) .none kV doc pm an (.ref cda) ct cc), osl⟩ ∧ PySem.W.codeIn K (.ref cda) qual = true ∧
    (∃ cl cld csl, K.lookup cc = some ⟨cl, cld, .cell (some (.ref C)), csl⟩) ∧
    ∃ ccl cdd vs ccs file tf, K.lookup cda = some ⟨ccl, cdd, .fields vs, ccs⟩ ∧ vs[2]? = some (.str file tf) ∧ ((P.main.file : Str) == file) = true
section
variable {P : Program} {K : PySem.W.Frag} {mg : Str → Option Value} {F C D : Addr} {x y qual q2 b : Str} {st st2 : Stmt}
theorem mro_of {C : Addr} {x : Str} {bm : List Value} {cd : Value → Prop} (h : ∃ q N bs sn sub ab col dd k0 k1 k2 k3 k5, K.lookup C = some (excClassObj x q C N bs bm true sn sub ab col dd k0 k1 k2 k3 k5 "ValueError.__new__")) (u : Value) :
    PySem.W.mroIn K C u = some ((Value.ref C :: bm).contains u) ∧ (PySem.W.clsIn K C).isSome = true ∧ PySem.W.hasDictIn K C = true ∧ PySem.W.typeIn K (.ref C) = some (.type "type") := by
  obtain ⟨q, N, bs, sn, sub, ab, col, dd, k0, k1, k2, k3, k5, h⟩ := h
  have e : ∃ cd, PySem.W.clsIn K C = some cd ∧ cd.mro = .ref C :: bm ∧ cd.hasDict = true := by
    unfold PySem.W.clsIn
    rw [h]
    exact ⟨_, rfl, rfl, rfl⟩
  obtain ⟨cd, e1, e2, e3⟩ := e
  refine ⟨?_, ?_, ?_, ?_⟩
  · unfold PySem.W.mroIn
    rw [e1, Option.bind_some, e2]
    rfl
  · rw [e1]
    rfl
  · unfold PySem.W.hasDictIn
    rw [e1]
    exact e3
  · show (K.lookup C).map (·.cls) = _
    rw [h]
    rfl
theorem EC.sub (T : EC P K mg F x qual st C) (u : Value) : PySem.W.subIn K (.ref C) u = some ((Value.ref C :: .ref F :: veT).contains u) := (mro_of (cd := fun _ => True) T.lk u).1
theorem EC.own (T : EC P K mg F x qual st C) (B : Base K mg b F) : Own P K C qual st := by
  refine ⟨?_, T.sa, B.op, T.sup, ?_, ?_, T.fn⟩
  · obtain ⟨q, N, bs, sn, sub, ab, col, dd, k0, k1, k2, k3, k5, h⟩ := T.lk
    exact ⟨_, _, _, _, _, _, _, _, _, _, _, _, _, _, _, h, rfl⟩
  · refine ((mro_of (cd := fun _ => True) T.lk _).1).trans ?_
    rw [List.contains_cons, beq_self_eq_true]
    rfl
  · exact T.sub _
theorem EC.err (T : EC P K mg F x qual st C) (B : Base K mg b F) : ErrC P K mg x qual st C := by
  have m := mro_of (cd := fun _ => True) T.lk (.type "BaseException")
  exact ⟨T.own B, T.g, T.kC, T.sub _, m.2.2.2⟩
theorem EC.xf (T : EC P K mg F x qual st C) : XfC K C := ⟨T.ga, T.gg, T.sub _, (mro_of (cd := fun _ => True) T.lk .none).2.2.1⟩
theorem EC.is (T : EC P K mg F x qual st C) (B : Base K mg b F) : IsC K C := ⟨T.xf, T.ha, B.hn, B.ht, T.sub _⟩
/-- which classes it is of -/
theorem kit_ref {D : Addr} (m : (PySem.W.clsIn K D).isSome = true ∧ PySem.W.typeIn K (.ref D) = some (.type "type")) (T : EC P K mg F x qual st C) : PySem.W.kitOne K (.ref C) (.ref D) = some (decide (C = D) || decide (F = D)) := by
  unfold PySem.W.kitOne
  by_cases h : C = D
  · subst h
    rw [if_pos (beq_self_eq_true _), decide_eq_true rfl]
    rfl
  · have hb : (Value.ref C == Value.ref D) = false := beq_eq_false_iff_ne.mpr fun z => h (Value.ref.inj z)
    have hb2 : (Value.ref D == Value.ref C) = false := beq_eq_false_iff_ne.mpr fun z => h (Value.ref.inj z).symm
    rw [if_neg (by rw [hb]; exact Bool.false_ne_true), decide_eq_false h, Bool.false_or]
    show (if _ then _ else _) = _
    have e : ((PySem.W.clsIn K D).isSome && PySem.W.typeIn K (.ref D) == some (.type "type")) = true := by
      rw [m.1, m.2]
      rfl
    rw [if_pos e, T.sub]
    congr 1
    rw [List.contains_cons, hb2, Bool.false_or, List.contains_cons]
    by_cases g : F = D
    · subst g
      rw [beq_self_eq_true, decide_eq_true rfl, Bool.true_or]
    · have gb : (Value.ref D == Value.ref F) = false := beq_eq_false_iff_ne.mpr fun z => g (Value.ref.inj z).symm
      rw [gb, decide_eq_false g, Bool.false_or]
      rfl
theorem EC.kitE (T : EC P K mg F x qual st C) (U : EC P K mg F y q2 st2 D) (ne : F ≠ D) : PySem.W.kitOne K (.ref C) (.ref D) = some (decide (C = D)) := by
  have m := mro_of (cd := fun _ => True) U.lk .none
  rw [kit_ref ⟨m.2.1, m.2.2.2⟩ T, decide_eq_false ne, Bool.or_false]
theorem EC.kitB (T : EC P K mg F x qual st C) {n : String} (h : PySem.W.kitMeta n = true) : PySem.W.kitOne K (.ref C) (.type n) = some (veT.contains (.type n)) := by
  unfold PySem.W.kitOne
  rw [if_neg (by rw [show (Value.ref C == Value.type n) = false from rfl]; exact Bool.false_ne_true)]
  show (if PySem.W.kitMeta n = true then _ else _) = _
  rw [if_pos h, T.sub]
  rfl
theorem EC.exm (T : EC P K mg F x qual st C) (B : Base K mg b F) : PySem.W.exmOne K (.ref C) (.ref F) = some true := by
  have m := mro_of (cd := fun _ => True) B.lk (.type "BaseException")
  have e1 : PySem.W.subIn K (.ref F) (.type "BaseException") = some true := m.1
  have e2 : ((PySem.W.clsIn K F).isSome && PySem.W.typeIn K (.ref F) == some (.type "type")) = true := by
    rw [m.2.1, m.2.2.2]
    rfl
  unfold PySem.W.exmOne
  rw [e1, if_pos (beq_self_eq_true _)]
  show (if _ then _ else _) = _
  rw [if_pos e2, T.sub]
  congr 1
  rw [List.contains_cons, List.contains_cons, beq_self_eq_true, Bool.true_or, Bool.or_true]
/-- classes of unlike names are unlike -/
theorem EC.ne (T : EC P K mg F x qual st C) (U : EC P K mg F y q2 st2 D) (n : x ≠ y) : C ≠ D := fun z => by
  subst z
  obtain ⟨q, N, bs, sn, sub, ab, col, dd, k0, k1, k2, k3, k5, h⟩ := T.lk
  obtain ⟨q', N', bs', sn', sub', ab', col', dd', k0', k1', k2', k3', k5', h'⟩ := U.lk
  rw [h] at h'
  injection h' with h'
  injection h' with _ _ h' _
  injection h' with h'
  injection h' with h'
  exact n h'
theorem EC.neB (T : EC P K mg F x qual st C) (B : Base K mg b F) (n : b ≠ x) : F ≠ C := fun z => by
  subst z
  obtain ⟨q, N, bs, sn, sub, ab, col, dd, k0, k1, k2, k3, k5, h⟩ := B.lk
  obtain ⟨q', N', bs', sn', sub', ab', col', dd', k0', k1', k2', k3', k5', h'⟩ := T.lk
  rw [h] at h'
  injection h' with h'
  injection h' with _ _ h' _
  injection h' with h'
  injection h' with h'
  exact n h'
end
end Err
set_option Elab.async false
set_option linter.all false
set_option maxRecDepth 100000
set_option maxHeartbeats 4000000
/-! Whether two stretches meet: boxes and sides of lines, against shares of the ways; over the integers. -/
namespace Seg
/-- left of the line above 0 -/
def cr (a b c d e f : Int) : Int := (c - a) * (f - b) - (d - b) * (e - a)
/-- between, in one coordinate -/
def btw (p q r : Int) : Prop := (q ≤ p ∧ p ≤ r) ∨ (r ≤ p ∧ p ≤ q)
theorem nonpos_of_btw {p q r : Int} (h : btw p q r) : (p - q) * (p - r) ≤ 0 := by
  rcases h with ⟨h1, h2⟩ | ⟨h1, h2⟩
  · exact Int.mul_nonpos_of_nonneg_of_nonpos (by omega) (by omega)
  · exact Int.mul_nonpos_of_nonpos_of_nonneg (by omega) (by omega)
theorem btw_of_nonpos {p q r : Int} (h : (p - q) * (p - r) ≤ 0) : btw p q r := by
  unfold btw
  by_cases h1 : 0 < p - q
  · by_cases h2 : 0 < p - r
    · have := Int.mul_pos h1 h2
      omega
    · omega
  · by_cases h2 : p - q < 0
    · by_cases h3 : p - r < 0
      · have := Int.mul_pos_of_neg_of_neg h2 h3
        omega
      · omega
    · have e : p = q := by omega
      subst e
      omega
theorem sq_pos {x : Int} (h : x ≠ 0) : 0 < x * x := by
  rcases Int.lt_or_gt_of_ne h with h | h
  · exact Int.mul_pos_of_neg_of_neg h h
  · exact Int.mul_pos h h
theorem sq_zero {x : Int} (h : x * x ≤ 0) : x = 0 := Classical.byContradiction fun n => by
  have := sq_pos n
  omega
/-- along one line, what is between in the one coordinate is between in the other one -/
theorem along {m n s t : Int} (e : m * t = n * s) (h : m * (m + s) ≤ 0) (z : s = 0 → m = 0 → n = 0) : n * (n + t) ≤ 0 := by
  by_cases s0 : s = 0
  · have m0 : m = 0 := by
      rw [s0, Int.add_zero] at h
      exact sq_zero h
    rw [z s0 m0]
    simp
  · have k : n * (n + t) * (s * s) = t * t * (m * (m + s)) := by
      have e1 : n * (n + t) * (s * s) = (n * s) * (n * s + t * s) := by
        rw [Int.mul_add, Int.add_mul, Int.mul_add]
        have x1 : n * n * (s * s) = n * s * (n * s) := by
          ac_rfl
        have x2 : n * t * (s * s) = n * s * (t * s) := by
          ac_rfl
        rw [x1, x2]
      have e2 : t * t * (m * (m + s)) = (m * t) * (m * t + t * s) := by
        rw [Int.mul_add, Int.mul_add, Int.mul_add]
        have x1 : t * t * (m * m) = m * t * (m * t) := by
          ac_rfl
        have x2 : t * t * (m * s) = m * t * (t * s) := by
          ac_rfl
        rw [x1, x2]
      rw [e1, e2, e]
    have p := sq_pos s0
    refine Classical.byContradiction fun nn => ?_
    have q1 : 0 < n * (n + t) * (s * s) := Int.mul_pos (by omega) p
    have q2 : t * t * (m * (m + s)) ≤ 0 := Int.mul_nonpos_of_nonneg_of_nonpos (by
      by_cases t0 : t = 0
      · rw [t0]
        decide
      · exact Int.le_of_lt (sq_pos t0)) h
    omega
/-- a point that two stretches share lies in both boxes -/
theorem box1 {a c e g b al sh : Int} (hb : 0 < b) (l1 : 0 ≤ al) (l2 : al ≤ b) (r1 : 0 ≤ sh) (r2 : sh ≤ b) (id : (b - al) * a + al * c = (b - sh) * e + sh * g) : ¬ (max a c < min e g) ∧ ¬ (max e g < min a c) := by
  have up : ∀ {x y z k : Int}, 0 ≤ k → k ≤ b → x ≤ z → y ≤ z → (b - k) * x + k * y ≤ b * z := by
    intro x y z k k1 k2 h1 h2
    have q1 := Int.mul_le_mul_of_nonneg_left h1 (show 0 ≤ b - k by omega)
    have q2 := Int.mul_le_mul_of_nonneg_left h2 k1
    have q3 : (b - k) * z + k * z = b * z := by
      rw [← Int.add_mul]
      congr 1
      omega
    omega
  have lo : ∀ {x y z k : Int}, 0 ≤ k → k ≤ b → z ≤ x → z ≤ y → b * z ≤ (b - k) * x + k * y := by
    intro x y z k k1 k2 h1 h2
    have q1 := Int.mul_le_mul_of_nonneg_left h1 (show 0 ≤ b - k by omega)
    have q2 := Int.mul_le_mul_of_nonneg_left h2 k1
    have q3 : (b - k) * z + k * z = b * z := by
      rw [← Int.add_mul]
      congr 1
      omega
    omega
  constructor
  · intro h
    have q1 := up (z := max a c) l1 l2 (Int.le_max_left a c) (Int.le_max_right a c)
    have q2 := lo (z := min e g) r1 r2 (Int.min_le_left e g) (Int.min_le_right e g)
    have q3 := Int.mul_lt_mul_of_pos_left h hb
    omega
  · intro h
    have q1 := lo (z := min a c) l1 l2 (Int.min_le_left a c) (Int.min_le_right a c)
    have q2 := up (z := max e g) r1 r2 (Int.le_max_left e g) (Int.le_max_right e g)
    have q3 := Int.mul_lt_mul_of_pos_left h hb
    omega
/-- shares between 0 and 1, as products tell it and as signs -/
theorem share_iff {s b : Int} (h : b ≠ 0) : (0 ≤ s * b ∧ s * b ≤ b * b) ↔ ((0 < b ∧ 0 ≤ s ∧ s ≤ b) ∨ (b < 0 ∧ s ≤ 0 ∧ b ≤ s)) := by
  rcases Int.lt_or_gt_of_ne h with n | p
  · constructor
    · rintro ⟨h1, h2⟩
      refine .inr ⟨n, ?_, ?_⟩
      · refine Classical.byContradiction fun k => ?_
        have := Int.mul_neg_of_pos_of_neg (show 0 < s by omega) n
        omega
      · refine Classical.byContradiction fun k => ?_
        have := Int.mul_lt_mul_of_neg_right (show s < b by omega) n
        omega
    · rintro (⟨h1, _⟩ | ⟨_, h1, h2⟩)
      · omega
      · exact ⟨Int.mul_nonneg_of_nonpos_of_nonpos h1 (by omega), Int.mul_le_mul_of_nonpos_right h2 (by omega)⟩
  · constructor
    · rintro ⟨h1, h2⟩
      refine .inl ⟨p, ?_, ?_⟩
      · refine Classical.byContradiction fun k => ?_
        have := Int.mul_neg_of_neg_of_pos (show s < 0 by omega) p
        omega
      · refine Classical.byContradiction fun k => ?_
        have := Int.mul_lt_mul_of_pos_right (show b < s by omega) p
        omega
    · rintro (⟨_, h1, h2⟩ | ⟨h1, _⟩)
      · exact ⟨Int.mul_nonneg h1 (by omega), Int.mul_le_mul_of_nonneg_right h2 (by omega)⟩
      · omega
end Seg
set_option Elab.async false
set_option linter.all false
set_option maxRecDepth 100000
set_option maxHeartbeats 4000000
namespace Seg
def cw (x y z w : Int) : Int := x * w - y * z
def Bes (p q : Int) : Prop := (0 < p ∧ 0 < q) ∨ (p < 0 ∧ q < 0)
def Box (a c e g : Int) : Prop := ¬ (max a c < min e g) ∧ ¬ (max e g < min a c)
def Inn (p p' q q' r r' : Int) : Prop := (p - q) * (p - r) ≤ 0 ∧ (p' - q') * (p' - r') ≤ 0
/-- the program's way -/
def Sm (a b c d e f g h : Int) : Prop := Box a c e g ∧ Box b d f h ∧ ¬ Bes (cr a b c d e f) (cr a b c d g h) ∧ ¬ Bes (cr e f g h a b) (cr e f g h c d)
/-- by shares -/
def Lc (a b c d e f g h : Int) : Prop :=
  (cw (c - a) (d - b) (g - e) (h - f) ≠ 0 ∧ (0 ≤ cw (e - a) (f - b) (g - e) (h - f) * cw (c - a) (d - b) (g - e) (h - f) ∧ cw (e - a) (f - b) (g - e) (h - f) * cw (c - a) (d - b) (g - e) (h - f) ≤ cw (c - a) (d - b) (g - e) (h - f) * cw (c - a) (d - b) (g - e) (h - f)) ∧
    (0 ≤ cw (e - a) (f - b) (c - a) (d - b) * cw (c - a) (d - b) (g - e) (h - f) ∧ cw (e - a) (f - b) (c - a) (d - b) * cw (c - a) (d - b) (g - e) (h - f) ≤ cw (c - a) (d - b) (g - e) (h - f) * cw (c - a) (d - b) (g - e) (h - f))) ∨
  (cw (c - a) (d - b) (g - e) (h - f) = 0 ∧ ((cw (a - e) (b - f) (g - e) (h - f) = 0 ∧ Inn a b e f g h) ∨ (cw (c - e) (d - f) (g - e) (h - f) = 0 ∧ Inn c d e f g h) ∨
    (cw (e - a) (f - b) (c - a) (d - b) = 0 ∧ Inn e f a b c d) ∨ (cw (g - a) (h - b) (c - a) (d - b) = 0 ∧ Inn g h a b c d)))
theorem box_of {p q r : Int} (x : Int) (h : btw p q r) : Box p x q r := by
  unfold btw at h
  unfold Box
  omega
theorem box_sym {a c e g : Int} (h : Box a c e g) : Box e g a c := ⟨h.2, h.1⟩
theorem box_swp {a c e g : Int} (h : Box a c e g) : Box c a e g := by
  unfold Box at *
  omega
theorem one_of {a c e g : Int} (h : Box a c e g) : btw a e g ∨ btw c e g ∨ btw e a c ∨ btw g a c := by
  unfold Box at h
  unfold btw
  omega
/-- what is along a direction that isn't 0, is along one that is along it -/
theorem cross_trans {m n u v s t : Int} (e1 : m * t = n * s) (e2 : u * t = v * s) (z : ¬ (s = 0 ∧ t = 0)) : m * v = n * u := by
  by_cases s0 : s = 0
  · have t0 : t ≠ 0 := fun q => z ⟨s0, q⟩
    rw [s0, Int.mul_zero] at e1 e2
    have m0 := (Int.mul_eq_zero.mp e1).resolve_right t0
    have u0 := (Int.mul_eq_zero.mp e2).resolve_right t0
    rw [m0, u0]
    simp
  · refine Int.eq_of_mul_eq_mul_right s0 ?_
    have x1 : m * v * s = m * (v * s) := Int.mul_assoc _ _ _
    have x2 : n * u * s = n * s * u := by ac_rfl
    rw [x1, x2, ← e1, ← e2]
    ac_rfl
/-- the four ends, of stretches in one line -/
theorem flat {a b m n u v s t : Int} (B : u * t = v * s) : (Box a (a + u) (a + m) (a + m + s) ∧ Box b (b + v) (b + n) (b + n + t) ∧ m * v = n * u ∧ m * t = n * s) ↔
    ((m * t = n * s ∧ btw a (a + m) (a + m + s) ∧ btw b (b + n) (b + n + t)) ∨ (m * t = n * s ∧ btw (a + u) (a + m) (a + m + s) ∧ btw (b + v) (b + n) (b + n + t)) ∨
      (m * v = n * u ∧ btw (a + m) a (a + u) ∧ btw (b + n) b (b + v)) ∨ (m * v = n * u ∧ btw (a + m + s) a (a + u) ∧ btw (b + n + t) b (b + v))) := by
  have nz : ∀ {p q r : Int}, btw p q r → q = r → p = q := by
    intro p q r h e
    unfold btw at h
    omega
  have mu_t : m * t = n * s → (m - u) * t = (n - v) * s := fun e => by
    rw [Int.sub_mul, Int.sub_mul, e, B]
  have ms_v : m * v = n * u → (m + s) * v = (n + t) * u := fun e => by
    rw [Int.add_mul, Int.add_mul, e, Int.mul_comm s v, Int.mul_comm t u, B]
  constructor
  · rintro ⟨bx, by_, sh, ab⟩
    have go : ∀ {x m1 n1 s1 t1 y : Int}, m1 * t1 = n1 * s1 → btw x (x + m1) (x + m1 + s1) → (s1 = 0 → m1 = 0 → n1 = 0) → btw y (y + n1) (y + n1 + t1) := by
      intro x m1 n1 s1 t1 y e hx z
      refine btw_of_nonpos ?_
      have h1 := nonpos_of_btw hx
      have k1 : (x - (x + m1)) * (x - (x + m1 + s1)) = m1 * (m1 + s1) := by
        rw [show x - (x + m1) = -m1 by omega, show x - (x + m1 + s1) = -(m1 + s1) by omega, Int.neg_mul_neg]
      have k2 : (y - (y + n1)) * (y - (y + n1 + t1)) = n1 * (n1 + t1) := by
        rw [show y - (y + n1) = -n1 by omega, show y - (y + n1 + t1) = -(n1 + t1) by omega, Int.neg_mul_neg]
      rw [k1] at h1
      rw [k2]
      exact along e h1 z
    by_cases us : u = 0 ∧ s = 0
    · obtain ⟨u0, s0⟩ := us
      subst u0
      subst s0
      have m0 : m = 0 := by
        unfold Box at bx
        omega
      subst m0
      have t1 : ∀ {x y z : Int}, x = y → y = z → btw x y z := by
        intro x y z h1 h2
        unfold btw
        omega
      rcases one_of by_ with h | h | h | h
      · exact .inl ⟨ab, t1 (by omega) (by omega), h⟩
      · exact .inr (.inl ⟨ab, t1 (by omega) (by omega), h⟩)
      · exact .inr (.inr (.inl ⟨sh, t1 (by omega) (by omega), h⟩))
      · exact .inr (.inr (.inr ⟨sh, t1 (by omega) (by omega), h⟩))
    · have zn : ∀ {m1 n1 : Int}, m1 * v = n1 * u → s = 0 → m1 = 0 → n1 = 0 := by
        intro m1 n1 e s0 m0
        rw [m0, Int.zero_mul] at e
        exact (Int.mul_eq_zero.mp e.symm).resolve_right fun q => us ⟨q, s0⟩
      have zn2 : ∀ {m1 n1 : Int}, m1 * t = n1 * s → u = 0 → m1 = 0 → n1 = 0 := by
        intro m1 n1 e u0 m0
        rw [m0, Int.zero_mul] at e
        exact (Int.mul_eq_zero.mp e.symm).resolve_right fun q => us ⟨u0, q⟩
      rcases one_of bx with h | h | h | h
      · exact .inl ⟨ab, h, go ab h (zn sh)⟩
      · refine .inr (.inl ⟨ab, h, ?_⟩)
        have e := mu_t ab
        have h' : btw (a + u) (a + u + (m - u)) (a + u + (m - u) + s) := by
          rw [show a + u + (m - u) = a + m by omega]
          exact h
        have r := go (y := b + v) e h' (zn (by rw [Int.sub_mul, Int.sub_mul, sh, Int.mul_comm u v]))
        rw [show b + v + (n - v) = b + n by omega] at r
        exact r
      · refine .inr (.inr (.inl ⟨sh, h, ?_⟩))
        have h' : btw (a + m) (a + m + (-m)) (a + m + (-m) + u) := by
          rw [show a + m + (-m) = a by omega]
          exact h
        have r := go (y := b + n) (m1 := -m) (n1 := -n) (t1 := v) (by rw [Int.neg_mul, Int.neg_mul, sh]) h' (fun u0 m0 => by
          have := zn2 ab u0 (by omega)
          omega)
        rw [show b + n + (-n) = b by omega] at r
        exact r
      · refine .inr (.inr (.inr ⟨sh, h, ?_⟩))
        have e := ms_v sh
        have h' : btw (a + m + s) (a + m + s + (-(m + s))) (a + m + s + (-(m + s)) + u) := by
          rw [show a + m + s + (-(m + s)) = a by omega]
          exact h
        have r := go (y := b + n + t) (m1 := -(m + s)) (n1 := -(n + t)) (t1 := v) (by rw [Int.neg_mul, Int.neg_mul, e]) h' (fun u0 m0 => by
          have := zn2 (m1 := m + s) (n1 := n + t) (by rw [Int.add_mul, Int.add_mul, ab, Int.mul_comm s t]) u0 (by omega)
          omega)
        rw [show b + n + t + (-(n + t)) = b by omega] at r
        exact r
  · rintro (⟨e, h1, h2⟩ | ⟨e, h1, h2⟩ | ⟨e, h1, h2⟩ | ⟨e, h1, h2⟩)
    · refine ⟨box_of _ h1, box_of _ h2, ?_, e⟩
      by_cases z : s = 0 ∧ t = 0
      · have m0 := nz h1 (by omega)
        have n0 := nz h2 (by omega)
        rw [show m = 0 by omega, show n = 0 by omega]
        simp
      · exact cross_trans e B z
    · refine ⟨box_swp (box_of _ h1), box_swp (box_of _ h2), ?_, e⟩
      by_cases z : s = 0 ∧ t = 0
      · have m0 := nz h1 (by omega)
        have n0 := nz h2 (by omega)
        rw [show m = u by omega, show n = v by omega]
        exact Int.mul_comm _ _
      · exact cross_trans e B z
    · refine ⟨box_sym (box_of _ h1), box_sym (box_of _ h2), e, ?_⟩
      by_cases z : u = 0 ∧ v = 0
      · have m0 := nz h1 (by omega)
        have n0 := nz h2 (by omega)
        rw [show m = 0 by omega, show n = 0 by omega]
        simp
      · exact cross_trans (s := u) (t := v) (u := s) (v := t) e (by rw [Int.mul_comm s v, Int.mul_comm t u, B]) z
    · refine ⟨box_sym (box_swp (box_of _ h1)), box_sym (box_swp (box_of _ h2)), e, ?_⟩
      by_cases z : u = 0 ∧ v = 0
      · have m0 := nz h1 (by omega)
        have n0 := nz h2 (by omega)
        rw [show s = -m by omega, show t = -n by omega, Int.mul_neg, Int.mul_neg, Int.mul_comm]
      · exact cross_trans (s := u) (t := v) (u := s) (v := t) e (by rw [Int.mul_comm s v, Int.mul_comm t u, B]) z
end Seg
set_option Elab.async false
set_option linter.all false
set_option maxRecDepth 100000
set_option maxHeartbeats 4000000
namespace Seg
theorem bes_iff {p q A : Int} (h1 : p = A) (h2 : q = A) : (¬ Bes p q) ↔ A = 0 := by
  unfold Bes
  omega
theorem inn_iff {p p' q q' r r' : Int} : Inn p p' q q' r r' ↔ (btw p q r ∧ btw p' q' r') :=
  ⟨fun h => ⟨btw_of_nonpos h.1, btw_of_nonpos h.2⟩, fun h => ⟨nonpos_of_btw h.1, nonpos_of_btw h.2⟩⟩
theorem main0 (a b m n u v s t : Int) : Sm a b (a + u) (b + v) (a + m) (b + n) (a + m + s) (b + n + t) ↔ Lc a b (a + u) (b + v) (a + m) (b + n) (a + m + s) (b + n + t) := by
  unfold Sm Lc cr cw
  have d1 : a + u - a = u := by omega
  have d2 : b + v - b = v := by omega
  have d3 : a + m - a = m := by omega
  have d4 : b + n - b = n := by omega
  have d5 : a + m + s - (a + m) = s := by omega
  have d6 : b + n + t - (b + n) = t := by omega
  have d7 : a + m + s - a = m + s := by omega
  have d8 : b + n + t - b = n + t := by omega
  have d9 : a - (a + m) = -m := by omega
  have d10 : b - (b + n) = -n := by omega
  have d11 : a + u - (a + m) = u - m := by omega
  have d12 : b + v - (b + n) = v - n := by omega
  rw [d1, d2, d3, d4, d5, d6, d7, d8, d9, d10, d11, d12]
  have c1 : u * n - v * m = -(m * v - n * u) := by
    rw [Int.mul_comm u n, Int.mul_comm v m]
    omega
  have c2 : u * (n + t) - v * (m + s) = (u * t - v * s) - (m * v - n * u) := by
    rw [Int.mul_add, Int.mul_add, Int.mul_comm u n, Int.mul_comm v m]
    omega
  have c3 : s * -n - t * -m = m * t - n * s := by
    rw [Int.mul_neg, Int.mul_neg, Int.mul_comm s n, Int.mul_comm t m]
    omega
  have c4 : s * (v - n) - t * (u - m) = (m * t - n * s) - (u * t - v * s) := by
    rw [Int.mul_sub, Int.mul_sub, Int.mul_comm s n, Int.mul_comm t m, Int.mul_comm s v, Int.mul_comm t u]
    omega
  have c5 : -m * t - -n * s = -(m * t - n * s) := by
    rw [Int.neg_mul, Int.neg_mul]
    omega
  have c6 : (u - m) * t - (v - n) * s = (u * t - v * s) - (m * t - n * s) := by
    rw [Int.sub_mul, Int.sub_mul]
    omega
  have c7 : (m + s) * v - (n + t) * u = (m * v - n * u) - (u * t - v * s) := by
    rw [Int.add_mul, Int.add_mul, Int.mul_comm s v, Int.mul_comm t u]
    omega
  rw [c1, c2, c3, c4, c5, c6, c7]
  have id1 : (m * t - n * s) * u = (u * t - v * s) * m + (m * v - n * u) * s := by
    simp only [Int.sub_mul]
    have x1 : m * t * u = u * t * m := by ac_rfl
    have x2 : n * s * u = n * u * s := by ac_rfl
    have x3 : v * s * m = m * v * s := by ac_rfl
    omega
  have id2 : (m * t - n * s) * v = (u * t - v * s) * n + (m * v - n * u) * t := by
    simp only [Int.sub_mul]
    have x1 : m * t * v = m * v * t := by ac_rfl
    have x2 : n * s * v = v * s * n := by ac_rfl
    have x3 : u * t * n = n * u * t := by ac_rfl
    omega
  have flatE : u * t = v * s → _ := fun e => flat (a := a) (b := b) (m := m) (n := n) e
  have eB : u * t - v * s = 0 ↔ u * t = v * s := by omega
  have eA : m * t - n * s = 0 ↔ m * t = n * s := by omega
  have eS : m * v - n * u = 0 ↔ m * v = n * u := by omega
  rw [eB] at *
  generalize hB : u * t - v * s = B at *
  generalize hA : m * t - n * s = A at *
  generalize hS : m * v - n * u = S at *
  simp only [inn_iff]
  by_cases z : B = 0
  · have E : u * t = v * s := by omega
    have fl := flatE E
    rw [bes_iff (A := -S) rfl (by omega), bes_iff (A := A) rfl (by omega)]
    have r1 : (-A = 0) ↔ m * t = n * s := by omega
    have r2 : (B - A = 0) ↔ m * t = n * s := by omega
    have r3 : (S - B = 0) ↔ m * v = n * u := by omega
    have r4 : (-S = 0) ↔ m * v = n * u := by omega
    rw [r1, r2, r3, r4, eA, eS]
    constructor
    · rintro ⟨b1, b2, h1, h2⟩
      exact .inr ⟨E, fl.mp ⟨b1, b2, h1, h2⟩⟩
    · rintro (⟨q, _⟩ | ⟨_, q⟩)
      · exact absurd z q
      · exact fl.mpr q
  · rw [share_iff z, share_iff z]
    constructor
    · rintro ⟨_, _, h1, h2⟩
      unfold Bes at h1 h2
      refine .inl ⟨fun q => z (by omega), ?_, ?_⟩ <;> omega
    · rintro (⟨_, h1, h2⟩ | ⟨q, _⟩)
      · have lin : ∀ (x w k : Int) (p y z : Int), A * y = B * x + S * z → (B - A) * p + A * (p + y) = (B - S) * (p + x) + S * (p + x + z) := by
          intro x w k p y z e
          simp only [Int.sub_mul, Int.mul_add]
          omega
        have lin2 : ∀ (x p y z : Int), A * y = B * x + S * z → (-B - -A) * p + -A * (p + y) = (-B - -S) * (p + x) + -S * (p + x + z) := by
          intro x p y z e
          simp only [Int.sub_mul, Int.mul_add, Int.neg_mul]
          omega
        have bxs : Box a (a + u) (a + m) (a + m + s) ∧ Box b (b + v) (b + n) (b + n + t) := by
          rcases h1 with ⟨p, l1, l2⟩ | ⟨p, l1, l2⟩
          · have r : 0 ≤ S ∧ S ≤ B := by omega
            exact ⟨box1 p l1 l2 r.1 r.2 (lin _ 0 0 _ _ _ id1), box1 p l1 l2 r.1 r.2 (lin _ 0 0 _ _ _ id2)⟩
          · have r : S ≤ 0 ∧ B ≤ S := by omega
            exact ⟨box1 (b := -B) (al := -A) (sh := -S) (by omega) (by omega) (by omega) (by omega) (by omega) (lin2 _ _ _ _ id1), box1 (b := -B) (al := -A) (sh := -S) (by omega) (by omega) (by omega) (by omega) (by omega) (lin2 _ _ _ _ id2)⟩
        refine ⟨bxs.1, bxs.2, ?_, ?_⟩ <;> (unfold Bes; omega)
      · exact absurd (show B = 0 by omega) z
theorem main (a b c d e f g h : Int) : Sm a b c d e f g h ↔ Lc a b c d e f g h := by
  have x := main0 a b (e - a) (f - b) (c - a) (d - b) (g - e) (h - f)
  rw [show a + (c - a) = c by omega, show b + (d - b) = d by omega, show a + (e - a) = e by omega, show b + (f - b) = f by omega, show e + (g - e) = g by omega, show f + (h - f) = h by omega] at x
  exact x
theorem cr_swap (a b c d e f : Int) : cr c d a b e f = -cr a b c d e f := by
  unfold cr
  obtain ⟨u, rfl⟩ : ∃ u, c = a + u := ⟨c - a, by omega⟩
  obtain ⟨v, rfl⟩ : ∃ v, d = b + v := ⟨d - b, by omega⟩
  rw [show a - (a + u) = -u by omega, show b - (b + v) = -v by omega, show a + u - a = u by omega, show b + v - b = v by omega, show f - (b + v) = (f - b) - v by omega, show e - (a + u) = (e - a) - u by omega]
  rw [show e - a - u = (e - a) - u from rfl, Int.neg_mul, Int.neg_mul, Int.mul_sub u, Int.mul_sub v, Int.mul_comm u v]
  omega
theorem sm_turn (a b c d e f g h : Int) : Sm e f g h a b c d ↔ Sm a b c d e f g h := by
  unfold Sm
  constructor
  · rintro ⟨h1, h2, h3, h4⟩
    exact ⟨box_sym h1, box_sym h2, h4, h3⟩
  · rintro ⟨h1, h2, h3, h4⟩
    exact ⟨box_sym h1, box_sym h2, h4, h3⟩
theorem sm_flip (a b c d e f g h : Int) : Sm c d a b e f g h ↔ Sm a b c d e f g h := by
  unfold Sm
  rw [cr_swap a b c d e f, cr_swap a b c d g h]
  generalize cr a b c d e f = p
  generalize cr a b c d g h = q
  generalize cr e f g h a b = x
  generalize cr e f g h c d = y
  constructor
  · rintro ⟨h1, h2, h3, h4⟩
    exact ⟨box_swp h1, box_swp h2, by unfold Bes at *; omega, by unfold Bes at *; omega⟩
  · rintro ⟨h1, h2, h3, h4⟩
    exact ⟨box_swp h1, box_swp h2, by unfold Bes at *; omega, by unfold Bes at *; omega⟩
theorem sm_self (a b g h : Int) : Sm a b a b a b g h := by
  unfold Sm cr Bes Box
  rw [show a - a = 0 by omega, show b - b = 0 by omega]
  simp only [Int.zero_mul, Int.mul_zero]
  omega
end Seg
set_option Elab.async false
set_option linter.all false
set_option maxRecDepth 100000
set_option maxHeartbeats 2000000
/-! Tools of my own over the hand layer: repr of data, calls by keywords alone, the law's call where nothing is being shown, the script as a dune. -/
namespace Bay
open PySem PySem.Spec PyProof.Rows L2
/-! ### repr of a list or tuple of plain data, where no repr runs around -/
def rShow (K : PySem.W.Frag) : List V → Hp → VK → Prop := fun xs H Q => ∃ (p : Addr) (d : PyData), xs = [V.ref p] ∧ Dp K H (.ref p) d ∧
  d.showable = true ∧ d.hasDict = false ∧ d.depth ≤ 60 ∧ d.shown.length ≤ sizeLine ∧ Q (.str d.shown) H
theorem call_show {X : Cx} (gu : X.A.guards = some []) (un : X.A.units + 64 < cLine) : CallR X (.builtin "repr") (rShow X.K) := by
  intro pins s σ H xs us Q I r h
  obtain ⟨p, d, rfl, hd, sh, nd, dp, sz, q⟩ := h
  obtain ⟨u, rfl, ru⟩ := vals1 r
  cases (show u = Value.ref p from ru)
  obtain ⟨as, rd⟩ := Dp.reads I d _ _ hd rfl
  refine repr_of_reads' rd sh (PyData.noDict_hsm nd) gu (by omega) (fun _ _ e => e) (fun h' u tk kp => ?_) sz
  exact ⟨.str d.shown, H, I.kept kp, ⟨_, rfl⟩, q⟩
/-! ### a def called by keywords alone -/
theorem pe_callN0 {X : Cx} {CX : CXT} {k : Nat} {f : Addr} {fd : FuncData} {ps ks : List Str} {sp : Sp} {E : XK} {x : Str} {p pos : Pos} {kws : List Keyword} {tk : TA} {g : List Value → List Value → List Value} {gV : List V → List V → List V}
    (F : FnOk X.prog X.w X.K X.mg X.base CX k f fd ps sp) (room : Room k X.A) (gl : Gl X x) (at_ : X.mg x = some (.ref f)) (kp : PySem.W.keepIn X.K (.ref f) = true) (bd : KBn X.K fd ps 0 ks g gV) (ps_ : Passes CX X E) (words : PK X kws tk)
    (named : (backToKw pos (keywordEach kws X.env)).all (·.1.isSome) = true := by rfl) (names : (backToKw pos (keywordEach kws X.env)).filterMap (·.1) = ks := by rfl)
    (plain : ((backTo pos (starEach [] X.env)).any (·.1) || (backToKw pos (keywordEach kws X.env)).any (·.1.isNone)) = false := by rfl) (nodb : (x == ("__debug__" : Str)) = false := by decide) :
    PE X (.Call (.Name x p) [] kws pos) (tCallN 0 ks.length sp gV E tNil tk) := by
  constructor
  intro pins s σ H Q I h
  refine wpAny_Call_Name_kw (ld_glob I gl at_ (PySem.W.callWith_KW0 (h₀ := X.base) I.ok.mod.kin kp named ?_ plain) nodb)
  refine thn (words.run pos pins s σ H _ I h) ?_
  rintro ws t ⟨zs, G, J, rz, n1, n2, q⟩
  refine ⟨J.kIn, ?_⟩
  rw [names]
  exact run_fnN (us := []) (vs := []) F room bd ps_ J .nil rz n1 n2 q
/-- how keywords bind: h by «match ws, n with | [_, ..], _ => rfl» -/
theorem kbn_of {K : PySem.W.Frag} {x qual : Str} {st : Stmt} {f : Addr} {fd : FuncData} {ps ks : List Str} {gg : {α : Type} → List α → List α} (F : Fun K x qual st f fd)
    (bind : ∀ (kV doc pm : Value) (an : Option Addr) (cdv ct : Value) (ws : List Value), ws.length = ks.length → bindArgs (PySem.W.fnOf x qual (defArgs st) (defBody st) (defScope st) .none kV doc pm an cdv ct) ⟨[], ks.zip ws⟩ = pure (ps.zip (gg ws)))
    (rel : ∀ {zs : List V} {ws : List Value}, Vals zs ws → Vals (gg zs) (gg ws)) : KBn K fd ps 0 ks (fun _ ws => gg ws) (fun _ zs => gg zs) := by
  obtain ⟨oc, od, kV, doc, pm, an, cdv, ct, osl, rfl, lk, hcd⟩ := F.ex
  refine ⟨fun s us ws _ n1 n2 => ?_, fun _ r => rel r⟩
  cases us with
  | nil => exact .of_eq (bind kV doc pm an cdv ct ws n2)
  | cons u us => cases n1
/-! ### the law's def, run where nothing is around it -/
theorem run_law {P : Program} {w : World} {K : PySem.W.Frag} {mg mb : Str → Option Value} {fa a : Addr} {fd : FuncData} {st : Stmt} {N : List Str} {k : Nat} {t : Shared} {us : List Value} {ns : List Int}
    (F : Fun K "law" "law" st fa fd) (S : FnScope N ["script"] (defScope st)) (bnd : ∀ (s : Shared) (u : Value), BindsTo s fd ⟨[u], []⟩ [("script", u)])
    (kin : K.In t.heap) (glob : t.heap.Ns mainGlobals mg) (blt : t.heap.Ns builtinsNs mb) (bbb : ∀ x : Str, x ≠ "__name__" → mb x = bootBuiltins x) (lim : t.heap.NoLimit) (gens : t.gens = #[])
    (arg : t.heap.get? a = some { cls := .type "list", data := .seq us.toArray }) (nums : IntsAre us ns) (len : ns.length ≤ sizeLine) (room : Room (k + 1) callerA)
    (body : ∀ (base : Heap) (cdv : Value) (H : Hp), K.In base → base.Ns mainGlobals mg → SqL K H a (ns.map V.int) → Room k (callerA.deeper (envOfC "law" (defScope st) t.heap.objs.size fa cdv)) →
      ∃ r, PSs (cxOf CX0 P w K mg base N "law" (defScope st) fa cdv callerA [] t H E0).nox (defBody st) r ∧ r { nx := fun _ _ => False, rt := fun v _ => v = .bl true } (start N [.ref a]) H) :
    codeAny (model P w) callerA (.call (.ref fa) ⟨[.ref a], []⟩) (fun r s' => r = .ok (.ret (.bool true)) ∧ OldK t.heap s'.heap ∧ s'.os = t.os ∧ AllBare s'.gens) t := by
  have rv := vals_ints nums
  obtain ⟨oc, od, kV, doc, pm, an, cdv, ct, osl, rfl, lk, hcd⟩ := F.ex
  have go : ∀ H : Hp, (∀ b, H b = none ∨ (b = a ∧ ∃ o xs, H b = some (.frz o (.lst xs)))) → SqL K H a (ns.map V.int) → HOk P w H t.heap → (H a ≠ none → K.lookup a = none) →
      codeAny (model P w) callerA (.call (.ref fa) ⟨[.ref a], []⟩) (fun r s' => r = .ok (.ret (.bool true)) ∧ OldK t.heap s'.heap ∧ s'.os = t.os ∧ AllBare s'.gens) t := by
    intro H only sq hok apart
    have hid : ∀ {b : Addr} {o : Obj}, t.heap.get? b = some o → H b = none → (hidT t.heap H).get? b = some o := fun e n => hidT_get e n
    have free : ∀ {b : Addr} {o : Obj} {es : Array DictEntry} {ep : Nat}, t.heap.get? b = some o → o.data = .dict es ep → H b = none := by
      intro b o es ep e d
      rcases only b with z | ⟨rfl, _⟩
      · exact z
      · rw [arg] at e
        cases e
        exact nomatch (show Data.seq us.toArray _ = Data.dict es ep from d)
    have space : ∀ {b : Addr} {m : Str → Option Value}, t.heap.Ns b m → (hidT t.heap H).Ns b m := by
      rintro b m ⟨o, es, ep, e, d, r⟩
      exact ⟨o, es, ep, hid e (free e d), d, r⟩
    have kb : K.In (hidT t.heap H) := by
      intro b o e
      refine hid (kin b o e) ?_
      rcases only b with z | ⟨rfl, z⟩
      · exact z
      · obtain ⟨_, _, z⟩ := z
        rw [apart (by rw [z]; exact fun q => nomatch q)] at e
        cases e
    have md : Mod K mg (hidT t.heap H) := by
      refine ⟨kb, space glob, ⟨mb, space blt, bbb⟩, ?_⟩
      obtain ⟨mc, e1, e2⟩ := lim
      exact ⟨mc, space e1, e2⟩
    have env : Env0 P w K mg (hidT t.heap H) callerA [] t H :=
      { frames := rfl, mod := md, bs := fun b o e => of_hidT e, bsz := Nat.le_of_eq (hidT_size _ _), funs := trivial, frf := fun b hb => (nomatch (show b ∈ ([] : List Addr) from hb)), hok := hok, bare := .of_eq gens }
    refine codeAny_mono (LamX.run_ofS (CX := CX0) (Q := fun v _ => v = .bl true) (E := E0) (vs := [.ref a]) (us := [.ref a]) lk hcd S room env (bnd t (.ref a)) (.cons rfl .nil) rfl fun hr => ?_) ?_
    · obtain ⟨r, h1, h2⟩ := body _ cdv H kb (space glob) sq hr
      refine ⟨r, h1.nox, ?_⟩
      have e : (fun (_ : L2.St) (H' : Hp) => (V.non : V) = .bl true) = fun _ _ => False := by
        funext _ _
        exact propext ⟨(fun z => nomatch z), False.elim⟩
      show r { nx := fun (_ : L2.St) (H' : Hp) => (V.non : V) = .bl true, rt := fun v _ => v = .bl true } _ _
      rw [e]
      exact h2
    · intro r s' z
      cases r with
      | error e => exact (show False from z).elim
      | ok fl =>
        cases fl with
        | ret u =>
          obtain ⟨v, H', os, bare, un, hok', rl, q⟩ := z
          cases (show v = .bl true from q)
          cases (show u = Value.bool true from rl)
          refine ⟨rfl, OldK.of_keep fun b o e => ?_, os, bare⟩
          rcases only b with n | ⟨_, ob, xs, n⟩
          · exact un.keep b o e n (fun z => (nomatch (show b ∈ ([] : List Addr) from z))) (fun z => nomatch z)
          · obtain ⟨e1, _⟩ := hok b _ n
            obtain ⟨e2, _⟩ := hok' b _ (un.frzs b ob _ n)
            rw [e] at e1
            cases e1
            exact e2
        | next => exact (show False from z).elim
        | brk => exact (show False from z).elim
        | cont => exact (show False from z).elim
  cases hk : K.lookup a with
  | some o =>
    have e := kin a o hk
    rw [arg] at e
    cases e
    refine go (fun _ => none) (fun _ => .inl rfl) (.inr ⟨_, us.toArray, _, hk, rfl, rfl, rfl, by rw [List.size_toArray, nums.length]; exact len, by simpa using rv⟩) (fun b u z => nomatch (show (none : Option HO) = some u from z)) (fun z => (z rfl).elim)
  | none =>
    refine go (fun b => if b = a then some (.frz { cls := .type "list", data := .seq us.toArray } (.lst (ns.map V.int))) else none) (fun b => ?_) (.inl (.inr ⟨_, if_pos rfl⟩)) (fun b u z => ?_) fun _ => hk
    · by_cases c : b = a
      · exact .inr ⟨c, _, _, if_pos c⟩
      · exact .inl (if_neg c)
    · by_cases c : b = a
      · cases (if_pos c).symm.trans z
        subst c
        exact ⟨arg, by rw [List.length_map]; exact len, us, _, rv, arg⟩
      · cases (if_neg c).symm.trans z
/-- the goal that k_head leaves -/
theorem walk_law {l : PySem.W.OpenLaw} {n k : Nat} {q : Program} {loose : List Str} {XP : (Str → Option Value) → Heap → Prop} {YP : World → Heap → Prop} {d : DefRec} {K : Params → PySem.W.Frag} {st : Stmt} {N : List Str}
    (most : l.most = some n) (small : n ≤ sizeLine) (nodef : d.params.defaults = []) (room : Room (k + 1) callerA) (S : FnScope N ["script"] (defScope st)) (ky : ∀ (w : World) (h : Heap), YP w h → (K w.params).In h)
    (F : ∀ (w : World) (mg : Str → Option Value) (fa : Addr) (h : Heap), (K w.params).In h → h.Ns mainGlobals mg → mg d.name = some (.ref fa) →
      ∃ fd : FuncData, Fun (K w.params) "law" "law" st fa fd ∧ (∀ (s : Shared) (u : Value), BindsTo s fd ⟨[u], []⟩ [("script", u)]) ∧
        ∀ (t : Shared) (base : Heap) (cdv : Value) (H : Hp) (a : Addr) (ns : List Int), (K w.params).In base → base.Ns mainGlobals mg → ns.length ≤ n → SqL (K w.params) H a (ns.map V.int) → Room k (callerA.deeper (envOfC "law" (defScope st) t.heap.objs.size fa cdv)) →
          ∃ r, PSs (cxOf CX0 l.prog w (K w.params) mg base N "law" (defScope st) fa cdv callerA [] t H E0).nox (defBody st) r ∧ r { nx := fun _ _ => False, rt := fun v _ => v = .bl true } (start N [.ref a]) H) :
    PySem.W.WalkO q loose XP YP l.row.toRowW d [] (fun f vs => PySem.call f vs) := by
  refine Att.attach_call most nodef ?_
  intro w s₀ t mg mb fa o pm cd doc a vs ns G Y ho hd hcd hmg hobj hints hlen hg
  obtain ⟨fd, h1, h2, h3⟩ := F w mg fa _ (ky w _ Y) G.T.g hmg
  exact run_law h1 S h2 (ky w _ Y) G.T.g G.T.b G.T.builtins G.T.nolimit hg hobj hints (Nat.le_trans hlen small) room fun base cdv H kb nb sq hr => h3 t base cdv H a ns kb nb hlen sq hr
end Bay
set_option Elab.async false
set_option linter.all false
set_option maxRecDepth 100000
set_option maxHeartbeats 2000000
namespace Bay
open PySem PySem.Spec PyProof.Rows L2
def top (i : Nat) : Stmt := PySem.Challenge.pw_baysout_k06_sides_and_stretches_that_mee.main.body.getD i (.Pass ⟨0, 0, 0, 0⟩)
/-! ### the dune: the script's first numbers, how many draws there were, what is left of a great number -/
structure Dn (H : Hp) (D C : Addr) (ms : List Int) (t l : Int) : Prop where
  d : H D = some (.lst [.ref C, .int t, .int l])
  c : H C = some (.lst (ms.map V.int))
  ne : C ≠ D
  n : ms.length ≤ 60
  t0 : 0 ≤ t
  l0 : 0 ≤ l
/-- all that stood stands, but for the object at D -/
def Kp (D : Addr) (H H' : Hp) : Prop := ∀ b o, H b = some o → b ≠ D → H' b = some o
theorem Kp.refl (D : Addr) (H : Hp) : Kp D H H := fun _ _ e _ => e
theorem Kp.trans {D : Addr} {H G F : Hp} (a : Kp D H G) (b : Kp D G F) : Kp D H F := fun c o e n => b c o (a c o e n) n
theorem Kp.same {D : Addr} {H G : Hp} (a : Same H G) : Kp D H G := fun c o e _ => a c o e
theorem Same.new {H : Hp} {p : Addr} {o : HO} (n : H p = none) : Same H (upd H p o) := fun b u e => by
  rw [upd_ne (ne_of_none e n)]
  exact e
theorem Dn.same {H G : Hp} {D C : Addr} {ms : List Int} {t l : Int} (a : Dn H D C ms t l) (s : Same H G) : Dn G D C ms t l := ⟨s _ _ a.d, s _ _ a.c, a.ne, a.n, a.t0, a.l0⟩
/-- the dune's own list is written -/
theorem Dn.put {H : Hp} {D C : Addr} {ms : List Int} {t l t' l' : Int} (a : Dn H D C ms t l) (h1 : 0 ≤ t') (h2 : 0 ≤ l') : Dn (upd H D (.lst [.ref C, .int t', .int l'])) D C ms t' l' :=
  ⟨upd_same, by rw [upd_ne a.ne]; exact a.c, a.ne, a.n, h1, h2⟩
theorem Kp.put {D : Addr} {H : Hp} {o : HO} : Kp D H (upd H D o) := fun b u e n => by
  rw [upd_ne n]
  exact e
theorem at0 {x y z : V} : atI [x, y, z] 0 = some x := rfl
theorem at1 {x y z : V} : atI [x, y, z] 1 = some y := rfl
theorem at2 {x y z : V} : atI [x, y, z] 2 = some z := rfl
theorem shaped_ints (ms : List Int) : SeqAt.shaped (.list (ms.map PyData.int)) = true := by
  have a : PyData.canLayAll0 (ms.map PyData.int) = true := by
    induction ms with
    | nil => rfl
    | cons m r ih =>
      show (PyData.canLay0 (.int m) && PyData.canLayAll0 (r.map PyData.int)) = true
      rw [ih]
      rfl
  have b : PyData.depthAll (ms.map PyData.int) ≤ 1 := by
    clear a
    induction ms with
    | nil => simp [PyData.depthAll]
    | cons m r ih =>
      have e : PyData.depthAll ((m :: r).map PyData.int) = max (PyData.depth (.int m)) (PyData.depthAll (r.map PyData.int)) := rfl
      have e2 : PyData.depth (.int m) ≤ 1 := by simp [PyData.depth]
      omega
  unfold SeqAt.shaped
  have c : PyData.canLay0 (.list (ms.map PyData.int)) = true := a
  rw [c]
  have d : PyData.depth (.list (ms.map PyData.int)) ≤ 64 := by
    simp only [PyData.depth]
    omega
  simpa using d
theorem dp_ints {K : PySem.W.Frag} {H : Hp} : ∀ ms : List Int, DpAll K H (ms.map V.int) (ms.map PyData.int)
  | [] => .nil
  | m :: r => .cons (.int m) (dp_ints r)
theorem eqv_nil (ms : List Int) : PyData.eqv (.list (ms.map PyData.int)) (.list []) = decide (ms = []) := by
  cases ms with
  | nil => rfl
  | cons m r => rfl
theorem in_list {ms : List Int} {t : Int} (h : ms ≠ []) (t0 : 0 ≤ t) : ∃ c, c ∈ ms ∧ atI (ms.map V.int) (t.fmod ((ms.map V.int).length : Int)) = some (.int c) := by
  have hl : 0 < ms.length := List.length_pos_iff.mpr h
  rw [List.length_map]
  have e : t.fmod (ms.length : Int) = ((t.toNat % ms.length : Nat) : Int) := by
    rw [Int.fmod_eq_emod_of_nonneg t (by omega), Int.natCast_emod, Int.toNat_of_nonneg t0]
  have lt : t.toNat % ms.length < ms.length := Nat.mod_lt _ hl
  refine ⟨ms[t.toNat % ms.length], List.getElem_mem lt, ?_⟩
  rw [e]
  refine atI_nat ?_
  rw [List.getElem?_map, List.getElem?_eq_getElem lt]
  rfl
theorem fmod_pos (x : Int) {y : Int} (h : 0 < y) : 0 ≤ x.fmod y ∧ x.fmod y < y := by
  rw [Int.fmod_eq_emod_of_nonneg x (by omega)]
  exact ⟨Int.emod_nonneg x (by omega), Int.emod_lt_of_pos x h⟩
theorem fdiv_pos {x y : Int} (h0 : 0 ≤ x) (h : 0 < y) : 0 ≤ x.fdiv y := by
  rw [Int.fdiv_eq_ediv_of_nonneg x (by omega)]
  exact Int.ediv_nonneg h0 (by omega)
theorem mul_in {x y X Y : Int} (a : 0 ≤ x) (b : x ≤ X) (c : 0 ≤ y) (d : y ≤ Y) : 0 ≤ x * y ∧ x * y ≤ X * Y :=
  ⟨Int.mul_nonneg a c, Int.mul_le_mul b d c (Int.le_trans a b)⟩
/-! ### a draw -/
/-- _law_pour(dune, many): a number below many; one draw more at most -/
def spDrift : Sp := fun vs H Q _ => ∃ (D C : Addr) (ms : List Int) (t l many : Int), vs = [.ref D, .int many] ∧ Dn H D C ms t l ∧ t ≤ 1000000 ∧ 0 < many ∧ many < 1073741824 ∧
  ∀ (H' : Hp) (t' l' r : Int), Dn H' D C ms t' l' → t' ≤ t + 1 → Kp D H H' → 0 ≤ r → r < many → Q (.int r) H'
abbrev sDrift : Stmt := top 18
theorem scDrift : FnScope ["keg", "many", "rest", "turn", "cell", "mixed"] ["keg", "many"] (defScope sDrift) := ⟨rfl, rfl, rfl, by decide +kernel, rfl, by decide +kernel, by decide +kernel⟩
/-- the built-ins that the law's helpers use -/
structure Blt (mg : Str → Option Value) : Prop where
  int : mg "int" = none
  len : mg "len" = none
  abs : mg "abs" = none
section
variable {P : Program} {w : World} {K : PySem.W.Frag} {mg : Str → Option Value} {base : Heap}
theorem ok_drift {f : Addr} {fd : FuncData} (F : Fun K "_law_pour" "_law_pour" sDrift f fd) (T : Blt mg) : FnOk P w K mg base CX0 1 f fd ["keg", "many"] spDrift := by
  refine F.ok scDrift (fun vs H Q E h => ?_) (fun cdv A outer s H vs Q E hr h => ?_)
  · obtain ⟨D, C, ms, t, l, many, rfl, _⟩ := h
    rfl
  · obtain ⟨D, C, ms, t, l, many, rfl, dn, tb, m0, m1, q⟩ := h
    have nd := scDrift.nd
    refine ⟨_, pss_cons (ps_if (pt_cmpR op_gt (pe_ix ix_list (pv 0) pe_int (fun _ _ => rfl)) pe_int (nomark _))
        (pss_cons (ps_set (i := 2) nd rfl (.inl rfl) (pe_callTy call_int1 (by rfl) T.int (by decide +kernel) (pa_cons (pe_ix ix_list (pv 0) pe_int (fun _ _ => rfl)) pa_nil)))
          (pss_cons (ps_asg (pe_op op_fdivN (pv 2) (pv 1)) (pg_sub (pv 0) pe_int set_list))
            (pss_one (ps_ret (pe_op op_modN (pe_callTy call_int1 (by rfl) T.int (by decide +kernel) (pa_cons (pv 2) pa_nil)) (pv 1)))))) pss_nil)
      (pss_cons (ps_set (i := 3) nd rfl (.inl rfl) (pe_ix ix_list (pv 0) pe_int (fun _ _ => rfl)))
      (pss_cons (ps_asg (pe_op op_add (pv 3) pe_int) (pg_sub (pv 0) pe_int set_list))
      (pss_cons (ps_set (i := 4) nd rfl (.inl rfl) (pe_op op_add (pe_op op_mul pe_int (pv 3)) pe_int))
      (C8.pss_cut (ps_if (pt_cmpR (op_neD hr.units) (pe_ix ix_list (pv 0) pe_int (fun _ _ => rfl)) (pe_lst pa_nil) (nomark _))
        (pss_one (ps_set (i := 4) nd rfl (.inl rfl) (pe_ix ix_list (pe_ix ix_list (pv 0) pe_int (fun _ _ => rfl)) (pe_op op_modN (pe_callTy call_int1 (by rfl) T.int (by decide +kernel) (pa_cons (pv 3) pa_nil))
          (pe_callB call_len_seq (by rfl) T.len PySem.boot_len (pa_cons (pe_ix ix_list (pv 0) pe_int (fun _ _ => rfl)) pa_nil))) (fun _ _ => rfl)))) pss_nil)
      (C8.pss_cut (ps_if (PW.pt (pw_and (pt_cmpR op_lt (pv 3) (pe_callB call_len_seq (by rfl) T.len PySem.boot_len (pa_cons (pe_ix ix_list (pv 0) pe_int (fun _ _ => rfl)) pa_nil)) (nomark _))
            (pw_and1 (pt_cmpR op_ge (pe_callB call_abs (by rfl) T.abs (by decide +kernel) (pa_cons (pv 4) pa_nil)) (pe_op op_pow pe_int pe_int) (nomark _)))))
        (pss_cons (ps_set (i := 2) nd rfl (.inl rfl) (pe_op op_add (pe_op op_mul pe_int (pe_op op_sub (pe_callB call_abs (by rfl) T.abs (by decide +kernel) (pa_cons (pv 4) pa_nil)) (pe_op op_pow pe_int pe_int)))
            (pe_callTy call_int1 (by rfl) T.int (by decide +kernel) (pa_cons (pe_cmpR op_lt (pv 4) pe_int (nomark _)) pa_nil))))
          (pss_cons (ps_asg (pe_op op_fdivN (pv 2) (pv 1)) (pg_sub (pv 0) pe_int set_list))
            (pss_one (ps_ret (pe_op op_modN (pe_callTy call_int1 (by rfl) T.int (by decide +kernel) (pa_cons (pv 2) pa_nil)) (pv 1)))))) pss_nil)
      (pss_cons (ps_set (i := 5) nd rfl (.inl rfl) (pe_op op_modN (pe_callTy call_int1 (by rfl) T.int (by decide +kernel) (pa_cons (pe_op op_pow (pe_op op_add (pe_op op_add (pe_op op_modN (pe_callTy call_int1 (by rfl) T.int (by decide +kernel) (pa_cons (pv 4) pa_nil)) pe_int) (pe_op op_mul pe_int (pv 3))) pe_int) pe_int) pa_nil)) pe_int))
      (pss_cons (ps_set (i := 5) nd rfl (.inl rfl) (pe_op op_modN (pe_callTy call_int1 (by rfl) T.int (by decide +kernel) (pa_cons (pe_op op_pow (pe_op op_add (pe_op op_add (pe_op op_mul (pv 5) (pe_op op_add (pe_op op_mul pe_int (pv 3)) pe_int)) (pe_op op_mul (pe_op op_mul pe_int (pv 3)) (pv 3))) pe_int) pe_int) pa_nil)) pe_int))
      (pss_one (ps_ret (pe_op op_modN (pe_callTy call_int1 (by rfl) T.int (by decide +kernel) (pa_cons (pe_op op_fdivN (pv 5) pe_int) pa_nil)) (pv 1))))))))))), ?_⟩
    -- if dune[2] > 0
    refine ⟨.ref D, rfl, D, _, _, .int l, rfl, rfl, SqL.of dn.d, at2, l, 0, rfl, rfl, _, rfl, ite2 (fun _ => ?_) (fun _ => ?_)⟩
    · refine ⟨.ref D, rfl, D, _, _, .int l, rfl, rfl, SqL.of dn.d, at2, .inl ⟨l, rfl, ?_⟩⟩
      refine ⟨.int l, rfl, .int many, rfl, l, many, rfl, rfl, ⟨by omega, by omega⟩, .ref D, rfl, D, _, _, 2, rfl, rfl, dn.d, rfl, ?_⟩
      refine ⟨.int l, rfl, .inl ⟨l, rfl, .int many, rfl, l, many, rfl, rfl, by omega, ?_⟩⟩
      have b := fmod_pos l m0
      exact q _ t _ _ (dn.put dn.t0 (fdiv_pos dn.l0 m0)) (by omega) Kp.put b.1 b.2
    · -- turn = dune[1]; dune[1] = turn + 1
      refine ⟨.ref D, rfl, D, _, _, .int t, rfl, rfl, SqL.of dn.d, at1, ?_⟩
      refine ⟨.int t, rfl, t, 1, rfl, rfl, .ref D, rfl, D, _, _, 1, rfl, rfl, dn.d, rfl, ?_⟩
      have dn1 : Dn (upd H D (.lst [.ref C, .int (t + 1), .int l])) D C ms (t + 1) l := dn.put (by have := dn.t0; omega) dn.l0
      have kp1 : Kp D H (upd H D (.lst [.ref C, .int (t + 1), .int l])) := Kp.put
      show tSeq _ _ _ _ (upd H D (.lst [.ref C, .int (t + 1), .int l]))
      generalize upd H D (.lst [.ref C, .int (t + 1), .int l]) = G at dn1 kp1
      have t0 : 0 ≤ t := dn.t0
      clear dn
      -- cell = a * turn + b
      refine ⟨.int t, rfl, _, t, rfl, rfl, .inl ⟨by decide, by decide⟩, _, _, rfl, rfl, ?_⟩
      -- if dune[0] != []: cell = dune[0][turn % len(dune[0])]
      refine ⟨fun σ J => ∃ c : Int, σ = [some (.ref D), some (.int many), none, some (.int t), some (.int c), none] ∧ Same G J, ?_, ?_⟩
      · refine ⟨.ref D, rfl, D, _, _, .ref C, rfl, rfl, SqL.of dn1.d, at0, Nat.zero_le _, fun p np => ?_⟩
        have dn2 := dn1.same (Same.new (o := .lst []) np)
        refine ⟨_, _, Dp.lst (SqL.of dn2.c) (dp_ints ms), Dp.lst (SqL.of upd_same) .nil, shaped_ints ms, rfl, _, rfl, ?_⟩
        rw [eqv_nil]
        by_cases e : ms = []
        · rw [decide_eq_true e]
          refine iteF ?_
          exact ⟨_, rfl, Same.new np⟩
        · rw [decide_eq_false e]
          refine iteT ?_
          obtain ⟨c, _, hc⟩ := in_list e t0
          refine ⟨.ref D, rfl, D, _, _, .ref C, rfl, rfl, SqL.of dn2.d, at0, .int t, rfl, .inl ⟨t, rfl, .ref D, rfl, D, _, _, .ref C, rfl, rfl, SqL.of dn2.d, at0, C, _, rfl, .inl (SqL.of dn2.c), t, _, rfl, rfl, ?_, C, _, _, .int c, rfl, rfl, SqL.of dn2.c, hc, ?_⟩⟩
          · rw [List.length_map]
            have := List.length_pos_iff.mpr e
            omega
          · exact ⟨c, rfl, Same.new np⟩
      · rintro σ J ⟨c, rfl, sm⟩
        have dn3 := dn1.same sm
        have kp3 : Kp D H J := kp1.trans (.same sm)
        clear dn1 kp1 sm
        have le : t + 1 ≤ t + 1 := Int.le_refl _
        -- if turn < len(dune[0]) and abs(cell) >= 10 ** 18
        refine ⟨fun σ J' => σ = [some (.ref D), some (.int many), none, some (.int t), some (.int c), none] ∧ J' = J, ?_, ?_⟩
        · refine ⟨.int t, rfl, .ref D, rfl, D, _, _, .ref C, rfl, rfl, SqL.of dn3.d, at0, C, _, rfl, .inl (SqL.of dn3.c), t, _, rfl, rfl, _, rfl, ?_⟩
          refine ite2 (fun _ => ?_) (fun _ => iteF ⟨rfl, rfl⟩)
          refine ⟨.int c, rfl, c, rfl, 10, 18, rfl, rfl, ⟨by decide, by decide, by decide⟩, _, _, rfl, rfl, _, rfl, ite2 (fun big => ?_) (fun _ => ⟨rfl, rfl⟩)⟩
          have big' := of_decide_eq_true big
          refine ⟨.int c, rfl, c, rfl, 10, 18, rfl, rfl, ⟨by decide, by decide, by decide⟩, _, _, rfl, rfl, _, _, rfl, rfl, .inl ⟨by decide, by decide⟩, .int c, rfl, c, 0, rfl, rfl, .inr ⟨_, rfl, _, _, rfl, rfl, ?_⟩⟩
          have g0 : (0 : Int) ≤ 2 * ((if c < 0 then -c else c) - 10 ^ (18 : Int).toNat) + (if decide (c < 0) = true then 1 else 0) := by
            have h1 : (0 : Int) ≤ (if c < 0 then -c else c) - 10 ^ (18 : Int).toNat := by omega
            have h2 : (0 : Int) ≤ (if decide (c < 0) = true then 1 else 0) := by split <;> omega
            omega
          show tSeq _ _ _ (List.set _ _ (some (.int (2 * ((if c < 0 then -c else c) - 10 ^ (18 : Int).toNat) + (if decide (c < 0) = true then 1 else 0))))) J
          generalize 2 * ((if c < 0 then -c else c) - 10 ^ (18 : Int).toNat) + (if decide (c < 0) = true then 1 else 0) = g at g0
          refine ⟨.int g, rfl, .int many, rfl, g, many, rfl, rfl, ⟨by omega, by omega⟩, .ref D, rfl, D, _, _, 2, rfl, rfl, dn3.d, rfl, ?_⟩
          refine ⟨.int g, rfl, .inl ⟨g, rfl, .int many, rfl, g, many, rfl, rfl, by omega, ?_⟩⟩
          have b := fmod_pos g m0
          exact q _ (t + 1) _ _ (dn3.put dn3.t0 (fdiv_pos g0 m0)) le (kp3.trans Kp.put) b.1 b.2
        · rintro σ J' ⟨rfl, rfl⟩
          refine ⟨.int c, rfl, .inl ⟨c, rfl, c, _, rfl, rfl, by (dsimp only; decide), .int t, rfl, _, t, rfl, rfl, .inl ⟨by decide, by decide⟩, _, _, rfl, rfl, _, _, rfl, rfl, _, 5, rfl, rfl, ⟨by decide, by decide, ?_⟩, .inl ⟨_, rfl, _, _, rfl, rfl, by (dsimp only; decide), ?_⟩⟩⟩
          · have b := fmod_pos c (show (0 : Int) < 2147483123 by decide)
            omega
          · have b := fmod_pos ((c.fmod 2147483123 + 35867 * t + 7585) ^ Int.toNat 5) (show (0 : Int) < 2147483587 by decide)
            show tSeq _ _ _ (List.set _ _ (some (.int (((c.fmod 2147483123 + 35867 * t + 7585) ^ Int.toNat 5).fmod 2147483587)))) J'
            generalize ((c.fmod 2147483123 + 35867 * t + 7585) ^ Int.toNat 5).fmod 2147483587 = y at b
            have n1 := mul_in b.1 (show y ≤ 2147483587 by omega) (show 0 ≤ 2 * t + 4113 by omega) (show 2 * t + 4113 ≤ 3000000 by omega)
            have n2 := mul_in (show 0 ≤ 59285 * t by omega) (show 59285 * t ≤ 59285000000 by omega) t0 tb
            refine ⟨.int y, rfl, .int t, rfl, _, t, rfl, rfl, .inl ⟨by decide, by decide⟩, _, _, rfl, rfl, y, _, rfl, rfl, .inl ⟨by omega, by omega⟩, .int t, rfl, _, t, rfl, rfl, .inl ⟨by decide, by decide⟩, .int t, rfl, _, t, rfl, rfl, .inr ⟨by omega, by omega⟩, _, _, rfl, rfl, _, _, rfl, rfl, _, 3, rfl, rfl, ⟨by decide, by decide, ?_⟩, .inl ⟨_, rfl, _, _, rfl, rfl, by (dsimp only; decide), ?_⟩⟩
            · omega
            · refine ⟨.int _, rfl, _, 64, rfl, rfl, ⟨by decide, by decide⟩, .inl ⟨_, rfl, .int many, rfl, _, many, rfl, rfl, by (dsimp only; omega), ?_⟩⟩
              have b2 := fmod_pos (((y * (2 * t + 4113) + 59285 * t * t + 35867) ^ Int.toNat 3).fmod 2147483497 |>.fdiv 64) m0
              exact q _ (t + 1) _ _ dn3 le kp3 b2.1 b2.2
end
end Bay
set_option Elab.async false
set_option linter.all false
set_option maxRecDepth 100000
set_option maxHeartbeats 2000000
namespace Bay
open PySem PySem.Spec PyProof.Rows L2
theorem Dn.apart {H : Hp} {D C p : Addr} {ms : List Int} {t l : Int} (a : Dn H D C ms t l) (np : H p = none) : p ≠ D := fun e => by
  rw [e, a.d] at np
  cases np
section
variable {P : Program} {w : World} {K : PySem.W.Frag} {mg : Str → Option Value} {base : Heap}
/-! ### a pick -/
def spPick : Sp := fun vs H Q _ => ∃ (D C p : Addr) (ms : List Int) (t l : Int) (xs : List V), vs = [.ref D, .ref p] ∧ Dn H D C ms t l ∧ t ≤ 1000000 ∧ H p = some (.lst xs) ∧ p ≠ D ∧ 0 < xs.length ∧ xs.length ≤ 1000 ∧
  ∀ (H' : Hp) (t' l' : Int) (x : V), Dn H' D C ms t' l' → t' ≤ t + 1 → Kp D H H' → x ∈ xs → Q x H'
abbrev sPick : Stmt := top 19
theorem scPick : FnScope ["keg", "some"] ["keg", "some"] (defScope sPick) := ⟨rfl, rfl, rfl, by decide +kernel, rfl, by decide +kernel, by decide +kernel⟩
theorem ok_pick {f fD : Addr} {fd fdD : FuncData} (F : Fun K "_law_pick" "_law_pick" sPick f fd) (FD : Fun K "_law_pour" "_law_pour" sDrift fD fdD) (T : Blt mg) (gD : mg "_law_pour" = some (.ref fD)) (bD : Binds K fdD ["keg", "many"] []) :
    FnOk P w K mg base CX0 2 f fd ["keg", "some"] spPick := by
  have GD : FnOk P w K mg base CX0 1 fD fdD ["keg", "many"] spDrift := ok_drift FD T
  refine F.ok scPick (fun vs H Q E h => ?_) (fun cdv A outer s H vs Q E hr h => ?_)
  · obtain ⟨D, C, p, ms, t, l, xs, rfl, _⟩ := h
    rfl
  · obtain ⟨D, C, p, ms, t, l, xs, rfl, dn, tb, hp, pD, n0, n1, q⟩ := h
    refine ⟨_, pss_one (ps_ret (pe_ix ix_list (pv 1) (pe_call GD hr (by rfl) gD FD.kp bD .nil pass0 (pa_cons (pv 0) (pa_cons (pe_callB call_len_seq (by rfl) T.len PySem.boot_len (pa_cons (pv 1) pa_nil)) pa_nil))) (fun _ _ => rfl))), ?_⟩
    refine ⟨.ref p, rfl, .ref D, rfl, .ref p, rfl, p, xs, rfl, .inl (SqL.of hp), D, C, ms, t, l, _, rfl, dn, tb, by omega, by omega, fun H' t' l' r dn' tt kp r0 r1 => ?_⟩
    have lt : r.toNat < xs.length := by omega
    refine ⟨p, xs, r, xs[r.toNat], rfl, rfl, SqL.of (kp _ _ hp pD), at_of (j := r.toNat) (by omega) (List.getElem?_eq_getElem lt), ?_⟩
    exact q H' t' l' _ dn' tt kp (List.getElem_mem lt)
/-! ### the dune is made -/
def spDune (K : PySem.W.Frag) : Sp := fun vs H Q _ => ∃ (a : Addr) (ns : List Int), vs = [.ref a] ∧ SqL K H a (ns.map V.int) ∧ ns.length ≤ 63 ∧
  ∀ (H' : Hp) (D C : Addr) (ms : List Int), Same H H' → H D = none → Dn H' D C ms 0 0 → Q (.ref D) H'
abbrev sDune : Stmt := top 17
theorem scDune : FnScope ["script", "cell"] ["script"] (defScope sDune) := ⟨rfl, rfl, rfl, by decide +kernel, rfl, by decide +kernel, by decide +kernel⟩
theorem cut60 (ns : List Int) : cutV (ns.map V.int) none (some 60) = (ns.take 60).map V.int := by
  unfold cutV
  rw [show HT.sIx (ns.map V.int).length (ns.map V.int).length (some 60) = min 60 (ns.map V.int).length from HT.sIx_nat _ _ 60, HT.sIx_none, List.length_map]
  rw [List.drop_zero, Nat.sub_zero, ← List.map_take]
  congr 1
  rcases Nat.le_total 60 ns.length with h | h
  · rw [Nat.min_eq_left h]
  · rw [Nat.min_eq_right h, List.take_of_length_le h, List.take_of_length_le (Nat.le_refl _)]
theorem ok_dune {f : Addr} {fd : FuncData} (F : Fun K "_law_keg" "_law_keg" sDune f fd) (T : Blt mg) : FnOk P w K mg base CX0 1 f fd ["script"] (spDune K) := by
  refine F.ok scDune (fun vs H Q E h => ?_) (fun cdv A outer s H vs Q E hr h => ?_)
  · obtain ⟨a, ns, rfl, _⟩ := h
    rfl
  · obtain ⟨a, ns, rfl, hS, hn, q⟩ := h
    have nd := scDune.nd
    refine ⟨_, pss_one (ps_ret (pe_lst (pa_cons (pe_lc (own := [("cell", 1)]) (g := gName 1) (tt := tYes) rfl nd (pi_list (pe_slice sl_list (pv 0) po_none (po_some pe_int))) (blkOk_by (N := ["script", "cell"]) (sc := defScope sDune) (by decide +kernel))
      (fun _ _ _ _ _ => pg_name (i := 1) nd rfl (Or.inl rfl)) (fun _ _ _ _ _ => pts_nil) (fun _ _ _ _ _ => pe_callTy call_int1 (by rfl) T.int (by decide +kernel) (pa_cons (pv 1) pa_nil))) (pa_cons pe_int (pa_cons pe_int pa_nil))))), ?_⟩
    refine ⟨.ref a, rfl, 60, rfl, a, ns.map V.int, rfl, hS, fun c nc => ?_⟩
    rw [cut60]
    have s1 : Same H (upd H c (.lst ((ns.take 60).map V.int))) := Same.new nc
    have e1 : (upd H c (.lst ((ns.take 60).map V.int))) c = some (.lst ((ns.take 60).map V.int)) := upd_same
    generalize upd H c (.lst ((ns.take 60).map V.int)) = G at s1 e1
    generalize hms : ns.take 60 = ms at e1
    have hl : ms.length ≤ 60 := by
      rw [← hms, List.length_take]
      omega
    refine ⟨c, rfl, ⟨_, SqL.of e1⟩, fun L nL => ?_⟩
    have cL : c ≠ L := ne_of_none e1 nL
    refine lc_list (K := K) (a := c) (xs := ms.map V.int) (fun i H' => Same G H' ∧ H' L = some (.lst ((ms.take i).map V.int))) ⟨Same.new nL, upd_same⟩ (fun i H' _ z => SqL.of (z.1 _ _ e1)) ?_ ?_
    · rintro i x H' hx ⟨sm, hL⟩
      rw [List.getElem?_map] at hx
      cases e : ms[i]? with
      | none =>
        rw [e] at hx
        cases hx
      | some z =>
        rw [e] at hx
        obtain rfl : V.int z = x := Option.some.inj hx
        refine ⟨rfl, .int z, rfl, .inl ⟨z, rfl, _, hL, ?_, ?_, ?_⟩⟩
        · rw [List.length_map, List.length_take]
          exact small1000 (by omega)
        · intro b o eb
          have eb' := sm b o eb
          by_cases hb : b = L
          · subst hb
            rw [nL] at eb
            cases eb
          · rw [upd_ne hb]
            exact eb'
        · rw [upd_same, List.take_add_one, e, List.map_append]
          rfl
    · rintro H' ⟨sm, hL⟩
      rw [List.length_map, List.take_length] at hL
      refine ⟨(by show 3 ≤ sizeLine; decide), fun D nD => ?_⟩
      have LD : L ≠ D := ne_of_none hL nD
      refine q _ D L ms ((s1.trans sm).trans (Same.new nD)) ?_ ⟨upd_same, by rw [upd_ne LD]; exact hL, LD, hl, by omega, by omega⟩
      exact (s1.trans sm).free nD
end
end Bay
set_option Elab.async false
set_option linter.all false
set_option maxRecDepth 100000
set_option maxHeartbeats 4000000
namespace Bay
open PySem PySem.Spec PyProof.Rows L2
/-! ### the values that are drawn: none of them is the dune -/
inductive Gd (N : Addr → Prop) (H : Hp) : V → Prop
  | non : Gd N H .non
  | bl (b : Bool) : Gd N H (.bl b)
  | int (i : Int) : Gd N H (.int i)
  | str (x : Str) : Gd N H (.str x)
  | lst {a : Addr} {xs : List V} : N a → H a = some (.lst xs) → (∀ x ∈ xs, Gd N H x) → Gd N H (.ref a)
  | tup {a : Addr} {xs : List V} : N a → H a = some (.tup xs) → (∀ x ∈ xs, Gd N H x) → Gd N H (.ref a)
  | dct {a : Addr} {kvs : List (Key × V)} : N a → H a = some (.dK kvs) → Gd N H (.ref a)
theorem Gd.imp {N M : Addr → Prop} {H H' : Hp} {v : V} (g : Gd N H v) (w : ∀ b, N b → M b) (k : ∀ b o, H b = some o → N b → H' b = some o) : Gd M H' v := by
  induction g with
  | non => exact .non
  | bl b => exact .bl b
  | int i => exact .int i
  | str x => exact .str x
  | lst n e _ ih => exact .lst (w _ n) (k _ _ e n) ih
  | tup n e _ ih => exact .tup (w _ n) (k _ _ e n) ih
  | dct n e => exact .dct (w _ n) (k _ _ e n)
theorem Kp.free {D a : Addr} {H H' : Hp} (k : Kp D H H') (n : a ≠ D) (e : H' a = none) : H a = none := by
  cases q : H a with
  | none => rfl
  | some o =>
    rw [k a o q n] at e
    cases e
structure Blt2 (mg : Str → Option Value) : Prop extends Blt mg where
  range : mg "range" = none
  tuple : mg "tuple" = none
/-! ### kinds of values -/
def isI : V → Bool
  | .int _ => true
  | _ => false
def isB : V → Bool
  | .bl _ => true
  | _ => false
def isS (H : Hp) : V → Bool
  | .ref a => match H a with
    | some (.lst _) => true
    | some (.tup _) => true
    | _ => false
  | _ => false
theorem isS_lst {H : Hp} {a : Addr} {xs : List V} (e : H a = some (.lst xs)) : isS H (.ref a) = true := by simp only [isS, e]
theorem isS_tup {H : Hp} {a : Addr} {xs : List V} (e : H a = some (.tup xs)) : isS H (.ref a) = true := by simp only [isS, e]
theorem isS_dct {H : Hp} {a : Addr} {kvs : List (Key × V)} (e : H a = some (.dK kvs)) : isS H (.ref a) = false := by simp only [isS, e]
/-- what isinstance tells of a value -/
structure Kd (K : PySem.W.Frag) (H : Hp) (v : V) (t : String) : Prop where
  ty : TyX K H v (.type t)
  int : PySem.W.kitOne K (.type t) (.type "int") = some (isI v || isB v)
  bool : PySem.W.kitOne K (.type t) (.type "bool") = some (isB v)
  seq : PySem.W.kitAny K (.type t) [.type "list", .type "tuple"] = some (isS H v)
theorem seq_of {K : PySem.W.Frag} {t : String} {a b : Bool} (h1 : kitB t "list" = some a) (h2 : kitB t "tuple" = some b) : PySem.W.kitAny K (.type t) [.type "list", .type "tuple"] = some (a || b) := by
  refine kitAny_cons (kit_ty h1) (fun e => ?_) (fun e => by rw [e]; rfl)
  rw [e, Bool.false_or]
  refine kitAny_cons (kit_ty h2) (fun e => ?_) (fun e => e)
  rw [e]
  exact kitAny_nil
theorem Gd.kd {K : PySem.W.Frag} {N : Addr → Prop} {H : Hp} {v : V} (g : Gd N H v) : ∃ t, Kd K H v t := by
  cases g with
  | non => exact ⟨"NoneType", .base .non, kit_ty (r := false) (by decide +kernel), kit_ty (r := false) (by decide +kernel), seq_of (a := false) (b := false) (by decide +kernel) (by decide +kernel)⟩
  | bl b => exact ⟨"bool", .base (.bl b), kit_ty (r := true) (by decide +kernel), kit_ty (r := true) (by decide +kernel), seq_of (a := false) (b := false) (by decide +kernel) (by decide +kernel)⟩
  | int i => exact ⟨"int", .base (.int i), kit_ty (r := true) (by decide +kernel), kit_ty (r := false) (by decide +kernel), seq_of (a := false) (b := false) (by decide +kernel) (by decide +kernel)⟩
  | str x => exact ⟨"str", .base (.str x), kit_ty (r := false) (by decide +kernel), kit_ty (r := false) (by decide +kernel), seq_of (a := false) (b := false) (by decide +kernel) (by decide +kernel)⟩
  | lst n e _ =>
    refine ⟨"list", .base (.lst e), kit_ty (r := false) (by decide +kernel), kit_ty (r := false) (by decide +kernel), ?_⟩
    rw [isS_lst e]
    exact seq_of (a := true) (b := false) (by decide +kernel) (by decide +kernel)
  | tup n e _ =>
    refine ⟨"tuple", .base (.tup e), kit_ty (r := false) (by decide +kernel), kit_ty (r := false) (by decide +kernel), ?_⟩
    rw [isS_tup e]
    exact seq_of (a := false) (b := true) (by decide +kernel) (by decide +kernel)
  | dct n e =>
    refine ⟨"dict", .base (.dK e), kit_ty (r := false) (by decide +kernel), kit_ty (r := false) (by decide +kernel), ?_⟩
    rw [isS_dct e]
    exact seq_of (a := false) (b := false) (by decide +kernel) (by decide +kernel)
structure Blt3 (mg : Str → Option Value) : Prop extends Blt2 mg where
  isi : mg "isinstance" = none
  bool : mg "bool" = none
  list : mg "list" = none
def spInt (K : PySem.W.Frag) : Sp := fun vs H Q _ => ∃ (v : V) (t : String), vs = [v] ∧ Kd K H v t ∧ Q (.bl (isI v)) H
/-- a point: a list or tuple of two integers -/
def isP (H : Hp) : V → Bool
  | .ref a => match H a with
    | some (.lst [x, y]) => isI x && isI y
    | some (.tup [x, y]) => isI x && isI y
    | _ => false
  | _ => false
def spPoint : Sp := fun vs H Q _ => ∃ (N : Addr → Prop) (v : V), vs = [v] ∧ Gd N H v ∧ ∀ H', Same H H' → Q (.bl (isP H v)) H'
theorem isP_dct {H : Hp} {a : Addr} {kvs : List (Key × V)} (e : H a = some (.dK kvs)) : isP H (.ref a) = false := by simp only [isP, e]
def oV : Option Int → V
  | none => .non
  | some i => .int i
def inB (v : V) (lo hi : Option Int) : Bool := match v with
  | .int i => lo.all (fun z => decide (z ≤ i)) && hi.all (fun z => decide (i ≤ z))
  | _ => false
def spWithin (K : PySem.W.Frag) : Sp := fun vs H Q _ => ∃ (v : V) (t : String) (lo hi : Option Int), vs = [v, oV lo, oV hi] ∧ Kd K H v t ∧ Q (.bl (inB v lo hi)) H
theorem ix_seq {X : Cx} : IxR X (fun x y H Q => rIxL X.K x y H Q ∨ rIxT X.K x y H Q) := by
  intro e1 e2 pins s σ H x y v u Q I rx ry h z
  rcases h with h | h
  · exact ix_list e1 e2 pins s σ H x y v u Q I rx ry h z
  · exact ix_tup e1 e2 pins s σ H x y v u Q I rx ry h z
theorem isI_of {v : V} {a : Bool} (h : (isI v || isB v) = a) : (if a = true then !isB v else false) = isI v := by
  subst h
  cases v <;> rfl
section
variable {P : Program} {w : World} {K : PySem.W.Frag} {mg : Str → Option Value} {base : Heap}
abbrev sInt : Stmt := top 5
theorem scInt : FnScope ["value"] ["value"] (defScope sInt) := ⟨rfl, rfl, rfl, by decide +kernel, rfl, by decide +kernel, by decide +kernel⟩
theorem ok_int {f : Addr} {fd : FuncData} (F : Fun K "is_integer" "is_integer" sInt f fd) (T : Blt3 mg) : FnOk P w K mg base CX0 1 f fd ["value"] (spInt K) := by
  refine F.ok scInt (fun vs H Q E h => ?_) (fun cdv A outer s H vs Q E hr h => ?_)
  · obtain ⟨v, t, rfl, _⟩ := h
    rfl
  · obtain ⟨v, t, rfl, kd, q⟩ := h
    refine ⟨_, pss_one (ps_ret (pe_and (pe_callB call_isi (by rfl) T.isi (by decide +kernel) (pa_cons (pv 0) (pa_cons (pe_bltn (v := .ty "int") (u := .type "int") (by rfl) T.int (by decide +kernel) rfl) pa_nil)))
      (pe_one (pe_not (pe_callB call_isi (by rfl) T.isi (by decide +kernel) (pa_cons (pv 0) (pa_cons (pe_bltn (v := .ty "bool") (u := .type "bool") (by rfl) T.bool (by decide +kernel) rfl) pa_nil))))))), ?_⟩
    refine ⟨v, rfl, v, .ty "int", _, _, _, rfl, .ty "int", kd.ty, kd.int, _, rfl, ?_⟩
    have e := isI_of (v := v) rfl
    split
    · rename_i c
      rw [if_pos c] at e
      refine ⟨v, rfl, v, .ty "bool", _, _, _, rfl, .ty "bool", kd.ty, kd.bool, _, rfl, ?_⟩
      show Q (.bl (!isB v)) H
      rw [e]
      exact q
    · rename_i c
      rw [if_neg c] at e
      show Q (.bl false) H
      rw [e]
      exact q
abbrev sPoint : Stmt := top 6
theorem scPoint : FnScope ["value"] ["value"] (defScope sPoint) := ⟨rfl, rfl, rfl, by decide +kernel, rfl, by decide +kernel, by decide +kernel⟩
theorem ok_point {f fI : Addr} {fd fdI : FuncData} (F : Fun K "is_point" "is_point" sPoint f fd) (FI : Fun K "is_integer" "is_integer" sInt fI fdI) (T : Blt3 mg) (gI : mg "is_integer" = some (.ref fI)) (bI : Binds K fdI ["value"] []) : FnOk P w K mg base CX0 2 f fd ["value"] spPoint := by
  have GI : FnOk P w K mg base CX0 1 fI fdI ["value"] (spInt K) := ok_int FI T
  refine F.ok scPoint (fun vs H Q E h => ?_) (fun cdv A outer s H vs Q E hr h => ?_)
  · obtain ⟨N, v, rfl, _⟩ := h
    rfl
  · obtain ⟨N, v, rfl, g, q⟩ := h
    refine ⟨_, pss_cons (ps_if (PW.pt (pw_or (pt_not (pt_val (pe_callB call_isiT (by rfl) T.isi (by decide +kernel) (pa_cons (pv 0) (pa_cons (pe_tup (pa_cons (pe_bltn (v := .ty "list") (u := .type "list") (by rfl) T.list (by decide +kernel) rfl) (pa_cons (pe_bltn (v := .ty "tuple") (u := .type "tuple") (by rfl) T.tuple (by decide +kernel) rfl) pa_nil))) pa_nil)))))
        (pw_or1 (pt_cmpR op_ne (pe_callB call_len_seq (by rfl) T.len PySem.boot_len (pa_cons (pv 0) pa_nil)) pe_int (nomark _))))) (pss_one (ps_ret pe_bl)) pss_nil)
      (pss_one (ps_ret (pe_and (pe_call GI hr (by rfl) gI FI.kp bI .nil pass0 (pa_cons (pe_ix ix_seq (pv 0) pe_int (fun _ _ => rfl)) pa_nil))
        (pe_one (pe_call GI hr (by rfl) gI FI.kp bI .nil pass0 (pa_cons (pe_ix ix_seq (pv 0) pe_int (fun _ _ => rfl)) pa_nil)))))), ?_⟩
    refine ⟨v, rfl, (by show 2 ≤ sizeLine; decide), fun p np => ?_⟩
    have sm : Same H (upd H p (.tup [.ty "list", .ty "tuple"])) := Same.new np
    have ep : (upd H p (.tup [.ty "list", .ty "tuple"])) p = some (.tup [.ty "list", .ty "tuple"]) := upd_same
    have g' : Gd N (upd H p (.tup [.ty "list", .ty "tuple"])) v := g.imp (fun _ n => n) fun _ _ e _ => sm _ _ e
    have q' := q _ sm
    have es : isS (upd H p (.tup [.ty "list", .ty "tuple"])) v = isS H v := by
      cases g with
      | lst n e _ =>
        simp only [isS, sm _ _ e, e]
      | tup n e _ =>
        simp only [isS, sm _ _ e, e]
      | dct n e =>
        simp only [isS, sm _ _ e, e]
      | _ => rfl
    generalize upd H p (.tup [.ty "list", .ty "tuple"]) = G at sm ep g' q' es
    obtain ⟨t, kd⟩ := g'.kd (K := K)
    refine ⟨v, p, _, _, _, _, rfl, ep, .cons (.ty "list") (.cons (.ty "tuple") .nil), kd.ty, kd.seq, _, rfl, ?_⟩
    rw [es]
    cases g with
    | non => exact q'
    | bl b => exact q'
    | int i => exact q'
    | str x => exact q'
    | dct n e =>
      rw [isS_dct e]
      rw [isP_dct e] at q'
      exact q'
    | lst n e hs =>
      rename_i a xs
      have z : isS H (.ref a) = true := by
        simp only [isS, e]
      rw [z]
      have ga := SqL.of (K := K) (sm _ _ e)
      refine iteF ⟨.ref a, rfl, a, xs, rfl, .inl ga, rfl, _, rfl, ?_⟩
      match xs, e, hs, ga with
      | [x, y], e, hs, ga =>
        have z2 : isP H (.ref a) = (isI x && isI y) := by
          simp only [isP, e]
        rw [z2] at q'
        have gx := (hs x (by simp)).imp (fun _ n => n) fun _ _ e _ => sm _ _ e
        have gy := (hs y (by simp)).imp (fun _ n => n) fun _ _ e _ => sm _ _ e
        obtain ⟨tx, kx⟩ := gx.kd (K := K)
        obtain ⟨ty, ky⟩ := gy.kd (K := K)
        refine iteF ⟨.ref a, rfl, .inl ⟨a, _, 0, x, rfl, rfl, ga, rfl, x, tx, rfl, kx, _, rfl, ?_⟩⟩
        cases c : isI x with
        | true =>
          rw [c] at q'
          exact ⟨.ref a, rfl, .inl ⟨a, _, 1, y, rfl, rfl, ga, rfl, y, ty, rfl, ky, q'⟩⟩
        | false =>
          rw [c] at q'
          exact q'
      | [], e, hs, ga =>
        have z2 : isP H (.ref a) = false := by
          simp only [isP, e]
        rw [z2] at q'
        exact q'
      | [x], e, hs, ga =>
        have z2 : isP H (.ref a) = false := by
          simp only [isP, e]
        rw [z2] at q'
        exact q'
      | x :: y :: u :: r, e, hs, ga =>
        have z2 : isP H (.ref a) = false := by
          simp only [isP, e]
        rw [z2] at q'
        have ne : (V.int ((x :: y :: u :: r).length : Nat)) ≠ .int 2 := fun z => by
          have z := V.int.inj z
          simp only [List.length_cons] at z
          omega
        rw [decide_eq_false ne]
        exact q'
    | tup n e hs =>
      rename_i a xs
      have z : isS H (.ref a) = true := by
        simp only [isS, e]
      rw [z]
      have ga := SqT.of (K := K) (sm _ _ e)
      refine iteF ⟨.ref a, rfl, a, xs, rfl, .inr ga, rfl, _, rfl, ?_⟩
      match xs, e, hs, ga with
      | [x, y], e, hs, ga =>
        have z2 : isP H (.ref a) = (isI x && isI y) := by
          simp only [isP, e]
        rw [z2] at q'
        have gx := (hs x (by simp)).imp (fun _ n => n) fun _ _ e _ => sm _ _ e
        have gy := (hs y (by simp)).imp (fun _ n => n) fun _ _ e _ => sm _ _ e
        obtain ⟨tx, kx⟩ := gx.kd (K := K)
        obtain ⟨ty, ky⟩ := gy.kd (K := K)
        refine iteF ⟨.ref a, rfl, .inr ⟨a, _, 0, x, rfl, rfl, ga, rfl, x, tx, rfl, kx, _, rfl, ?_⟩⟩
        cases c : isI x with
        | true =>
          rw [c] at q'
          exact ⟨.ref a, rfl, .inr ⟨a, _, 1, y, rfl, rfl, ga, rfl, y, ty, rfl, ky, q'⟩⟩
        | false =>
          rw [c] at q'
          exact q'
      | [], e, hs, ga =>
        have z2 : isP H (.ref a) = false := by
          simp only [isP, e]
        rw [z2] at q'
        exact q'
      | [x], e, hs, ga =>
        have z2 : isP H (.ref a) = false := by
          simp only [isP, e]
        rw [z2] at q'
        exact q'
      | x :: y :: u :: r, e, hs, ga =>
        have z2 : isP H (.ref a) = false := by
          simp only [isP, e]
        rw [z2] at q'
        have ne : (V.int ((x :: y :: u :: r).length : Nat)) ≠ .int 2 := fun z => by
          have z := V.int.inj z
          simp only [List.length_cons] at z
          omega
        rw [decide_eq_false ne]
        exact q'
end
theorem isP_same {N : Addr → Prop} {H G : Hp} {v : V} (g : Gd N H v) (s : Same H G) : isP G v = isP H v := by
  cases g with
  | lst n e _ => simp only [isP, e, s _ _ e]
  | tup n e _ => simp only [isP, e, s _ _ e]
  | dct n e => simp only [isP, e, s _ _ e]
  | _ => rfl
theorem Gd.imp2 {N M : Addr → Prop} {H H' : Hp} {v : V} (g : Gd N H v) (k : ∀ b o, H b = some o → N b → M b ∧ H' b = some o) : Gd M H' v := by
  induction g with
  | non => exact .non
  | bl b => exact .bl b
  | int i => exact .int i
  | str x => exact .str x
  | lst n e _ ih => exact .lst (k _ _ e n).1 (k _ _ e n).2 ih
  | tup n e _ ih => exact .tup (k _ _ e n).1 (k _ _ e n).2 ih
  | dct n e => exact .dct (k _ _ e n).1 (k _ _ e n).2
theorem Gd.same {N : Addr → Prop} {H G : Hp} {v : V} (g : Gd N H v) (s : Same H G) : Gd N G v := g.imp (fun _ n => n) fun _ _ e _ => s _ _ e
end Bay
set_option Elab.async false
set_option linter.all false
set_option maxRecDepth 100000
set_option maxHeartbeats 4000000
namespace Bay
open PySem PySem.Spec PyProof.Rows L2 Err Seg
def ini (i : Nat) : Stmt := match top i with
  | .ClassDef _ _ _ b _ _ _ _ _ _ _ => b.getD 0 (.Pass ⟨0, 0, 0, 0⟩)
  | _ => .Pass ⟨0, 0, 0, 0⟩
theorem shapeB : One "BadPoint.__init__" (ini 2) "part" := by
  refine ⟨⟨_, _, _, _, _, _, _, _, _, _, _, _, ?pl, ?sup, ?fld, by rfl⟩, ⟨_, by rfl, by rfl⟩, by decide⟩
  (case sup => (refine ⟨fun L f cda cc => ?_, fun L f cda cc => ?_, fun L f cda cc => ?_, ?_, ?_, ?_, ?_, ?_, ?_, ?_⟩; (· rfl); (· rfl); (· rfl); (· decide +kernel); (· decide +kernel); (· decide +kernel); (· rfl); (· rfl); (· rfl); (· decide +kernel)))
  (case fld => (refine ⟨fun L a cda cc => ?_, ?_, ?_⟩; (· rfl); (· decide +kernel); (· decide +kernel)))
theorem shapeM : One "Misfit.__init__" (ini 3) "part" := by
  refine ⟨⟨_, _, _, _, _, _, _, _, _, _, _, _, ?pl, ?sup, ?fld, by rfl⟩, ⟨_, by rfl, by rfl⟩, by decide⟩
  (case sup => (refine ⟨fun L f cda cc => ?_, fun L f cda cc => ?_, fun L f cda cc => ?_, ?_, ?_, ?_, ?_, ?_, ?_, ?_⟩; (· rfl); (· rfl); (· rfl); (· decide +kernel); (· decide +kernel); (· decide +kernel); (· rfl); (· rfl); (· rfl); (· decide +kernel)))
  (case fld => (refine ⟨fun L a cda cc => ?_, ?_, ?_⟩; (· rfl); (· decide +kernel); (· decide +kernel)))
/-- the two classes -/
structure Cl2 (P : Program) (K : PySem.W.Frag) (mg : Str → Option Value) (F CB CM : Addr) : Prop where
  B : Base K mg "FenceError" F
  sup : mg "super" = none
  tp : (P.main.scope.names.lookup ("super" : Str)).isSome = false
  cb : EC P K mg F "BadPoint" "BadPoint.__init__" (ini 2) CB
  nb : PySem.W.findIn K (.ref CB) "part" = some none
  cm : EC P K mg F "Misfit" "Misfit.__init__" (ini 3) CM
  nm : PySem.W.findIn K (.ref CM) "part" = some none
theorem ite_t {c : Bool} {A B : Prop} (h : c = true) (a : A) : if c = true then A else B := by
  rw [if_pos h]
  exact a
theorem ite_f {c : Bool} {A B : Prop} (h : c = false) (b : B) : if c = true then A else B := by
  rw [if_neg (by rw [h]; exact Bool.false_ne_true)]
  exact b
theorem lenE {te : TE} : Len (tCons te tNil) 1 → True := fun _ => trivial
theorem len1 {i : Nat} : Len (tCons (tVar i) tNil) 1 := fun σ H Q h => by
  obtain ⟨v, e, q⟩ := h
  exact ⟨v, e, rfl, q⟩
theorem len1c {v : V} : Len (tCons (tC v) tNil) 1 := fun σ H Q h => ⟨rfl, h⟩
/-- a point -/
def Pt (H : Hp) (v : V) (x y : Int) : Prop := ∃ p, v = .ref p ∧ (H p = some (.lst [.int x, .int y]) ∨ H p = some (.tup [.int x, .int y]))
theorem Pt.same {H G : Hp} {v : V} {x y : Int} (a : Pt H v x y) (s : Same H G) : Pt G v x y := by
  obtain ⟨p, e, h | h⟩ := a
  · exact ⟨p, e, .inl (s _ _ h)⟩
  · exact ⟨p, e, .inr (s _ _ h)⟩
/-- its coordinate with a number -/
def crd (x y : Int) (k : Int) : Int := if k = 0 then x else y
def rIxP : R2 := fun v k H Q => ∃ (x y i : Int), Pt H v x y ∧ k = .int i ∧ (i = 0 ∨ i = 1) ∧ Q (.int (crd x y i)) H
theorem ix_pt {X : Cx} : IxR X rIxP := by
  intro e1 e2 pins s σ H x y v u Q I rx ry h z
  obtain ⟨a, b, i, ⟨p, rfl, hp⟩, rfl, hi, q⟩ := h
  have q0 : i = 0 → Q (.int a) H := fun e => by
    subst e
    exact q
  have q1 : i = 1 → Q (.int b) H := fun e => by
    subst e
    exact q
  have ix : atI [V.int a, V.int b] i = some (.int (crd a b i)) := by
    rcases hi with e | e <;> (subst e; rfl)
  rcases hp with hp | hp
  · exact ix_list e1 e2 pins s σ H _ _ v u Q I rx ry ⟨p, _, i, _, rfl, rfl, SqL.of hp, ix, q⟩ z
  · exact ix_tup e1 e2 pins s σ H _ _ v u Q I rx ry ⟨p, _, i, _, rfl, rfl, SqT.of hp, ix, q⟩ z
def Sml (x : Int) : Prop := x.natAbs < 2 ^ 110
theorem mulw {i j : Int} (hi : i.natAbs < 2 ^ 111) (hj : j.natAbs < 2 ^ 111) : CMulW i j := wide_mul hi hj (by decide) (by decide) (by decide)
theorem sml_sub {x y : Int} (hx : Sml x) (hy : Sml y) : (x - y).natAbs < 2 ^ 111 := by
  unfold Sml at *
  have e : (2 : Nat) ^ 111 = 2 * 2 ^ 110 := by decide
  rw [e]
  generalize (2 : Nat) ^ 110 = k at *
  omega
section
variable {P : Program} {w : World} {K : PySem.W.Frag} {mg : Str → Option Value} {base : Heap} {F CB CM : Addr}
def spWant (CB : Addr) : Sp := fun vs H Q E => ∃ (N : Addr → Prop) (v : V) (s : Str), vs = [v, .str s] ∧ Gd N H v ∧ (isP H v = true → ∀ H', Same H H' → Q .non H') ∧
  (isP H v = false → ∀ H', Same H H' → ∀ d, H' d = none → E (.ref CB) (some d) (upd H' d (.xd [(("part" : Str), .str s)])))
abbrev sWant : Stmt := top 8
theorem scWant : FnScope ["value", "part"] ["value", "part"] (defScope sWant) := ⟨rfl, rfl, rfl, by decide +kernel, rfl, by decide +kernel, by decide +kernel⟩
theorem ok_want {f fI fP : Addr} {fd fdI fdP : FuncData} (Fn : Fun K "want_point" "want_point" sWant f fd) (FP : Fun K "is_point" "is_point" sPoint fP fdP) (FI : Fun K "is_integer" "is_integer" sInt fI fdI) (T : Blt3 mg) (gI : mg "is_integer" = some (.ref fI)) (bI : Binds K fdI ["value"] []) (gP : mg "is_point" = some (.ref fP)) (bP : Binds K fdP ["value"] []) (TC : Cl2 P K mg F CB CM) :
    FnOk P w K mg base (L2.CX P w) 3 f fd ["value", "part"] (spWant CB) := by
  have GP : FnOk P w K mg base CX0 2 fP fdP ["value"] spPoint := ok_point FP FI T gI bI
  refine Fn.okX scWant (fun vs H Q E h => ?_) (fun cdv A outer s H vs Q E hr h => ?_)
  · obtain ⟨N, v, s, rfl, _⟩ := h
    rfl
  · obtain ⟨N, v, s, rfl, g, q1, q2⟩ := h
    refine ⟨_, pss_one (ps_if (pt_not (pt_val (pe_call GP hr (by rfl) gP FP.kp bP .nil pass0 (pa_cons (pv 0) pa_nil)))) (pss_one (ps_raise rfl (takes_of rfl rfl rfl rfl) (pmkA (TC.cb.err TC.B) (mk10 (TC.cb.own TC.B) shapeB TC.nb TC.tp (fun _ _ _ _ _ _ _ _ _ => rfl)) TC.sup hr (pa_cons (pv 1) pa_nil) len1))) pss_nil), ?_⟩
    refine ⟨v, rfl, N, v, rfl, g, fun H' s' => ?_⟩
    cases c : isP H v with
    | true => exact ⟨true, rfl, ite_f rfl (q1 c H' s')⟩
    | false => exact ⟨false, rfl, ite_t rfl ⟨.str s, rfl, q2 c H' s'⟩⟩
/-- six small numbers -/
structure Six (a b c d e f : Int) : Prop where
  a : Sml a
  b : Sml b
  c : Sml c
  d : Sml d
  e : Sml e
  f : Sml f
def spCross : Sp := fun vs H Q _ => ∃ (v1 v2 v3 : V) (a b c d e f : Int), vs = [v1, v2, v3] ∧ Pt H v1 a b ∧ Pt H v2 c d ∧ Pt H v3 e f ∧ Six a b c d e f ∧ Q (.int (cr a b c d e f)) H
abbrev sCross : Stmt := top 10
theorem scCross : FnScope ["one", "other", "point", "along"] ["one", "other", "point"] (defScope sCross) := ⟨rfl, rfl, rfl, by decide +kernel, rfl, by decide +kernel, by decide +kernel⟩
theorem ok_cross {f : Addr} {fd : FuncData} (Fn : Fun K "cross_of" "cross_of" sCross f fd) : FnOk P w K mg base CX0 1 f fd ["one", "other", "point"] spCross := by
  refine Fn.ok scCross (fun vs H Q E h => ?_) (fun cdv A outer s H vs Q E hr h => ?_)
  · obtain ⟨v1, v2, v3, a, b, c, d, e, f, rfl, _⟩ := h
    rfl
  · obtain ⟨v1, v2, v3, a, b, c, d, e, f, rfl, P1, P2, P3, S, q⟩ := h
    have nd := scCross.nd
    refine ⟨_, pss_cons (ps_set (i := 3) nd rfl (.inl rfl) (pe_op op_mulW (pe_op op_sub (pe_ix ix_pt (pv 1) pe_int (fun _ _ => rfl)) (pe_ix ix_pt (pv 0) pe_int (fun _ _ => rfl))) (pe_op op_sub (pe_ix ix_pt (pv 2) pe_int (fun _ _ => rfl)) (pe_ix ix_pt (pv 0) pe_int (fun _ _ => rfl)))))
      (pss_one (ps_ret (pe_op op_sub (pv 3) (pe_op op_mulW (pe_op op_sub (pe_ix ix_pt (pv 1) pe_int (fun _ _ => rfl)) (pe_ix ix_pt (pv 0) pe_int (fun _ _ => rfl))) (pe_op op_sub (pe_ix ix_pt (pv 2) pe_int (fun _ _ => rfl)) (pe_ix ix_pt (pv 0) pe_int (fun _ _ => rfl))))))), ?_⟩
    refine ⟨v2, rfl, c, d, 0, P2, rfl, .inl rfl, v1, rfl, a, b, 0, P1, rfl, .inl rfl, _, _, rfl, rfl, v3, rfl, e, f, 1, P3, rfl, .inr rfl, v1, rfl, a, b, 1, P1, rfl, .inr rfl, _, _, rfl, rfl, _, _, rfl, rfl, mulw (sml_sub S.c S.a) (sml_sub S.f S.b), ?_⟩
    refine ⟨_, rfl, v2, rfl, c, d, 1, P2, rfl, .inr rfl, v1, rfl, a, b, 1, P1, rfl, .inr rfl, _, _, rfl, rfl, v3, rfl, e, f, 0, P3, rfl, .inl rfl, v1, rfl, a, b, 0, P1, rfl, .inl rfl, _, _, rfl, rfl, _, _, rfl, rfl, mulw (sml_sub S.d S.b) (sml_sub S.e S.a), ?_⟩
    exact ⟨_, _, rfl, rfl, q⟩
end
end Bay
set_option Elab.async false
set_option linter.all false
set_option maxRecDepth 100000
set_option maxHeartbeats 4000000
namespace Bay
open PySem PySem.Spec PyProof.Rows L2 Err Seg
theorem max_is (m n : Int) : (if n > m then n else m) = max m n := by split <;> omega
theorem min_is (m n : Int) : (if n < m then n else m) = min m n := by split <;> omega
/-- eight small numbers -/
structure Eight (a b c d e f g h : Int) : Prop where
  s1 : Six a b c d e f
  g : Sml g
  h : Sml h
theorem Eight.s2 {a b c d e f g h : Int} (s : Eight a b c d e f g h) : Six a b c d g h := ⟨s.s1.a, s.s1.b, s.s1.c, s.s1.d, s.g, s.h⟩
theorem Eight.s3 {a b c d e f g h : Int} (s : Eight a b c d e f g h) : Eight e f g h a b c d := ⟨⟨s.s1.e, s.s1.f, s.g, s.h, s.s1.a, s.s1.b⟩, s.s1.c, s.s1.d⟩
theorem Eight.s4 {a b c d e f g h : Int} (s : Eight a b c d e f g h) : Eight c d a b e f g h := ⟨⟨s.s1.c, s.s1.d, s.s1.a, s.s1.b, s.s1.e, s.s1.f⟩, s.g, s.h⟩
structure Pts (H : Hp) (v1 v2 v3 v4 : V) (a b c d e f g h : Int) : Prop where
  p1 : Pt H v1 a b
  p2 : Pt H v2 c d
  p3 : Pt H v3 e f
  p4 : Pt H v4 g h
theorem Pts.same {H G : Hp} {v1 v2 v3 v4 : V} {a b c d e f g h : Int} (p : Pts H v1 v2 v3 v4 a b c d e f g h) (s : Same H G) : Pts G v1 v2 v3 v4 a b c d e f g h := ⟨p.p1.same s, p.p2.same s, p.p3.same s, p.p4.same s⟩
structure BltM (mg : Str → Option Value) : Prop where
  mx : mg "max" = none
  mn : mg "min" = none
section
variable {P : Program} {w : World} {K : PySem.W.Frag} {mg : Str → Option Value} {base : Heap} {F CB CM : Addr}
def spBoxes : Sp := fun vs H Q _ => ∃ (v1 v2 v3 v4 : V) (a b c d e f g h : Int), vs = [v1, v2, v3, v4] ∧ Pts H v1 v2 v3 v4 a b c d e f g h ∧ ∀ (H' : Hp) (r : Bool), Same H H' → (r = true ↔ Box a c e g ∧ Box b d f h) → Q (.bl r) H'
abbrev sBoxes : Stmt := top 12
abbrev nBoxes : List Str := ["one", "other", "third", "fourth", "at"]
theorem scBoxes : FnScope nBoxes ["one", "other", "third", "fourth"] (defScope sBoxes) := ⟨rfl, rfl, rfl, by decide +kernel, rfl, by decide +kernel, by decide +kernel⟩
theorem ok_boxes {f : Addr} {fd : FuncData} (Fn : Fun K "boxes_meet" "boxes_meet" sBoxes f fd) (T : BltM mg) : FnOk P w K mg base CX0 1 f fd ["one", "other", "third", "fourth"] spBoxes := by
  refine Fn.ok scBoxes (fun vs H Q E h => ?_) (fun cdv A outer s H vs Q E hr h => ?_)
  · obtain ⟨v1, v2, v3, v4, a, b, c, d, e, f, g, h, rfl, _⟩ := h
    rfl
  · obtain ⟨v1, v2, v3, v4, a, b, c, d, e, f, g, h, rfl, ps, q⟩ := h
    have nd := scBoxes.nd
    refine ⟨_, pss_cons (ps_for PassesOwn.never rfl (pi_tup (pe_tup (pa_cons pe_int (pa_cons pe_int pa_nil)))) (pg_name (i := 4) nd rfl (Or.inl rfl))
      (pss_cons (ps_if (pt_cmpR op_lt (pe_callB (call_max2 rfl) (by rfl) T.mx (by decide +kernel) (pa_cons (pe_ix ix_pt (pv 0) (pv 4) (fun _ _ => rfl)) (pa_cons (pe_ix ix_pt (pv 1) (pv 4) (fun _ _ => rfl)) pa_nil))) (pe_callB (call_min2 rfl) (by rfl) T.mn (by decide +kernel) (pa_cons (pe_ix ix_pt (pv 2) (pv 4) (fun _ _ => rfl)) (pa_cons (pe_ix ix_pt (pv 3) (pv 4) (fun _ _ => rfl)) pa_nil))) (nomark _)) (pss_one (ps_ret pe_bl)) pss_nil)
      (pss_one (ps_if (pt_cmpR op_lt (pe_callB (call_max2 rfl) (by rfl) T.mx (by decide +kernel) (pa_cons (pe_ix ix_pt (pv 2) (pv 4) (fun _ _ => rfl)) (pa_cons (pe_ix ix_pt (pv 3) (pv 4) (fun _ _ => rfl)) pa_nil))) (pe_callB (call_min2 rfl) (by rfl) T.mn (by decide +kernel) (pa_cons (pe_ix ix_pt (pv 0) (pv 4) (fun _ _ => rfl)) (pa_cons (pe_ix ix_pt (pv 1) (pv 4) (fun _ _ => rfl)) pa_nil))) (nomark _)) (pss_one (ps_ret pe_bl)) pss_nil))))
      (pss_one (ps_ret pe_bl)), ?_⟩
    refine ⟨(by show 2 ≤ sizeLine; decide), fun p np => ⟨p, rfl, ⟨_, SqT.of upd_same⟩, ?_⟩⟩
    have s0 : Same H (upd H p (.tup [.int 0, .int 1])) := Same.new np
    have e0 : (upd H p (.tup [.int 0, .int 1])) p = some (.tup [.int 0, .int 1]) := upd_same
    generalize upd H p (.tup [.int 0, .int 1]) = G at s0 e0
    have pg := ps.same s0
    refine for_it (walk_tup (K := K) (a := p) (xs := [.int 0, .int 1])) (fun i σ J => (∃ y, σ = [some v1, some v2, some v3, some v4, y]) ∧ J = G ∧ (0 < i → Box a c e g) ∧ (1 < i → Box b d f h))
      ⟨⟨none, rfl⟩, rfl, fun z => absurd z (by omega), fun z => absurd z (by omega)⟩ (fun i σ J _ z => by rw [z.2.1]; exact SqT.of e0) ?_ ?_
    · rintro i x σ J J' hi ⟨⟨y, rfl⟩, rfl, b1, b2⟩ ⟨rfl, hx⟩
      have hi : i < 2 := hi
      have hx' : x = .int (i : Nat) := by
        have c : i = 0 ∨ i = 1 := by omega
        rcases c with rfl | rfl <;> exact (Option.some.inj hx).symm
      subst hx'
      have hk : (i : Int) = 0 ∨ (i : Int) = 1 := by omega
      have bx : Box (crd a b i) (crd c d i) (crd e f i) (crd g h i) ↔ ((i = 0 → Box a c e g) ∧ (i = 1 → Box b d f h)) := by
        have c : i = 0 ∨ i = 1 := by omega
        rcases c with rfl | rfl
        · exact ⟨fun z => ⟨fun _ => z, fun z => nomatch z⟩, fun z => z.1 rfl⟩
        · exact ⟨fun z => ⟨(fun z => nomatch z), fun _ => z⟩, fun z => z.2 rfl⟩
      have no : ¬ Box (crd a b i) (crd c d i) (crd e f i) (crd g h i) → Q (.bl false) J' := fun z => by
        refine q _ false s0 ⟨(fun z => nomatch z), fun ⟨y1, y2⟩ => ?_⟩
        exact absurd (bx.mpr ⟨fun _ => y1, fun _ => y2⟩) z
      refine ⟨v1, rfl, .int i, rfl, a, b, i, pg.p1, rfl, hk, v2, rfl, .int i, rfl, c, d, i, pg.p2, rfl, hk, _, _, rfl, v3, rfl, .int i, rfl, e, f, i, pg.p3, rfl, hk, v4, rfl, .int i, rfl, g, h, i, pg.p4, rfl, hk, _, _, rfl, _, _, rfl, rfl, _, rfl, ?_⟩
      rw [max_is, min_is]
      refine ite2 (fun z => no fun y => y.1 (of_decide_eq_true z)) (fun z1 => ?_)
      refine ⟨v3, rfl, .int i, rfl, e, f, i, pg.p3, rfl, hk, v4, rfl, .int i, rfl, g, h, i, pg.p4, rfl, hk, _, _, rfl, v1, rfl, .int i, rfl, a, b, i, pg.p1, rfl, hk, v2, rfl, .int i, rfl, c, d, i, pg.p2, rfl, hk, _, _, rfl, _, _, rfl, rfl, _, rfl, ?_⟩
      rw [max_is, min_is]
      refine ite2 (fun z => no fun y => y.2 (of_decide_eq_true z)) (fun z2 => ?_)
      have yes := bx.mp ⟨fun z => z1 (decide_eq_true z), fun z => z2 (decide_eq_true z)⟩
      refine ⟨⟨_, rfl⟩, rfl, fun z => ?_, fun z => ?_⟩
      · by_cases c : i = 0
        · exact yes.1 c
        · exact b1 (by omega)
      · exact yes.2 (by omega)
    · rintro σ J ⟨⟨y, rfl⟩, rfl, b1, b2⟩
      exact q _ true s0 ⟨fun _ => ⟨b1 (by decide), b2 (by decide)⟩, fun _ => rfl⟩
end
end Bay
set_option Elab.async false
set_option linter.all false
set_option maxRecDepth 100000
set_option maxHeartbeats 4000000
namespace Bay
open PySem PySem.Spec PyProof.Rows L2 Err Seg
section
variable {P : Program} {w : World} {K : PySem.W.Frag} {mg : Str → Option Value} {base : Heap} {F CB CM : Addr}
def spBeside : Sp := fun vs H Q _ => ∃ (v1 v2 v3 v4 : V) (a b c d e f g h : Int), vs = [v1, v2, v3, v4] ∧ Pts H v1 v2 v3 v4 a b c d e f g h ∧ Eight a b c d e f g h ∧ ∀ (r : Bool), (r = true ↔ Bes (cr a b c d e f) (cr a b c d g h)) → Q (.bl r) H
abbrev sBeside : Stmt := top 13
abbrev nBeside : List Str := ["one", "other", "third", "fourth", "first", "second"]
theorem scBeside : FnScope nBeside ["one", "other", "third", "fourth"] (defScope sBeside) := ⟨rfl, rfl, rfl, by decide +kernel, rfl, by decide +kernel, by decide +kernel⟩
theorem ok_beside {f fC : Addr} {fd fdC : FuncData} (Fn : Fun K "are_beside" "are_beside" sBeside f fd) (FC : Fun K "cross_of" "cross_of" sCross fC fdC) (gC : mg "cross_of" = some (.ref fC)) (bC : Binds K fdC ["one", "other", "point"] []) : FnOk P w K mg base CX0 2 f fd ["one", "other", "third", "fourth"] spBeside := by
  have GC : FnOk P w K mg base CX0 1 fC fdC ["one", "other", "point"] spCross := ok_cross FC
  refine Fn.ok scBeside (fun vs H Q E h => ?_) (fun cdv A outer s H vs Q E hr h => ?_)
  · obtain ⟨v1, v2, v3, v4, a, b, c, d, e, f, g, h, rfl, _⟩ := h
    rfl
  · obtain ⟨v1, v2, v3, v4, a, b, c, d, e, f, g, h, rfl, ps, sm, q⟩ := h
    have nd := scBeside.nd
    refine ⟨_, pss_cons (ps_set (i := 4) nd rfl (.inl rfl) (pe_call GC hr (by rfl) gC FC.kp bC .nil pass0 (pa_cons (pv 0) (pa_cons (pv 1) (pa_cons (pv 2) pa_nil)))))
      (pss_cons (ps_set (i := 5) nd rfl (.inl rfl) (pe_call GC hr (by rfl) gC FC.kp bC .nil pass0 (pa_cons (pv 0) (pa_cons (pv 1) (pa_cons (pv 3) pa_nil)))))
      (pss_one (ps_ret (pe_or (pe_and (pe_cmpR op_gt (pv 4) pe_int (nomark _)) (pe_one (pe_cmpR op_gt (pv 5) pe_int (nomark _)))) (pe_one (pe_and (pe_cmpR op_lt (pv 4) pe_int (nomark _)) (pe_one (pe_cmpR op_lt (pv 5) pe_int (nomark _))))))))), ?_⟩
    refine ⟨v1, rfl, v2, rfl, v3, rfl, v1, v2, v3, a, b, c, d, e, f, rfl, ps.p1, ps.p2, ps.p3, sm.s1, ?_⟩
    refine ⟨v1, rfl, v2, rfl, v4, rfl, v1, v2, v4, a, b, c, d, g, h, rfl, ps.p1, ps.p2, ps.p4, sm.s2, ?_⟩
    generalize cr a b c d e f = p at q
    generalize cr a b c d g h = r at q
    have neg : ¬ (0 < p ∧ 0 < r) → tAndV (tOp (rI0 fun i j => V.bl (decide (i < j))) (tVar 4) (tC (V.int 0))) (tOp (rI0 fun i j => V.bl (decide (i < j))) (tVar 5) (tC (V.int 0))) [some v1, some v2, some v3, some v4, some (.int p), some (.int r)] H Q := by
      intro n
      refine ⟨.int p, rfl, p, 0, rfl, rfl, _, rfl, ite2 (fun z => ?_) (fun z => ?_)⟩
      · have z := of_decide_eq_true z
        refine ⟨.int r, rfl, r, 0, rfl, rfl, q _ ?_⟩
        rw [decide_eq_true_iff]
        unfold Bes
        omega
      · have z : ¬ p < 0 := fun y => z (decide_eq_true y)
        refine q false ⟨(fun z => nomatch z), fun y => ?_⟩
        unfold Bes at y
        omega
    refine ⟨.int p, rfl, p, 0, rfl, rfl, _, rfl, ite2 (fun z => ?_) (fun z => ?_)⟩
    · have z := of_decide_eq_true z
      refine ⟨.int r, rfl, r, 0, rfl, rfl, _, rfl, ite2 (fun y => ?_) (fun y => ?_)⟩
      · have y := of_decide_eq_true y
        exact q true ⟨fun _ => .inl ⟨z, y⟩, fun _ => rfl⟩
      · exact neg fun x => y (decide_eq_true x.2)
    · exact ⟨false, rfl, iteF (neg fun x => z (decide_eq_true x.1))⟩
def spMeet : Sp := fun vs H Q _ => ∃ (v1 v2 v3 v4 : V) (a b c d e f g h : Int), vs = [v1, v2, v3, v4] ∧ Pts H v1 v2 v3 v4 a b c d e f g h ∧ Eight a b c d e f g h ∧ ∀ (H' : Hp) (r : Bool), Same H H' → (r = true ↔ Sm a b c d e f g h) → Q (.bl r) H'
abbrev sMeet : Stmt := top 14
theorem scMeet : FnScope ["one", "other", "third", "fourth"] ["one", "other", "third", "fourth"] (defScope sMeet) := ⟨rfl, rfl, rfl, by decide +kernel, rfl, by decide +kernel, by decide +kernel⟩
theorem ok_meet {f fX fB : Addr} {fd fdX fdB : FuncData} (Fn : Fun K "stretches_meet" "stretches_meet" sMeet f fd) (FX : Fun K "boxes_meet" "boxes_meet" sBoxes fX fdX) (FB : Fun K "are_beside" "are_beside" sBeside fB fdB) (T : BltM mg)
    (GB : FnOk P w K mg base CX0 2 fB fdB ["one", "other", "third", "fourth"] spBeside) (gX : mg "boxes_meet" = some (.ref fX)) (bX : Binds K fdX ["one", "other", "third", "fourth"] []) (gB : mg "are_beside" = some (.ref fB)) (bB : Binds K fdB ["one", "other", "third", "fourth"] []) :
    FnOk P w K mg base CX0 3 f fd ["one", "other", "third", "fourth"] spMeet := by
  have GX : FnOk P w K mg base CX0 1 fX fdX ["one", "other", "third", "fourth"] spBoxes := ok_boxes FX T
  refine Fn.ok scMeet (fun vs H Q E h => ?_) (fun cdv A outer s H vs Q E hr h => ?_)
  · obtain ⟨v1, v2, v3, v4, a, b, c, d, e, f, g, h, rfl, _⟩ := h
    rfl
  · obtain ⟨v1, v2, v3, v4, a, b, c, d, e, f, g, h, rfl, ps, sm, q⟩ := h
    have hr1 : Room 1 _ := hr.mono (by decide)
    refine ⟨_, pss_cons (ps_if (pt_not (pt_val (pe_call GX hr1 (by rfl) gX FX.kp bX .nil pass0 (pa_cons (pv 0) (pa_cons (pv 1) (pa_cons (pv 2) (pa_cons (pv 3) pa_nil))))))) (pss_one (ps_ret pe_bl)) pss_nil)
      (pss_cons (ps_if (pt_val (pe_call GB hr (by rfl) gB FB.kp bB .nil pass0 (pa_cons (pv 0) (pa_cons (pv 1) (pa_cons (pv 2) (pa_cons (pv 3) pa_nil)))))) (pss_one (ps_ret pe_bl)) pss_nil)
      (pss_one (ps_ret (pe_not (pe_call GB hr (by rfl) gB FB.kp bB .nil pass0 (pa_cons (pv 2) (pa_cons (pv 3) (pa_cons (pv 0) (pa_cons (pv 1) pa_nil))))))))), ?_⟩
    refine ⟨v1, rfl, v2, rfl, v3, rfl, v4, rfl, v1, v2, v3, v4, a, b, c, d, e, f, g, h, rfl, ps, fun G r s1 hr1 => ⟨r, rfl, ?_⟩⟩
    cases r with
    | false =>
      refine iteT ?_
      exact q G false s1 ⟨(fun z => nomatch z), fun z => absurd (hr1.mpr ⟨z.1, z.2.1⟩) Bool.false_ne_true⟩
    | true =>
      have bx := hr1.mp rfl
      refine iteF ?_
      have ps1 := ps.same s1
      refine ⟨v1, rfl, v2, rfl, v3, rfl, v4, rfl, v1, v2, v3, v4, a, b, c, d, e, f, g, h, rfl, ps1, sm, fun r hr2 => ⟨r, rfl, ?_⟩⟩
      cases r with
      | true =>
        refine iteT ?_
        exact q G false s1 ⟨(fun z => nomatch z), fun z => absurd (hr2.mp rfl) z.2.2.1⟩
      | false =>
        refine iteF ?_
        have n1 : ¬ Bes (cr a b c d e f) (cr a b c d g h) := fun z => Bool.false_ne_true (hr2.mpr z)
        refine ⟨v3, rfl, v4, rfl, v1, rfl, v2, rfl, v3, v4, v1, v2, e, f, g, h, a, b, c, d, rfl, ⟨ps1.p3, ps1.p4, ps1.p1, ps1.p2⟩, sm.s3, fun r hr3 => ⟨r, rfl, q G (!r) s1 ?_⟩⟩
        cases r with
        | true => exact ⟨(fun z => nomatch z), fun z => absurd (hr3.mp rfl) z.2.2.2⟩
        | false => exact ⟨fun _ => ⟨bx.1, bx.2, n1, fun z => Bool.false_ne_true (hr3.mpr z)⟩, fun _ => rfl⟩
/-- do_meet: the first that is no point is refused; else whether they meet -/
def spDo (CB : Addr) : Sp := fun vs H Q E => ∃ (N : Addr → Prop) (v1 v2 v3 v4 : V), vs = [v1, v2, v3, v4] ∧ Gd N H v1 ∧ Gd N H v2 ∧ Gd N H v3 ∧ Gd N H v4 ∧
  (∀ (x : Str), ((isP H v1 = false ∧ x = "one") ∨ (isP H v1 = true ∧ isP H v2 = false ∧ x = "other") ∨ (isP H v1 = true ∧ isP H v2 = true ∧ isP H v3 = false ∧ x = "third") ∨ (isP H v1 = true ∧ isP H v2 = true ∧ isP H v3 = true ∧ isP H v4 = false ∧ x = "fourth")) →
    ∀ H', Same H H' → ∀ d, H' d = none → E (.ref CB) (some d) (upd H' d (.xd [(("part" : Str), .str x)]))) ∧
  ((isP H v1 = true ∧ isP H v2 = true ∧ isP H v3 = true ∧ isP H v4 = true) → ∃ (a b c d e f g h : Int), Pts H v1 v2 v3 v4 a b c d e f g h ∧ Eight a b c d e f g h ∧ ∀ (H' : Hp) (r : Bool), Same H H' → (r = true ↔ Sm a b c d e f g h) → Q (.bl r) H')
abbrev sDo : Stmt := top 15
theorem scDo : FnScope ["one", "other", "third", "fourth"] ["one", "other", "third", "fourth"] (defScope sDo) := ⟨rfl, rfl, rfl, by decide +kernel, rfl, by decide +kernel, by decide +kernel⟩
theorem ok_do {f fW fM : Addr} {fd fdW fdM : FuncData} (Fn : Fun K "do_meet" "do_meet" sDo f fd) (FW : Fun K "want_point" "want_point" sWant fW fdW) (FM : Fun K "stretches_meet" "stretches_meet" sMeet fM fdM)
    (GW : FnOk P w K mg base (L2.CX P w) 3 fW fdW ["value", "part"] (spWant CB)) (GM : FnOk P w K mg base CX0 3 fM fdM ["one", "other", "third", "fourth"] spMeet) (gW : mg "want_point" = some (.ref fW)) (bW : Binds K fdW ["value", "part"] []) (gM : mg "stretches_meet" = some (.ref fM)) (bM : Binds K fdM ["one", "other", "third", "fourth"] []) :
    FnOk P w K mg base (L2.CX P w) 4 f fd ["one", "other", "third", "fourth"] (spDo CB) := by
  refine Fn.okX scDo (fun vs H Q E h => ?_) (fun cdv A outer s H vs Q E hr h => ?_)
  · obtain ⟨N, v1, v2, v3, v4, rfl, _⟩ := h
    rfl
  · obtain ⟨N, v1, v2, v3, v4, rfl, g1, g2, g3, g4, no, yes⟩ := h
    have wp : ∀ (i : Nat) {es : List Expr} {t : TA}, True := fun _ _ _ => trivial
    refine ⟨_, pss_cons (ps_expr (pe_callS GW hr (by rfl) gW FW.kp bW (fun σ => passAt (takes_of rfl rfl rfl rfl) σ) (pa_cons (pv 0) (pa_cons pe_str pa_nil))))
      (pss_cons (ps_expr (pe_callS GW hr (by rfl) gW FW.kp bW (fun σ => passAt (takes_of rfl rfl rfl rfl) σ) (pa_cons (pv 1) (pa_cons pe_str pa_nil))))
      (pss_cons (ps_expr (pe_callS GW hr (by rfl) gW FW.kp bW (fun σ => passAt (takes_of rfl rfl rfl rfl) σ) (pa_cons (pv 2) (pa_cons pe_str pa_nil))))
      (pss_cons (ps_expr (pe_callS GW hr (by rfl) gW FW.kp bW (fun σ => passAt (takes_of rfl rfl rfl rfl) σ) (pa_cons (pv 3) (pa_cons pe_str pa_nil))))
      (pss_one (ps_ret (pe_call GM hr (by rfl) gM FM.kp bM .nil pass0 (pa_cons (pv 0) (pa_cons (pv 1) (pa_cons (pv 2) (pa_cons (pv 3) pa_nil)))))))))), ?_⟩
    refine ⟨v1, rfl, N, v1, "one", rfl, g1, fun p1 G1 s1 => ?_, fun n G s d nd => no "one" (.inl ⟨n, rfl⟩) G s d nd⟩
    refine ⟨v2, rfl, N, v2, "other", rfl, g2.same s1, fun p2 G2 s2 => ?_, fun n G s d nd => no "other" (.inr (.inl ⟨p1, by rw [← isP_same g2 s1]; exact n, rfl⟩)) G (s1.trans s) d nd⟩
    rw [isP_same g2 s1] at p2
    have t2 := s1.trans s2
    refine ⟨v3, rfl, N, v3, "third", rfl, g3.same t2, fun p3 G3 s3 => ?_, fun n G s d nd => no "third" (.inr (.inr (.inl ⟨p1, p2, by rw [← isP_same g3 t2]; exact n, rfl⟩))) G (t2.trans s) d nd⟩
    rw [isP_same g3 t2] at p3
    have t3 := t2.trans s3
    refine ⟨v4, rfl, N, v4, "fourth", rfl, g4.same t3, fun p4 G4 s4 => ?_, fun n G s d nd => no "fourth" (.inr (.inr (.inr ⟨p1, p2, p3, by rw [← isP_same g4 t3]; exact n, rfl⟩))) G (t3.trans s) d nd⟩
    rw [isP_same g4 t3] at p4
    have t4 := t3.trans s4
    obtain ⟨a, b, c, d, e, f, g, h, ps, sm, q⟩ := yes ⟨p1, p2, p3, p4⟩
    exact ⟨v1, rfl, v2, rfl, v3, rfl, v4, rfl, v1, v2, v3, v4, a, b, c, d, e, f, g, h, rfl, ps.same t4, sm, fun H' r s' hr' => q H' r (t4.trans s') hr'⟩
end
end Bay
set_option Elab.async false
set_option linter.all false
set_option maxRecDepth 100000
set_option maxHeartbeats 4000000
namespace Bay
open PySem PySem.Spec PyProof.Rows L2 Err Seg
def sg (z : Int) : Int := if z = 0 then 0 else if 0 < z then 1 else -1
theorem shaped_tup (a b : Int) : SeqAt.shaped (.tuple [.int a, .int b]) = true := rfl
theorem eqv_tup (a b c d : Int) : PyData.eqv (.tuple [.int a, .int b]) (.tuple [.int c, .int d]) = decide (a = c ∧ b = d) := by
  by_cases h1 : a = c <;> by_cases h2 : b = d <;> simp [PyData.eqv, PyData.eqvAll, h1, h2]
/-- tuple(v), v a point -/
def rTP : List V → Hp → VK → Prop := fun xs H Q => ∃ (v : V) (x y : Int), xs = [v] ∧ Pt H v x y ∧ ∀ (r : Addr) (G : Hp), Same H G → G r = some (.tup [.int x, .int y]) → Q (.ref r) G
theorem call_tp {X : Cx} : CallR X (.type "tuple") rTP := by
  intro pins s σ H xs us Q I r h
  obtain ⟨v, x, y, rfl, ⟨p, rfl, h1 | h1⟩, q⟩ := h
  · exact call_tuple_of pins s σ H _ us Q I r ⟨p, [.int x, .int y], rfl, .inl ⟨SqL.of h1, fun M nM => q M _ (Same.new nM) upd_same⟩⟩
  · exact call_tuple_of pins s σ H _ us Q I r ⟨p, [.int x, .int y], rfl, .inr ⟨SqT.of h1, q p H (fun _ _ e => e) h1⟩⟩
section
variable {P : Program} {w : World} {K : PySem.W.Frag} {mg : Str → Option Value} {base : Heap} {F CB CM : Addr}
def spSide (CB CM : Addr) : Sp := fun vs H Q E => ∃ (N : Addr → Prop) (v1 v2 v3 : V), vs = [v1, v2, v3] ∧ Gd N H v1 ∧ Gd N H v2 ∧ Gd N H v3 ∧
  (∀ (x : Str), ((isP H v1 = false ∧ x = "one") ∨ (isP H v1 = true ∧ isP H v2 = false ∧ x = "other") ∨ (isP H v1 = true ∧ isP H v2 = true ∧ isP H v3 = false ∧ x = "point")) →
    ∀ H', Same H H' → ∀ d, H' d = none → E (.ref CB) (some d) (upd H' d (.xd [(("part" : Str), .str x)]))) ∧
  ((isP H v1 = true ∧ isP H v2 = true ∧ isP H v3 = true) → ∃ (a b c d e f : Int), Pt H v1 a b ∧ Pt H v2 c d ∧ Pt H v3 e f ∧ Six a b c d e f ∧
    ((a = c ∧ b = d) → ∀ H', Same H H' → ∀ d, H' d = none → E (.ref CM) (some d) (upd H' d (.xd [(("part" : Str), .str "other")]))) ∧ (¬ (a = c ∧ b = d) → ∀ H', Same H H' → Q (.int (sg (cr a b c d e f))) H'))
abbrev sSide : Stmt := top 11
theorem scSide : FnScope ["one", "other", "point", "cross"] ["one", "other", "point"] (defScope sSide) := ⟨rfl, rfl, rfl, by decide +kernel, rfl, by decide +kernel, by decide +kernel⟩
theorem ok_side {f fW fC : Addr} {fd fdW fdC : FuncData} (Fn : Fun K "side_of" "side_of" sSide f fd) (FW : Fun K "want_point" "want_point" sWant fW fdW) (FC : Fun K "cross_of" "cross_of" sCross fC fdC) (T : Blt3 mg) (TC : Cl2 P K mg F CB CM)
    (GW : FnOk P w K mg base (L2.CX P w) 3 fW fdW ["value", "part"] (spWant CB)) (gW : mg "want_point" = some (.ref fW)) (bW : Binds K fdW ["value", "part"] []) (gC : mg "cross_of" = some (.ref fC)) (bC : Binds K fdC ["one", "other", "point"] []) :
    FnOk P w K mg base (L2.CX P w) 4 f fd ["one", "other", "point"] (spSide CB CM) := by
  have GC : FnOk P w K mg base CX0 1 fC fdC ["one", "other", "point"] spCross := ok_cross FC
  refine Fn.okX scSide (fun vs H Q E h => ?_) (fun cdv A outer s H vs Q E hr h => ?_)
  · obtain ⟨N, v1, v2, v3, rfl, _⟩ := h
    rfl
  · obtain ⟨N, v1, v2, v3, rfl, g1, g2, g3, no, yes⟩ := h
    have nd := scSide.nd
    have hr1 : Room 1 _ := hr.mono (by decide)
    have un := hr.units
    refine ⟨_, pss_cons (ps_expr (pe_callS GW hr (by rfl) gW FW.kp bW (fun σ => passAt (takes_of rfl rfl rfl rfl) σ) (pa_cons (pv 0) (pa_cons pe_str pa_nil))))
      (pss_cons (ps_expr (pe_callS GW hr (by rfl) gW FW.kp bW (fun σ => passAt (takes_of rfl rfl rfl rfl) σ) (pa_cons (pv 1) (pa_cons pe_str pa_nil))))
      (pss_cons (ps_expr (pe_callS GW hr (by rfl) gW FW.kp bW (fun σ => passAt (takes_of rfl rfl rfl rfl) σ) (pa_cons (pv 2) (pa_cons pe_str pa_nil))))
      (pss_cons (ps_if (pt_cmpR (op_eqD un) (pe_callTy call_tp (by rfl) T.tuple (by decide +kernel) (pa_cons (pv 0) pa_nil)) (pe_callTy call_tp (by rfl) T.tuple (by decide +kernel) (pa_cons (pv 1) pa_nil)) (nomark _))
          (pss_one (ps_raise rfl (takes_of rfl rfl rfl rfl) (pmkA (TC.cm.err TC.B) (mk10 (TC.cm.own TC.B) shapeM TC.nm TC.tp (fun _ _ _ _ _ _ _ _ _ => rfl)) TC.sup hr (pa_cons pe_str pa_nil) len1c))) pss_nil)
      (pss_cons (ps_set (i := 3) nd rfl (.inl rfl) (pe_call GC hr1 (by rfl) gC FC.kp bC .nil pass0 (pa_cons (pv 0) (pa_cons (pv 1) (pa_cons (pv 2) pa_nil)))))
      (pss_cons (ps_if (pt_cmpR op_eq (pv 3) pe_int (nomark _)) (pss_one (ps_ret pe_int)) pss_nil)
      (pss_one (ps_ret (pe_ifExp (pt_cmpR op_gt (pv 3) pe_int (nomark _)) pe_int (pe_un un_neg pe_int))))))))), ?_⟩
    refine ⟨v1, rfl, N, v1, "one", rfl, g1, fun p1 G1 s1 => ?_, fun n G s d nd => no "one" (.inl ⟨n, rfl⟩) G s d nd⟩
    refine ⟨v2, rfl, N, v2, "other", rfl, g2.same s1, fun p2 G2 s2 => ?_, fun n G s d nd => no "other" (.inr (.inl ⟨p1, by rw [← isP_same g2 s1]; exact n, rfl⟩)) G (s1.trans s) d nd⟩
    rw [isP_same g2 s1] at p2
    have t2 := s1.trans s2
    refine ⟨v3, rfl, N, v3, "point", rfl, g3.same t2, fun p3 G3 s3 => ?_, fun n G s d nd => no "point" (.inr (.inr ⟨p1, p2, by rw [← isP_same g3 t2]; exact n, rfl⟩)) G (t2.trans s) d nd⟩
    rw [isP_same g3 t2] at p3
    have t3 := t2.trans s3
    obtain ⟨a, b, c, d, e, f, q1, q2, q3, sm, mis, fin⟩ := yes ⟨p1, p2, p3⟩
    refine ⟨v1, rfl, v1, a, b, rfl, q1.same t3, fun r1 H1 k1 e1 => ?_⟩
    refine ⟨v2, rfl, v2, c, d, rfl, (q2.same t3).same k1, fun r2 H2 k2 e2 => ?_⟩
    have t5 := (t3.trans k1).trans k2
    refine ⟨_, _, Dp.tup (SqT.of (k2 _ _ e1)) (dp_ints [a, b]), Dp.tup (SqT.of e2) (dp_ints [c, d]), shaped_tup a b, shaped_tup c d, _, rfl, ?_⟩
    show if PyData.eqv (.tuple [.int a, .int b]) (.tuple [.int c, .int d]) = true then _ else _
    rw [eqv_tup]
    refine ite2 (fun z => ?_) (fun z => ?_)
    · exact fun d' nd' => mis (of_decide_eq_true z) H2 t5 d' nd'
    · have z : ¬ (a = c ∧ b = d) := fun y => z (decide_eq_true y)
      refine ⟨v1, rfl, v2, rfl, v3, rfl, v1, v2, v3, a, b, c, d, e, f, rfl, q1.same t5, q2.same t5, q3.same t5, sm, ?_⟩
      have q := fin z H2 t5
      generalize cr a b c d e f = k at q
      refine ⟨.int k, rfl, rfl, _, rfl, ite2 (fun y => ?_) (fun y => ?_)⟩
      · have y := V.int.inj (of_decide_eq_true y)
        have e0 : sg k = 0 := if_pos y
        rw [e0] at q
        exact q
      · have y : k ≠ 0 := fun x => y (decide_eq_true (by rw [x]))
        refine ⟨.int k, rfl, k, 0, rfl, rfl, _, rfl, ite2 (fun x => ?_) (fun x => ?_)⟩
        · have e0 : sg k = 1 := (if_neg y).trans (if_pos (of_decide_eq_true x))
          rw [e0] at q
          exact q
        · have e0 : sg k = -1 := (if_neg y).trans (if_neg fun u => x (decide_eq_true u))
          rw [e0] at q
          exact ⟨_, rfl, q⟩
end
end Bay
set_option Elab.async false
set_option linter.all false
set_option maxRecDepth 100000
set_option maxHeartbeats 4000000
namespace Bay
open PySem PySem.Spec PyProof.Rows L2 Err Seg
/-- a point that is not the keg -/
def Pk (D : Addr) (H : Hp) (v : V) (x y : Int) : Prop := ∃ p, v = .ref p ∧ p ≠ D ∧ (H p = some (.lst [.int x, .int y]) ∨ H p = some (.tup [.int x, .int y]))
theorem Pk.pt {D : Addr} {H : Hp} {v : V} {x y : Int} (a : Pk D H v x y) : Pt H v x y := by
  obtain ⟨p, e, _, h⟩ := a
  exact ⟨p, e, h⟩
theorem Pk.on {D : Addr} {H G : Hp} {v : V} {x y : Int} (a : Pk D H v x y) (k : Kp D H G) : Pk D G v x y := by
  obtain ⟨p, e, n, h | h⟩ := a
  · exact ⟨p, e, n, .inl (k _ _ h n)⟩
  · exact ⟨p, e, n, .inr (k _ _ h n)⟩
/-- a tuple that is not the keg -/
def Tk (D : Addr) (H : Hp) (v : V) (x y : Int) : Prop := ∃ p, v = .ref p ∧ p ≠ D ∧ H p = some (.tup [.int x, .int y])
theorem Tk.pt {D : Addr} {H : Hp} {v : V} {x y : Int} (a : Tk D H v x y) : Pt H v x y := by
  obtain ⟨p, e, _, h⟩ := a
  exact ⟨p, e, .inr h⟩
theorem Tk.on {D : Addr} {H G : Hp} {v : V} {x y : Int} (a : Tk D H v x y) (k : Kp D H G) : Tk D G v x y := by
  obtain ⟨p, e, n, h⟩ := a
  exact ⟨p, e, n, k _ _ h n⟩
theorem Tk.same {D : Addr} {H G : Hp} {v : V} {x y : Int} (a : Tk D H v x y) (k : Same H G) : Tk D G v x y := a.on (.same k)
def W1 (x : Int) : Prop := x.natAbs < 2 ^ 111
section
variable {P : Program} {w : World} {K : PySem.W.Frag} {mg : Str → Option Value} {base : Heap}
def spWay : Sp := fun vs H Q _ => ∃ (v1 v2 : V) (a b c d : Int), vs = [v1, v2] ∧ Pt H v1 a b ∧ Pt H v2 c d ∧ ∀ p, H p = none → Q (.ref p) (upd H p (.tup [.int (c - a), .int (d - b)]))
abbrev sWay : Stmt := top 20
theorem scWay : FnScope ["one", "other"] ["one", "other"] (defScope sWay) := ⟨rfl, rfl, rfl, by decide +kernel, rfl, by decide +kernel, by decide +kernel⟩
theorem ok_way {f : Addr} {fd : FuncData} (Fn : Fun K "_law_way" "_law_way" sWay f fd) : FnOk P w K mg base CX0 1 f fd ["one", "other"] spWay := by
  refine Fn.ok scWay (fun vs H Q E h => ?_) (fun cdv A outer s H vs Q E hr h => ?_)
  · obtain ⟨v1, v2, a, b, c, d, rfl, _⟩ := h
    rfl
  · obtain ⟨v1, v2, a, b, c, d, rfl, p1, p2, q⟩ := h
    refine ⟨_, pss_one (ps_ret (pe_tup (pa_cons (pe_op op_sub (pe_ix ix_pt (pv 1) pe_int (fun _ _ => rfl)) (pe_ix ix_pt (pv 0) pe_int (fun _ _ => rfl))) (pa_cons (pe_op op_sub (pe_ix ix_pt (pv 1) pe_int (fun _ _ => rfl)) (pe_ix ix_pt (pv 0) pe_int (fun _ _ => rfl))) pa_nil)))), ?_⟩
    refine ⟨v2, rfl, c, d, 0, p2, rfl, .inl rfl, v1, rfl, a, b, 0, p1, rfl, .inl rfl, _, _, rfl, rfl, v2, rfl, c, d, 1, p2, rfl, .inr rfl, v1, rfl, a, b, 1, p1, rfl, .inr rfl, _, _, rfl, rfl, (by show 2 ≤ sizeLine; decide), q⟩
def spLCross : Sp := fun vs H Q _ => ∃ (v1 v2 : V) (a b c d : Int), vs = [v1, v2] ∧ Pt H v1 a b ∧ Pt H v2 c d ∧ W1 a ∧ W1 b ∧ W1 c ∧ W1 d ∧ Q (.int (cw a b c d)) H
abbrev sLCross : Stmt := top 21
theorem scLCross : FnScope ["one", "other"] ["one", "other"] (defScope sLCross) := ⟨rfl, rfl, rfl, by decide +kernel, rfl, by decide +kernel, by decide +kernel⟩
theorem ok_lcross {f : Addr} {fd : FuncData} (Fn : Fun K "_law_cross" "_law_cross" sLCross f fd) : FnOk P w K mg base CX0 1 f fd ["one", "other"] spLCross := by
  refine Fn.ok scLCross (fun vs H Q E h => ?_) (fun cdv A outer s H vs Q E hr h => ?_)
  · obtain ⟨v1, v2, a, b, c, d, rfl, _⟩ := h
    rfl
  · obtain ⟨v1, v2, a, b, c, d, rfl, p1, p2, wa, wb, wc, wd, q⟩ := h
    refine ⟨_, pss_one (ps_ret (pe_op op_sub (pe_op op_mulW (pe_ix ix_pt (pv 0) pe_int (fun _ _ => rfl)) (pe_ix ix_pt (pv 1) pe_int (fun _ _ => rfl))) (pe_op op_mulW (pe_ix ix_pt (pv 0) pe_int (fun _ _ => rfl)) (pe_ix ix_pt (pv 1) pe_int (fun _ _ => rfl))))), ?_⟩
    refine ⟨v1, rfl, a, b, 0, p1, rfl, .inl rfl, v2, rfl, c, d, 1, p2, rfl, .inr rfl, _, _, rfl, rfl, mulw wa wd, v1, rfl, a, b, 1, p1, rfl, .inr rfl, v2, rfl, c, d, 0, p2, rfl, .inl rfl, _, _, rfl, rfl, mulw wb wc, _, _, rfl, rfl, q⟩
def S0 (x : Int) : Prop := x.natAbs < 2 ^ 104
theorem s0_mul {x far : Int} (h0 : 0 ≤ x) (h1 : x < 5) (hf : far.natAbs < 2 ^ 100) (t : Int) (t0 : 0 ≤ t) (t1 : t ≤ 1) : S0 (x * far - t) := by
  unfold S0
  have m : (x * far).natAbs < 2 ^ 103 := by
    have k := wide_lt (i := x) (j := far) (a := 3) (b := 100) (by omega) hf
    exact k
  have e : (2 : Nat) ^ 104 = 2 * 2 ^ 103 := by decide
  have e3 : (1 : Nat) ≤ 2 ^ 103 := by decide
  rw [e]
  generalize (2 : Nat) ^ 103 = z at *
  omega
def spLPoint : Sp := fun vs H Q _ => ∃ (D C : Addr) (ms : List Int) (t l far : Int), vs = [.ref D, .int far] ∧ Dn H D C ms t l ∧ t + 3 ≤ 1000000 ∧ far.natAbs < 2 ^ 100 ∧
  ∀ (H' : Hp) (t' l' : Int) (v : V) (x y : Int), Dn H' D C ms t' l' → t' ≤ t + 3 → Kp D H H' → Tk D H' v x y → S0 x → S0 y → Q v H'
abbrev sLPoint : Stmt := top 22
theorem scLPoint : FnScope ["keg", "far", "x", "y"] ["keg", "far"] (defScope sLPoint) := ⟨rfl, rfl, rfl, by decide +kernel, rfl, by decide +kernel, by decide +kernel⟩
theorem ok_lpoint {f fD fP : Addr} {fd fdD fdP : FuncData} (Fn : Fun K "_law_point" "_law_point" sLPoint f fd) (FD : Fun K "_law_pour" "_law_pour" sDrift fD fdD) (FP : Fun K "_law_pick" "_law_pick" sPick fP fdP) (T : Blt mg)
    (gD : mg "_law_pour" = some (.ref fD)) (bD : Binds K fdD ["keg", "many"] []) (gP : mg "_law_pick" = some (.ref fP)) (bP : Binds K fdP ["keg", "some"] []) : FnOk P w K mg base CX0 3 f fd ["keg", "far"] spLPoint := by
  have GD : FnOk P w K mg base CX0 1 fD fdD ["keg", "many"] spDrift := ok_drift FD T
  have GP : FnOk P w K mg base CX0 2 fP fdP ["keg", "some"] spPick := ok_pick FP FD T gD bD
  refine Fn.ok scLPoint (fun vs H Q E h => ?_) (fun cdv A outer s H vs Q E hr h => ?_)
  · obtain ⟨D, C, ms, t, l, far, rfl, _⟩ := h
    rfl
  · obtain ⟨D, C, ms, t, l, far, rfl, dn, tb, hf, q⟩ := h
    have nd := scLPoint.nd
    have hr1 : Room 1 _ := hr.mono (by decide)
    refine ⟨_, pss_cons (ps_par (i := 2) (j := 3) (by rfl) nd rfl rfl (by decide) rfl rfl (pa_cons (pe_call GD hr1 (by rfl) gD FD.kp bD .nil pass0 (pa_cons (pv 0) (pa_cons pe_int pa_nil))) (pa_cons (pe_call GD hr1 (by rfl) gD FD.kp bD .nil pass0 (pa_cons (pv 0) (pa_cons pe_int pa_nil))) pa_nil)) (by rfl))
      (pss_one (ps_ret (pe_tup (pa_cons (pe_op op_mulW (pv 2) (pv 1)) (pa_cons (pe_op op_sub (pe_op op_mulW (pv 3) (pv 1)) (pe_call GP hr (by rfl) gP FP.kp bP .nil pass0 (pa_cons (pv 0) (pa_cons (pe_lst (pa_cons pe_int (pa_cons pe_int (pa_cons pe_int pa_nil)))) pa_nil)))) pa_nil))))), ?_⟩
    refine ⟨.ref D, rfl, D, C, ms, t, l, 5, rfl, dn, by omega, by omega, by omega, fun H1 t1 l1 x dn1 tt1 kp1 x0 x1 => ?_⟩
    refine ⟨.ref D, rfl, D, C, ms, t1, l1, 5, rfl, dn1, by omega, by omega, by omega, fun H2 t2 l2 y dn2 tt2 kp2 y0 y1 => ?_⟩
    refine ⟨_, _, rfl, ?_⟩
    have wx : CMulW x far := wide_mul (a := 3) (b := 100) (by omega) hf (by decide) (by decide) (by decide)
    have wy : CMulW y far := wide_mul (a := 3) (b := 100) (by omega) hf (by decide) (by decide) (by decide)
    refine ⟨.int x, rfl, .int far, rfl, x, far, rfl, rfl, wx, .int y, rfl, .int far, rfl, y, far, rfl, rfl, wy, .ref D, rfl, (by show 3 ≤ sizeLine; decide), fun p np => ?_⟩
    refine ⟨D, C, p, ms, t2, l2, _, rfl, dn2.same (Same.new np), by omega, upd_same, dn2.apart np, (by show 0 < 3; decide), (by show 3 ≤ 1000; decide), fun H3 t3 l3 z dn3 tt3 kp3 hz => ?_⟩
    have hz' : ∃ k : Int, z = V.int k ∧ 0 ≤ k ∧ k ≤ 1 := by
      simp only [List.mem_cons, List.not_mem_nil, or_false] at hz
      rcases hz with e | e | e
      · exact ⟨0, e, by decide, by decide⟩
      · exact ⟨0, e, by decide, by decide⟩
      · exact ⟨1, e, by decide, by decide⟩
    obtain ⟨k, rfl, k0, k1⟩ := hz'
    refine ⟨_, _, rfl, rfl, (by show 2 ≤ sizeLine; decide), fun r nr => ?_⟩
    have kp : Kp D H H3 := (kp1.trans kp2).trans ((Kp.same (Same.new np)).trans kp3)
    refine q _ t3 l3 _ (x * far) (y * far - k) (dn3.same (Same.new nr)) (by omega) (kp.trans (.same (Same.new nr))) ⟨r, rfl, dn3.apart nr, upd_same⟩ ?_ (s0_mul y0 y1 hf k k0 k1)
    have e := s0_mul x0 x1 hf 0 (by decide) (by decide)
    rw [Int.sub_zero] at e
    exact e
end
end Bay
set_option Elab.async false
set_option linter.all false
set_option maxRecDepth 100000
set_option maxHeartbeats 8000000
namespace Bay
open PySem PySem.Spec PyProof.Rows L2 Err Seg
def En (x x' y y' z z' : Int) : Prop := cw (x - y) (x' - y') (z - y) (z' - y') = 0 ∧ Inn x x' y y' z z'
theorem cw_small {x y z t : Int} (hx : W1 x) (hy : W1 y) (hz : W1 z) (ht : W1 t) : (cw x y z t).natAbs < 2 ^ 223 := by
  unfold cw
  have a := wide_lt hx ht
  have b := wide_lt hy hz
  have e : (2 : Nat) ^ 223 = 2 * 2 ^ (111 + 111) := by decide +kernel
  rw [e]
  generalize (2 : Nat) ^ (111 + 111) = k at *
  omega
theorem lc_ne {a b c d e f g h : Int} (n : cw (c - a) (d - b) (g - e) (h - f) ≠ 0) : Lc a b c d e f g h ↔ ((0 ≤ cw (e - a) (f - b) (g - e) (h - f) * cw (c - a) (d - b) (g - e) (h - f) ∧ cw (e - a) (f - b) (g - e) (h - f) * cw (c - a) (d - b) (g - e) (h - f) ≤ cw (c - a) (d - b) (g - e) (h - f) * cw (c - a) (d - b) (g - e) (h - f)) ∧
    (0 ≤ cw (e - a) (f - b) (c - a) (d - b) * cw (c - a) (d - b) (g - e) (h - f) ∧ cw (e - a) (f - b) (c - a) (d - b) * cw (c - a) (d - b) (g - e) (h - f) ≤ cw (c - a) (d - b) (g - e) (h - f) * cw (c - a) (d - b) (g - e) (h - f))) :=
  ⟨fun z => z.elim (fun z => z.2) fun z => absurd z.1 n, fun z => .inl ⟨n, z⟩⟩
theorem lc_eq {a b c d e f g h : Int} (n : cw (c - a) (d - b) (g - e) (h - f) = 0) : Lc a b c d e f g h ↔ (En a b e f g h ∨ En c d e f g h ∨ En e f a b c d ∨ En g h a b c d) :=
  ⟨fun z => z.elim (fun z => absurd n z.1) fun z => z.2, fun z => .inr ⟨n, z⟩⟩
structure BltC (mg : Str → Option Value) : Prop where
  mx : mg "max" = none
abbrev sCommon : Stmt := top 23
abbrev nCommon : List Str := ["one", "other", "third", "fourth", "by", "its", "gap", "below", "above", "share", "ends", "point", "start", "end", "spans", "at"]
theorem scCommon : FnScope nCommon ["one", "other", "third", "fourth"] (defScope sCommon) := ⟨rfl, rfl, rfl, by decide +kernel, rfl, by decide +kernel, by decide +kernel⟩
def span (x y z : Int) : Int := (x - y) * (x - z)
/-- within a turn: the spans stand at L -/
def MT (v1 v2 v3 v4 : V) (G : Hp) (p q r : V) (s0 s1 : Int) : L2.St → Hp → Prop := fun σ J => ∃ (y4 y5 y6 y7 y8 y9 y10 y15 : Option V) (L : Addr), σ = [some v1, some v2, some v3, some v4, y4, y5, y6, y7, y8, y9, y10, some p, some q, some r, some (.ref L), y15] ∧ Same G J ∧ J L = some (.lst [.int s0, .int s1])
section
variable {P : Program} {w : World} {K : PySem.W.Frag} {mg : Str → Option Value} {base : Heap}
def spCommon : Sp := fun vs H Q _ => ∃ (v1 v2 v3 v4 : V) (a b c d e f g h : Int), vs = [v1, v2, v3, v4] ∧ Pts H v1 v2 v3 v4 a b c d e f g h ∧ Eight a b c d e f g h ∧ ∀ (H' : Hp) (r : Bool), Same H H' → (r = true ↔ Lc a b c d e f g h) → Q (.bl r) H'
theorem ok_common {f fW fC : Addr} {fd fdW fdC : FuncData} (Fn : Fun K "_law_common" "_law_common" sCommon f fd) (FW : Fun K "_law_way" "_law_way" sWay fW fdW) (FC : Fun K "_law_cross" "_law_cross" sLCross fC fdC) (T : BltM mg)
    (gW : mg "_law_way" = some (.ref fW)) (bW : Binds K fdW ["one", "other"] []) (gC : mg "_law_cross" = some (.ref fC)) (bC : Binds K fdC ["one", "other"] []) : FnOk P w K mg base CX0 2 f fd ["one", "other", "third", "fourth"] spCommon := by
  have GW : FnOk P w K mg base CX0 1 fW fdW ["one", "other"] spWay := ok_way FW
  have GC : FnOk P w K mg base CX0 1 fC fdC ["one", "other"] spLCross := ok_lcross FC
  refine Fn.ok scCommon (fun vs H Q E h => ?_) (fun cdv A outer s H vs Q E hr h => ?_)
  · obtain ⟨v1, v2, v3, v4, a, b, c, d, e, f, g, h, rfl, _⟩ := h
    rfl
  · obtain ⟨v1, v2, v3, v4, a, b, c, d, e, f, g, h, rfl, ps, sm, q⟩ := h
    have nd := scCommon.nd
    refine ⟨_, pss_cons (ps_par3 (i := 4) (j := 5) (l := 6) (by rfl) nd rfl rfl rfl (by decide) (by decide) (by decide) rfl rfl rfl
        (pa_cons (pe_call GW hr (by rfl) gW FW.kp bW .nil pass0 (pa_cons (pv 0) (pa_cons (pv 1) pa_nil))) (pa_cons (pe_call GW hr (by rfl) gW FW.kp bW .nil pass0 (pa_cons (pv 2) (pa_cons (pv 3) pa_nil))) (pa_cons (pe_call GW hr (by rfl) gW FW.kp bW .nil pass0 (pa_cons (pv 0) (pa_cons (pv 2) pa_nil))) pa_nil))) (by rfl))
      (pss_cons (ps_set (i := 7) nd rfl (.inl rfl) (pe_call GC hr (by rfl) gC FC.kp bC .nil pass0 (pa_cons (pv 4) (pa_cons (pv 5) pa_nil))))
      (pss_cons (ps_if (pt_cmpR op_ne (pv 7) pe_int (nomark _))
        (pss_cons (ps_par (i := 8) (j := 9) (by rfl) nd rfl rfl (by decide) rfl rfl (pa_cons (pe_call GC hr (by rfl) gC FC.kp bC .nil pass0 (pa_cons (pv 6) (pa_cons (pv 5) pa_nil))) (pa_cons (pe_call GC hr (by rfl) gC FC.kp bC .nil pass0 (pa_cons (pv 6) (pa_cons (pv 4) pa_nil))) pa_nil)) (by rfl))
          (pss_one (ps_ret (pe_and (pe_chain op_le op_le pe_int (pe_op op_mulW (pv 8) (pv 7)) (pe_op op_mulW (pv 7) (pv 7))) (pe_one (pe_chain op_le op_le pe_int (pe_op op_mulW (pv 9) (pv 7)) (pe_op op_mulW (pv 7) (pv 7)))))))) pss_nil)
      (pss_cons (ps_set (i := 10) nd rfl (.inl rfl) (pe_lst (pa_cons (pe_tup (pa_cons (pv 0) (pa_cons (pv 2) (pa_cons (pv 3) pa_nil)))) (pa_cons (pe_tup (pa_cons (pv 1) (pa_cons (pv 2) (pa_cons (pv 3) pa_nil)))) (pa_cons (pe_tup (pa_cons (pv 2) (pa_cons (pv 0) (pa_cons (pv 1) pa_nil)))) (pa_cons (pe_tup (pa_cons (pv 3) (pa_cons (pv 0) (pa_cons (pv 1) pa_nil)))) pa_nil))))))
      (pss_cons (ps_for PassesOwn.never rfl (pi_list (pv 10)) (pg_tup rfl (pgs_cons (pg_name (i := 11) nd rfl (Or.inr rfl)) (pgs_cons (pg_name (i := 12) nd rfl (Or.inr rfl)) (pgs_cons (pg_name (i := 13) nd rfl (Or.inr rfl)) pgs_nil))))
        (C8.pss_cut (ps_setLc (i := 14) (own := [("at", 15)]) (g := gName 15) (tt := tYes) rfl nd rfl rfl (sw_true rfl rfl rfl (by decide +kernel)) (pi_tup (pe_tup (pa_cons pe_int (pa_cons pe_int pa_nil)))) (blkOk_by (N := nCommon) (sc := defScope sCommon) (by decide +kernel)) (fun _ _ _ _ _ => pg_name (i := 15) nd rfl (Or.inl rfl)) (fun _ _ _ _ _ => pts_nil)
            (fun _ _ _ _ _ => pe_op op_mulW (pe_op op_sub (pe_ix ix_pt (pv 11) (pv 15) (fun _ _ => rfl)) (pe_ix ix_pt (pv 12) (pv 15) (fun _ _ => rfl))) (pe_op op_sub (pe_ix ix_pt (pv 11) (pv 15) (fun _ _ => rfl)) (pe_ix ix_pt (pv 13) (pv 15) (fun _ _ => rfl)))))
          (pss_one (ps_if (PW.pt (pw_and (pt_cmpR op_eq (pe_call GC hr (by rfl) gC FC.kp bC .nil pass0 (pa_cons (pe_call GW hr (by rfl) gW FW.kp bW .nil pass0 (pa_cons (pv 12) (pa_cons (pv 11) pa_nil))) (pa_cons (pe_call GW hr (by rfl) gW FW.kp bW .nil pass0 (pa_cons (pv 12) (pa_cons (pv 13) pa_nil))) pa_nil))) pe_int (nomark _))
            (pw_and1 (pt_cmpR op_le (pe_callB (cr_max rfl) (by rfl) T.mx (by decide +kernel) (pa_cons (pv 14) pa_nil)) pe_int (nomark _))))) (pss_one (ps_ret pe_bl)) pss_nil))))
      (pss_one (ps_ret pe_bl)))))), ?_⟩
    have sa := sm.s1
    refine ⟨v1, rfl, v2, rfl, v1, v2, a, b, c, d, rfl, ps.p1, ps.p2, fun p1 n1 => ?_⟩
    have s1 : Same H _ := Same.new (o := .tup [.int (c - a), .int (d - b)]) n1
    refine ⟨v3, rfl, v4, rfl, v3, v4, e, f, g, h, rfl, ps.p3.same s1, ps.p4.same s1, fun p2 n2 => ?_⟩
    have s2 := Same.new (o := .tup [.int (g - e), .int (h - f)]) n2
    have t2 := s1.trans s2
    refine ⟨v1, rfl, v3, rfl, v1, v3, a, b, e, f, rfl, ps.p1.same t2, ps.p3.same t2, fun p3 n3 => ?_⟩
    have s3 := Same.new (o := .tup [.int (e - a), .int (f - b)]) n3
    have t3 := t2.trans s3
    have e1 := s3 _ _ (s2 _ _ (show (upd H p1 (.tup [.int (c - a), .int (d - b)])) p1 = some (.tup [.int (c - a), .int (d - b)]) from upd_same))
    have e2 := s3 _ _ (show (upd (upd H p1 (.tup [.int (c - a), .int (d - b)])) p2 (.tup [.int (g - e), .int (h - f)])) p2 = some (.tup [.int (g - e), .int (h - f)]) from upd_same)
    have e3 : (upd (upd (upd H p1 (.tup [.int (c - a), .int (d - b)])) p2 (.tup [.int (g - e), .int (h - f)])) p3 (.tup [.int (e - a), .int (f - b)])) p3 = some (.tup [.int (e - a), .int (f - b)]) := upd_same
    refine ⟨_, _, _, rfl, ?_⟩
    generalize upd (upd (upd H p1 (.tup [.int (c - a), .int (d - b)])) p2 (.tup [.int (g - e), .int (h - f)])) p3 (.tup [.int (e - a), .int (f - b)]) = G at t3 e1 e2 e3
    clear s1 s2 s3 t2
    have W := fun {x y : Int} (hx : Sml x) (hy : Sml y) => (sml_sub hx hy : W1 (x - y))
    have P1 : Pt G (.ref p1) (c - a) (d - b) := ⟨p1, rfl, .inr e1⟩
    have P2 : Pt G (.ref p2) (g - e) (h - f) := ⟨p2, rfl, .inr e2⟩
    have P3 : Pt G (.ref p3) (e - a) (f - b) := ⟨p3, rfl, .inr e3⟩
    refine ⟨.ref p1, rfl, .ref p2, rfl, .ref p1, .ref p2, _, _, _, _, rfl, P1, P2, W sa.c sa.a, W sa.d sa.b, W sm.g sa.e, W sm.h sa.f, ?_⟩
    have wB := cw_small (W sa.c sa.a) (W sa.d sa.b) (W sm.g sa.e) (W sm.h sa.f)
    generalize hB : cw (c - a) (d - b) (g - e) (h - f) = B at wB
    refine ⟨.int B, rfl, rfl, _, rfl, ?_⟩
    by_cases nB : B = 0
    · refine ite_f (by rw [nB]; rfl) ?_
      have key := lc_eq (a := a) (b := b) (c := c) (d := d) (e := e) (f := f) (g := g) (h := h) (by rw [hB]; exact nB)
      clear hB wB
      have pg := ps.same t3
      refine ⟨v1, rfl, v3, rfl, v4, rfl, (by show 3 ≤ sizeLine; decide), fun T1 m1 => ?_⟩
      have k1 := Same.new (o := .tup [v1, v3, v4]) m1
      have x1 : (upd G T1 (.tup [v1, v3, v4])) T1 = some (.tup [v1, v3, v4]) := upd_same
      generalize upd G T1 (.tup [v1, v3, v4]) = G1 at k1 x1
      refine ⟨v2, rfl, v3, rfl, v4, rfl, (by show 3 ≤ sizeLine; decide), fun T2 m2 => ?_⟩
      have k2 := Same.new (o := .tup [v2, v3, v4]) m2
      have x2 : (upd G1 T2 (.tup [v2, v3, v4])) T2 = some (.tup [v2, v3, v4]) := upd_same
      generalize upd G1 T2 (.tup [v2, v3, v4]) = G2 at k2 x2
      refine ⟨v3, rfl, v1, rfl, v2, rfl, (by show 3 ≤ sizeLine; decide), fun T3 m3 => ?_⟩
      have k3 := Same.new (o := .tup [v3, v1, v2]) m3
      have x3 : (upd G2 T3 (.tup [v3, v1, v2])) T3 = some (.tup [v3, v1, v2]) := upd_same
      generalize upd G2 T3 (.tup [v3, v1, v2]) = G3 at k3 x3
      refine ⟨v4, rfl, v1, rfl, v2, rfl, (by show 3 ≤ sizeLine; decide), fun T4 m4 => ?_⟩
      have k4 := Same.new (o := .tup [v4, v1, v2]) m4
      have x4 : (upd G3 T4 (.tup [v4, v1, v2])) T4 = some (.tup [v4, v1, v2]) := upd_same
      generalize upd G3 T4 (.tup [v4, v1, v2]) = G4 at k4 x4
      refine ⟨(by show 4 ≤ sizeLine; decide), fun L0 mL => ?_⟩
      have k5 := Same.new (o := .lst [.ref T1, .ref T2, .ref T3, .ref T4]) mL
      have x5 : (upd G4 L0 (.lst [.ref T1, .ref T2, .ref T3, .ref T4])) L0 = some (.lst [.ref T1, .ref T2, .ref T3, .ref T4]) := upd_same
      show tSeq _ _ _ _ (upd G4 L0 (.lst [.ref T1, .ref T2, .ref T3, .ref T4]))
      generalize upd G4 L0 (.lst [.ref T1, .ref T2, .ref T3, .ref T4]) = G5 at k5 x5
      have u1 := k5 _ _ (k4 _ _ (k3 _ _ (k2 _ _ x1)))
      have u2 := k5 _ _ (k4 _ _ (k3 _ _ x2))
      have u3 := k5 _ _ (k4 _ _ x3)
      have u4 := k5 _ _ x4
      have kk : Same G G5 := (((k1.trans k2).trans k3).trans k4).trans k5
      have pg5 := pg.same kk
      have t5 := t3.trans kk
      clear k1 k2 k3 k4 k5 x1 x2 x3 x4 pg m1 m2 m3 m4 mL
      -- the ends, by their number
      refine ⟨.ref L0, rfl, L0, rfl, ⟨_, SqL.of x5⟩, ?_⟩
      refine for_it (walk_list (K := K) (a := L0) (xs := [.ref T1, .ref T2, .ref T3, .ref T4])) (fun i σ J => (∃ (y4 y5 y6 y7 y8 y9 y10 y11 y12 y13 y14 y15 : Option V), σ = [some v1, some v2, some v3, some v4, y4, y5, y6, y7, y8, y9, y10, y11, y12, y13, y14, y15]) ∧ Same G5 J ∧
          (0 < i → ¬ En a b e f g h) ∧ (1 < i → ¬ En c d e f g h) ∧ (2 < i → ¬ En e f a b c d) ∧ (3 < i → ¬ En g h a b c d))
        ⟨⟨_, _, _, _, _, _, _, _, _, _, _, _, rfl⟩, (fun _ _ e => e), fun z => absurd z (by omega), fun z => absurd z (by omega), fun z => absurd z (by omega), fun z => absurd z (by omega)⟩ (fun i σ J _ z => SqL.of (z.2.1 _ _ x5)) ?_ ?_
      · rintro i x σ J J' hi ⟨⟨y4, y5, y6, y7, y8, y9, y10, y11, y12, y13, y14, y15, rfl⟩, sj, b1, b2, b3, b4⟩ ⟨rfl, hx⟩
        have hi : i < 4 := hi
        have item : ∃ (T : Addr) (p q' r : V) (x0 x1 z0 z1 w0 w1 : Int), x = .ref T ∧ G5 T = some (.tup [p, q', r]) ∧ Pt G5 p x0 x1 ∧ Pt G5 q' z0 z1 ∧ Pt G5 r w0 w1 ∧ Six x0 x1 z0 z1 w0 w1 ∧ (En x0 x1 z0 z1 w0 w1 → Lc a b c d e f g h) ∧
            (¬ En x0 x1 z0 z1 w0 w1 → (0 < i + 1 → ¬ En a b e f g h) ∧ (1 < i + 1 → ¬ En c d e f g h) ∧ (2 < i + 1 → ¬ En e f a b c d) ∧ (3 < i + 1 → ¬ En g h a b c d)) := by
          have cs : i = 0 ∨ i = 1 ∨ i = 2 ∨ i = 3 := by omega
          rcases cs with rfl | rfl | rfl | rfl
          · exact ⟨T1, v1, v3, v4, a, b, e, f, g, h, (Option.some.inj hx).symm, u1, pg5.p1, pg5.p3, pg5.p4, ⟨sa.a, sa.b, sa.e, sa.f, sm.g, sm.h⟩, fun z => key.mpr (.inl z), fun n => ⟨fun _ => n, fun z => absurd z (by omega), fun z => absurd z (by omega), fun z => absurd z (by omega)⟩⟩
          · exact ⟨T2, v2, v3, v4, c, d, e, f, g, h, (Option.some.inj hx).symm, u2, pg5.p2, pg5.p3, pg5.p4, ⟨sa.c, sa.d, sa.e, sa.f, sm.g, sm.h⟩, fun z => key.mpr (.inr (.inl z)), fun n => ⟨fun _ => b1 (by omega), fun _ => n, fun z => absurd z (by omega), fun z => absurd z (by omega)⟩⟩
          · exact ⟨T3, v3, v1, v2, e, f, a, b, c, d, (Option.some.inj hx).symm, u3, pg5.p3, pg5.p1, pg5.p2, ⟨sa.e, sa.f, sa.a, sa.b, sa.c, sa.d⟩, fun z => key.mpr (.inr (.inr (.inl z))), fun n => ⟨fun _ => b1 (by omega), fun _ => b2 (by omega), fun _ => n, fun z => absurd z (by omega)⟩⟩
          · exact ⟨T4, v4, v1, v2, g, h, a, b, c, d, (Option.some.inj hx).symm, u4, pg5.p4, pg5.p1, pg5.p2, ⟨sm.g, sm.h, sa.a, sa.b, sa.c, sa.d⟩, fun z => key.mpr (.inr (.inr (.inr z))), fun n => ⟨fun _ => b1 (by omega), fun _ => b2 (by omega), fun _ => b3 (by omega), fun _ => n⟩⟩
        obtain ⟨T, p, q', r, x0, x1, z0, z1, w0, w1, rfl, eT, Pp, Pq, Pr, S6, yes, no⟩ := item
        clear b1 b2 b3 b4 u1 u2 u3 u4 pg5 P1 P2 P3 e1 e2 e3 hx
        refine ⟨T, _, rfl, SqT.of (sj _ _ eT), rfl, p, _, rfl, ?_⟩
        refine ⟨_, _, rfl, ?_⟩
        refine ⟨_, _, rfl, ?_⟩
        have Pp := Pp.same sj
        have Pq := Pq.same sj
        have Pr := Pr.same sj
        refine ⟨rfl, MT v1 v2 v3 v4 J' p q' r (span x0 z0 w0) (span x1 z1 w1), ?_, ?_⟩
        · refine ⟨(by show 2 ≤ sizeLine; decide), fun t nt => ⟨t, rfl, ⟨_, SqT.of upd_same⟩, fun L nL => ?_⟩⟩
          have st : Same J' (upd J' t (.tup [.int 0, .int 1])) := Same.new nt
          have et : (upd J' t (.tup [.int 0, .int 1])) t = some (.tup [.int 0, .int 1]) := upd_same
          generalize upd J' t (.tup [.int 0, .int 1]) = N at st et nL
          refine lc_tup (K := K) (a := t) (xs := [.int 0, .int 1]) (fun j M => Same N M ∧ M L = some (.lst ([V.int (span x0 z0 w0), V.int (span x1 z1 w1)].take j))) ⟨Same.new nL, upd_same⟩ (fun j M _ y => SqT.of (y.1 _ _ et)) ?_ ?_
          · rintro j x M hx ⟨sn, eL⟩
            have j2 : j < 2 := (List.getElem?_eq_some_iff.mp hx).1
            have hx' : x = .int (j : Nat) := by
              have cs : j = 0 ∨ j = 1 := by omega
              rcases cs with rfl | rfl <;> exact (Option.some.inj hx).symm
            subst hx'
            have hk : (j : Int) = 0 ∨ (j : Int) = 1 := by omega
            have sc : ∀ {u v : Int}, Sml u → Sml v → Sml (crd u v j) := fun hu hv => by
              unfold crd
              split
              · exact hu
              · exact hv
            have s2 := st.trans sn
            refine ⟨rfl, p, rfl, .int j, rfl, x0, x1, j, Pp.same s2, rfl, hk, q', rfl, .int j, rfl, z0, z1, j, Pq.same s2, rfl, hk, _, _, rfl, rfl, p, rfl, .int j, rfl, x0, x1, j, Pp.same s2, rfl, hk, r, rfl, .int j, rfl, w0, w1, j, Pr.same s2, rfl, hk, _, _, rfl, rfl, _, _, rfl, rfl,
              mulw (sml_sub (sc S6.a S6.b) (sc S6.c S6.d)) (sml_sub (sc S6.a S6.b) (sc S6.e S6.f)), _, eL, ?_, ?_, ?_⟩
            · exact small1000 (by rw [List.length_take]; omega)
            · intro b' o eb
              rw [upd_ne (ne_of_none eb nL)]
              exact sn b' o eb
            · rw [upd_same]
              have cs : j = 0 ∨ j = 1 := by omega
              rcases cs with rfl | rfl <;> rfl
          · rintro M ⟨sn, eL⟩
            exact ⟨_, _, _, _, _, _, _, _, L, rfl, st.trans sn, eL⟩
        · rintro σ J2 ⟨y4, y5, y6, y7, y8, y9, y10, y15, L, rfl, s2, eL⟩
          have Pp := Pp.same s2
          have Pq := Pq.same s2
          have Pr := Pr.same s2
          refine ⟨q', rfl, p, rfl, q', p, z0, z1, x0, x1, rfl, Pq, Pp, fun o1 no1 => ?_⟩
          have k1 := Same.new (o := .tup [.int (x0 - z0), .int (x1 - z1)]) no1
          refine ⟨q', rfl, r, rfl, q', r, z0, z1, w0, w1, rfl, Pq.same k1, Pr.same k1, fun o2 no2 => ?_⟩
          have k2 := Same.new (o := .tup [.int (w0 - z0), .int (w1 - z1)]) no2
          have f1 := k2 _ _ (show (upd J2 o1 (.tup [.int (x0 - z0), .int (x1 - z1)])) o1 = some (.tup [.int (x0 - z0), .int (x1 - z1)]) from upd_same)
          have f2 : (upd (upd J2 o1 (.tup [.int (x0 - z0), .int (x1 - z1)])) o2 (.tup [.int (w0 - z0), .int (w1 - z1)])) o2 = some (.tup [.int (w0 - z0), .int (w1 - z1)]) := upd_same
          have k3 := k1.trans k2
          have eL := k3 _ _ eL
          refine ⟨.ref o1, .ref o2, _, _, _, _, rfl, ⟨o1, rfl, .inr f1⟩, ⟨o2, rfl, .inr f2⟩, W S6.a S6.c, W S6.b S6.d, W S6.e S6.c, W S6.f S6.d, rfl, _, rfl, ?_⟩
          have sAll := (sj.trans s2).trans k3
          have back : ¬ En x0 x1 z0 z1 w0 w1 → _ := fun n => (⟨⟨y4, y5, y6, y7, y8, y9, y10, some p, some q', some r, some (.ref L), y15, rfl⟩, sAll, no n⟩ : (∃ (y4 y5 y6 y7 y8 y9 y10 y11 y12 y13 y14 y15' : Option V), [some v1, some v2, some v3, some v4, _, _, _, _, _, _, _, some p, some q', some r, some (.ref L), y15] = [some v1, some v2, some v3, some v4, y4, y5, y6, y7, y8, y9, y10, y11, y12, y13, y14, y15']) ∧ _ ∧ _)
          by_cases cz : cw (x0 - z0) (x1 - z1) (w0 - z0) (w1 - z1) = 0
          · refine ite_t (by rw [cz]; rfl) ?_
            refine ⟨.ref L, rfl, L, [span x0 z0 w0, span x1 z1 w1], rfl, SqL.of eL, (by show 0 < 2; decide), fun m hm hle => ⟨m, 0, rfl, rfl, _, rfl, ?_⟩⟩
            have hm' : m = span x0 z0 w0 ∨ m = span x1 z1 w1 := by simpa using hm
            have l0 := hle (span x0 z0 w0) (by simp)
            have l1 := hle (span x1 z1 w1) (by simp)
            by_cases mz : m ≤ 0
            · refine ite_t (decide_eq_true mz) ?_
              refine q _ true (t5.trans sAll) ⟨fun _ => yes ⟨cz, ?_, ?_⟩, fun _ => rfl⟩
              · exact Int.le_trans l0 mz
              · exact Int.le_trans l1 mz
            · refine ite_f (decide_eq_false mz) ?_
              exact back fun z => by
                have i1 : span x0 z0 w0 ≤ 0 := z.2.1
                have i2 : span x1 z1 w1 ≤ 0 := z.2.2
                omega
          · refine ite_f ?_ (back fun z => cz z.1)
            show (decide (V.int _ = V.int 0)) = false
            exact decide_eq_false fun z => cz (V.int.inj z)
      · rintro σ J ⟨_, sj, b1, b2, b3, b4⟩
        refine q J false (t5.trans sj) ⟨(fun z => nomatch z), fun z => ?_⟩
        rcases key.mp z with y | y | y | y
        · exact absurd y (b1 (by show 0 < 4; decide))
        · exact absurd y (b2 (by show 1 < 4; decide))
        · exact absurd y (b3 (by show 2 < 4; decide))
        · exact absurd y (b4 (by show 3 < 4; decide))
    · refine ite_t (by show (!decide (V.int B = V.int 0)) = true; rw [decide_eq_false (fun z => nB (V.int.inj z))]; rfl) ?_
      refine ⟨.ref p3, rfl, .ref p2, rfl, .ref p3, .ref p2, _, _, _, _, rfl, P3, P2, W sa.e sa.a, W sa.f sa.b, W sm.g sa.e, W sm.h sa.f, ?_⟩
      refine ⟨.ref p3, rfl, .ref p1, rfl, .ref p3, .ref p1, _, _, _, _, rfl, P3, P1, W sa.e sa.a, W sa.f sa.b, W sa.c sa.a, W sa.d sa.b, ?_⟩
      have wA := cw_small (W sa.e sa.a) (W sa.f sa.b) (W sm.g sa.e) (W sm.h sa.f)
      have wS := cw_small (W sa.e sa.a) (W sa.f sa.b) (W sa.c sa.a) (W sa.d sa.b)
      have key := lc_ne (a := a) (b := b) (c := c) (d := d) (e := e) (f := f) (g := g) (h := h) (by rw [hB]; exact nB)
      rw [hB] at key
      generalize cw (e - a) (f - b) (g - e) (h - f) = A at *
      generalize cw (e - a) (f - b) (c - a) (d - b) = S at *
      have mu : ∀ {x y : Int}, x.natAbs < 2 ^ 223 → y.natAbs < 2 ^ 223 → CMulW x y := fun hx hy => wide_mul hx hy (by decide) (by decide) (by decide)
      refine ⟨_, _, rfl, ?_⟩
      refine ⟨.int A, rfl, .int B, rfl, A, B, rfl, rfl, mu wA wB, 0, _, rfl, rfl, _, rfl, ?_⟩
      by_cases h1 : 0 ≤ A * B
      · refine ite_t (decide_eq_true h1) ⟨.int B, rfl, .int B, rfl, B, B, rfl, rfl, mu wB wB, _, _, rfl, rfl, _, rfl, ?_⟩
        by_cases h2 : A * B ≤ B * B
        · refine ite_t (decide_eq_true h2) ?_
          refine ⟨.int S, rfl, .int B, rfl, S, B, rfl, rfl, mu wS wB, 0, _, rfl, rfl, _, rfl, ?_⟩
          by_cases h3 : 0 ≤ S * B
          · refine ite_t (decide_eq_true h3) ⟨.int B, rfl, .int B, rfl, B, B, rfl, rfl, mu wB wB, _, _, rfl, rfl, ?_⟩
            refine q G _ t3 ?_
            rw [decide_eq_true_iff, key]
            exact ⟨fun z => ⟨⟨h1, h2⟩, h3, z⟩, fun z => z.2.2⟩
          · exact ite_f (decide_eq_false h3) (q G false t3 ⟨(fun z => nomatch z), fun z => absurd (key.mp z).2.1 h3⟩)
        · exact ite_f (decide_eq_false h2) (q G false t3 ⟨(fun z => nomatch z), fun z => absurd (key.mp z).1.2 h2⟩)
      · exact ite_f (decide_eq_false h1) ⟨false, rfl, iteF (q G false t3 ⟨(fun z => nomatch z), fun z => absurd (key.mp z).1.1 h1⟩)⟩
end
end Bay
set_option Elab.async false
set_option linter.all false
set_option maxRecDepth 100000
set_option maxHeartbeats 4000000
/-! Lambdas without parameters or with one that has an integer for its default, handed to a def that calls them. -/
namespace LamD
open PySem PySem.Spec PyProof.Rows L2 LamX
abbrev objL (q : Str) (params : Arguments) (body : Expr) (scope : Scope) (cl : List (Str × Addr)) (dV doc pm : Value) (c' : Addr) (ctv : Value) : Obj := PySem.W.kdv_obj "<lambda>" q params (.expr body) scope cl dV doc pm c' ctv
abbrev fnL (q : Str) (params : Arguments) (body : Expr) (scope : Scope) (cl : List (Str × Addr)) (dV doc pm : Value) (c' : Addr) (ctv : Value) : FuncData := PySem.W.kdv_fn "<lambda>" q params (.expr body) scope cl dV doc pm (.ref c') ctv
section
variable {X : Cx} {pins : List (Addr × Obj)} {σ : L2.St} {H : Hp} {s : Shared}
theorem no_frame (I : Inv X pins σ H s) {f : Addr} (hf : s.heap.objs.size ≤ f) : f ∉ frs X.stack := fun z => by
  rcases List.mem_cons.mp (I.stkSub _ z) with e | e
  · have lt := I.lt
    rw [← e] at lt
    exact Nat.lt_irrefl _ (Nat.lt_of_lt_of_le lt hf)
  · exact I.nofs hf e
theorem tail_step {T : List (Addr × Str)} {c P : Addr} {params : Arguments} {body : Expr} {scope : Scope} {dV : Value} {pos : Pos} {E : Value → Shared → Prop} {Q : Value → Shared → Prop} (I : Inv X pins σ H s) (TB : TabB X.base X.mg c P) (hcode : X.env.code = .ref c)
    (hm : (P, X.env.qual ++ "<lambda>") ∈ T) (hu : ∀ p ∈ T, p.1 = P → p.2 = X.env.qual ++ "<lambda>") (hT : Tabs T H) (hfree : ∀ y ∈ scope.names, y.2 = .free → ∃ c, X.env.cells.lookup y.1 = some c)
    (h : ∀ (f c' : Addr) (doc pm ctv : Value) (H1 : Hp) (s' : Shared), Inv X pins σ H1 s' → ExtN H H1 → Tabs T H1 → (∀ b o, s.heap.get? b = some o → H b = none → s'.heap.get? b = some o ∧ H1 b = none) →
      s'.heap.get? f = some (objL (X.env.qual ++ "<lambda>") params body scope (cloFrom X.env.cells scope.names []) dV doc pm c' ctv) → H1 f = none → f ∉ frs X.stack → H1 c' = some (CodeO c' (X.env.qual ++ "<lambda>")) → Q (.ref f) s') :
    wpAny (model X.prog X.w) X.A (makeTail "<lambda>" (X.env.qual ++ "<lambda>") params (.expr body) scope X.env dV .none none pos pos.line) Q E s := by
  obtain ⟨ps, hP, ht, ha⟩ := hT _ hm
  have bP : s.heap.BuiltinsAt X.mg P := TB.bm.keeps I.bk
  have oP : s.heap.get? P = some { cls := .none, data := .fields ps } := I.hok P _ hP
  have nP : ∀ {b : Addr}, H b = none → b ≠ P := fun e z => by
    rw [z, hP] at e
    cases e
  cases hc : codeAmong pos ps.toList with
  | none =>
    refine PySem.W.kdv_makeTail (mg := X.mg) (c := c) (P := P) (ps := ps) (closure_ok hfree) I.ok.glob (I.mod.glob.keeps I.bk) hcode (TB.code.keeps I.bk) oP ht hc TB.gP bP fun c' ctv doc h' tk hx hge hlt hrec htb => ?_
    obtain ⟨c2, oc, vs, t, e2, hoc, hd, hv⟩ := hrec
    cases e2
    have hsz : s.heap.objs.size ≤ h'.objs.size := Nat.le_trans hge (Nat.le_of_lt hlt)
    have nC : H c' = none := I.hok.fresh hge
    have I1 := inv_table (t' := tk) (more := #[rawInt pos.line, rawInt pos.col, .ref c'])
      (h' := h'.push (objL (X.env.qual ++ "<lambda>") params body scope (cloFrom X.env.cells scope.names []) dV doc ((X.mg "__name__").getD .none) c' ctv)) I hP
      (fun b o hb e => Heap.get?_push_of_some _ (hx b o hb e)) (Heap.get?_push_of_some _ htb) hge ⟨oc, vs, t, Heap.get?_push_of_some _ hoc, hd, hv⟩
    have up : ExtN H (upd (upd H P (.tbl (ps ++ #[rawInt pos.line, rawInt pos.col, .ref c']))) c' (CodeO c' (X.env.qual ++ "<lambda>"))) := fun b o e n => by
      have bP' : b ≠ P := fun z => by
        rw [z, hP] at e
        exact n ps (Option.some.inj e).symm
      rw [upd_ne (ne_of_none e nC), upd_ne bP']
      exact e
    have lst : (ps ++ #[rawInt pos.line, rawInt pos.col, .ref c']).toList = ps.toList ++ [rawInt pos.line, rawInt pos.col, .ref c'] := by simp
    refine h h'.objs.size c' doc ((X.mg "__name__").getD .none) ctv _ _ I1 up (fun p hp => ?_) (fun b o e n => ⟨Heap.get?_push_of_some _ (hx b o (nP n) e), ?_⟩) (Heap.get?_push_size _ rfl) ?_ (no_frame I hsz) upd_same
    · by_cases hb : p.1 = P
      · rw [hu p hp hb, hb]
        refine ⟨_, ?_, by rw [lst]; exact PySem.TriplesOk_snoc _ _ _ _ ht, fun p' cv hcv => ?_⟩
        · rw [upd_ne (ne_of_none hP nC)]
          exact upd_same
        · rw [lst] at hcv
          rcases among_app _ ht hcv with z | z
          · obtain ⟨c0, e1, e2⟩ := ha p' cv z
            exact ⟨c0, e1, up _ _ e2 codeO_ne⟩
          · exact ⟨c', z, upd_same⟩
      · obtain ⟨ps', a1, a2, a3⟩ := hT p hp
        refine ⟨ps', ?_, a2, fun p' cv hcv => ?_⟩
        · rw [upd_ne (ne_of_none a1 nC), upd_ne hb]
          exact a1
        · obtain ⟨c0, e1, e2⟩ := a3 p' cv hcv
          exact ⟨c0, e1, up _ _ e2 codeO_ne⟩
    · have bc : b ≠ c' := Nat.ne_of_lt (Nat.lt_of_lt_of_le (Heap.lt_size e) hge)
      rw [upd_ne bc, upd_ne (nP n)]
      exact n
    · rw [upd_ne (Nat.ne_of_gt hlt), upd_ne (Nat.ne_of_gt (Nat.lt_of_lt_of_le (Heap.lt_size oP) hsz))]
      exact I.hok.fresh hsz
  | some cv =>
    obtain ⟨c', e, hco⟩ := ha pos cv hc
    subst e
    refine PySem.W.kdv_makeTailHit (mg := X.mg) (c := c) (P := P) (ps := ps) (closure_ok hfree) I.ok.glob (I.mod.glob.keeps I.bk) hcode (TB.code.keeps I.bk) oP ht hc bP fun ctv doc h' tk hx hsz => ?_
    have I1 : Inv X pins σ H { s with heap := h'.push (objL (X.env.qual ++ "<lambda>") params body scope (cloFrom X.env.cells scope.names []) dV doc ((X.mg "__name__").getD .none) c' ctv), toks := tk } :=
      I.kept fun b o e => Heap.get?_push_of_some _ (hx b o e)
    exact h h'.objs.size c' doc ((X.mg "__name__").getD .none) ctv H _ I1 (ExtN.refl H) hT (fun b o e n => ⟨Heap.get?_push_of_some _ (hx b o e), n⟩) (Heap.get?_push_size _ rfl) (I.hok.fresh hsz) (no_frame I hsz) hco
/-- what stands behind a lambda's defaults: objects that nobody writes -/
def Keep (X : Cx) (H : Hp) (h : Heap) (ks : List (Addr × Obj)) : Prop := ∀ p ∈ ks, h.get? p.1 = some p.2 ∧ H p.1 = none ∧ p.1 ∉ frs X.stack
/-- how a lambda's default looks: none, or an integer -/
def Dflt (params : Arguments) : Option Int → Prop
  | none => params.defaults = [] ∧ params.kw_defaults = []
  | some z => (∃ j p, params.defaults = [.Constant (.int z) j p]) ∧ params.kw_defaults = []
/-- the names bound when it is called without arguments -/
def bnds (a : Str) : Option Int → Tok → List (Str × Value)
  | none, _ => []
  | some z, t => [(a, .int z t)]
/-- it binds so -/
def BindL (params : Arguments) (body : Expr) (scope : Scope) (a : Str) : Option Int → Prop
  | none => ∀ (q : Str) (cl : List (Str × Addr)) (doc pm ctv : Value) (c' : Addr), bindArgs (fnL q params body scope cl .none doc pm c' ctv) ⟨[], []⟩ = pure []
  | some z => ∀ (q : Str) (cl : List (Str × Addr)) (doc pm ctv : Value) (c' t : Addr) (tk : Tok), ∃ k, bindArgs (fnL q params body scope cl (.ref t) doc pm c' ctv) ⟨[], []⟩ = seqItems? (.ref t) >>= k ∧ k (some #[.int z tk]) = pure [(a, .int z tk)]
theorem make3 {T : List (Addr × Str)} {c P : Addr} {params : Arguments} {body : Expr} {scope : Scope} {pos : Pos} {a : Str} {dz : Option Int} {E : Value → Shared → Prop} {Q : Value → Shared → Prop} (I : Inv X pins σ H s) (TB : TabB X.base X.mg c P) (hcode : X.env.code = .ref c)
    (hm : (P, X.env.qual ++ "<lambda>") ∈ T) (hu : ∀ p ∈ T, p.1 = P → p.2 = X.env.qual ++ "<lambda>") (hT : Tabs T H) (hd : Dflt params dz) (hb : BindL params body scope a dz) (hfree : ∀ y ∈ scope.names, y.2 = .free → ∃ c, X.env.cells.lookup y.1 = some c)
    (h : ∀ (f c' : Addr) (dV doc pm ctv : Value) (tk : Tok) (ks : List (Addr × Obj)) (H1 : Hp) (s' : Shared), Inv X pins σ H1 s' → ExtN H H1 → Tabs T H1 → Keep X H1 s'.heap ks →
      (∀ s2 : Shared, (∀ p ∈ ks, s2.heap.get? p.1 = some p.2) → BindsTo s2 (fnL (X.env.qual ++ "<lambda>") params body scope (cloFrom X.env.cells scope.names []) dV doc pm c' ctv) ⟨[], []⟩ (bnds a dz tk)) →
      s'.heap.get? f = some (objL (X.env.qual ++ "<lambda>") params body scope (cloFrom X.env.cells scope.names []) dV doc pm c' ctv) → H1 f = none → f ∉ frs X.stack → H1 c' = some (CodeO c' (X.env.qual ++ "<lambda>")) → Q (.ref f) s') :
    wpAny (model X.prog X.w) X.A (eval (.Lambda params body scope pos) X.env) Q E s := by
  cases dz with
  | none =>
    obtain ⟨h1, h2⟩ := hd
    have hb : ∀ (q : Str) (cl : List (Str × Addr)) (doc pm ctv : Value) (c' : Addr), bindArgs (fnL q params body scope cl .none doc pm c' ctv) ⟨[], []⟩ = pure [] := hb
    refine PySem.W.kla_eval (by rw [PySem.defaultsOf_eq, h1, h2]; rfl) ?_
    rw [makeFunction_eq]
    simp only [List.zip_nil_right, List.filterMap_nil, List.isEmpty_nil, if_true, pure_bind]
    exact tail_step I TB hcode hm hu hT hfree fun f c' doc pm ctv H1 s' I1 x1 t1 _ o1 n1 f1 k1 => h f c' .none doc pm ctv 0 [] H1 s' I1 x1 t1 (fun p hp => nomatch hp) (fun s2 _ => .of_eq (hb _ _ _ _ _ _)) o1 n1 f1 k1
  | some z =>
    obtain ⟨⟨j, p, h1⟩, h2⟩ := hd
    have hb : ∀ (q : Str) (cl : List (Str × Addr)) (doc pm ctv : Value) (c' t : Addr) (tk : Tok), ∃ k, bindArgs (fnL q params body scope cl (.ref t) doc pm c' ctv) ⟨[], []⟩ = seqItems? (.ref t) >>= k ∧ k (some #[.int z tk]) = pure [(a, .int z tk)] := hb
    refine PySem.W.kdv_lam (by rw [h1]; rfl) h2 ?_
    rw [h1]
    refine PySem.W.kdv_all1 (wpAny_Constant_int (PySem.W.kdv_all0 ?_))
    rw [makeFunction_eq]
    simp only [List.zip_nil_right, List.filterMap_nil, List.isEmpty_nil, List.isEmpty_cons, if_true, pure_bind, Bool.false_eq_true, if_false]
    refine wpAny_bind (wpAny_newTextTuple ?_)
    have push : ∀ b o, s.heap.get? b = some o → (s.heap.push (PySem.W.kdv_tup [.int z s.toks])).get? b = some o := fun b o e => Heap.get?_push_of_some _ e
    have I1 : Inv X pins σ H { s with heap := s.heap.push (PySem.W.kdv_tup [.int z s.toks]), toks := s.toks + 1 } := I.kept push
    refine tail_step (s := { s with heap := s.heap.push (PySem.W.kdv_tup [.int z s.toks]), toks := s.toks + 1 }) I1 TB hcode hm hu hT hfree fun f c' doc pm ctv H1 s' I2 x1 t1 k2 o1 n1 f1 c1 => ?_
    have et : (s.heap.push (PySem.W.kdv_tup [.int z s.toks])).get? s.heap.objs.size = some (PySem.W.kdv_tup [.int z s.toks]) := Heap.get?_push_size _ rfl
    obtain ⟨g1, g2⟩ := k2 _ _ et (I.hok.fresh (Nat.le_refl _))
    refine h f c' (.ref s.heap.objs.size) doc pm ctv s.toks [(s.heap.objs.size, PySem.W.kdv_tup [.int z s.toks])] H1 s' I2 x1 t1 (fun q hq => ?_) (fun s2 hs => ?_) o1 n1 f1 c1
    · rw [List.mem_singleton.mp hq]
      exact ⟨g1, g2, no_frame I (Nat.le_refl _)⟩
    · obtain ⟨k, e1, e2⟩ := hb (X.env.qual ++ "<lambda>") (cloFrom X.env.cells scope.names []) doc pm ctv c' s.heap.objs.size s.toks
      exact BindsTo.of_defaults rfl (hs _ (List.mem_singleton.mpr rfl)) rfl e1 e2
end
end LamD
set_option Elab.async false
set_option linter.all false
set_option maxRecDepth 100000
set_option maxHeartbeats 4000000
namespace LamD
open PySem PySem.Spec PyProof.Rows L2 LamX
/-- the lambda's own names: its parameter, which no slot of the maker bears -/
structure LamT (N : List Str) (sc scope : Scope) (a : Str) (dz : Option Int) : Prop where
  kind : scope.kind = .function
  co : scope.isCoroutine = false
  gen : scope.isGenerator = false
  own : ∀ y ∈ scope.names, y.2 ≠ .cell ∧ (y.2 = .local → y.1 ∉ N)
  par : dz = none ∨ scope.names.lookup a = some .local
  free : ∀ y ∈ scope.names, y.2 = .free → sc.names.lookup y.1 = some .cell ∨ sc.names.lookup y.1 = some .free
def lamTB (N : List Str) (sc scope : Scope) (a : Str) (dz : Option Int) : Bool :=
  decide (scope.kind = .function) && !scope.isCoroutine && !scope.isGenerator && (dz.isNone || decide (scope.names.lookup a = some .local)) &&
    scope.names.all fun y => !decide (y.2 = .cell) && (!decide (y.2 = .local) || !(N.contains y.1)) && (!decide (y.2 = .free) || decide (sc.names.lookup y.1 = some .cell) || decide (sc.names.lookup y.1 = some .free))
theorem lamT_by {N : List Str} {sc scope : Scope} {a : Str} {dz : Option Int} (h : lamTB N sc scope a dz = true) : LamT N sc scope a dz := by
  unfold lamTB at h
  simp only [Bool.and_eq_true, Bool.or_eq_true, Bool.not_eq_true', decide_eq_true_eq, decide_eq_false_iff_not, List.all_eq_true] at h
  obtain ⟨⟨⟨⟨h1, h2⟩, h3⟩, h5⟩, h4⟩ := h
  refine ⟨h1, h2, h3, fun y hy => ⟨(h4 y hy).1.1, fun e => ?_⟩, ?_, fun y hy e => ?_⟩
  · rcases (h4 y hy).1.2 with z | z
    · exact absurd e z
    · intro hm
      rw [List.contains_iff_mem.mpr hm] at z
      cases z
  · rcases h5 with z | z
    · exact .inl (Option.isNone_iff_eq_none.mp z)
    · exact .inr z
  · rcases (h4 y hy).2 with (z | z) | z
    · exact absurd e z
    · exact .inl z
    · exact .inr z
theorem LamT.has {X : Cx} {scope : Scope} {a : Str} {dz : Option Int} (L : LamT X.N X.env.scope scope a dz) (ok : X.Ok) : ∀ y ∈ scope.names, y.2 = .free → ∃ c, X.env.cells.lookup y.1 = some c := fun y hy e => by
  rcases L.free y hy e with k | k
  · exact ok.has _ (.inl k)
  · exact ok.has _ (.inr k)
section
variable {X : Cx} {pins : List (Addr × Obj)} {σ : L2.St} {H HZ : Hp} {s s1 : Shared}
theorem start3 {A : Around} {outer : List Env} {E : XK} {scope : Scope} {a : Str} {dz : Option Int} {f c' : Addr} {h₁ : Heap} {tk : Nat} {mp : Str → Option Value} (I : Inv X pins σ H s) (L : LamT X.N X.env.scope scope a dz) (e0 : Env0 X.prog X.w X.K X.mg X.base A outer s1 HZ) (hd : A.handled = none)
    (un : Un (frs X.stack) [] H HZ s.heap s1.heap) (hns : h₁.Ns s1.heap.objs.size mp) (kp : ∀ b o, s1.heap.get? b = some o → h₁.get? b = some o) :
    Inv (lamCx X A outer s1 HZ E scope f c') [] σ HZ { s1 with heap := h₁, toks := tk } := by
  have hfree := L.has I.ok
  have cm : ∀ {y c}, (cloFrom X.env.cells scope.names []).lookup y = some c → X.env.cells.lookup y = some c := fun {y c} e => by
    rcases cloFrom_mem (PySem.mem_of_lookup e) with hm | ⟨h1, h2⟩
    · cases hm
    · obtain ⟨c1, hc⟩ := hfree _ h1 rfl
      have hc : X.env.cells.lookup y = some c1 := hc
      have e2 : c = c1 := by
        rw [h2, hc] <;> rfl
      rw [e2]
      exact hc
  have look : ∀ {y}, scope.names.lookup y = some .free → ∃ c, (cloFrom X.env.cells scope.names []).lookup y = some c := fun {y} hl =>
    mem_lookup (cloFrom_has (cells := X.env.cells) (acc := []) (show (y, NameKind.free) ∈ scope.names from PySem.mem_of_lookup hl))
  have keepC : ∀ {c : Addr} {v : Option Value}, H c = none → s.heap.IsCell c v → h₁.IsCell c v := fun {c v} n ⟨o, ho, hd⟩ => by
    obtain ⟨sl, q⟩ := un.any ho n (by simp)
    exact ⟨_, kp _ _ q, hd⟩
  have noA : ∀ b : Addr, b ∉ (lamCx X A outer s1 HZ E scope f c').ex := fun b z => nomatch (show b ∈ ([] : List Addr) from z)
  refine ⟨⟨e0.mod, L.kind, rfl, rfl, Nat.le_refl _, fun y z c e1 e2 => I.ok.inj y z c (cm e1) (cm e2), fun y hy => ?has, fun y c z _ => ?cab, fun _ => hd, Around.frames_deeper e0.frames, .inr ⟨rfl, rfl⟩, fun b z => absurd z (noA b), e0.bs, e0.bsz,
      fun b _ _ => noA b, fun b z => absurd z (noA b), e0.funs, e0.frf⟩,
    rfl, e0.bare, Un.kept kp, ⟨_, hns, fun i y v e1 e2 e3 => ?loc⟩, fun y c e => ?cel, e0.hok.fresh (Nat.le_refl _), fun y c e => ?fre, fun q hq => (nomatch (show q ∈ ([] : List (Addr × Obj)) from hq)), e0.hok.kept kp, I.len⟩
  case has =>
    have hy : scope.names.lookup y = some .cell ∨ scope.names.lookup y = some .free := hy
    rcases hy with hy | hy
    · exact absurd rfl (L.own _ (PySem.mem_of_lookup hy)).1
    · exact look hy
  case cab =>
    have z : false = true := z
    cases z
  case loc =>
    have e3 : Vis scope y := e3
    rcases e3 with k | k | k
    · exact absurd (List.mem_of_getElem? e1) ((L.own _ (PySem.mem_of_lookup k)).2 rfl)
    · exact absurd rfl (L.own _ (PySem.mem_of_lookup k)).1
    · obtain ⟨m, hn, hl⟩ := I.loc
      have vis : Vis X.env.scope y := (L.free _ (PySem.mem_of_lookup k) rfl).elim (fun k => .inr (.inl k)) (fun k => .inr (.inr k))
      obtain ⟨w', r, q⟩ := hl i y v e1 e2 vis
      obtain ⟨c2, h2⟩ := look k
      refine ⟨w', r, .inr ⟨.inr k, c2, h2, ?_⟩⟩
      have c1 := cm h2
      rcases q with ⟨k', _⟩ | ⟨_, c3, e', z⟩
      · have k' : X.env.scope.names.lookup y = some .local := k'
        rcases L.free _ (PySem.mem_of_lookup k) rfl with k2 | k2
        · rw [show X.env.scope.names.lookup y = _ from k2] at k'
          cases k'
        · rw [show X.env.scope.names.lookup y = _ from k2] at k'
          cases k'
      · rw [c1] at e'
        cases e'
        exact keepC (I.freeC y _ c1) z
  case cel =>
    obtain ⟨w', z⟩ := I.cell y c (cm e)
    exact ⟨w', keepC (I.freeC y c (cm e)) z⟩
  case fre =>
    obtain ⟨v, o, ho, hd⟩ := I.cell y c (cm e)
    exact un.free c o ho (I.freeC y c (cm e)) (by simp)
/-- x(), in the def that got the lambda -/
theorem act3 {CXg : CXT} {Eg : XK} {Ng : List Str} {qg : Str} {sg : Scope} {g f c' : Addr} {cdg dV doc pm ctv : Value} {params : Arguments} {body : Expr} {scope : Scope} {k i : Nat} {a p : Str} {dz : Option Int} {tk0 : Tok} {ks : List (Addr × Obj)} {pn : List (Addr × Obj)} {xe : Value → Shared → Prop} {W : WX} {E : XK} {tb : TE} {p1 p2 : Pos}
    (I : Inv X pins σ H s) (L : LamT X.N X.env.scope scope p dz) (hf : s.heap.get? f = some (objL (X.env.qual ++ "<lambda>") params body scope (cloFrom X.env.cells scope.names []) dV doc pm c' ctv)) (hfn : H f = none) (hfr : f ∉ frs X.stack) (hk : Keep X H s.heap ks)
    (hbind : ∀ s2 : Shared, (∀ p ∈ ks, s2.heap.get? p.1 = some p.2) → BindsTo s2 (fnL (X.env.qual ++ "<lambda>") params body scope (cloFrom X.env.cells scope.names []) dV doc pm c' ctv) ⟨[], []⟩ (bnds p dz tk0))
    (tk : Takes ((cxOf CXg X.prog X.w X.K X.mg X.base Ng qg sg g cdg X.A X.stack s H Eg).tr pn xe) W) (hr : Room (k + 1) (X.A.deeper (envOfC qg sg s.heap.objs.size g cdg)))
    (hbody : ∀ (A : Around) (outer : List Env) (s : Shared) (H : Hp), Room k (A.deeper (lamEnv X scope s.heap.objs.size f c')) → PE (lamCx X A outer s H E scope f c') body tb)
    (hN : Ng[i]? = some a) (hv : Vis sg a) (hd : (a == ("__debug__" : Str)) = false := by decide) (hcd : (a == ("__classdict__" : Str)) = false := by decide) :
    PE ((cxOf CXg X.prog X.w X.K X.mg X.base Ng qg sg g cdg X.A X.stack s H Eg).tr pn xe) (.Call (.Name a p1) [] [] p2)
      (fun σZ HZ Q => σZ[i]? = some (some (.ref f)) ∧ HZ c' = some (CodeO c' (X.env.qual ++ "<lambda>")) ∧ (∀ cls d H', E cls d H' → W cls d σZ H') ∧ tb σ HZ Q) := by
  refine ⟨fun pinsZ sZ σZ HZ Q IZ h => ?_⟩
  obtain ⟨hs, hc, hW, ht⟩ := h
  refine wpAny_Call_Name_kw (thn ((pe_var (pos := p1) (i := i) hN hv hd hcd).run pinsZ sZ σZ HZ (fun v H1 => v = .ref f ∧ H1 = HZ) IZ ⟨.ref f, hs, rfl, rfl⟩) fun u s1 hh => ?_)
  obtain ⟨v, H1, I1, r1, ev, eH⟩ := hh
  subst ev
  rw [eH] at I1
  obtain rfl : u = Value.ref f := r1
  have stays : ∀ {b : Addr} {o : Obj}, s.heap.get? b = some o → H b = none → b ∉ frs X.stack → s1.heap.get? b = some o := fun {b o} e n m => I1.base.keep b o e n m (fun z => nomatch (show b ∈ ([] : List Addr) from z))
  have of1 := stays hf hfn hfr
  refine PySem.W.callWith_F0 ⟨_, _, _, _, of1⟩ ?_
  have un : Un (frs X.stack) [] H HZ s.heap s1.heap := I1.base
  obtain ⟨⟨oc, vs, t, hoc, hdc, hvc⟩, _, _⟩ := I1.hok c' _ hc
  have rc : codeAny (model X.prog X.w) (X.A.deeper (envOfC qg sg s.heap.objs.size g cdg)) (.call (.ref f) ⟨[], []⟩) (CR (L2.CX X.prog X.w) (envOfC qg sg s.heap.objs.size g cdg :: X.stack) X.prog X.w HZ s1 Q E) s1 := by
    refine PySem.W.kla_callFunE hr.depth of1 rfl L.co L.gen rfl ⟨c', oc, vs, t, rfl, hoc, hdc, hvc⟩ ?_
    refine hbind s1 (fun q hq => stays (hk q hq).1 (hk q hq).2.1 (hk q hq).2.2) _ _ _ _ ?_
    refine wpAny_newFunctionEnv (fun y hy => (L.own y hy).1) (fun y hy => ?_) (fun h₁ hns hsb => ⟨I1.nolimit.fresh _ hsb, ?_⟩) L.kind
    · cases dz with
      | none => nomatch (show y ∈ ([] : List (Str × Value)) from hy)
      | some z =>
        have e : y = (p, Value.int z tk0) := List.mem_singleton.mp hy
        rw [e]
        rcases L.par with q | q
        · cases q
        · exact q
    · show codeAny _ _ (.expr body (lamEnv X scope s1.heap.objs.size f c')) _ _
      have kp : ∀ b o, s1.heap.get? b = some o → h₁.get? b = some o := fun b o e => hsb.extBut b o (Nat.ne_of_lt (Heap.lt_size e)) (Heap.get?_push_of_some _ e)
      have J : Inv (lamCx X (X.A.deeper (envOfC qg sg s.heap.objs.size g cdg)) (envOfC qg sg s.heap.objs.size g cdg :: X.stack) s1 HZ E scope f c') [] σ HZ { s1 with heap := h₁, toks := s1.toks + (bnds p dz tk0).length } :=
        start3 I L I1.env0 hr.hd un hns kp
      refine PySem.W.kla_codeExpr (wpAny_mono ((hbody _ _ s1 HZ (hr.deeper _)).run [] _ _ HZ Q J ht) (fun v s' hq => ?_) fun e s' hq => hq)
      obtain ⟨w', H', J', rv, q⟩ := hq
      exact ⟨w', H', J'.os, J'.bare, J'.base, J'.hok, rv, q⟩
  refine wpAny_call (codeAny_mono rc fun r s' hq => ?_)
  cases r with
  | error e => exact tk e s' (XE.of_call I1 hW hq)
  | ok fl =>
    cases fl with
    | ret u => exact I1.after hq
    | next => exact False.elim hq
    | brk => exact False.elim hq
    | cont => exact False.elim hq
/-- the def that calls what it got: what it makes of the lambda's reading -/
def Gives3 (X : Cx) (Ng : List Str) (x : Str) (sg : Scope) (g : Addr) (cdg : Value) (bg : List Stmt) (a : Str) (q : Str) (TT : (XK → Hp → VK → Prop) → Hp → VK → Prop) : Prop :=
  ∀ (f c' : Addr) (s : Shared) (H : Hp) (Q : VK) (tl : XK → Hp → VK → Prop),
    (∀ (W : WX) (pn : List (Addr × Obj)) (xe : Value → Shared → Prop) (E : XK) (p1 p2 : Pos), Takes ((cxOf C8.CX0 X.prog X.w X.K X.mg X.base Ng x sg g cdg X.A X.stack s H C8.E0).tr pn xe) W →
      PE ((cxOf C8.CX0 X.prog X.w X.K X.mg X.base Ng x sg g cdg X.A X.stack s H C8.E0).tr pn xe) (.Call (.Name a p1) [] [] p2) (fun σZ HZ Q => σZ[0]? = some (some (.ref f)) ∧ HZ c' = some (CodeO c' q) ∧ (∀ cls d H', E cls d H' → W cls d σZ H') ∧ tl E HZ Q)) →
    H c' = some (CodeO c' q) → TT tl H Q →
    ∃ t, PSs (cxOf C8.CX0 X.prog X.w X.K X.mg X.base Ng x sg g cdg X.A X.stack s H C8.E0).nox bg t ∧ t { nx := fun _ H' => Q .non H', rt := Q } (L2.start Ng [.ref f]) H
/-- x(lambda ..: body) -/
theorem pe_lam3 {T : List (Addr × Str)} {TT : (XK → Hp → VK → Prop) → Hp → VK → Prop} {x a pa : Str} {dz : Option Int} {g c P : Addr} {k : Nat} {pg : Arguments} {bg : List Stmt} {sg : Scope} {dV kV doc pm cdv ct oc : Value} {an od : Option Addr} {osl : Array (Option Value)} {Ng : List Str}
    {params : Arguments} {body : Expr} {scope : Scope} {t : XK → TE} {p lpos pos : Pos} (hg : Gl X x) (hm : X.mg x = some (.ref g)) (hk : PySem.W.keepIn X.K (.ref g) = true)
    (lk : X.K.lookup g = some ⟨oc, od, .func (PySem.W.fnOf x x pg bg sg dV kV doc pm an cdv ct), osl⟩) (hcg : PySem.W.codeIn X.K cdv x = true) (hb : L2.Binds X.K (PySem.W.fnOf x x pg bg sg dV kV doc pm an cdv ct) [a] []) (Sg : FnScope Ng [a] sg) (hNg : Ng[0]? = some a) (hva : Vis sg a)
    (hG : Gives3 X Ng x sg g cdv bg a (X.env.qual ++ "<lambda>") TT)
    (TB : TabB X.base X.mg c P) (hcode : X.env.code = .ref c) (hmT : (P, X.env.qual ++ "<lambda>") ∈ T) (hu : ∀ p ∈ T, p.1 = P → p.2 = X.env.qual ++ "<lambda>") (hr : Room (k + 2) X.A) (L : LamT X.N X.env.scope scope pa dz) (hdf : Dflt params dz) (hbl : BindL params body scope pa dz)
    (hbody : ∀ (A : Around) (outer : List Env) (s : Shared) (H : Hp) (E : XK) (f c' : Addr), Room k (A.deeper (lamEnv X scope s.heap.objs.size f c')) → PE (lamCx X A outer s H E scope f c') body (t E))
    (hdb : (x == ("__debug__" : Str)) = false := by decide) (hd : (a == ("__debug__" : Str)) = false := by decide) (hcd : (a == ("__classdict__" : Str)) = false := by decide) :
    PE X (.Call (.Name x p) [.Lambda params body scope lpos] [] pos) (tLam T TT t) := by
  refine ⟨fun pins s σ H Q I h => ?_⟩
  obtain ⟨hT, h⟩ := h
  refine wpAny_Call_Name_kw (ld_glob I hg hm ?_ hdb)
  refine PySem.W.callWith_K (h₀ := X.base) I.ok.mod.kin hk ?_ (by rfl) (by rfl)
  show wpAny _ _ (spliced ((false, eval (.Lambda params body scope lpos) X.env) :: backTo pos (starEach [] X.env))) _ _ s
  refine Calls.spliced_cons (make3 I TB hcode hmT hu hT hdf hbl (L.has I.ok) fun f c' dV' doc' pm' ctv tk0 ks H1 s' I1 eN T1 hks hbd hf hfn hfr hco => ?_)
  refine Calls.spliced_nil ⟨I1.kIn, ?_⟩
  have rc : codeAny (model X.prog X.w) X.A (.call (.ref g) ⟨[.ref f], []⟩) (CR C8.CX0 X.stack X.prog X.w H1 s' Q C8.E0) s' := by
    refine run_ofS (N := Ng) (ps := [a]) (us := [.ref f]) (vs := [.ref f]) lk hcg Sg hr I1.env0 (hb s' [.ref f] I1.kIn rfl) (.cons rfl .nil) rfl fun hr' => ?_
    obtain ⟨t', ht', hq'⟩ := hG f c' s' H1 Q (fun E H' Q' => t E σ H' Q')
      (fun W pn xe E p1 p2 tk => act3 (i := 0) I1 L hf hfn hfr hks hbd tk hr' (fun A outer s H hr2 => hbody A outer s H E f c' hr2) hNg hva hd hcd) hco (h H1 eN T1)
    exact ⟨t', ht'.nox, hq'⟩
  refine wpAny_call (codeAny_mono rc fun r s2 hq => ?_)
  cases r with
  | error e => exact (show False from hq).elim
  | ok fl =>
    cases fl with
    | ret u => exact I1.after hq
    | next => exact False.elim hq
    | brk => exact False.elim hq
    | cont => exact False.elim hq
end
end LamD
set_option Elab.async false
set_option linter.all false
set_option maxRecDepth 100000
set_option maxHeartbeats 8000000
namespace Bay
open PySem PySem.Spec PyProof.Rows L2 Err Seg LamD
open LamX (CodeO)
abbrev sPart : Stmt := top 24
abbrev nPart : List Str := ["ask", "caught", "error"]
theorem scPart : FnScope nPart ["ask"] (defScope sPart) := ⟨rfl, rfl, rfl, by decide +kernel, rfl, by decide +kernel, by decide +kernel⟩
/-- the asked thing raises one of the two errors: the pair of its word and its part -/
def TPart (CB CM : Addr) : (XK → Hp → VK → Prop) → Hp → VK → Prop := fun tl H Q => ∀ R : VK,
  tl (fun cls d H' => ∃ (isB : Bool) (dd : Addr) (s : Str), cls = .ref (if isB = true then CB else CM) ∧ d = some dd ∧ H' dd = some (.xd [(("part" : Str), .str s)]) ∧
    ∀ (H'' : Hp) (p : Addr), Same H' H'' → H' p = none → H'' p = some (.tup [.str (if isB = true then "point" else "misfit"), .str s]) → Q (.ref p) H'') H R
section
variable {P : Program} {w : World} {K : PySem.W.Frag} {mg : Str → Option Value} {F CB CM : Addr}
theorem Cl2.exm (T : Cl2 P K mg F CB CM) (isB : Bool) : PySem.W.exmOne K (.ref (if isB = true then CB else CM)) (.ref F) = some true := by
  cases isB
  · exact T.cm.exm T.B
  · exact T.cb.exm T.B
theorem Cl2.is (T : Cl2 P K mg F CB CM) (isB : Bool) : IsC K (if isB = true then CB else CM) := by
  cases isB
  · exact T.cm.is T.B
  · exact T.cb.is T.B
theorem Cl2.kitB (T : Cl2 P K mg F CB CM) (isB : Bool) : PySem.W.kitOne K (.ref (if isB = true then CB else CM)) (.ref CB) = some isB := by
  have f1 := T.cb.neB T.B (by decide +kernel)
  cases isB
  · refine (T.cm.kitE T.cb f1).trans ?_
    rw [decide_eq_false (T.cm.ne T.cb (by decide +kernel))]
  · refine (T.cb.kitE T.cb f1).trans ?_
    rw [decide_eq_true rfl]
theorem Cl2.kitM (T : Cl2 P K mg F CB CM) (isB : Bool) : PySem.W.kitOne K (.ref (if isB = true then CB else CM)) (.ref CM) = some (!isB) := by
  have f1 := T.cm.neB T.B (by decide +kernel)
  cases isB
  · refine (T.cm.kitE T.cm f1).trans ?_
    rw [decide_eq_true rfl]
    rfl
  · refine (T.cb.kitE T.cm f1).trans ?_
    rw [decide_eq_false (T.cb.ne T.cm (by decide +kernel))]
    rfl
theorem Cl2.no (T : Cl2 P K mg F CB CM) (isB : Bool) : PySem.W.findIn K (.ref (if isB = true then CB else CM)) "part" = some none := by
  cases isB
  · exact T.nm
  · exact T.nb
/-- behind the try -/
def MP (CB CM : Addr) (f : Addr) (isB : Bool) (s : Str) (H0 : Hp) : L2.St → Hp → Prop := fun σ J => ∃ (a dd : Addr), σ = [some (.ref f), some (.ref a), none] ∧ J a = some (ExT a (.ref (if isB = true then CB else CM)) (some dd)) ∧ J dd = some (.xd [(("part" : Str), .str s)]) ∧ Same H0 J
theorem part_gives {X : Cx} {g : Addr} {cdg : Value} {q : Str} (T : Cl2 X.prog X.K X.mg F CB CM) (isi : X.mg "isinstance" = none) : Gives3 X nPart "_law_part" (defScope sPart) g cdg (defBody sPart) "ask" q (TPart CB CM) := by
  intro f c' s H Q tl act hc h
  have nd := scPart.nd
  refine ⟨_, pss_cons (ps_set (i := 1) nd rfl (.inl rfl) pe_non)
    (C8.pss_cut (ps_try_keep (i := 2) (n := "error") (c := .ref F) (tb := fun W D σ H => ∃ Ech : XK, σ[0]? = some (some (.ref f)) ∧ H c' = some (CodeO c' q) ∧ (∀ cls d H', Ech cls d H' → W cls d σ H') ∧ tl Ech H (fun _ H' => D.nx σ H')) (ts := fun _ => tAsg (tVar 2) (gName 1)) (Wout := fun _ _ _ _ => False) rfl rfl rfl nd rfl rfl ⟨rfl, by decide, Or.inl T.B.g⟩ LamX.takes0
      (fun W pn xe tk _ => ?body)
      (fun a pn => pss_one (ps_set (i := 1) nd rfl (Or.inl rfl) (pv 2))))
    (pss_cons (ps_if (pt_val (pe_callB call_isXT (by rfl) isi (by decide +kernel) (pa_cons (pv 1) (pa_cons (pe_tup (pa_cons (pe_glob (v := .ref CB) (by rfl) T.cb.g rfl) (pa_cons (pe_glob (v := .ref CM) (by rfl) T.cm.g rfl) pa_nil))) pa_nil))))
        (pss_one (ps_ret (pe_tup (pa_cons (pe_ifExp (pt_val (pe_callB call_isX (by rfl) isi (by decide +kernel) (pa_cons (pv 1) (pa_cons (pe_glob (v := .ref CB) (by rfl) T.cb.g rfl) pa_nil)))) pe_str pe_str) (pa_cons (pe_fld (pv 1)) pa_nil))))) pss_nil)
    (pss_one (ps_ret (pe_ifExp (pt_cmp (pc_isN (pv 1))) pe_non (pe_tup (pa_cons pe_str (pa_cons pe_non pa_nil)))))))), ?_⟩
  case body =>
    refine ⟨fun pins s' σ H' D I h' => ?_⟩
    obtain ⟨Ech, h1, h2, h3, h4⟩ := h'
    exact (pss_one (ps_expr (act W pn xe Ech _ _ tk))).run pins s' σ H' D I ⟨h1, h2, h3, h4⟩
  · refine ⟨fun σ J => ∃ (isB : Bool) (s' : Str) (H0 : Hp), MP CB CM f isB s' H0 σ J ∧ ∀ (H'' : Hp) (p : Addr), Same H0 H'' → H0 p = none → H'' p = some (.tup [.str (if isB = true then "point" else "misfit"), .str s']) → Q (.ref p) H'', ?_, ?_⟩
    · refine ⟨_, rfl, hc, ?_, h _⟩
      · rintro cls d H' ⟨isB, dd, s', rfl, rfl, ed, fin⟩
        refine ⟨true, T.exm isB, fun _ a na => ?_, fun z => nomatch z⟩
        refine ⟨.ref a, rfl, ?_⟩
        refine ⟨isB, s', H', ⟨a, dd, rfl, upd_same, ?_, Same.new na⟩, fin⟩
        rw [upd_ne (ne_of_none ed na)]
        exact ed
    · rintro σ J ⟨isB, s', H0, ⟨a, dd, rfl, e1, e2, sm⟩, fin⟩
      refine ⟨.ref a, rfl, (by show 2 ≤ sizeLine; decide), fun p np => ?_⟩
      have s1 := Same.new (o := .tup [.ref CB, .ref CM]) np
      refine ⟨a, _, dd, _, p, _, [.ref CB, .ref CM], true, rfl, s1 _ _ e1, s1 _ _ e2, T.is isB, upd_same, .cons (.own _) (.cons (.own _) .nil), ?_, _, rfl, ite_t rfl ?_⟩
      · refine kitAny_cons (T.kitB isB) (fun e => ?_) (fun e => rfl)
        exact kitAny_cons (T.kitM isB) (fun e' => by subst e; cases e') (fun e' => rfl)
      · refine ⟨.ref a, rfl, a, _, dd, _, .ref CB, .ref CB, isB, rfl, s1 _ _ e1, s1 _ _ e2, T.is isB, .own _, T.kitB isB, _, rfl, ?_⟩
        have last : ∀ x : Str, x = (if isB = true then ("point" : Str) else ("misfit" : Str)) → _ := fun x hx =>
          (⟨.ref a, rfl, a, _, dd, _, .str s', rfl, s1 _ _ e1, s1 _ _ e2, rfl, (T.is isB).toXfC, T.no isB, (by show 2 ≤ sizeLine; decide), fun r nr => by
            refine fin _ r ((sm.trans s1).trans (Same.new nr)) (sm.free (s1.free nr)) ?_
            rw [upd_same, hx]⟩ : tCons (Err.tFld X.K "part" (tVar 1)) tNil [some (V.ref f), some (V.ref a), none] (upd J p (.tup [.ref CB, .ref CM])) fun xs H2 => (.str x :: xs).length ≤ sizeLine ∧ ∀ r, H2 r = none → Q (.ref r) (upd H2 r (.tup (.str x :: xs))))
        cases isB with
        | true => exact ite_t rfl (last _ rfl)
        | false => exact ite_f rfl (last _ rfl)
end
end Bay
set_option Elab.async false
set_option linter.all false
set_option maxRecDepth 100000
set_option maxHeartbeats 8000000
namespace Bay
open PySem PySem.Spec PyProof.Rows L2 Err Seg LamD
abbrev sLaw : Stmt := top 25
abbrev nLaw : List Str := ["script", "keg", "turn", "far", "one", "other", "third", "fourth", "due", "told", "number", "heard", "bad", "call", "end", "spot", "each"]
theorem scLaw : FnScope nLaw ["script"] (defScope sLaw) := ⟨rfl, rfl, rfl, by decide +kernel, rfl, by decide +kernel, by decide +kernel⟩
def loopB : List Stmt := match (defBody sLaw).getD 1 (.Pass ⟨0, 0, 0, 0⟩) with
  | .For _ _ b _ _ => b
  | _ => []
/-- where the defs stand -/
structure Defs (K : PySem.W.Frag) (mg : Str → Option Value) (f : Nat → Addr) (d : Nat → FuncData) : Prop where
  F5 : Fun K "is_integer" "is_integer" sInt (f 5) (d 5)
  g5 : mg "is_integer" = some (.ref (f 5))
  b5 : Binds K (d 5) ["value"] []
  F6 : Fun K "is_point" "is_point" sPoint (f 6) (d 6)
  g6 : mg "is_point" = some (.ref (f 6))
  b6 : Binds K (d 6) ["value"] []
  F8 : Fun K "want_point" "want_point" sWant (f 8) (d 8)
  g8 : mg "want_point" = some (.ref (f 8))
  b8 : Binds K (d 8) ["value", "part"] []
  F10 : Fun K "cross_of" "cross_of" sCross (f 10) (d 10)
  g10 : mg "cross_of" = some (.ref (f 10))
  b10 : Binds K (d 10) ["one", "other", "point"] []
  F11 : Fun K "side_of" "side_of" sSide (f 11) (d 11)
  g11 : mg "side_of" = some (.ref (f 11))
  b11 : Binds K (d 11) ["one", "other", "point"] []
  n11 : KBn K (d 11) ["one", "other", "point"] 0 ["point", "other", "one"] (fun _ ws => ws.reverse) (fun _ zs => zs.reverse)
  F12 : Fun K "boxes_meet" "boxes_meet" sBoxes (f 12) (d 12)
  g12 : mg "boxes_meet" = some (.ref (f 12))
  b12 : Binds K (d 12) ["one", "other", "third", "fourth"] []
  F13 : Fun K "are_beside" "are_beside" sBeside (f 13) (d 13)
  g13 : mg "are_beside" = some (.ref (f 13))
  b13 : Binds K (d 13) ["one", "other", "third", "fourth"] []
  F14 : Fun K "stretches_meet" "stretches_meet" sMeet (f 14) (d 14)
  g14 : mg "stretches_meet" = some (.ref (f 14))
  b14 : Binds K (d 14) ["one", "other", "third", "fourth"] []
  F15 : Fun K "do_meet" "do_meet" sDo (f 15) (d 15)
  g15 : mg "do_meet" = some (.ref (f 15))
  b15 : Binds K (d 15) ["one", "other", "third", "fourth"] []
  n15 : KBn K (d 15) ["one", "other", "third", "fourth"] 0 ["fourth", "third", "other", "one"] (fun _ ws => ws.reverse) (fun _ zs => zs.reverse)
  F17 : Fun K "_law_keg" "_law_keg" sDune (f 17) (d 17)
  g17 : mg "_law_keg" = some (.ref (f 17))
  b17 : Binds K (d 17) ["script"] []
  F18 : Fun K "_law_pour" "_law_pour" sDrift (f 18) (d 18)
  g18 : mg "_law_pour" = some (.ref (f 18))
  b18 : Binds K (d 18) ["keg", "many"] []
  F19 : Fun K "_law_pick" "_law_pick" sPick (f 19) (d 19)
  g19 : mg "_law_pick" = some (.ref (f 19))
  b19 : Binds K (d 19) ["keg", "some"] []
  F20 : Fun K "_law_way" "_law_way" sWay (f 20) (d 20)
  g20 : mg "_law_way" = some (.ref (f 20))
  b20 : Binds K (d 20) ["one", "other"] []
  F21 : Fun K "_law_cross" "_law_cross" sLCross (f 21) (d 21)
  g21 : mg "_law_cross" = some (.ref (f 21))
  b21 : Binds K (d 21) ["one", "other"] []
  F22 : Fun K "_law_point" "_law_point" sLPoint (f 22) (d 22)
  g22 : mg "_law_point" = some (.ref (f 22))
  b22 : Binds K (d 22) ["keg", "far"] []
  F23 : Fun K "_law_common" "_law_common" sCommon (f 23) (d 23)
  g23 : mg "_law_common" = some (.ref (f 23))
  b23 : Binds K (d 23) ["one", "other", "third", "fourth"] []
structure BltL (mg : Str → Option Value) : Prop extends Blt3 mg where
  mx : mg "max" = none
  mn : mg "min" = none
  repr : mg "repr" = none
theorem passN {P : Program} {w : World} {X : Cx} : Passes (L2.CX P w) X (fun _ _ _ => False) := fun _ _ _ _ _ _ _ c => by
  obtain ⟨_, _, _, _, _, _, _, _, _, _, _, _, z⟩ := c
  exact z.elim
structure Q4 (D : Addr) (J : Hp) (v1 v2 v3 v4 : V) (a b c d e f g h : Int) : Prop where
  p1 : Tk D J v1 a b
  p2 : Tk D J v2 c d
  p3 : Tk D J v3 e f
  p4 : Tk D J v4 g h
theorem Q4.on {D : Addr} {H G : Hp} {v1 v2 v3 v4 : V} {a b c d e f g h : Int} (q : Q4 D H v1 v2 v3 v4 a b c d e f g h) (k : Kp D H G) : Q4 D G v1 v2 v3 v4 a b c d e f g h := ⟨q.p1.on k, q.p2.on k, q.p3.on k, q.p4.on k⟩
theorem Q4.pts {D : Addr} {H : Hp} {v1 v2 v3 v4 : V} {a b c d e f g h : Int} (q : Q4 D H v1 v2 v3 v4 a b c d e f g h) : Pts H v1 v2 v3 v4 a b c d e f g h := ⟨q.p1.pt, q.p2.pt, q.p3.pt, q.p4.pt⟩
theorem Pt.gd {H : Hp} {v : V} {x y : Int} (p : Pt H v x y) : Gd (fun _ => True) H v ∧ isP H v = true := by
  have z : ∀ u ∈ [V.int x, V.int y], Gd (fun _ => True) H u := fun u hu => by
    simp only [List.mem_cons, List.not_mem_nil, or_false] at hu
    rcases hu with e | e <;> (rw [e]; exact .int _)
  obtain ⟨q, rfl, h | h⟩ := p
  · exact ⟨.lst trivial h z, by simp only [isP, h]; rfl⟩
  · exact ⟨.tup trivial h z, by simp only [isP, h]; rfl⟩
/-- the promise of do_meet for points -/
theorem do_pts {H : Hp} {CB : Addr} {v1 v2 v3 v4 : V} {a b c d e f g h : Int} {Q : VK} {E : XK} (p : Pts H v1 v2 v3 v4 a b c d e f g h) (s : Eight a b c d e f g h) (q : ∀ (H' : Hp) (r : Bool), Same H H' → (r = true ↔ Sm a b c d e f g h) → Q (.bl r) H') : spDo CB [v1, v2, v3, v4] H Q E := by
  obtain ⟨g1, i1⟩ := p.p1.gd
  obtain ⟨g2, i2⟩ := p.p2.gd
  obtain ⟨g3, i3⟩ := p.p3.gd
  obtain ⟨g4, i4⟩ := p.p4.gd
  refine ⟨fun _ => True, v1, v2, v3, v4, rfl, g1, g2, g3, g4, fun x hx => ?_, fun _ => ⟨a, b, c, d, e, f, g, h, p, s, q⟩⟩
  rw [i1, i2, i3, i4] at hx
  rcases hx with ⟨z, _⟩ | ⟨_, z, _⟩ | ⟨_, _, z, _⟩ | ⟨_, _, _, z, _⟩ <;> exact (Bool.false_ne_true z.symm).elim
theorem side_pts {H : Hp} {CB CM : Addr} {v1 v2 v3 : V} {a b c d e f : Int} {Q : VK} {E : XK} (p1 : Pt H v1 a b) (p2 : Pt H v2 c d) (p3 : Pt H v3 e f) (s : Six a b c d e f) (n : ¬ (a = c ∧ b = d)) (q : ∀ (H' : Hp), Same H H' → Q (.int (sg (cr a b c d e f))) H') : spSide CB CM [v1, v2, v3] H Q E := by
  obtain ⟨g1, i1⟩ := p1.gd
  obtain ⟨g2, i2⟩ := p2.gd
  obtain ⟨g3, i3⟩ := p3.gd
  refine ⟨fun _ => True, v1, v2, v3, rfl, g1, g2, g3, fun x hx => ?_, fun _ => ⟨a, b, c, d, e, f, p1, p2, p3, s, fun z => absurd z n, fun _ => q⟩⟩
  rw [i1, i2, i3] at hx
  rcases hx with ⟨z, _⟩ | ⟨_, z, _⟩ | ⟨_, _, z, _⟩ <;> exact (Bool.false_ne_true z.symm).elim
abbrev cL (P : Program) (w : World) (K : PySem.W.Frag) (mg : Str → Option Value) (base : Heap) (fa : Addr) (cdv : Value) (t : Shared) (H : Hp) : Cx := (cxOf CX0 P w K mg base nLaw "law" (defScope sLaw) fa cdv callerA [] t H E0).nox
/-- ahead of and behind a turn -/
def IL (a D C T : Addr) (ms : List Int) (B : Int) : L2.St → Hp → Prop := fun σ J => ∃ (t l : Int) (y2 y3 y4 y5 y6 y7 y8 y9 y10 y11 y12 y13 y14 y15 y16 : Option V), σ = [some (.ref a), some (.ref D), y2, y3, y4, y5, y6, y7, y8, y9, y10, y11, y12, y13, y14, y15, y16] ∧ Dn J D C ms t l ∧ t ≤ B ∧ J T = some (.tbl #[])
def ML1 (a D C T : Addr) (ms : List Int) (B : Int) : L2.St → Hp → Prop := fun σ J => ∃ (t l far : Int) (y2 y4 y5 y6 y7 y8 y9 y10 y11 y12 y13 y14 y15 y16 : Option V), σ = [some (.ref a), some (.ref D), y2, some (.int far), y4, y5, y6, y7, y8, y9, y10, y11, y12, y13, y14, y15, y16] ∧ Dn J D C ms t l ∧ t ≤ B + 1 ∧ J T = some (.tbl #[]) ∧ far.natAbs < 2 ^ 100
def ML2 (a D C T : Addr) (ms : List Int) (B : Int) : L2.St → Hp → Prop := fun σ J => ∃ (t l : Int) (v1 v2 v3 v4 : V) (x1 x2 x3 x4 x5 x6 x7 x8 : Int) (y2 y3 y8 y9 y10 y11 y12 y13 y14 y15 y16 : Option V), σ = [some (.ref a), some (.ref D), y2, y3, some v1, some v2, some v3, some v4, y8, y9, y10, y11, y12, y13, y14, y15, y16] ∧ Dn J D C ms t l ∧ t ≤ B + 14 ∧ J T = some (.tbl #[]) ∧
  Q4 D J v1 v2 v3 v4 x1 x2 x3 x4 x5 x6 x7 x8 ∧ S0 x1 ∧ S0 x2 ∧ S0 x3 ∧ S0 x4 ∧ S0 x5 ∧ S0 x6 ∧ S0 x7 ∧ S0 x8
def ML3 (a D C T : Addr) (ms : List Int) (B : Int) : L2.St → Hp → Prop := fun σ J => ∃ (t l : Int) (v1 v2 v3 v4 : V) (x1 x2 x3 x4 x5 x6 x7 x8 : Int) (y2 y3 y8 y9 y10 y11 y12 y13 y14 y15 y16 : Option V), σ = [some (.ref a), some (.ref D), y2, y3, some v1, some v2, some v3, some v4, y8, y9, y10, y11, y12, y13, y14, y15, y16] ∧ Dn J D C ms t l ∧ t ≤ B + 15 ∧ J T = some (.tbl #[]) ∧
  Q4 D J v1 v2 v3 v4 x1 x2 x3 x4 x5 x6 x7 x8 ∧ Eight x1 x2 x3 x4 x5 x6 x7 x8
def ML4 (a D C T : Addr) (ms : List Int) (B : Int) : L2.St → Hp → Prop := fun σ J => ∃ (t l : Int) (v1 v2 v3 v4 : V) (x1 x2 x3 x4 x5 x6 x7 x8 : Int) (r : Bool) (y2 y3 y9 y10 y11 y12 y13 y14 y15 y16 : Option V), σ = [some (.ref a), some (.ref D), y2, y3, some v1, some v2, some v3, some v4, some (.bl r), y9, y10, y11, y12, y13, y14, y15, y16] ∧ Dn J D C ms t l ∧ t ≤ B + 15 ∧ J T = some (.tbl #[]) ∧
  Q4 D J v1 v2 v3 v4 x1 x2 x3 x4 x5 x6 x7 x8 ∧ Eight x1 x2 x3 x4 x5 x6 x7 x8 ∧ (r = true ↔ Sm x1 x2 x3 x4 x5 x6 x7 x8)
end Bay
set_option Elab.async false
set_option linter.all false
set_option maxRecDepth 100000
set_option maxHeartbeats 8000000
namespace Bay
open PySem PySem.Spec PyProof.Rows L2 Err Seg LamD
theorem sh3 (a : Bool) : (PyData.list [.bool a, .bool a, .bool a]).showable = true := by cases a <;> rfl
theorem nd3 (a : Bool) : (PyData.list [.bool a, .bool a, .bool a]).hasDict = false := by cases a <;> rfl
theorem dp3 (a : Bool) : (PyData.list [.bool a, .bool a, .bool a]).depth ≤ 60 := by cases a <;> decide
theorem sz3 (a : Bool) : (PyData.shown (.list [.bool a, .bool a, .bool a])).length ≤ sizeLine := by cases a <;> decide +kernel
theorem three {K : PySem.W.Frag} {H : Hp} {p : Addr} {a : Bool} (e : H p = some (.lst [.bl a, .bl a, .bl a])) : Dp K H (.ref p) (.list [.bool a, .bool a, .bool a]) := Dp.lst (SqL.of e) (.cons (.bl a) (.cons (.bl a) (.cons (.bl a) .nil)))
def four (x : Int) : PyData := .list [.int x, .int x, .int (-x), .int 0]
theorem sg_cases (z : Int) : sg z = 0 ∨ sg z = 1 ∨ sg z = -1 := by
  unfold sg
  split
  · exact .inl rfl
  · split
    · exact .inr (.inl rfl)
    · exact .inr (.inr rfl)
theorem four_ok {x : Int} (h : x = 0 ∨ x = 1 ∨ x = -1) : (four x).showable = true ∧ (four x).hasDict = false ∧ (four x).depth ≤ 60 ∧ (four x).shown.length ≤ sizeLine := by
  rcases h with rfl | rfl | rfl <;> exact ⟨by decide +kernel, by decide +kernel, by decide +kernel, by decide +kernel⟩
theorem sg_neg (z : Int) : sg (-z) = -sg z := by
  unfold sg
  by_cases h : z = 0
  · subst h
    rfl
  · rw [if_neg h, if_neg (by omega)]
    by_cases k : 0 < z
    · rw [if_pos k, if_neg (by omega)]
    · rw [if_neg k, if_pos (by omega)]
      rfl
theorem sg_diff (z : Int) : (if decide (0 < z) = true then (1 : Int) else 0) - (if decide (z < 0) = true then (1 : Int) else 0) = sg z := by
  unfold sg
  simp only [decide_eq_true_eq]
  split <;> split <;> (try split) <;> omega
theorem sml_of {x : Int} (h : S0 x) : Sml x := Nat.lt_of_lt_of_le h (by decide +kernel)
theorem sml_3 {x y z : Int} (hx : S0 x) (hy : S0 y) (hz : S0 z) : Sml (x + y - z) := by
  unfold S0 Sml at *
  have e : (2 : Nat) ^ 110 = 64 * 2 ^ 104 := by decide +kernel
  rw [e]
  generalize (2 : Nat) ^ 104 = k at *
  omega
theorem sml_2 {x y : Int} (hx : S0 x) (hy : S0 y) : Sml (2 * x - y) := by
  unfold S0 Sml at *
  have e : (2 : Nat) ^ 110 = 64 * 2 ^ 104 := by decide +kernel
  rw [e]
  generalize (2 : Nat) ^ 104 = k at *
  omega
theorem iff_eq {r s : Bool} {S : Prop} (h1 : r = true ↔ S) (h2 : s = true ↔ S) : r = s := by
  cases r <;> cases s
  · rfl
  · exact (Bool.false_ne_true (h1.mpr (h2.mp rfl))).elim
  · exact (Bool.false_ne_true (h2.mpr (h1.mp rfl))).elim
  · rfl
theorem cr_self (a b c d : Int) : cr a b c d c d = 0 := by
  unfold cr
  rw [Int.mul_comm (d - b)]
  omega
theorem four_dp {K : PySem.W.Frag} {H : Hp} {p : Addr} {x : Int} (e : H p = some (.lst [.int x, .int x, .int (-x), .int 0])) : Dp K H (.ref p) (four x) := Dp.lst (SqL.of e) (.cons (.int x) (.cons (.int x) (.cons (.int (-x)) (.cons (.int 0) .nil))))
theorem no_do {H : Hp} {v1 v2 v3 v4 : V} {a b c d e f g h : Int} {G : Str → Prop} (p : Pts H v1 v2 v3 v4 a b c d e f g h) (x : Str)
    (hx : (isP H v1 = false ∧ x = "one") ∨ (isP H v1 = true ∧ isP H v2 = false ∧ x = "other") ∨ (isP H v1 = true ∧ isP H v2 = true ∧ isP H v3 = false ∧ x = "third") ∨ (isP H v1 = true ∧ isP H v2 = true ∧ isP H v3 = true ∧ isP H v4 = false ∧ x = "fourth")) : G x := by
  rw [p.p1.gd.2, p.p2.gd.2, p.p3.gd.2, p.p4.gd.2] at hx
  rcases hx with ⟨z, _⟩ | ⟨_, z, _⟩ | ⟨_, _, z, _⟩ | ⟨_, _, _, z, _⟩ <;> exact (Bool.false_ne_true z.symm).elim
theorem no_side {H : Hp} {v1 v2 v3 : V} {a b c d e f : Int} {G : Str → Prop} (p1 : Pt H v1 a b) (p2 : Pt H v2 c d) (p3 : Pt H v3 e f) (x : Str)
    (hx : (isP H v1 = false ∧ x = "one") ∨ (isP H v1 = true ∧ isP H v2 = false ∧ x = "other") ∨ (isP H v1 = true ∧ isP H v2 = true ∧ isP H v3 = false ∧ x = "point")) : G x := by
  rw [p1.gd.2, p2.gd.2, p3.gd.2] at hx
  rcases hx with ⟨z, _⟩ | ⟨_, z, _⟩ | ⟨_, _, z, _⟩ <;> exact (Bool.false_ne_true z.symm).elim
section
variable {P : Program} {w : World} {K : PySem.W.Frag} {mg : Str → Option Value} {base : Heap} {F CB CM : Addr} {f : Nat → Addr} {d : Nat → FuncData}
theorem turn (L : Defs K mg f d) (TC : Cl2 P K mg F CB CM) (T : BltL mg) {t : Shared} {cdv : Value} {H : Hp} {fa : Addr} (hr : Room 6 (callerA.deeper (envOfC "law" (defScope sLaw) t.heap.objs.size fa cdv))) :
    ∃ tb, PSs (cL P w K mg base fa cdv t H) loopB tb ∧ ∀ (a D C Tt : Addr) (ms : List Int) (B : Int) (D' : Ends) (σ : L2.St) (J : Hp), B + 20 ≤ 1000000 → IL a D C Tt ms B σ J → (∀ σ' J', IL a D C Tt ms (B + 15) σ' J' → D'.nx σ' J') → tb D' σ J := by
  have BM : BltM mg := ⟨T.mx, T.mn⟩
  have GP : FnOk P w K mg base CX0 2 (f 19) (d 19) ["keg", "some"] spPick := ok_pick L.F19 L.F18 T.toBlt L.g18 L.b18
  have GLP : FnOk P w K mg base CX0 3 (f 22) (d 22) ["keg", "far"] spLPoint := ok_lpoint L.F22 L.F18 L.F19 T.toBlt L.g18 L.b18 L.g19 L.b19
  have GCo : FnOk P w K mg base CX0 2 (f 23) (d 23) ["one", "other", "third", "fourth"] spCommon := ok_common L.F23 L.F20 L.F21 BM L.g20 L.b20 L.g21 L.b21
  have GWt : FnOk P w K mg base (L2.CX P w) 3 (f 8) (d 8) ["value", "part"] (spWant CB) := ok_want L.F8 L.F6 L.F5 T.toBlt3 L.g5 L.b5 L.g6 L.b6 TC
  have GBe : FnOk P w K mg base CX0 2 (f 13) (d 13) ["one", "other", "third", "fourth"] spBeside := ok_beside L.F13 L.F10 L.g10 L.b10
  have GMe : FnOk P w K mg base CX0 3 (f 14) (d 14) ["one", "other", "third", "fourth"] spMeet := ok_meet L.F14 L.F12 L.F13 BM GBe L.g12 L.b12 L.g13 L.b13
  have GD : FnOk P w K mg base (L2.CX P w) 4 (f 15) (d 15) ["one", "other", "third", "fourth"] (spDo CB) := ok_do L.F15 L.F8 L.F14 GWt GMe L.g8 L.b8 L.g14 L.b14
  have GS : FnOk P w K mg base (L2.CX P w) 4 (f 11) (d 11) ["one", "other", "point"] (spSide CB CM) := ok_side L.F11 L.F8 L.F10 T.toBlt3 TC GWt L.g8 L.b8 L.g10 L.b10
  have GWy : FnOk P w K mg base CX0 1 (f 20) (d 20) ["one", "other"] spWay := ok_way L.F20
  have GX : FnOk P w K mg base CX0 1 (f 21) (d 21) ["one", "other"] spLCross := ok_lcross L.F21
  have hr1 : Room 1 _ := hr.mono (by decide)
  have hr2 : Room 2 _ := hr.mono (by decide)
  have hr3 : Room 3 _ := hr.mono (by decide)
  have hr4 : Room 4 _ := hr.mono (by decide)
  have nd := scLaw.nd
  have un := hr.units
  refine ⟨_, C8.pss_cut (ps_set (i := 3) nd rfl (Or.inr rfl) (pe_call GP hr2 (by rfl) L.g19 L.F19.kp L.b19 .nil pass0 (pa_cons (pv 1) (pa_cons (pe_lst (pa_cons pe_int (pa_cons pe_int (pa_cons pe_int (pa_cons (pe_op op_pow pe_int pe_int) pa_nil))))) pa_nil))))
    (C8.pss_cut (ps_asg (pe_lc (own := [("end", 14)]) (g := gName 14) (tt := tYes) rfl nd (pi_range1 (by rfl) T.range (pa_cons pe_int pa_nil)) (blkOk_by (N := nLaw) (sc := defScope sLaw) (by decide +kernel)) (fun _ _ _ _ _ => pg_name (i := 14) nd rfl (Or.inl rfl)) (fun _ _ _ _ _ => pts_nil)
          (fun _ _ _ _ _ => pe_call (sp := spLPoint) (dvs := []) (E := E0) GLP hr3 (by rfl) L.g22 L.F22.kp L.b22 .nil pass0 (pa_cons (pv 1) (pa_cons (pv 3) pa_nil))))
        (pg_unl rfl (pgs_cons (pg_name (i := 4) nd rfl (Or.inl rfl)) (pgs_cons (pg_name (i := 5) nd rfl (Or.inl rfl)) (pgs_cons (pg_name (i := 6) nd rfl (Or.inl rfl)) (pgs_cons (pg_name (i := 7) nd rfl (Or.inl rfl)) pgs_nil))))))
    (C8.pss_cut (ps_set (i := 6) nd rfl (Or.inl rfl) (pe_call GP hr2 (by rfl) L.g19 L.F19.kp L.b19 .nil pass0 (pa_cons (pv 1) (pa_cons (pe_lst (pa_cons (pv 6) (pa_cons (pv 4)
        (pa_cons (pe_tup (pa_cons (pe_op op_sub (pe_op op_add (pe_ix ix_pt (pv 4) pe_int (fun _ _ => rfl)) (pe_ix ix_pt (pv 5) pe_int (fun _ _ => rfl))) (pe_ix ix_pt (pv 6) pe_int (fun _ _ => rfl))) (pa_cons (pe_op op_sub (pe_op op_add (pe_ix ix_pt (pv 4) pe_int (fun _ _ => rfl)) (pe_ix ix_pt (pv 5) pe_int (fun _ _ => rfl))) (pe_ix ix_pt (pv 6) pe_int (fun _ _ => rfl))) pa_nil)))
        (pa_cons (pe_tup (pa_cons (pe_op op_sub (pe_op op_mul pe_int (pe_ix ix_pt (pv 5) pe_int (fun _ _ => rfl))) (pe_ix ix_pt (pv 4) pe_int (fun _ _ => rfl))) (pa_cons (pe_op op_sub (pe_op op_mul pe_int (pe_ix ix_pt (pv 5) pe_int (fun _ _ => rfl))) (pe_ix ix_pt (pv 4) pe_int (fun _ _ => rfl))) pa_nil))) pa_nil))))) pa_nil))))
    (C8.pss_cut (ps_set (i := 8) nd rfl (Or.inl rfl) (pe_call GCo hr2 (by rfl) L.g23 L.F23.kp L.b23 .nil pass0 (pa_cons (pv 4) (pa_cons (pv 5) (pa_cons (pv 6) (pa_cons (pv 7) pa_nil))))))
    (pss_cons (ps_set (i := 9) nd rfl (Or.inl rfl) (pe_lst (pa_cons (pe_call GD hr4 (by rfl) L.g15 L.F15.kp L.b15 .nil passN (pa_cons (pv 4) (pa_cons (pv 5) (pa_cons (pv 6) (pa_cons (pv 7) pa_nil)))))
        (pa_cons (pe_call GD hr4 (by rfl) L.g15 L.F15.kp L.b15 .nil passN (pa_cons (pe_callTy call_list_of (by rfl) T.list (by decide +kernel) (pa_cons (pv 6) pa_nil)) (pa_cons (pv 7) (pa_cons (pv 5) (pa_cons (pv 4) pa_nil)))))
        (pa_cons (pe_callN0 GD hr4 (by rfl) L.g15 L.F15.kp L.n15 passN (pk_cons (pv 5) (pk_cons (pv 4) (pk_cons (pv 6) (pk_cons (pe_callTy call_list_of (by rfl) T.list (by decide +kernel) (pa_cons (pv 7) pa_nil)) pk_nil))))) pa_nil)))))
    (C8.pss_cut (ps_if (PW.pt (pw_or (pt_cmpR op_ne (pe_callB (call_show rfl un) (by rfl) T.repr (by decide +kernel) (pa_cons (pv 9) pa_nil)) (pe_callB (call_show rfl un) (by rfl) T.repr (by decide +kernel) (pa_cons (pe_op op_rep (pe_lst (pa_cons (pv 8) pa_nil)) pe_int) pa_nil)) (nomark _))
        (pw_or1 (pt_cmpR op_isnot_bl (pe_call GD hr4 (by rfl) L.g15 L.F15.kp L.b15 .nil passN (pa_cons (pv 4) (pa_cons (pv 4) (pa_cons (pv 4) (pa_cons (pv 7) pa_nil))))) pe_bl (nomark _))))) (pss_one (ps_ret pe_bl)) pss_nil)
    (pss_one (ps_if (pt_cmpR (op_neD un) (pv 4) (pv 5) (nomark _))
      (pss_cons (ps_set (i := 10) nd rfl (Or.inl rfl) (pe_call GX hr1 (by rfl) L.g21 L.F21.kp L.b21 .nil pass0 (pa_cons (pe_call GWy hr1 (by rfl) L.g20 L.F20.kp L.b20 .nil pass0 (pa_cons (pv 4) (pa_cons (pv 5) pa_nil))) (pa_cons (pe_call GWy hr1 (by rfl) L.g20 L.F20.kp L.b20 .nil pass0 (pa_cons (pv 4) (pa_cons (pv 6) pa_nil))) pa_nil))))
      (pss_cons (ps_set (i := 8) nd rfl (Or.inl rfl) (pe_op op_sub (pe_callTy call_int1 (by rfl) T.int (by decide +kernel) (pa_cons (pe_cmpR op_gt (pv 10) pe_int (nomark _)) pa_nil)) (pe_callTy call_int1 (by rfl) T.int (by decide +kernel) (pa_cons (pe_cmpR op_lt (pv 10) pe_int (nomark _)) pa_nil))))
      (pss_one (ps_if (pt_cmpR op_ne (pe_callB (call_show rfl un) (by rfl) T.repr (by decide +kernel) (pa_cons (pe_lst (pa_cons (pe_call GS hr4 (by rfl) L.g11 L.F11.kp L.b11 .nil passN (pa_cons (pv 4) (pa_cons (pv 5) (pa_cons (pv 6) pa_nil))))
            (pa_cons (pe_callN0 GS hr4 (by rfl) L.g11 L.F11.kp L.n11 passN (pk_cons (pe_callTy call_list_of (by rfl) T.list (by decide +kernel) (pa_cons (pv 6) pa_nil)) (pk_cons (pv 5) (pk_cons (pv 4) pk_nil))))
            (pa_cons (pe_call GS hr4 (by rfl) L.g11 L.F11.kp L.b11 .nil passN (pa_cons (pv 5) (pa_cons (pv 4) (pa_cons (pv 6) pa_nil))))
            (pa_cons (pe_call GS hr4 (by rfl) L.g11 L.F11.kp L.b11 .nil passN (pa_cons (pv 4) (pa_cons (pv 5) (pa_cons (pv 5) pa_nil)))) pa_nil))))) pa_nil))
          (pe_callB (call_show rfl un) (by rfl) T.repr (by decide +kernel) (pa_cons (pe_lst (pa_cons (pv 8) (pa_cons (pv 8) (pa_cons (pe_un un_neg (pv 8)) (pa_cons pe_int pa_nil))))) pa_nil)) (nomark _)) (pss_one (ps_ret pe_bl)) pss_nil)))) pss_nil))))))), ?_⟩
  intro a D C Tt ms B D' σ J hB il fin
  obtain ⟨t0, l0, y2, y3, y4, y5, y6, y7, y8, y9, y10, y11, y12, y13, y14, y15, y16, rfl, dn, tb, hT⟩ := il
  have TD : Tt ≠ D := fun z => by
    rw [z, dn.d] at hT
    cases hT
  -- far
  refine ⟨ML1 a D C Tt ms B, ?_, ?_⟩
  · refine ⟨.ref D, rfl, 10, 30, rfl, rfl, ⟨by decide, by decide, by decide⟩, (by show 4 ≤ sizeLine; decide), fun p np => ?_⟩
    refine ⟨D, C, p, ms, t0, l0, _, rfl, dn.same (Same.new np), by omega, upd_same, dn.apart np, (by show 0 < 4; decide), (by show 4 ≤ 1000; decide), fun J1 t1 l1 x dn1 tt1 kp1 hx => ?_⟩
    have kp := (Kp.same (Same.new (o := .lst [.int 1, .int 1, .int 2, .int (10 ^ (30 : Int).toNat)]) np)).trans kp1
    have hf : ∃ far : Int, x = .int far ∧ far.natAbs < 2 ^ 100 := by
      simp only [List.mem_cons, List.not_mem_nil, or_false] at hx
      rcases hx with e | e | e | e
      · exact ⟨1, e, by decide +kernel⟩
      · exact ⟨1, e, by decide +kernel⟩
      · exact ⟨2, e, by decide +kernel⟩
      · exact ⟨_, e, by decide +kernel⟩
    obtain ⟨far, rfl, hf⟩ := hf
    exact ⟨t1, l1, far, _, _, _, _, _, _, _, _, _, _, _, _, _, _, rfl, dn1, by omega, kp _ _ hT TD, hf⟩
  clear tb dn hT
  rintro σ J ⟨t1, l1, far, y2, y4, y5, y6, y7, y8, y9, y10, y11, y12, y13, y14, y15, y16, rfl, dn, tb, hT, hf⟩
  -- the points
  refine ⟨ML2 a D C Tt ms B, ?_, ?_⟩
  · refine ⟨4, rfl, by decide, by decide, fun N nN => ?_⟩
    have ND := dn.apart nN
    have CN := ne_of_none dn.c nN
    have TN := ne_of_none hT nN
    refine lc_range (lo := 0) (n := 4) (fun i G => ∃ (t2 l2 : Int) (xs : List V), Dn G D C ms t2 l2 ∧ t2 ≤ B + 1 + i * 3 ∧ G Tt = some (.tbl #[]) ∧ G N = some (.lst xs) ∧ xs.length = i ∧ ∀ x ∈ xs, ∃ x1 x2, Tk D G x x1 x2 ∧ S0 x1 ∧ S0 x2)
      ⟨t1, l1, [], dn.same (Same.new nN), by omega, Same.new nN _ _ hT, upd_same, rfl, fun x hx => nomatch hx⟩ ?_ ?_
    · rintro i G hi ⟨t2, l2, xs, dn2, tb2, hT2, eN, hl, hg⟩
      refine ⟨rfl, .ref D, rfl, .int far, rfl, D, C, ms, t2, l2, far, rfl, dn2, by omega, hf, fun G2 t3 l3 v x y dn3 tt3 kp3 tk s1 s2 => ?_⟩
      have eN2 := kp3 _ _ eN ND
      have sk : ∀ b o, G2 b = some o → b ≠ N → (upd G2 N (.lst (xs ++ [v]))) b = some o := fun b o e n => by
        rw [upd_ne n]
        exact e
      have keepT : ∀ {u : V} {k1 k2 : Int}, Tk D G2 u k1 k2 → Tk D (upd G2 N (.lst (xs ++ [v]))) u k1 k2 := by
        rintro u k1 k2 ⟨p, e, n, h⟩
        exact ⟨p, e, n, sk _ _ h (ne_of h eN2 (fun z => by cases z))⟩
      refine ⟨xs, eN2, small1000 (by omega), t3, l3, xs ++ [v], ⟨sk _ _ dn3.d ND.symm, sk _ _ dn3.c CN, dn3.ne, dn3.n, dn3.t0, dn3.l0⟩, by omega, sk _ _ (kp3 _ _ hT2 TD) TN, upd_same, by rw [List.length_append, hl]; rfl, fun u hu => ?_⟩
      rcases List.mem_append.mp hu with hu | hu
      · obtain ⟨k1, k2, h1, h2, h3⟩ := hg u hu
        exact ⟨k1, k2, keepT (h1.on kp3), h2, h3⟩
      · cases List.mem_singleton.mp hu
        exact ⟨x, y, keepT tk, s1, s2⟩
    · rintro G ⟨t2, l2, xs, dn2, tb2, hT2, eN, hl, hg⟩
      match xs, hl, hg, eN with
      | [v1, v2, v3, v4], hl, hg, eN =>
        obtain ⟨x1, x2, p1, s1, s2⟩ := hg v1 (by simp)
        obtain ⟨x3, x4, p2, s3, s4⟩ := hg v2 (by simp)
        obtain ⟨x5, x6, p3, s5, s6⟩ := hg v3 (by simp)
        obtain ⟨x7, x8, p4, s7, s8⟩ := hg v4 (by simp)
        refine ⟨N, _, rfl, SqL.of eN, rfl, v1, _, rfl, ?_⟩
        refine ⟨_, _, rfl, ?_⟩
        refine ⟨_, _, rfl, ?_⟩
        refine ⟨_, _, rfl, ?_⟩
        exact ⟨rfl, t2, l2, v1, v2, v3, v4, x1, x2, x3, x4, x5, x6, x7, x8, _, _, _, _, _, _, _, _, _, _, _, rfl, dn2, by omega, hT2, ⟨p1, p2, p3, p4⟩, s1, s2, s3, s4, s5, s6, s7, s8⟩
  clear tb dn hT
  rintro σ J ⟨t, l, v1, v2, v3, v4, x1, x2, x3, x4, x5, x6, x7, x8, y2, y3, y8, y9, y10, y11, y12, y13, y14, y15, y16, rfl, dn, tb, hT, q4, s1, s2, s3, s4, s5, s6, s7, s8⟩
  -- third
  refine ⟨ML3 a D C Tt ms B, ?_, ?_⟩
  · refine ⟨.ref D, rfl, v3, rfl, v1, rfl, v1, rfl, x1, x2, 0, q4.p1.pt, rfl, .inl rfl, v2, rfl, x3, x4, 0, q4.p2.pt, rfl, .inl rfl, _, _, rfl, rfl, v3, rfl, x5, x6, 0, q4.p3.pt, rfl, .inl rfl, _, _, rfl, rfl,
      v1, rfl, x1, x2, 1, q4.p1.pt, rfl, .inr rfl, v2, rfl, x3, x4, 1, q4.p2.pt, rfl, .inr rfl, _, _, rfl, rfl, v3, rfl, x5, x6, 1, q4.p3.pt, rfl, .inr rfl, _, _, rfl, rfl, (by show 2 ≤ sizeLine; decide), fun p np => ?_⟩
    have k1 := Same.new (o := .tup [.int (x1 + x3 - x5), .int (x2 + x4 - x6)]) np
    have e1 : (upd J p (.tup [.int (x1 + x3 - x5), .int (x2 + x4 - x6)])) p = some (.tup [.int (x1 + x3 - x5), .int (x2 + x4 - x6)]) := upd_same
    have pD := dn.apart np
    refine ⟨v2, rfl, x3, x4, 0, q4.p2.pt.same k1, rfl, .inl rfl, 2, _, rfl, rfl, .inl ⟨by decide, by decide⟩, v1, rfl, x1, x2, 0, q4.p1.pt.same k1, rfl, .inl rfl, _, _, rfl, rfl,
      v2, rfl, x3, x4, 1, q4.p2.pt.same k1, rfl, .inr rfl, 2, _, rfl, rfl, .inl ⟨by decide, by decide⟩, v1, rfl, x1, x2, 1, q4.p1.pt.same k1, rfl, .inr rfl, _, _, rfl, rfl, (by show 2 ≤ sizeLine; decide), fun r nr => ?_⟩
    have k2 := Same.new (o := .tup [.int (2 * x3 - x1), .int (2 * x4 - x2)]) nr
    have e2 : (upd (upd J p (.tup [.int (x1 + x3 - x5), .int (x2 + x4 - x6)])) r (.tup [.int (2 * x3 - x1), .int (2 * x4 - x2)])) r = some (.tup [.int (2 * x3 - x1), .int (2 * x4 - x2)]) := upd_same
    have rD := (dn.same k1).apart nr
    have e1 := k2 _ _ e1
    refine ⟨(by show 4 ≤ sizeLine; decide), fun z nz => ?_⟩
    have k3 := Same.new (o := .lst [v3, v1, .ref p, .ref r]) nz
    have kk := (k1.trans k2).trans k3
    refine ⟨D, C, z, ms, t, l, _, rfl, dn.same kk, by omega, upd_same, (dn.same (k1.trans k2)).apart nz, (by show 0 < 4; decide), (by show 4 ≤ 1000; decide), fun J1 t1 l1 x dn1 tt1 kp1 hx => ?_⟩
    have kp := (Kp.same kk).trans kp1
    have Q := q4.on kp
    have go : ∀ (u : V) (z1 z2 : Int), Tk D J1 u z1 z2 → Sml z1 → Sml z2 → x = u → ML3 a D C Tt ms B [some (.ref a), some (.ref D), y2, y3, some v1, some v2, some x, some v4, y8, y9, y10, y11, y12, y13, y14, y15, y16] J1 := by
      rintro u z1 z2 tk h1 h2 rfl
      exact ⟨t1, l1, v1, v2, x, v4, x1, x2, x3, x4, z1, z2, x7, x8, _, _, _, _, _, _, _, _, _, _, _, rfl, dn1, by omega, kp _ _ hT TD, ⟨Q.p1, Q.p2, tk, Q.p4⟩, ⟨⟨sml_of s1, sml_of s2, sml_of s3, sml_of s4, h1, h2⟩, sml_of s7, sml_of s8⟩⟩
    have k3' : Kp D _ J1 := (Kp.same k3).trans kp1
    simp only [List.mem_cons, List.not_mem_nil, or_false] at hx
    rcases hx with e | e | e | e
    · exact go v3 x5 x6 Q.p3 (sml_of s5) (sml_of s6) e
    · exact go v1 x1 x2 Q.p1 (sml_of s1) (sml_of s2) e
    · exact go (.ref p) _ _ ⟨p, rfl, pD, k3' _ _ e1 pD⟩ (sml_3 s1 s3 s5) (sml_3 s2 s4 s6) e
    · exact go (.ref r) _ _ ⟨r, rfl, rD, k3' _ _ e2 rD⟩ (sml_2 s3 s1) (sml_2 s4 s2) e
  clear tb dn hT q4 s1 s2 s3 s4 s5 s6 s7 s8
  rintro σ J ⟨t, l, v1, v2, v3, v4, x1, x2, x3, x4, x5, x6, x7, x8, y2, y3, y8, y9, y10, y11, y12, y13, y14, y15, y16, rfl, dn, tb, hT, q4, e8⟩
  -- due
  refine ⟨ML4 a D C Tt ms B, ?_, ?_⟩
  · refine ⟨v1, rfl, v2, rfl, v3, rfl, v4, rfl, v1, v2, v3, v4, x1, x2, x3, x4, x5, x6, x7, x8, rfl, q4.pts, e8, fun J1 r sm hr => ?_⟩
    exact ⟨t, l, v1, v2, v3, v4, x1, x2, x3, x4, x5, x6, x7, x8, r, _, _, _, _, _, _, _, _, _, _, rfl, dn.same sm, tb, sm _ _ hT, q4.on (.same sm), e8, hr.trans (main _ _ _ _ _ _ _ _).symm⟩
  clear tb dn hT q4 e8
  rintro σ J ⟨t, l, v1, v2, v3, v4, x1, x2, x3, x4, x5, x6, x7, x8, r, y2, y3, y9, y10, y11, y12, y13, y14, y15, y16, rfl, dn, tb, hT, q4, e8, hr⟩
  -- told
  obtain ⟨p3, h3a, h3b, h3⟩ := id q4.p3
  obtain ⟨p4, h4a, h4b, h4⟩ := id q4.p4
  have P0 := q4.pts
  refine ⟨v1, rfl, v2, rfl, v3, rfl, v4, rfl, fun _ => True, v1, v2, v3, v4, rfl, (P0.p1).gd.1, (P0.p2).gd.1, (P0.p3).gd.1, (P0.p4).gd.1, no_do P0, fun _ => ⟨_, _, _, _, _, _, _, _, P0, e8, fun J1 r1 k1 i1 => ?_⟩⟩
  have c1 := iff_eq i1 hr
  subst c1
  refine ⟨v3, rfl, p3, _, by rw [h3a], .inr (SqT.of (k1 _ _ h3)), fun l3 nl3 => ?_⟩
  have k2 := Same.new (o := .lst [.int x5, .int x6]) nl3
  have t2 := k1.trans k2
  have PL3 : Pt (upd J1 l3 (.lst [.int x5, .int x6])) (.ref l3) x5 x6 := ⟨l3, rfl, .inl upd_same⟩
  have P2 := P0.same t2
  have PA : Pts (upd J1 l3 (.lst [.int x5, .int x6])) (.ref l3) v4 v2 v1 x5 x6 x7 x8 x3 x4 x1 x2 := ⟨PL3, P2.p4, P2.p2, P2.p1⟩
  refine ⟨v4, rfl, v2, rfl, v1, rfl, fun _ => True, .ref l3, v4, v2, v1, rfl, (PA.p1).gd.1, (PA.p2).gd.1, (PA.p3).gd.1, (PA.p4).gd.1, no_do PA, fun _ => ⟨_, _, _, _, _, _, _, _, PA, e8.s4.s3, fun J2 r2 k3 i2 => ?_⟩⟩
  have c2 := iff_eq i2 (i1.trans ((sm_turn x3 x4 x1 x2 x5 x6 x7 x8).trans (sm_flip x1 x2 x3 x4 x5 x6 x7 x8)).symm)
  subst c2
  have t3 := t2.trans k3
  refine ⟨v2, rfl, v1, rfl, v3, rfl, v4, rfl, p4, _, by rw [h4a], .inr (SqT.of (t3 _ _ h4)), fun l4 nl4 => ?_⟩
  have k4 := Same.new (o := .lst [.int x7, .int x8]) nl4
  have t4 := t3.trans k4
  have PL4 : Pt (upd J2 l4 (.lst [.int x7, .int x8])) (.ref l4) x7 x8 := ⟨l4, rfl, .inl upd_same⟩
  have P4 := P0.same t4
  have PB : Pts (upd J2 l4 (.lst [.int x7, .int x8])) (.ref l4) v3 v1 v2 x7 x8 x5 x6 x1 x2 x3 x4 := ⟨PL4, P4.p3, P4.p1, P4.p2⟩
  refine ⟨rfl, rfl, fun _ => True, .ref l4, v3, v1, v2, rfl, (PB.p1).gd.1, (PB.p2).gd.1, (PB.p3).gd.1, (PB.p4).gd.1, no_do PB, fun _ => ⟨_, _, _, _, _, _, _, _, PB, e8.s3.s4, fun J3 r3 k5 i3 => ?_⟩⟩
  have c3 := iff_eq i3 (i1.trans ((sm_flip x5 x6 x7 x8 x1 x2 x3 x4).trans (sm_turn x1 x2 x3 x4 x5 x6 x7 x8)).symm)
  subst c3
  have t5 := t4.trans k5
  refine ⟨(by show 3 ≤ sizeLine; decide), fun p np => ?_⟩
  have k6 := Same.new (o := .lst [.bl r3, .bl r3, .bl r3]) np
  have ep : (upd J3 p (.lst [.bl r3, .bl r3, .bl r3])) p = some (.lst [.bl r3, .bl r3, .bl r3]) := upd_same
  have t6 := t5.trans k6
  refine ⟨ML3 a D C Tt ms B, ?_, ?_⟩
  · have PC := P0.same t6
    refine ⟨.ref p, rfl, p, _, rfl, three ep, sh3 _, nd3 _, dp3 _, sz3 _, .bl r3, rfl, (by show 1 ≤ sizeLine; decide), fun o1 n1 => ⟨o1, 3, [.bl r3], rfl, rfl, upd_same, by decide, by decide, (by show 1 * 3 ≤ sizeLine; decide), fun o2 n2 => ⟨o2, _, rfl, three (a := r3) upd_same, sh3 _, nd3 _, dp3 _, sz3 _, ?_⟩⟩⟩
    have t8 := t6.trans ((Same.new (o := .lst [.bl r3]) n1).trans (Same.new (o := .lst (List.replicate (3 : Int).toNat [V.bl r3]).flatten) n2))
    refine ⟨rfl, _, rfl, iteNS rfl ?_⟩
    have PE0 := P0.same t8
    have PE : Pts _ v1 v1 v1 v4 x1 x2 x1 x2 x1 x2 x7 x8 := ⟨PE0.p1, PE0.p1, PE0.p1, PE0.p4⟩
    have S8 := e8.s1
    refine ⟨v1, rfl, v1, rfl, v1, rfl, v4, rfl, fun _ => True, v1, v1, v1, v4, rfl, PE.p1.gd.1, PE.p1.gd.1, PE.p1.gd.1, PE.p4.gd.1, no_do PE, fun _ => ⟨_, _, _, _, _, _, _, _, PE, ⟨⟨S8.a, S8.b, S8.a, S8.b, S8.a, S8.b⟩, e8.g, e8.h⟩, fun J4 r4 k9 i4 => ?_⟩⟩
    have c4 : r4 = true := i4.mpr (sm_self x1 x2 x7 x8)
    subst c4
    refine ⟨true, true, rfl, rfl, _, rfl, ite_f rfl ?_⟩
    have t9 := t8.trans k9
    exact ⟨t, l, v1, v2, v3, v4, x1, x2, x3, x4, x5, x6, x7, x8, _, _, _, _, _, _, _, _, _, _, _, rfl, dn.same t9, tb, t9 _ _ hT, q4.on (.same t9), e8⟩
  clear tb dn hT q4 e8 hr ep
  rintro σ J ⟨t, l, v1, v2, v3, v4, x1, x2, x3, x4, x5, x6, x7, x8, y2, y3, y8, y9, y10, y11, y12, y13, y14, y15, y16, rfl, dn, tb, hT, q4, e8⟩
  -- if one != other
  have P0 := q4.pts
  obtain ⟨p1, h1a, h1b, h1⟩ := id q4.p1
  obtain ⟨p2, h2a, h2b, h2⟩ := id q4.p2
  obtain ⟨p3, h3a, h3b, h3⟩ := id q4.p3
  have S8 := e8.s1
  have dp : ∀ {v : V} {z1 z2 : Int}, Tk D J v z1 z2 → Dp K J v (.tuple [.int z1, .int z2]) := by
    rintro v z1 z2 ⟨q, rfl, _, h⟩
    exact Dp.tup (SqT.of h) (dp_ints [z1, z2])
  refine ⟨v1, rfl, v2, rfl, _, _, dp q4.p1, dp q4.p2, shaped_tup _ _, shaped_tup _ _, _, rfl, ?_⟩
  rw [eqv_tup]
  by_cases ne : x1 = x3 ∧ x2 = x4
  · refine ite_f (by rw [decide_eq_true ne]; rfl) ?_
    exact fin _ _ ⟨t, l, _, _, _, _, _, _, _, _, _, _, _, _, _, _, _, rfl, dn, tb, hT⟩
  · refine ite_t (by rw [decide_eq_false ne]; rfl) ?_
    refine ⟨v1, rfl, v2, rfl, v1, v2, x1, x2, x3, x4, rfl, P0.p1, P0.p2, fun o1 n1 => ?_⟩
    have k1 := Same.new (o := .tup [.int (x3 - x1), .int (x4 - x2)]) n1
    refine ⟨v1, rfl, v3, rfl, v1, v3, x1, x2, x5, x6, rfl, P0.p1.same k1, P0.p3.same k1, fun o2 n2 => ?_⟩
    have k2 := Same.new (o := .tup [.int (x5 - x1), .int (x6 - x2)]) n2
    have f1 := k2 _ _ (show (upd J o1 (.tup [.int (x3 - x1), .int (x4 - x2)])) o1 = some (.tup [.int (x3 - x1), .int (x4 - x2)]) from upd_same)
    have f2 : (upd (upd J o1 (.tup [.int (x3 - x1), .int (x4 - x2)])) o2 (.tup [.int (x5 - x1), .int (x6 - x2)])) o2 = some (.tup [.int (x5 - x1), .int (x6 - x2)]) := upd_same
    have t2 := k1.trans k2
    have W := fun {x y : Int} (hx : Sml x) (hy : Sml y) => (sml_sub hx hy : W1 (x - y))
    refine ⟨.ref o1, .ref o2, _, _, _, _, rfl, ⟨o1, rfl, .inr f1⟩, ⟨o2, rfl, .inr f2⟩, W S8.c S8.a, W S8.d S8.b, W S8.e S8.a, W S8.f S8.b, ?_⟩
    generalize upd (upd J o1 (.tup [.int (x3 - x1), .int (x4 - x2)])) o2 (.tup [.int (x5 - x1), .int (x6 - x2)]) = G at t2 f1 f2
    have ek : cw (x3 - x1) (x4 - x2) (x5 - x1) (x6 - x2) = cr x1 x2 x3 x4 x5 x6 := rfl
    rw [ek]
    generalize hk : cr x1 x2 x3 x4 x5 x6 = k
    refine ⟨.int k, rfl, k, 0, rfl, rfl, .inr ⟨_, rfl, .int k, rfl, k, 0, rfl, rfl, .inr ⟨_, rfl, _, _, rfl, rfl, ?_⟩⟩⟩
    show gName 8 (.int ((if decide (0 < k) = true then (1 : Int) else 0) - (if decide (k < 0) = true then (1 : Int) else 0))) _ G _
    rw [sg_diff k]
    have sc := sg_cases k
    have P1 := P0.same t2
    have ne' : ¬ (x3 = x1 ∧ x4 = x2) := fun z => ne ⟨z.1.symm, z.2.symm⟩
    refine ⟨v1, rfl, v2, rfl, v3, rfl, fun _ => True, v1, v2, v3, rfl, P1.p1.gd.1, P1.p2.gd.1, P1.p3.gd.1, no_side P1.p1 P1.p2 P1.p3, fun _ => ⟨_, _, _, _, _, _, P1.p1, P1.p2, P1.p3, S8, fun z => absurd z ne, fun _ G1 k3 => ?_⟩⟩
    have t3 := t2.trans k3
    refine ⟨v3, rfl, p3, _, by rw [h3a], .inr (SqT.of (t3 _ _ h3)), fun l3 nl3 => ?_⟩
    have k4 := Same.new (o := .lst [.int x5, .int x6]) nl3
    have PL3 : Pt (upd G1 l3 (.lst [.int x5, .int x6])) (.ref l3) x5 x6 := ⟨l3, rfl, .inl upd_same⟩
    have t4 := t3.trans k4
    have P2 := P0.same t4
    refine ⟨v2, rfl, v1, rfl, rfl, rfl, fun _ => True, v1, v2, .ref l3, rfl, P2.p1.gd.1, P2.p2.gd.1, PL3.gd.1, no_side P2.p1 P2.p2 PL3, fun _ => ⟨_, _, _, _, _, _, P2.p1, P2.p2, PL3, S8, fun z => absurd z ne, fun _ G2 k5 => ?_⟩⟩
    have t5 := t4.trans k5
    have P3 := P0.same t5
    refine ⟨v2, rfl, v1, rfl, v3, rfl, fun _ => True, v2, v1, v3, rfl, P3.p2.gd.1, P3.p1.gd.1, P3.p3.gd.1, no_side P3.p2 P3.p1 P3.p3, fun _ => ⟨_, _, _, _, _, _, P3.p2, P3.p1, P3.p3, ⟨S8.c, S8.d, S8.a, S8.b, S8.e, S8.f⟩, fun z => absurd z ne', fun _ G3 k6 => ?_⟩⟩
    have t6 := t5.trans k6
    have P4 := P0.same t6
    refine ⟨v1, rfl, v2, rfl, v2, rfl, fun _ => True, v1, v2, v2, rfl, P4.p1.gd.1, P4.p2.gd.1, P4.p2.gd.1, no_side P4.p1 P4.p2 P4.p2, fun _ => ⟨_, _, _, _, _, _, P4.p1, P4.p2, P4.p2, ⟨S8.a, S8.b, S8.c, S8.d, S8.c, S8.d⟩, fun z => absurd z ne, fun _ G4 k7 => ?_⟩⟩
    have t7 := t6.trans k7
    have z1 : sg (cr x1 x2 x3 x4 x5 x6) = sg k := by rw [hk]
    have z2 : sg (cr x3 x4 x1 x2 x5 x6) = -sg k := by rw [cr_swap, hk, sg_neg]
    have z3 : sg (cr x1 x2 x3 x4 x3 x4) = 0 := by rw [cr_self]; rfl
    rw [z1, z2, z3]
    obtain ⟨w1, w2, w3, w4⟩ := four_ok sc
    refine ⟨(by show 4 ≤ sizeLine; decide), fun q nq => ⟨q, four (sg k), rfl, four_dp upd_same, w1, w2, w3, w4, ?_⟩⟩
    have k8 := Same.new (o := .lst [.int (sg k), .int (sg k), .int (-sg k), .int 0]) nq
    refine ⟨.int (sg k), rfl, .int (sg k), rfl, .int (sg k), rfl, sg k, rfl, (by show 4 ≤ sizeLine; decide), fun q2 nq2 => ⟨q2, four (sg k), rfl, four_dp upd_same, w1, w2, w3, w4, rfl, _, rfl, iteNS rfl ?_⟩⟩
    have k9 := Same.new (o := .lst [.int (sg k), .int (sg k), .int (-sg k), .int 0]) nq2
    have t9 := (t7.trans k8).trans k9
    exact fin _ _ ⟨t, l, _, _, _, _, _, _, _, _, _, _, _, _, _, _, _, rfl, dn.same t9, tb, t9 _ _ hT⟩
end
end Bay
set_option Elab.async false
set_option linter.all false
set_option maxRecDepth 100000
set_option maxHeartbeats 16000000
namespace Bay
open PySem PySem.Spec PyProof.Rows L2 Err Seg LamD
open LamX (CodeO TabS Tabs ExtN TabB)
theorem Gd.extN {N : Addr → Prop} {H H' : Hp} {v : V} (g : Gd N H v) (x : ExtN H H') : Gd N H' v := by
  induction g with
  | non => exact .non
  | bl b => exact .bl b
  | int i => exact .int i
  | str s => exact .str s
  | lst n e _ ih => exact .lst n (x _ _ e (fun _ z => by cases z)) ih
  | tup n e _ ih => exact .tup n (x _ _ e (fun _ z => by cases z)) ih
  | dct n e => exact .dct n (x _ _ e (fun _ z => by cases z))
theorem isP_extN {N : Addr → Prop} {H G : Hp} {v : V} (g : Gd N H v) (x : ExtN H G) : isP G v = isP H v := by
  cases g with
  | lst n e _ => simp only [isP, e, x _ _ e (fun _ z => by cases z)]
  | tup n e _ => simp only [isP, e, x _ _ e (fun _ z => by cases z)]
  | dct n e => simp only [isP, e, x _ _ e (fun _ z => by cases z)]
  | _ => rfl
/-- the values of the last part, and what is no point -/
structure ST (T : List (Addr × Str)) (Lb Lc : Addr) (b0 b1 b2 b3 c0 c1 c2 c3 : V) (J : Hp) : Prop where
  tab : Tabs T J
  eb : J Lb = some (.lst [b0, b1, b2, b3])
  ec : J Lc = some (.lst [c0, c1, c2, c3])
  gb : ∀ v ∈ [b0, b1, b2, b3], Gd (fun _ => True) J v ∧ isP J v = false
  gc : ∀ v ∈ [c0, c1, c2, c3], Gd (fun _ => True) J v
theorem ST.ext {T : List (Addr × Str)} {Lb Lc : Addr} {b0 b1 b2 b3 c0 c1 c2 c3 : V} {J J' : Hp} (s : ST T Lb Lc b0 b1 b2 b3 c0 c1 c2 c3 J) (x : ExtN J J') (t : Tabs T J') : ST T Lb Lc b0 b1 b2 b3 c0 c1 c2 c3 J' :=
  ⟨t, x _ _ s.eb (fun _ z => by cases z), x _ _ s.ec (fun _ z => by cases z), fun v hv => ⟨(s.gb v hv).1.extN x, by rw [isP_extN (s.gb v hv).1 x]; exact (s.gb v hv).2⟩, fun v hv => (s.gc v hv).extN x⟩
theorem ST.same {T : List (Addr × Str)} {Lb Lc : Addr} {b0 b1 b2 b3 c0 c1 c2 c3 : V} {J J' : Hp} (s : ST T Lb Lc b0 b1 b2 b3 c0 c1 c2 c3 J) (x : Same J J') : ST T Lb Lc b0 b1 b2 b3 c0 c1 c2 c3 J' := s.ext (.of x) (s.tab.ext x)
theorem isP_imp {N : Addr → Prop} {H G : Hp} {v : V} (g : Gd N H v) (k : ∀ b o, H b = some o → N b → G b = some o) : isP G v = isP H v := by
  cases g with
  | lst n e _ => simp only [isP, e, k _ _ e n]
  | tup n e _ => simp only [isP, e, k _ _ e n]
  | dct n e => simp only [isP, e, k _ _ e n]
  | _ => rfl
def MB (a D C T : Addr) (ms : List Int) : L2.St → Hp → Prop := fun σ J => ∃ (t l : Int) (Lb : Addr) (b0 b1 b2 b3 : V) (y2 y3 y4 y5 y6 y7 y8 y9 y10 y11 y13 y14 y15 y16 : Option V), σ = [some (.ref a), some (.ref D), y2, y3, y4, y5, y6, y7, y8, y9, y10, y11, some (.ref Lb), y13, y14, y15, y16] ∧ Dn J D C ms t l ∧ t ≤ 124 ∧ J T = some (.tbl #[]) ∧
  Lb ≠ D ∧ J Lb = some (.lst [b0, b1, b2, b3]) ∧ ∀ v ∈ [b0, b1, b2, b3], Gd (fun b => b ≠ D) J v ∧ isP J v = false
theorem sml1 : Sml 1 := by
  show (1 : Int).natAbs < 2 ^ 110
  decide +kernel
theorem sml0 : Sml 0 := by
  show (0 : Int).natAbs < 2 ^ 110
  decide +kernel
def told8 : PyData := .list [.tuple [.str "point", .str "one"], .tuple [.str "point", .str "other"], .tuple [.str "point", .str "point"], .tuple [.str "misfit", .str "other"], .tuple [.str "point", .str "one"], .tuple [.str "point", .str "other"], .tuple [.str "point", .str "third"], .tuple [.str "point", .str "fourth"]]
theorem told8_shaped : SeqAt.shaped told8 = true := by decide +kernel
theorem told8_eq : PyData.eqv told8 told8 = true := by decide +kernel
section
variable {P : Program} {w : World} {K : PySem.W.Frag} {mg : Str → Option Value} {base : Heap} {F CB CM : Addr} {f : Nat → Addr} {d : Nat → FuncData}
theorem law_body (L : Defs K mg f d) (F24 : Fun K "_law_part" "_law_part" sPart (f 24) (d 24)) (gP : mg "_law_part" = some (.ref (f 24))) (b24 : Binds K (d 24) ["ask"] []) (TC : Cl2 P K mg F CB CM) (T : BltL mg) {t : Shared} {cdv : Value} {H : Hp} {a fa c Tt : Addr} {ns : List Int}
    (TB : TabB base mg c Tt) (hcode : cdv = .ref c) (hT : H Tt = some (.tbl #[])) (len : ns.length ≤ 63) (hS : SqL K H a (ns.map V.int)) (hr : Room 6 (callerA.deeper (envOfC "law" (defScope sLaw) t.heap.objs.size fa cdv))) :
    ∃ r, PSs (cL P w K mg base fa cdv t H) (defBody sLaw) r ∧ r { nx := fun _ _ => False, rt := fun v _ => v = .bl true } (start nLaw [.ref a]) H := by
  have BM : BltM mg := ⟨T.mx, T.mn⟩
  have GB : FnOk P w K mg base CX0 1 (f 17) (d 17) ["script"] (spDune K) := ok_dune L.F17 T.toBlt
  have GP : FnOk P w K mg base CX0 2 (f 19) (d 19) ["keg", "some"] spPick := ok_pick L.F19 L.F18 T.toBlt L.g18 L.b18
  have GWt : FnOk P w K mg base (L2.CX P w) 3 (f 8) (d 8) ["value", "part"] (spWant CB) := ok_want L.F8 L.F6 L.F5 T.toBlt3 L.g5 L.b5 L.g6 L.b6 TC
  have GBe : FnOk P w K mg base CX0 2 (f 13) (d 13) ["one", "other", "third", "fourth"] spBeside := ok_beside L.F13 L.F10 L.g10 L.b10
  have GMe : FnOk P w K mg base CX0 3 (f 14) (d 14) ["one", "other", "third", "fourth"] spMeet := ok_meet L.F14 L.F12 L.F13 BM GBe L.g12 L.b12 L.g13 L.b13
  have GD : FnOk P w K mg base (L2.CX P w) 4 (f 15) (d 15) ["one", "other", "third", "fourth"] (spDo CB) := ok_do L.F15 L.F8 L.F14 GWt GMe L.g8 L.b8 L.g14 L.b14
  have GS : FnOk P w K mg base (L2.CX P w) 4 (f 11) (d 11) ["one", "other", "point"] (spSide CB CM) := ok_side L.F11 L.F8 L.F10 T.toBlt3 TC GWt L.g8 L.b8 L.g10 L.b10
  have hr1 : Room 1 _ := hr.mono (by decide)
  have hr2 : Room 2 _ := hr.mono (by decide)
  have nd := scLaw.nd
  have un := hr.units
  have kP := F24.kp
  obtain ⟨ocP, odP, kVP, docP, pmP, anP, cdvP, ctP, oslP, eqP, lkP, cdP⟩ := F24.ex
  have bP := b24
  rw [eqP] at bP lkP
  obtain ⟨tb, htb, hturn⟩ := turn (P := P) (w := w) (base := base) (t := t) (cdv := cdv) (H := H) (fa := fa) L TC T hr
  have hu : ∀ p ∈ [(Tt, ("law.<locals>.<lambda>" : Str))], p.1 = Tt → p.2 = "law.<locals>.<lambda>" := fun p hp _ => by rw [List.mem_singleton.mp hp]
  refine' ⟨_, pss_cons (ps_set (i := 1) nd rfl (Or.inr rfl) (pe_call GB hr1 (by rfl) L.g17 L.F17.kp L.b17 .nil pass0 (pa_cons (pv 0) pa_nil)))
    (pss_cons (ps_for PassesOwn.never rfl (pi_range1 (by rfl) T.range (pa_cons pe_int pa_nil)) (pg_name (i := 2) nd rfl (Or.inl rfl)) htb) ?r1), ?rd⟩
  case r1 =>
    refine' C8.pss_cut (ps_set (i := 12) nd rfl (Or.inr rfl) (pe_lc (own := [("spot", 15)]) (g := gName 15) (tt := tYes) rfl nd (pi_range1 (by rfl) T.range (pa_cons pe_int pa_nil)) (blkOk_by (N := nLaw) (sc := defScope sLaw) (by decide +kernel)) (fun _ _ _ _ _ => pg_name (i := 15) nd rfl (Or.inl rfl)) (fun _ _ _ _ _ => pts_nil)
        (fun _ _ _ _ _ => pe_call (sp := spPick) (dvs := []) (E := E0) GP hr2 (by rfl) L.g19 L.F19.kp L.b19 .nil pass0 (pa_cons (pv 1) (pa_cons (pe_lst (pa_cons pe_non (pa_cons pe_int (pa_cons (pe_tup (pa_cons pe_int pa_nil)) (pa_cons (pe_tup (pa_cons pe_int (pa_cons pe_bl pa_nil))) (pa_cons pe_str (pa_cons (pe_lst (pa_cons pe_int (pa_cons pe_int (pa_cons pe_int pa_nil)))) (pa_cons pe_dnewK pa_nil)))))))) pa_nil))))) ?r2
    case r2 =>
      refine' C8.pss_cut (ps_set (i := 13) nd rfl (Or.inr rfl) (pe_lc (own := [("each", 16)]) (g := gName 16) (tt := tYes) rfl nd (pi_list (pv 12)) (blkOk_by (N := nLaw) (sc := defScope sLaw) (by decide +kernel)) (fun _ _ _ _ _ => pg_name (i := 16) nd rfl (Or.inl rfl)) (fun _ _ _ _ _ => pts_nil)
        (fun _ _ _ _ _ => pe_call (sp := spPick) (dvs := []) (E := E0) GP hr2 (by rfl) L.g19 L.F19.kp L.b19 .nil pass0 (pa_cons (pv 1) (pa_cons (pe_lst (pa_cons (pe_tup (pa_cons pe_int (pa_cons pe_int pa_nil))) (pa_cons (pv 16) pa_nil))) pa_nil))))) ?r3
      case r3 =>
        refine' pss_cons (ps_set (i := 11) nd rfl (Or.inl rfl) (pe_lst (pa_cons ?l1 (pa_cons ?l2 (pa_cons ?l3 pa_nil))))) ?r4
        case l1 => exact (pe_lam3 (T := [(Tt, "law.<locals>.<lambda>")]) (TT := TPart CB CM) (a := "ask") (pa := "a1") (dz := none) (k := 4) (t := fun E => tCallS (spSide CB CM) (fun σ => WE (fun cls d _ H => E cls d H) σ) (tCons (tOp (rIxL K) (tVar 12) (tC (.int 0))) (tCons (tOp (rIxL K) (tVar 13) (tC (.int 1))) (tCons (tOp (rIxL K) (tVar 13) (tC (.int 2))) tNil)))) (by rfl) gP kP lkP cdP bP scPart rfl (Or.inl rfl) (part_gives TC T.isi) TB hcode (List.mem_singleton.mpr rfl) hu hr (lamT_by (N := nLaw) (sc := defScope sLaw) (by decide +kernel)) ⟨rfl, rfl⟩ (fun _ _ _ _ _ _ => rfl) (fun A outer s H E f c' hrl => pe_callS GS hrl (by rfl) L.g11 L.F11.kp L.b11 (fun σ => passAt (takes_of rfl rfl rfl rfl) σ) (pa_cons (pe_ix ix_list (pv 12) pe_int (fun _ _ => rfl)) (pa_cons (pe_ix ix_list (pv 13) pe_int (fun _ _ => rfl)) (pa_cons (pe_ix ix_list (pv 13) pe_int (fun _ _ => rfl)) pa_nil)))))
        case l2 => exact (pe_lam3 (T := [(Tt, "law.<locals>.<lambda>")]) (TT := TPart CB CM) (a := "ask") (pa := "a1") (dz := (some 0)) (k := 4) (t := fun E => tCallS (spSide CB CM) (fun σ => WE (fun cls d _ H => E cls d H) σ) (tCons (tTup (tCons (tC (.int 1)) (tCons (tC (.int 1)) tNil))) (tCons (tOp (rIxL K) (tVar 12) (tC (.int 1))) (tCons (tOp (rIxL K) (tVar 13) (tC (.int 2))) tNil)))) (by rfl) gP kP lkP cdP bP scPart rfl (Or.inl rfl) (part_gives TC T.isi) TB hcode (List.mem_singleton.mpr rfl) hu hr (lamT_by (N := nLaw) (sc := defScope sLaw) (by decide +kernel)) ⟨⟨_, _, rfl⟩, rfl⟩ (fun _ _ _ _ _ _ _ _ => ⟨_, rfl, rfl⟩) (fun A outer s H E f c' hrl => pe_callS GS hrl (by rfl) L.g11 L.F11.kp L.b11 (fun σ => passAt (takes_of rfl rfl rfl rfl) σ) (pa_cons (pe_tup (pa_cons pe_int (pa_cons pe_int pa_nil))) (pa_cons (pe_ix ix_list (pv 12) pe_int (fun _ _ => rfl)) (pa_cons (pe_ix ix_list (pv 13) pe_int (fun _ _ => rfl)) pa_nil)))))
        case l3 => exact (pe_lam3 (T := [(Tt, "law.<locals>.<lambda>")]) (TT := TPart CB CM) (a := "ask") (pa := "a2") (dz := (some 0)) (k := 4) (t := fun E => tCallS (spSide CB CM) (fun σ => WE (fun cls d _ H => E cls d H) σ) (tCons (tTup (tCons (tC (.int 1)) (tCons (tC (.int 1)) tNil))) (tCons (tLst (tCons (tC (.int 1)) (tCons (tC (.int 1)) tNil))) (tCons (tOp (rIxL K) (tVar 12) (tC (.int 2))) tNil)))) (by rfl) gP kP lkP cdP bP scPart rfl (Or.inl rfl) (part_gives TC T.isi) TB hcode (List.mem_singleton.mpr rfl) hu hr (lamT_by (N := nLaw) (sc := defScope sLaw) (by decide +kernel)) ⟨⟨_, _, rfl⟩, rfl⟩ (fun _ _ _ _ _ _ _ _ => ⟨_, rfl, rfl⟩) (fun A outer s H E f c' hrl => pe_callS GS hrl (by rfl) L.g11 L.F11.kp L.b11 (fun σ => passAt (takes_of rfl rfl rfl rfl) σ) (pa_cons (pe_tup (pa_cons pe_int (pa_cons pe_int pa_nil))) (pa_cons (pe_lst (pa_cons pe_int (pa_cons pe_int pa_nil))) (pa_cons (pe_ix ix_list (pv 12) pe_int (fun _ _ => rfl)) pa_nil)))))
        case r4 =>
          refine' pss_cons (ps_set (i := 11) nd rfl (Or.inl rfl) (pe_op op_cat (pv 11) (pe_lst (pa_cons ?l4 (pa_cons ?l5 pa_nil))))) ?r5
          case l4 => exact (pe_lam3 (T := [(Tt, "law.<locals>.<lambda>")]) (TT := TPart CB CM) (a := "ask") (pa := "a1") (dz := none) (k := 4) (t := fun E => tCallS (spSide CB CM) (fun σ => WE (fun cls d _ H => E cls d H) σ) (tCons (tLst (tCons (tC (.int 1)) (tCons (tC (.int 1)) tNil))) (tCons (tTup (tCons (tC (.int 1)) (tCons (tC (.int 1)) tNil))) (tCons (tTup (tCons (tC (.int 0)) (tCons (tC (.int 0)) tNil))) tNil)))) (by rfl) gP kP lkP cdP bP scPart rfl (Or.inl rfl) (part_gives TC T.isi) TB hcode (List.mem_singleton.mpr rfl) hu hr (lamT_by (N := nLaw) (sc := defScope sLaw) (by decide +kernel)) ⟨rfl, rfl⟩ (fun _ _ _ _ _ _ => rfl) (fun A outer s H E f c' hrl => pe_callS GS hrl (by rfl) L.g11 L.F11.kp L.b11 (fun σ => passAt (takes_of rfl rfl rfl rfl) σ) (pa_cons (pe_lst (pa_cons pe_int (pa_cons pe_int pa_nil))) (pa_cons (pe_tup (pa_cons pe_int (pa_cons pe_int pa_nil))) (pa_cons (pe_tup (pa_cons pe_int (pa_cons pe_int pa_nil))) pa_nil)))))
          case l5 => exact (pe_lam3 (T := [(Tt, "law.<locals>.<lambda>")]) (TT := TPart CB CM) (a := "ask") (pa := "a1") (dz := (some 0)) (k := 4) (t := fun E => tCallS (spDo CB) (fun σ => WE (fun cls d _ H => E cls d H) σ) (tCons (tOp (rIxL K) (tVar 12) (tC (.int 0))) (tCons (tOp (rIxL K) (tVar 13) (tC (.int 1))) (tCons (tOp (rIxL K) (tVar 13) (tC (.int 2))) (tCons (tOp (rIxL K) (tVar 13) (tC (.int 3))) tNil))))) (by rfl) gP kP lkP cdP bP scPart rfl (Or.inl rfl) (part_gives TC T.isi) TB hcode (List.mem_singleton.mpr rfl) hu hr (lamT_by (N := nLaw) (sc := defScope sLaw) (by decide +kernel)) ⟨⟨_, _, rfl⟩, rfl⟩ (fun _ _ _ _ _ _ _ _ => ⟨_, rfl, rfl⟩) (fun A outer s H E f c' hrl => pe_callS GD hrl (by rfl) L.g15 L.F15.kp L.b15 (fun σ => passAt (takes_of rfl rfl rfl rfl) σ) (pa_cons (pe_ix ix_list (pv 12) pe_int (fun _ _ => rfl)) (pa_cons (pe_ix ix_list (pv 13) pe_int (fun _ _ => rfl)) (pa_cons (pe_ix ix_list (pv 13) pe_int (fun _ _ => rfl)) (pa_cons (pe_ix ix_list (pv 13) pe_int (fun _ _ => rfl)) pa_nil))))))
          case r5 =>
            refine' pss_cons (ps_set (i := 11) nd rfl (Or.inl rfl) (pe_op op_cat (pv 11) (pe_lst (pa_cons ?l6 (pa_cons ?l7 pa_nil))))) ?r6
            case l6 => exact (pe_lam3 (T := [(Tt, "law.<locals>.<lambda>")]) (TT := TPart CB CM) (a := "ask") (pa := "a1") (dz := none) (k := 4) (t := fun E => tCallS (spDo CB) (fun σ => WE (fun cls d _ H => E cls d H) σ) (tCons (tTup (tCons (tC (.int 0)) (tCons (tC (.int 1)) tNil))) (tCons (tOp (rIxL K) (tVar 12) (tC (.int 1))) (tCons (tOp (rIxL K) (tVar 13) (tC (.int 2))) (tCons (tOp (rIxL K) (tVar 13) (tC (.int 3))) tNil))))) (by rfl) gP kP lkP cdP bP scPart rfl (Or.inl rfl) (part_gives TC T.isi) TB hcode (List.mem_singleton.mpr rfl) hu hr (lamT_by (N := nLaw) (sc := defScope sLaw) (by decide +kernel)) ⟨rfl, rfl⟩ (fun _ _ _ _ _ _ => rfl) (fun A outer s H E f c' hrl => pe_callS GD hrl (by rfl) L.g15 L.F15.kp L.b15 (fun σ => passAt (takes_of rfl rfl rfl rfl) σ) (pa_cons (pe_tup (pa_cons pe_int (pa_cons pe_int pa_nil))) (pa_cons (pe_ix ix_list (pv 12) pe_int (fun _ _ => rfl)) (pa_cons (pe_ix ix_list (pv 13) pe_int (fun _ _ => rfl)) (pa_cons (pe_ix ix_list (pv 13) pe_int (fun _ _ => rfl)) pa_nil))))))
            case l7 => exact (pe_lam3 (T := [(Tt, "law.<locals>.<lambda>")]) (TT := TPart CB CM) (a := "ask") (pa := "a1") (dz := (some 0)) (k := 4) (t := fun E => tCallS (spDo CB) (fun σ => WE (fun cls d _ H => E cls d H) σ) (tCons (tTup (tCons (tC (.int 0)) (tCons (tC (.int 1)) tNil))) (tCons (tTup (tCons (tC (.int 0)) (tCons (tC (.int 0)) tNil))) (tCons (tOp (rIxL K) (tVar 12) (tC (.int 2))) (tCons (tOp (rIxL K) (tVar 13) (tC (.int 3))) tNil))))) (by rfl) gP kP lkP cdP bP scPart rfl (Or.inl rfl) (part_gives TC T.isi) TB hcode (List.mem_singleton.mpr rfl) hu hr (lamT_by (N := nLaw) (sc := defScope sLaw) (by decide +kernel)) ⟨⟨_, _, rfl⟩, rfl⟩ (fun _ _ _ _ _ _ _ _ => ⟨_, rfl, rfl⟩) (fun A outer s H E f c' hrl => pe_callS GD hrl (by rfl) L.g15 L.F15.kp L.b15 (fun σ => passAt (takes_of rfl rfl rfl rfl) σ) (pa_cons (pe_tup (pa_cons pe_int (pa_cons pe_int pa_nil))) (pa_cons (pe_tup (pa_cons pe_int (pa_cons pe_int pa_nil))) (pa_cons (pe_ix ix_list (pv 12) pe_int (fun _ _ => rfl)) (pa_cons (pe_ix ix_list (pv 13) pe_int (fun _ _ => rfl)) pa_nil))))))
            case r6 =>
              refine' pss_cons (ps_expr (pe_bm PySem.F.plainAttrs_list PySem.F.slot_list_append PySem.F.type_list_append mt_append (pv 11) (pa_cons ?l8 pa_nil))) ?r7
              case l8 => exact (pe_lam3 (T := [(Tt, "law.<locals>.<lambda>")]) (TT := TPart CB CM) (a := "ask") (pa := "a1") (dz := none) (k := 4) (t := fun E => tCallS (spDo CB) (fun σ => WE (fun cls d _ H => E cls d H) σ) (tCons (tTup (tCons (tC (.int 0)) (tCons (tC (.int 1)) tNil))) (tCons (tTup (tCons (tC (.int 0)) (tCons (tC (.int 0)) tNil))) (tCons (tTup (tCons (tC (.int 0)) (tCons (tC (.int 0)) tNil))) (tCons (tOp (rIxL K) (tVar 12) (tC (.int 3))) tNil))))) (by rfl) gP kP lkP cdP bP scPart rfl (Or.inl rfl) (part_gives TC T.isi) TB hcode (List.mem_singleton.mpr rfl) hu hr (lamT_by (N := nLaw) (sc := defScope sLaw) (by decide +kernel)) ⟨rfl, rfl⟩ (fun _ _ _ _ _ _ => rfl) (fun A outer s H E f c' hrl => pe_callS GD hrl (by rfl) L.g15 L.F15.kp L.b15 (fun σ => passAt (takes_of rfl rfl rfl rfl) σ) (pa_cons (pe_tup (pa_cons pe_int (pa_cons pe_int pa_nil))) (pa_cons (pe_tup (pa_cons pe_int (pa_cons pe_int pa_nil))) (pa_cons (pe_tup (pa_cons pe_int (pa_cons pe_int pa_nil))) (pa_cons (pe_ix ix_list (pv 12) pe_int (fun _ _ => rfl)) pa_nil))))))
              case r7 => exact pss_one (ps_ret (pe_cmpR (op_eqD un) (pv 11) (pe_lst (pa_cons (pe_tup (pa_cons pe_str (pa_cons pe_str pa_nil))) (pa_cons (pe_tup (pa_cons pe_str (pa_cons pe_str pa_nil))) (pa_cons (pe_tup (pa_cons pe_str (pa_cons pe_str pa_nil))) (pa_cons (pe_tup (pa_cons pe_str (pa_cons pe_str pa_nil))) (pa_cons (pe_tup (pa_cons pe_str (pa_cons pe_str pa_nil))) (pa_cons (pe_tup (pa_cons pe_str (pa_cons pe_str pa_nil))) (pa_cons (pe_tup (pa_cons pe_str (pa_cons pe_str pa_nil))) (pa_cons (pe_tup (pa_cons pe_str (pa_cons pe_str pa_nil))) pa_nil))))))))) (nomark _)))
  case rd =>
    refine ⟨.ref a, rfl, a, ns, rfl, hS, len, fun H1 D C ms sm nD dn0 => ?_⟩
    have hT1 := sm _ _ hT
    refine ⟨8, rfl, by decide, by decide, for_range (lo := 0) (n := 8) (fun i σ J => IL a D C Tt ms (i * 15) σ J) ⟨0, 0, none, none, none, none, none, none, none, none, none, none, none, none, none, none, none, rfl, dn0, by omega, hT1⟩ ?_ ?_⟩
    · rintro i σ J hi ⟨t0, l0, y2, y3, y4, y5, y6, y7, y8, y9, y10, y11, y12, y13, y14, y15, y16, rfl, dn, tb0, hT'⟩
      refine hturn a D C Tt ms (i * 15) _ _ J (by omega) ⟨t0, l0, _, _, _, _, _, _, _, _, _, _, _, _, _, _, _, rfl, dn, tb0, hT'⟩ fun σ' J' il => ?_
      have e : ((i + 1 : Nat) : Int) * 15 = i * 15 + 15 := by omega
      show IL a D C Tt ms (((i + 1 : Nat) : Int) * 15) σ' J'
      rw [e]
      exact il
    · rintro σ J ⟨t1, l1, y2, y3, y4, y5, y6, y7, y8, y9, y10, y11, y12, y13, y14, y15, y16, rfl, dn, tb1, hT2⟩
      clear dn0 sm nD hT1 hS
      have TD : Tt ≠ D := fun z => by
        rw [z, dn.d] at hT2
        cases hT2
      -- bad
      refine ⟨MB a D C Tt ms, ?_, ?_⟩
      · refine ⟨4, rfl, by decide, by decide, fun N nN => ?_⟩
        have ND := dn.apart nN
        have CN := ne_of_none dn.c nN
        have TN := ne_of_none hT2 nN
        refine lc_range (lo := 0) (n := 4) (fun i G => ∃ (t2 l2 : Int) (xs : List V), Dn G D C ms t2 l2 ∧ t2 ≤ 120 + i ∧ G Tt = some (.tbl #[]) ∧ G N = some (.lst xs) ∧ xs.length = i ∧ ∀ x ∈ xs, Gd (fun b => b ≠ D ∧ b ≠ N) G x ∧ isP G x = false)
          ⟨t1, l1, [], dn.same (Same.new nN), by omega, Same.new nN _ _ hT2, upd_same, rfl, fun x hx => nomatch hx⟩ ?_ ?_
        · rintro i G hi ⟨t2, l2, xs, dn2, tb2, hT3, eN, hl, hg⟩
          refine ⟨rfl, .ref D, rfl, (by show 1 ≤ sizeLine; decide), fun p1 np1 => ?_⟩
          have s1 := Same.new (o := .tup [.int 1]) np1
          have e1 : (upd G p1 (.tup [.int 1])) p1 = some (.tup [.int 1]) := upd_same
          generalize upd G p1 (.tup [.int 1]) = G1 at s1 e1
          refine ⟨(by show 2 ≤ sizeLine; decide), fun p2 np2 => ?_⟩
          have s2 := Same.new (o := .tup [.int 1, .bl true]) np2
          have e2 : (upd G1 p2 (.tup [.int 1, .bl true])) p2 = some (.tup [.int 1, .bl true]) := upd_same
          generalize upd G1 p2 (.tup [.int 1, .bl true]) = G2 at s2 e2
          refine ⟨(by show 3 ≤ sizeLine; decide), fun p3 np3 => ?_⟩
          have s3 := Same.new (o := .lst [.int 1, .int 2, .int 3]) np3
          have e3 : (upd G2 p3 (.lst [.int 1, .int 2, .int 3])) p3 = some (.lst [.int 1, .int 2, .int 3]) := upd_same
          generalize upd G2 p3 (.lst [.int 1, .int 2, .int 3]) = G3 at s3 e3
          intro p4 np4
          have s4 := Same.new (o := .dK []) np4
          have e4 : (upd G3 p4 (.dK [])) p4 = some (.dK []) := upd_same
          generalize upd G3 p4 (.dK []) = G4 at s4 e4
          refine ⟨(by show 7 ≤ sizeLine; decide), fun p5 np5 => ?_⟩
          have s5 := Same.new (o := .lst [.non, .int 5, .ref p1, .ref p2, .str "12", .ref p3, .ref p4]) np5
          have a2 := s1.trans s2
          have a3 := a2.trans s3
          have a4 := a3.trans s4
          have a5 := a4.trans s5
          refine ⟨D, C, p5, ms, t2, l2, _, rfl, dn2.same a5, by omega, upd_same, (dn2.same a4).apart np5, (by show 0 < 7; decide), (by show 7 ≤ 1000; decide), fun J1 t3 l3 x dn3 tt3 kp3 hx => ?_⟩
          have kp := (Kp.same a5).trans kp3
          have eN2 := kp _ _ eN ND
          have sk : ∀ b o, J1 b = some o → b ≠ N → (upd J1 N (.lst (xs ++ [x]))) b = some o := fun b o e n => by
            rw [upd_ne n]
            exact e
          have q1 : p1 ≠ D ∧ p1 ≠ N := ⟨dn2.apart np1, fun z => by rw [z, eN] at np1; cases np1⟩
          have q2 : p2 ≠ D ∧ p2 ≠ N := ⟨(dn2.same s1).apart np2, fun z => by rw [z, s1 _ _ eN] at np2; cases np2⟩
          have q3 : p3 ≠ D ∧ p3 ≠ N := ⟨(dn2.same a2).apart np3, fun z => by rw [z, a2 _ _ eN] at np3; cases np3⟩
          have q4 : p4 ≠ D ∧ p4 ≠ N := ⟨(dn2.same a3).apart np4, fun z => by rw [z, a3 _ _ eN] at np4; cases np4⟩
          have k4 : Kp D G4 J1 := (Kp.same s5).trans kp3
          have k3 : Kp D G3 J1 := (Kp.same s4).trans k4
          have k2 : Kp D G2 J1 := (Kp.same s3).trans k3
          have k1 : Kp D G1 J1 := (Kp.same s2).trans k2
          have f1 := sk _ _ (k1 _ _ e1 q1.1) q1.2
          have f2 := sk _ _ (k2 _ _ e2 q2.1) q2.2
          have f3 := sk _ _ (k3 _ _ e3 q3.1) q3.2
          have f4 := sk _ _ (k4 _ _ e4 q4.1) q4.2
          refine ⟨xs, eN2, small1000 (by omega), t3, l3, xs ++ [x], ⟨sk _ _ dn3.d ND.symm, sk _ _ dn3.c CN, dn3.ne, dn3.n, dn3.t0, dn3.l0⟩, by omega, sk _ _ (kp _ _ hT3 TD) TN, upd_same, by rw [List.length_append, hl]; rfl, fun u hu => ?_⟩
          rcases List.mem_append.mp hu with hu | hu
          · obtain ⟨g1, g2⟩ := hg u hu
            have k : ∀ b o, G b = some o → (b ≠ D ∧ b ≠ N) → (upd J1 N (.lst (xs ++ [x]))) b = some o := fun b o e n => sk _ _ (kp _ _ e n.1) n.2
            exact ⟨g1.imp (fun _ n => n) k, by rw [isP_imp g1 k]; exact g2⟩
          · cases List.mem_singleton.mp hu
            have allI : ∀ {H : Hp} {N : Addr → Prop} (l : List Int), ∀ v ∈ l.map V.int, Gd N H v := fun l v hv => by
              obtain ⟨i, _, rfl⟩ := List.mem_map.mp hv
              exact .int i
            simp only [List.mem_cons, List.not_mem_nil, or_false] at hx
            rcases hx with e | e | e | e | e | e | e
            · subst e
              exact ⟨.non, rfl⟩
            · subst e
              exact ⟨.int _, rfl⟩
            · subst e
              exact ⟨.tup q1 f1 (allI [1]), by simp only [isP, f1]⟩
            · subst e
              refine ⟨.tup q2 f2 (fun v hv => ?_), by simp only [isP, f2]; rfl⟩
              simp only [List.mem_cons, List.not_mem_nil, or_false] at hv
              rcases hv with e | e
              · rw [e]
                exact .int _
              · rw [e]
                exact .bl _
            · subst e
              exact ⟨.str _, rfl⟩
            · subst e
              exact ⟨.lst q3 f3 (allI [1, 2, 3]), by simp only [isP, f3]⟩
            · subst e
              exact ⟨.dct q4 f4, isP_dct f4⟩
        · rintro G ⟨t2, l2, xs, dn2, tb2, hT3, eN, hl, hg⟩
          match xs, hl, hg, eN with
          | [b0, b1, b2, b3], hl, hg, eN =>
            exact ⟨t2, l2, N, b0, b1, b2, b3, _, _, _, _, _, _, _, _, _, _, _, _, _, _, rfl, dn2, tb2, hT3, ND, eN, fun v hv => ⟨(hg v hv).1.imp (fun _ n => n.1) fun _ _ e _ => e, (hg v hv).2⟩⟩
      clear tb1 dn hT2
      rintro σ J ⟨t1, l1, Lb, b0, b1, b2, b3, y2, y3, y4, y5, y6, y7, y8, y9, y10, y11, y13, y14, y15, y16, rfl, dn, tb1, hT2, bD, eb, hb⟩
      -- call
      refine ⟨fun σ J => ∃ (Lc : Addr) (c0 c1 c2 c3 : V) (y1 y2 y3 y4 y5 y6 y7 y8 y9 y10 y11 y14 y15 y16 : Option V), σ = [some (.ref a), y1, y2, y3, y4, y5, y6, y7, y8, y9, y10, y11, some (.ref Lb), some (.ref Lc), y14, y15, y16] ∧ ST [(Tt, ("law.<locals>.<lambda>" : Str))] Lb Lc b0 b1 b2 b3 c0 c1 c2 c3 J, ?_, ?_⟩
      · refine ⟨.ref Lb, rfl, Lb, rfl, ⟨_, SqL.of eb⟩, fun N nN => ?_⟩
        have ND := dn.apart nN
        have CN := ne_of_none dn.c nN
        have TN := ne_of_none hT2 nN
        have BN := ne_of_none eb nN
        refine lc_list (K := K) (a := Lb) (xs := [b0, b1, b2, b3]) (fun i G => ∃ (t2 l2 : Int) (xs : List V), Dn G D C ms t2 l2 ∧ t2 ≤ 124 + i ∧ G Tt = some (.tbl #[]) ∧ G Lb = some (.lst [b0, b1, b2, b3]) ∧ G N = some (.lst xs) ∧ xs.length = i ∧ (∀ x ∈ xs, Gd (fun b => b ≠ D ∧ b ≠ N) G x) ∧ ∀ v ∈ [b0, b1, b2, b3], Gd (fun b => b ≠ D ∧ b ≠ N) G v ∧ isP G v = false)
          ⟨t1, l1, [], dn.same (Same.new nN), by omega, Same.new nN _ _ hT2, Same.new nN _ _ eb, upd_same, rfl, (fun x hx => nomatch hx), fun v hv => ⟨(hb v hv).1.imp2 fun b o e n => ⟨⟨n, ne_of_none e nN⟩, Same.new nN _ _ e⟩, by rw [isP_same (hb v hv).1 (Same.new nN)]; exact (hb v hv).2⟩⟩ (fun i G _ z => by obtain ⟨_, _, _, _, _, _, e, _⟩ := z; exact SqL.of e) ?_ ?_
        · rintro i x G hx ⟨t2, l2, xs, dn2, tb2, hT3, eB, eN, hl, hg, hb2⟩
          have i4 : i < 4 := (List.getElem?_eq_some_iff.mp hx).1
          refine ⟨rfl, .ref D, rfl, (by show 2 ≤ sizeLine; decide), fun p np => ?_⟩
          have s1 := Same.new (o := .tup [.int 0, .int 0]) np
          have e1 : (upd G p (.tup [.int 0, .int 0])) p = some (.tup [.int 0, .int 0]) := upd_same
          refine ⟨x, rfl, (by show 2 ≤ sizeLine; decide), fun p2 np2 => ?_⟩
          have s2 := Same.new (o := .lst [.ref p, x]) np2
          have ss := s1.trans s2
          refine ⟨D, C, p2, ms, t2, l2, _, rfl, dn2.same ss, by omega, upd_same, (dn2.same s1).apart np2, (by show 0 < 2; decide), (by show 2 ≤ 1000; decide), fun J1 t3 l3 y dn3 tt3 kp3 hy => ?_⟩
          have kp := (Kp.same ss).trans kp3
          have eN2 := kp _ _ eN ND
          have sk : ∀ b o, J1 b = some o → b ≠ N → (upd J1 N (.lst (xs ++ [y]))) b = some o := fun b o e n => by
            rw [upd_ne n]
            exact e
          have q1 : p ≠ D ∧ p ≠ N := ⟨dn2.apart np, fun z => by rw [z, eN] at np; cases np⟩
          have f1 := sk _ _ (((Kp.same s2).trans kp3) _ _ e1 q1.1) q1.2
          have k : ∀ b o, G b = some o → (b ≠ D ∧ b ≠ N) → (upd J1 N (.lst (xs ++ [y]))) b = some o := fun b o e n => sk _ _ (kp _ _ e n.1) n.2
          refine ⟨xs, eN2, small1000 (by omega), t3, l3, xs ++ [y], ⟨sk _ _ dn3.d ND.symm, sk _ _ dn3.c CN, dn3.ne, dn3.n, dn3.t0, dn3.l0⟩, by omega, sk _ _ (kp _ _ hT3 TD) TN, sk _ _ (kp _ _ eB bD) BN, upd_same, by rw [List.length_append, hl]; rfl, fun u hu => ?_, fun v hv => ⟨(hb2 v hv).1.imp (fun _ n => n) k, by rw [isP_imp (hb2 v hv).1 k]; exact (hb2 v hv).2⟩⟩
          rcases List.mem_append.mp hu with hu | hu
          · exact (hg u hu).imp (fun _ n => n) k
          · cases List.mem_singleton.mp hu
            simp only [List.mem_cons, List.not_mem_nil, or_false] at hy
            rcases hy with e | e
            · subst e
              refine .tup q1 f1 fun v hv => ?_
              simp only [List.mem_cons, List.not_mem_nil, or_false] at hv
              rcases hv with e | e <;> (rw [e]; exact .int _)
            · subst e
              exact (hb2 _ (List.mem_of_getElem? hx)).1.imp (fun _ n => n) k
        · rintro G ⟨t2, l2, xs, dn2, tb2, hT3, eB, eN, hl, hg, hb2⟩
          match xs, hl, hg, eN with
          | [c0, c1, c2, c3], hl, hg, eN =>
            refine ⟨N, c0, c1, c2, c3, _, _, _, _, _, _, _, _, _, _, _, _, _, _, rfl, ⟨fun q hq => ?_, eB, eN, fun v hv => ⟨(hb2 v hv).1.imp (fun _ _ => trivial) fun _ _ e _ => e, (hb2 v hv).2⟩, fun v hv => (hg v hv).imp (fun _ _ => trivial) fun _ _ e _ => e⟩⟩
            rw [List.mem_singleton.mp hq]
            exact TabS.nil hT3
      clear tb1 dn hT2 eb hb bD TD hturn htb tb
      rintro σ J0 ⟨Lc, c0, c1, c2, c3, y1, y2, y3, y4, y5, y6, y7, y8, y9, y10, y11, y14, y15, y16, rfl, st0⟩
      have xn : ∀ {H H' : Hp} {b : Addr} {xs : List V}, ExtN H H' → H b = some (.lst xs) → H' b = some (.lst xs) := fun x e => x _ _ e (fun _ z => by cases z)
      have xt : ∀ {H H' : Hp} {b : Addr} {xs : List V}, ExtN H H' → H b = some (.tup xs) → H' b = some (.tup xs) := fun x e => x _ _ e (fun _ z => by cases z)
      refine ⟨st0.tab, fun M1 x1 tt1 R1 => ?_⟩
      have sx1 := st0.ext x1 tt1
      refine ⟨.ref Lb, rfl, Lb, _, 0, b0, rfl, rfl, SqL.of sx1.eb, rfl, .ref Lc, rfl, Lc, _, 1, c1, rfl, rfl, SqL.of sx1.ec, rfl, .ref Lc, rfl, Lc, _, 2, c2, rfl, rfl, SqL.of sx1.ec, rfl, fun _ => True, b0, c1, c2, rfl, (sx1.gb b0 (by simp)).1, (sx1.gc c1 (by simp)), (sx1.gc c2 (by simp)), fun x hx H' s' d' nd' => ?_, fun z => (Bool.false_ne_true (((sx1.gb b0 (by simp)).2).symm.trans z.1)).elim⟩
      have ex : x = "one" := by
        rw [(sx1.gb b0 (by simp)).2] at hx
        rcases hx with ⟨_, e⟩ | ⟨z, _⟩ | ⟨z, _⟩
        · exact e
        · cases z
        · cases z
      subst ex
      refine ⟨true, d', _, rfl, rfl, upd_same, fun J1 p1 sm1 np1 ep1 => ?_⟩
      have all1 : ExtN J0 J1 := x1.trans (.of (s'.trans ((Same.new nd').trans sm1)))
      have st1 := sx1.same (s'.trans ((Same.new nd').trans sm1))
      have f1 : J1 p1 = some (.tup [.str "point", .str "one"]) := ep1
      clear all1 ep1
      refine ⟨st1.tab, fun M2 x2 tt2 R2 => ?_⟩
      have sx2 := st1.ext x2 tt2
      refine ⟨(by show 2 ≤ sizeLine; decide), fun q2_0 nq2_0 => ?_⟩
      have sq2_0 := Same.new (o := .tup [.int 1, .int 1]) nq2_0
      have eq2_0 : (upd M2 q2_0 (.tup [.int 1, .int 1])) q2_0 = some (.tup [.int 1, .int 1]) := upd_same
      have stq2_0 := sx2.same sq2_0
      generalize (upd M2 q2_0 (.tup [.int 1, .int 1])) = Gq2_0 at sq2_0 eq2_0 stq2_0
      have Pq2_0 : Pt Gq2_0 (.ref q2_0) 1 1 := ⟨q2_0, rfl, .inr eq2_0⟩
      refine ⟨.ref Lb, rfl, Lb, _, 1, b1, rfl, rfl, SqL.of stq2_0.eb, rfl, .ref Lc, rfl, Lc, _, 2, c2, rfl, rfl, SqL.of stq2_0.ec, rfl, fun _ => True, .ref q2_0, b1, c2, rfl, Pq2_0.gd.1, (stq2_0.gb b1 (by simp)).1, (stq2_0.gc c2 (by simp)), fun x hx H' s' d' nd' => ?_, fun z => (Bool.false_ne_true (((stq2_0.gb b1 (by simp)).2).symm.trans z.2.1)).elim⟩
      have ex : x = "other" := by
        rw [Pq2_0.gd.2, (stq2_0.gb b1 (by simp)).2] at hx
        rcases hx with ⟨z, _⟩ | ⟨_, _, e⟩ | ⟨_, z, _⟩
        · cases z
        · exact e
        · cases z
      subst ex
      refine ⟨true, d', _, rfl, rfl, upd_same, fun J2 p2 sm2 np2 ep2 => ?_⟩
      have all2 : ExtN J1 J2 := x2.trans (.of (sq2_0.trans (s'.trans ((Same.new nd').trans sm2))))
      have st2 := sx2.same (sq2_0.trans (s'.trans ((Same.new nd').trans sm2)))
      have f1 := xt all2 f1
      have f2 : J2 p2 = some (.tup [.str "point", .str "other"]) := ep2
      clear all2 ep2
      refine ⟨st2.tab, fun M3 x3 tt3 R3 => ?_⟩
      have sx3 := st2.ext x3 tt3
      refine ⟨(by show 2 ≤ sizeLine; decide), fun q3_0 nq3_0 => ?_⟩
      have sq3_0 := Same.new (o := .tup [.int 1, .int 1]) nq3_0
      have eq3_0 : (upd M3 q3_0 (.tup [.int 1, .int 1])) q3_0 = some (.tup [.int 1, .int 1]) := upd_same
      have stq3_0 := sx3.same sq3_0
      generalize (upd M3 q3_0 (.tup [.int 1, .int 1])) = Gq3_0 at sq3_0 eq3_0 stq3_0
      refine ⟨(by show 2 ≤ sizeLine; decide), fun q3_1 nq3_1 => ?_⟩
      have sq3_1 := Same.new (o := .lst [.int 1, .int 1]) nq3_1
      have eq3_1 : (upd Gq3_0 q3_1 (.lst [.int 1, .int 1])) q3_1 = some (.lst [.int 1, .int 1]) := upd_same
      have stq3_1 := stq3_0.same sq3_1
      have eq3_0 := sq3_1 _ _ eq3_0
      generalize (upd Gq3_0 q3_1 (.lst [.int 1, .int 1])) = Gq3_1 at sq3_1 eq3_1 stq3_1 eq3_0
      have Pq3_0 : Pt Gq3_1 (.ref q3_0) 1 1 := ⟨q3_0, rfl, .inr eq3_0⟩
      have Pq3_1 : Pt Gq3_1 (.ref q3_1) 1 1 := ⟨q3_1, rfl, .inl eq3_1⟩
      refine ⟨.ref Lb, rfl, Lb, _, 2, b2, rfl, rfl, SqL.of stq3_1.eb, rfl, fun _ => True, .ref q3_0, .ref q3_1, b2, rfl, Pq3_0.gd.1, Pq3_1.gd.1, (stq3_1.gb b2 (by simp)).1, fun x hx H' s' d' nd' => ?_, fun z => (Bool.false_ne_true (((stq3_1.gb b2 (by simp)).2).symm.trans z.2.2)).elim⟩
      have ex : x = "point" := by
        rw [Pq3_0.gd.2, Pq3_1.gd.2, (stq3_1.gb b2 (by simp)).2] at hx
        rcases hx with ⟨z, _⟩ | ⟨_, z, _⟩ | ⟨_, _, _, e⟩
        · cases z
        · cases z
        · exact e
      subst ex
      refine ⟨true, d', _, rfl, rfl, upd_same, fun J3 p3 sm3 np3 ep3 => ?_⟩
      have all3 : ExtN J2 J3 := x3.trans (.of ((sq3_0.trans sq3_1).trans (s'.trans ((Same.new nd').trans sm3))))
      have st3 := sx3.same ((sq3_0.trans sq3_1).trans (s'.trans ((Same.new nd').trans sm3)))
      have f1 := xt all3 f1
      have f2 := xt all3 f2
      have f3 : J3 p3 = some (.tup [.str "point", .str "point"]) := ep3
      clear all3 ep3
      refine ⟨(by show 3 ≤ sizeLine; decide), fun L0 nL0 => ?_⟩
      have sL0 := Same.new (o := .lst [.ref p1, .ref p2, .ref p3]) nL0
      have eL0 : (upd J3 L0 (.lst [.ref p1, .ref p2, .ref p3])) L0 = some (.lst [.ref p1, .ref p2, .ref p3]) := upd_same
      have f1 := sL0 _ _ f1
      have f2 := sL0 _ _ f2
      have f3 := sL0 _ _ f3
      have st3b := st3.same sL0
      show tSeq _ _ _ _ (upd J3 L0 (.lst [.ref p1, .ref p2, .ref p3]))
      generalize (upd J3 L0 (.lst [.ref p1, .ref p2, .ref p3])) = K0 at sL0 st3b f1 f2 f3 eL0
      have st3 := st3b
      refine ⟨.ref L0, rfl, st3.tab, fun M4 x4 tt4 R4 => ?_⟩
      have sx4 := st3.ext x4 tt4
      refine ⟨(by show 2 ≤ sizeLine; decide), fun q4_0 nq4_0 => ?_⟩
      have sq4_0 := Same.new (o := .lst [.int 1, .int 1]) nq4_0
      have eq4_0 : (upd M4 q4_0 (.lst [.int 1, .int 1])) q4_0 = some (.lst [.int 1, .int 1]) := upd_same
      have stq4_0 := sx4.same sq4_0
      generalize (upd M4 q4_0 (.lst [.int 1, .int 1])) = Gq4_0 at sq4_0 eq4_0 stq4_0
      refine ⟨(by show 2 ≤ sizeLine; decide), fun q4_1 nq4_1 => ?_⟩
      have sq4_1 := Same.new (o := .tup [.int 1, .int 1]) nq4_1
      have eq4_1 : (upd Gq4_0 q4_1 (.tup [.int 1, .int 1])) q4_1 = some (.tup [.int 1, .int 1]) := upd_same
      have stq4_1 := stq4_0.same sq4_1
      have eq4_0 := sq4_1 _ _ eq4_0
      generalize (upd Gq4_0 q4_1 (.tup [.int 1, .int 1])) = Gq4_1 at sq4_1 eq4_1 stq4_1 eq4_0
      refine ⟨(by show 2 ≤ sizeLine; decide), fun q4_2 nq4_2 => ?_⟩
      have sq4_2 := Same.new (o := .tup [.int 0, .int 0]) nq4_2
      have eq4_2 : (upd Gq4_1 q4_2 (.tup [.int 0, .int 0])) q4_2 = some (.tup [.int 0, .int 0]) := upd_same
      have stq4_2 := stq4_1.same sq4_2
      have eq4_0 := sq4_2 _ _ eq4_0
      have eq4_1 := sq4_2 _ _ eq4_1
      generalize (upd Gq4_1 q4_2 (.tup [.int 0, .int 0])) = Gq4_2 at sq4_2 eq4_2 stq4_2 eq4_0 eq4_1
      have Pq4_0 : Pt Gq4_2 (.ref q4_0) 1 1 := ⟨q4_0, rfl, .inl eq4_0⟩
      have Pq4_1 : Pt Gq4_2 (.ref q4_1) 1 1 := ⟨q4_1, rfl, .inr eq4_1⟩
      have Pq4_2 : Pt Gq4_2 (.ref q4_2) 0 0 := ⟨q4_2, rfl, .inr eq4_2⟩
      refine ⟨fun _ => True, .ref q4_0, .ref q4_1, .ref q4_2, rfl, Pq4_0.gd.1, Pq4_1.gd.1, Pq4_2.gd.1, no_side Pq4_0 Pq4_1 Pq4_2, fun _ => ⟨_, _, _, _, _, _, Pq4_0, Pq4_1, Pq4_2, ⟨sml1, sml1, sml1, sml1, sml0, sml0⟩, fun _ H' s' d' nd' => ?_, fun z => absurd ⟨rfl, rfl⟩ z⟩⟩
      refine ⟨false, d', "other", rfl, rfl, upd_same, fun J4 p4 sm4 np4 ep4 => ?_⟩
      have all4 : ExtN K0 J4 := x4.trans (.of (((sq4_0.trans sq4_1).trans sq4_2).trans (s'.trans ((Same.new nd').trans sm4))))
      have st4 := sx4.same (((sq4_0.trans sq4_1).trans sq4_2).trans (s'.trans ((Same.new nd').trans sm4)))
      have f1 := xt all4 f1
      have f2 := xt all4 f2
      have f3 := xt all4 f3
      have eL0 := xn all4 eL0
      have f4 : J4 p4 = some (.tup [.str "misfit", .str "other"]) := ep4
      clear all4 ep4
      refine ⟨st4.tab, fun M5 x5 tt5 R5 => ?_⟩
      have sx5 := st4.ext x5 tt5
      refine ⟨.ref Lb, rfl, Lb, _, 0, b0, rfl, rfl, SqL.of sx5.eb, rfl, .ref Lc, rfl, Lc, _, 1, c1, rfl, rfl, SqL.of sx5.ec, rfl, .ref Lc, rfl, Lc, _, 2, c2, rfl, rfl, SqL.of sx5.ec, rfl, .ref Lc, rfl, Lc, _, 3, c3, rfl, rfl, SqL.of sx5.ec, rfl, fun _ => True, b0, c1, c2, c3, rfl, (sx5.gb b0 (by simp)).1, (sx5.gc c1 (by simp)), (sx5.gc c2 (by simp)), (sx5.gc c3 (by simp)), fun x hx H' s' d' nd' => ?_, fun z => (Bool.false_ne_true (((sx5.gb b0 (by simp)).2).symm.trans z.1)).elim⟩
      have ex : x = "one" := by
        rw [(sx5.gb b0 (by simp)).2] at hx
        rcases hx with ⟨_, e⟩ | ⟨z, _⟩ | ⟨z, _⟩ | ⟨z, _⟩
        · exact e
        · cases z
        · cases z
        · cases z
      subst ex
      refine ⟨true, d', _, rfl, rfl, upd_same, fun J5 p5 sm5 np5 ep5 => ?_⟩
      have all5 : ExtN J4 J5 := x5.trans (.of (s'.trans ((Same.new nd').trans sm5)))
      have st5 := sx5.same (s'.trans ((Same.new nd').trans sm5))
      have f1 := xt all5 f1
      have f2 := xt all5 f2
      have f3 := xt all5 f3
      have eL0 := xn all5 eL0
      have f4 := xt all5 f4
      have f5 : J5 p5 = some (.tup [.str "point", .str "one"]) := ep5
      clear all5 ep5
      refine ⟨(by show 2 ≤ sizeLine; decide), fun M1L nM1L => ?_⟩
      have sM1L := Same.new (o := .lst [.ref p4, .ref p5]) nM1L
      have eM1L : (upd J5 M1L (.lst [.ref p4, .ref p5])) M1L = some (.lst [.ref p4, .ref p5]) := upd_same
      have f1 := sM1L _ _ f1
      have f2 := sM1L _ _ f2
      have f3 := sM1L _ _ f3
      have eL0 := sM1L _ _ eL0
      have f4 := sM1L _ _ f4
      have f5 := sM1L _ _ f5
      have st5b := st5.same sM1L
      generalize (upd J5 M1L (.lst [.ref p4, .ref p5])) = K1 at sM1L st5b f1 f2 f3 eL0 f4 f5 eM1L
      refine ⟨L0, M1L, _, _, rfl, rfl, eL0, eM1L, (by show 3 + 2 ≤ sizeLine; decide), fun L1 nL1 => ?_⟩
      have sL1 := Same.new (o := .lst [.ref p1, .ref p2, .ref p3, .ref p4, .ref p5]) nL1
      have eL1 : (upd K1 L1 (.lst [.ref p1, .ref p2, .ref p3, .ref p4, .ref p5])) L1 = some (.lst [.ref p1, .ref p2, .ref p3, .ref p4, .ref p5]) := upd_same
      have f1 := sL1 _ _ f1
      have f2 := sL1 _ _ f2
      have f3 := sL1 _ _ f3
      have eL0 := sL1 _ _ eL0
      have f4 := sL1 _ _ f4
      have f5 := sL1 _ _ f5
      have eM1L := sL1 _ _ eM1L
      have st5c := st5b.same sL1
      show tSeq _ _ _ _ (upd K1 L1 (.lst [.ref p1, .ref p2, .ref p3, .ref p4, .ref p5]))
      generalize (upd K1 L1 (.lst [.ref p1, .ref p2, .ref p3, .ref p4, .ref p5])) = K2 at sL1 st5c f1 f2 f3 eL0 f4 f5 eM1L eL1
      have st5 := st5c
      refine ⟨.ref L1, rfl, st5.tab, fun M6 x6 tt6 R6 => ?_⟩
      have sx6 := st5.ext x6 tt6
      refine ⟨(by show 2 ≤ sizeLine; decide), fun q6_0 nq6_0 => ?_⟩
      have sq6_0 := Same.new (o := .tup [.int 0, .int 1]) nq6_0
      have eq6_0 : (upd M6 q6_0 (.tup [.int 0, .int 1])) q6_0 = some (.tup [.int 0, .int 1]) := upd_same
      have stq6_0 := sx6.same sq6_0
      generalize (upd M6 q6_0 (.tup [.int 0, .int 1])) = Gq6_0 at sq6_0 eq6_0 stq6_0
      have Pq6_0 : Pt Gq6_0 (.ref q6_0) 0 1 := ⟨q6_0, rfl, .inr eq6_0⟩
      refine ⟨.ref Lb, rfl, Lb, _, 1, b1, rfl, rfl, SqL.of stq6_0.eb, rfl, .ref Lc, rfl, Lc, _, 2, c2, rfl, rfl, SqL.of stq6_0.ec, rfl, .ref Lc, rfl, Lc, _, 3, c3, rfl, rfl, SqL.of stq6_0.ec, rfl, fun _ => True, .ref q6_0, b1, c2, c3, rfl, Pq6_0.gd.1, (stq6_0.gb b1 (by simp)).1, (stq6_0.gc c2 (by simp)), (stq6_0.gc c3 (by simp)), fun x hx H' s' d' nd' => ?_, fun z => (Bool.false_ne_true (((stq6_0.gb b1 (by simp)).2).symm.trans z.2.1)).elim⟩
      have ex : x = "other" := by
        rw [Pq6_0.gd.2, (stq6_0.gb b1 (by simp)).2] at hx
        rcases hx with ⟨z, _⟩ | ⟨_, _, e⟩ | ⟨_, z, _⟩ | ⟨_, z, _⟩
        · cases z
        · exact e
        · cases z
        · cases z
      subst ex
      refine ⟨true, d', _, rfl, rfl, upd_same, fun J6 p6 sm6 np6 ep6 => ?_⟩
      have all6 : ExtN K2 J6 := x6.trans (.of (sq6_0.trans (s'.trans ((Same.new nd').trans sm6))))
      have st6 := sx6.same (sq6_0.trans (s'.trans ((Same.new nd').trans sm6)))
      have f1 := xt all6 f1
      have f2 := xt all6 f2
      have f3 := xt all6 f3
      have eL0 := xn all6 eL0
      have f4 := xt all6 f4
      have f5 := xt all6 f5
      have eM1L := xn all6 eM1L
      have eL1 := xn all6 eL1
      have f6 : J6 p6 = some (.tup [.str "point", .str "other"]) := ep6
      clear all6 ep6
      refine ⟨st6.tab, fun M7 x7 tt7 R7 => ?_⟩
      have sx7 := st6.ext x7 tt7
      refine ⟨(by show 2 ≤ sizeLine; decide), fun q7_0 nq7_0 => ?_⟩
      have sq7_0 := Same.new (o := .tup [.int 0, .int 1]) nq7_0
      have eq7_0 : (upd M7 q7_0 (.tup [.int 0, .int 1])) q7_0 = some (.tup [.int 0, .int 1]) := upd_same
      have stq7_0 := sx7.same sq7_0
      generalize (upd M7 q7_0 (.tup [.int 0, .int 1])) = Gq7_0 at sq7_0 eq7_0 stq7_0
      refine ⟨(by show 2 ≤ sizeLine; decide), fun q7_1 nq7_1 => ?_⟩
      have sq7_1 := Same.new (o := .tup [.int 0, .int 0]) nq7_1
      have eq7_1 : (upd Gq7_0 q7_1 (.tup [.int 0, .int 0])) q7_1 = some (.tup [.int 0, .int 0]) := upd_same
      have stq7_1 := stq7_0.same sq7_1
      have eq7_0 := sq7_1 _ _ eq7_0
      generalize (upd Gq7_0 q7_1 (.tup [.int 0, .int 0])) = Gq7_1 at sq7_1 eq7_1 stq7_1 eq7_0
      have Pq7_0 : Pt Gq7_1 (.ref q7_0) 0 1 := ⟨q7_0, rfl, .inr eq7_0⟩
      have Pq7_1 : Pt Gq7_1 (.ref q7_1) 0 0 := ⟨q7_1, rfl, .inr eq7_1⟩
      refine ⟨.ref Lb, rfl, Lb, _, 2, b2, rfl, rfl, SqL.of stq7_1.eb, rfl, .ref Lc, rfl, Lc, _, 3, c3, rfl, rfl, SqL.of stq7_1.ec, rfl, fun _ => True, .ref q7_0, .ref q7_1, b2, c3, rfl, Pq7_0.gd.1, Pq7_1.gd.1, (stq7_1.gb b2 (by simp)).1, (stq7_1.gc c3 (by simp)), fun x hx H' s' d' nd' => ?_, fun z => (Bool.false_ne_true (((stq7_1.gb b2 (by simp)).2).symm.trans z.2.2.1)).elim⟩
      have ex : x = "third" := by
        rw [Pq7_0.gd.2, Pq7_1.gd.2, (stq7_1.gb b2 (by simp)).2] at hx
        rcases hx with ⟨z, _⟩ | ⟨_, z, _⟩ | ⟨_, _, _, e⟩ | ⟨_, _, z, _⟩
        · cases z
        · cases z
        · exact e
        · cases z
      subst ex
      refine ⟨true, d', _, rfl, rfl, upd_same, fun J7 p7 sm7 np7 ep7 => ?_⟩
      have all7 : ExtN J6 J7 := x7.trans (.of ((sq7_0.trans sq7_1).trans (s'.trans ((Same.new nd').trans sm7))))
      have st7 := sx7.same ((sq7_0.trans sq7_1).trans (s'.trans ((Same.new nd').trans sm7)))
      have f1 := xt all7 f1
      have f2 := xt all7 f2
      have f3 := xt all7 f3
      have eL0 := xn all7 eL0
      have f4 := xt all7 f4
      have f5 := xt all7 f5
      have eM1L := xn all7 eM1L
      have eL1 := xn all7 eL1
      have f6 := xt all7 f6
      have f7 : J7 p7 = some (.tup [.str "point", .str "third"]) := ep7
      clear all7 ep7
      refine ⟨(by show 2 ≤ sizeLine; decide), fun M2L nM2L => ?_⟩
      have sM2L := Same.new (o := .lst [.ref p6, .ref p7]) nM2L
      have eM2L : (upd J7 M2L (.lst [.ref p6, .ref p7])) M2L = some (.lst [.ref p6, .ref p7]) := upd_same
      have f1 := sM2L _ _ f1
      have f2 := sM2L _ _ f2
      have f3 := sM2L _ _ f3
      have eL0 := sM2L _ _ eL0
      have f4 := sM2L _ _ f4
      have f5 := sM2L _ _ f5
      have eM1L := sM2L _ _ eM1L
      have eL1 := sM2L _ _ eL1
      have f6 := sM2L _ _ f6
      have f7 := sM2L _ _ f7
      have st7b := st7.same sM2L
      generalize (upd J7 M2L (.lst [.ref p6, .ref p7])) = K3 at sM2L st7b f1 f2 f3 eL0 f4 f5 eM1L eL1 f6 f7 eM2L
      refine ⟨L1, M2L, _, _, rfl, rfl, eL1, eM2L, (by show 5 + 2 ≤ sizeLine; decide), fun L2 nL2 => ?_⟩
      have sL2 := Same.new (o := .lst [.ref p1, .ref p2, .ref p3, .ref p4, .ref p5, .ref p6, .ref p7]) nL2
      have eL2 : (upd K3 L2 (.lst [.ref p1, .ref p2, .ref p3, .ref p4, .ref p5, .ref p6, .ref p7])) L2 = some (.lst [.ref p1, .ref p2, .ref p3, .ref p4, .ref p5, .ref p6, .ref p7]) := upd_same
      have f1 := sL2 _ _ f1
      have f2 := sL2 _ _ f2
      have f3 := sL2 _ _ f3
      have eL0 := sL2 _ _ eL0
      have f4 := sL2 _ _ f4
      have f5 := sL2 _ _ f5
      have eM1L := sL2 _ _ eM1L
      have eL1 := sL2 _ _ eL1
      have f6 := sL2 _ _ f6
      have f7 := sL2 _ _ f7
      have eM2L := sL2 _ _ eM2L
      have st7c := st7b.same sL2
      show tSeq _ _ _ _ (upd K3 L2 (.lst [.ref p1, .ref p2, .ref p3, .ref p4, .ref p5, .ref p6, .ref p7]))
      generalize (upd K3 L2 (.lst [.ref p1, .ref p2, .ref p3, .ref p4, .ref p5, .ref p6, .ref p7])) = K4 at sL2 st7c f1 f2 f3 eL0 f4 f5 eM1L eL1 f6 f7 eM2L eL2
      have st7 := st7c
      refine ⟨.ref L2, rfl, .inl ⟨rfl, _, SqL.of eL2⟩, ?_⟩
      refine ⟨st7.tab, fun M8 x8 tt8 R8 => ?_⟩
      have sx8 := st7.ext x8 tt8
      refine ⟨(by show 2 ≤ sizeLine; decide), fun q8_0 nq8_0 => ?_⟩
      have sq8_0 := Same.new (o := .tup [.int 0, .int 1]) nq8_0
      have eq8_0 : (upd M8 q8_0 (.tup [.int 0, .int 1])) q8_0 = some (.tup [.int 0, .int 1]) := upd_same
      have stq8_0 := sx8.same sq8_0
      generalize (upd M8 q8_0 (.tup [.int 0, .int 1])) = Gq8_0 at sq8_0 eq8_0 stq8_0
      refine ⟨(by show 2 ≤ sizeLine; decide), fun q8_1 nq8_1 => ?_⟩
      have sq8_1 := Same.new (o := .tup [.int 0, .int 0]) nq8_1
      have eq8_1 : (upd Gq8_0 q8_1 (.tup [.int 0, .int 0])) q8_1 = some (.tup [.int 0, .int 0]) := upd_same
      have stq8_1 := stq8_0.same sq8_1
      have eq8_0 := sq8_1 _ _ eq8_0
      generalize (upd Gq8_0 q8_1 (.tup [.int 0, .int 0])) = Gq8_1 at sq8_1 eq8_1 stq8_1 eq8_0
      refine ⟨(by show 2 ≤ sizeLine; decide), fun q8_2 nq8_2 => ?_⟩
      have sq8_2 := Same.new (o := .tup [.int 0, .int 0]) nq8_2
      have eq8_2 : (upd Gq8_1 q8_2 (.tup [.int 0, .int 0])) q8_2 = some (.tup [.int 0, .int 0]) := upd_same
      have stq8_2 := stq8_1.same sq8_2
      have eq8_0 := sq8_2 _ _ eq8_0
      have eq8_1 := sq8_2 _ _ eq8_1
      generalize (upd Gq8_1 q8_2 (.tup [.int 0, .int 0])) = Gq8_2 at sq8_2 eq8_2 stq8_2 eq8_0 eq8_1
      have Pq8_0 : Pt Gq8_2 (.ref q8_0) 0 1 := ⟨q8_0, rfl, .inr eq8_0⟩
      have Pq8_1 : Pt Gq8_2 (.ref q8_1) 0 0 := ⟨q8_1, rfl, .inr eq8_1⟩
      have Pq8_2 : Pt Gq8_2 (.ref q8_2) 0 0 := ⟨q8_2, rfl, .inr eq8_2⟩
      refine ⟨.ref Lb, rfl, Lb, _, 3, b3, rfl, rfl, SqL.of stq8_2.eb, rfl, fun _ => True, .ref q8_0, .ref q8_1, .ref q8_2, b3, rfl, Pq8_0.gd.1, Pq8_1.gd.1, Pq8_2.gd.1, (stq8_2.gb b3 (by simp)).1, fun x hx H' s' d' nd' => ?_, fun z => (Bool.false_ne_true (((stq8_2.gb b3 (by simp)).2).symm.trans z.2.2.2)).elim⟩
      have ex : x = "fourth" := by
        rw [Pq8_0.gd.2, Pq8_1.gd.2, Pq8_2.gd.2, (stq8_2.gb b3 (by simp)).2] at hx
        rcases hx with ⟨z, _⟩ | ⟨_, z, _⟩ | ⟨_, _, z, _⟩ | ⟨_, _, _, _, e⟩
        · cases z
        · cases z
        · cases z
        · exact e
      subst ex
      refine ⟨true, d', _, rfl, rfl, upd_same, fun J8 p8 sm8 np8 ep8 => ?_⟩
      have all8 : ExtN K4 J8 := x8.trans (.of (((sq8_0.trans sq8_1).trans sq8_2).trans (s'.trans ((Same.new nd').trans sm8))))
      have st8 := sx8.same (((sq8_0.trans sq8_1).trans sq8_2).trans (s'.trans ((Same.new nd').trans sm8)))
      have f1 := xt all8 f1
      have f2 := xt all8 f2
      have f3 := xt all8 f3
      have eL0 := xn all8 eL0
      have f4 := xt all8 f4
      have f5 := xt all8 f5
      have eM1L := xn all8 eM1L
      have eL1 := xn all8 eL1
      have f6 := xt all8 f6
      have f7 := xt all8 f7
      have eM2L := xn all8 eM2L
      have eL2 := xn all8 eL2
      have f8 : J8 p8 = some (.tup [.str "point", .str "fourth"]) := ep8
      clear all8 ep8
      refine ⟨L2, _, _, rfl, rfl, eL2, (by show 7 < sizeLine; decide), ?_⟩
      have sL3 : ∀ b o, b ≠ L2 → J8 b = some o → (upd J8 L2 (.lst ([.ref p1, .ref p2, .ref p3, .ref p4, .ref p5, .ref p6, .ref p7] ++ [.ref p8]))) b = some o := fun b o n e => by
        rw [upd_ne n]
        exact e
      have eL3 : (upd J8 L2 (.lst ([.ref p1, .ref p2, .ref p3, .ref p4, .ref p5, .ref p6, .ref p7] ++ [.ref p8]))) L2 = some (.lst [.ref p1, .ref p2, .ref p3, .ref p4, .ref p5, .ref p6, .ref p7, .ref p8]) := upd_same
      have f1 := sL3 _ _ (ne_of f1 eL2 (fun z => by cases z)) f1
      have f2 := sL3 _ _ (ne_of f2 eL2 (fun z => by cases z)) f2
      have f3 := sL3 _ _ (ne_of f3 eL2 (fun z => by cases z)) f3
      have f4 := sL3 _ _ (ne_of f4 eL2 (fun z => by cases z)) f4
      have f5 := sL3 _ _ (ne_of f5 eL2 (fun z => by cases z)) f5
      have f6 := sL3 _ _ (ne_of f6 eL2 (fun z => by cases z)) f6
      have f7 := sL3 _ _ (ne_of f7 eL2 (fun z => by cases z)) f7
      have f8 := sL3 _ _ (ne_of f8 eL2 (fun z => by cases z)) f8
      generalize upd J8 L2 (.lst ([.ref p1, .ref p2, .ref p3, .ref p4, .ref p5, .ref p6, .ref p7] ++ [.ref p8])) = Z0 at eL3 f1 f2 f3 f4 f5 f6 f7 f8
      refine ⟨.ref L2, rfl, (by show 2 ≤ sizeLine; decide), fun r1 nr1 => ?_⟩
      have z1 := Same.new (o := .tup [.str "point", .str "one"]) nr1
      have g1 : (upd Z0 r1 (.tup [.str "point", .str "one"])) r1 = some (.tup [.str "point", .str "one"]) := upd_same
      have eL3 := z1 _ _ eL3
      have f1 := z1 _ _ f1
      have f2 := z1 _ _ f2
      have f3 := z1 _ _ f3
      have f4 := z1 _ _ f4
      have f5 := z1 _ _ f5
      have f6 := z1 _ _ f6
      have f7 := z1 _ _ f7
      have f8 := z1 _ _ f8
      generalize upd Z0 r1 (.tup [.str "point", .str "one"]) = Z1 at g1 eL3 f1 f2 f3 f4 f5 f6 f7 f8
      clear z1
      refine ⟨(by show 2 ≤ sizeLine; decide), fun r2 nr2 => ?_⟩
      have z2 := Same.new (o := .tup [.str "point", .str "other"]) nr2
      have g2 : (upd Z1 r2 (.tup [.str "point", .str "other"])) r2 = some (.tup [.str "point", .str "other"]) := upd_same
      have eL3 := z2 _ _ eL3
      have f1 := z2 _ _ f1
      have f2 := z2 _ _ f2
      have f3 := z2 _ _ f3
      have f4 := z2 _ _ f4
      have f5 := z2 _ _ f5
      have f6 := z2 _ _ f6
      have f7 := z2 _ _ f7
      have f8 := z2 _ _ f8
      have g1 := z2 _ _ g1
      generalize upd Z1 r2 (.tup [.str "point", .str "other"]) = Z2 at g2 eL3 f1 f2 f3 f4 f5 f6 f7 f8 g1
      clear z2
      refine ⟨(by show 2 ≤ sizeLine; decide), fun r3 nr3 => ?_⟩
      have z3 := Same.new (o := .tup [.str "point", .str "point"]) nr3
      have g3 : (upd Z2 r3 (.tup [.str "point", .str "point"])) r3 = some (.tup [.str "point", .str "point"]) := upd_same
      have eL3 := z3 _ _ eL3
      have f1 := z3 _ _ f1
      have f2 := z3 _ _ f2
      have f3 := z3 _ _ f3
      have f4 := z3 _ _ f4
      have f5 := z3 _ _ f5
      have f6 := z3 _ _ f6
      have f7 := z3 _ _ f7
      have f8 := z3 _ _ f8
      have g1 := z3 _ _ g1
      have g2 := z3 _ _ g2
      generalize upd Z2 r3 (.tup [.str "point", .str "point"]) = Z3 at g3 eL3 f1 f2 f3 f4 f5 f6 f7 f8 g1 g2
      clear z3
      refine ⟨(by show 2 ≤ sizeLine; decide), fun r4 nr4 => ?_⟩
      have z4 := Same.new (o := .tup [.str "misfit", .str "other"]) nr4
      have g4 : (upd Z3 r4 (.tup [.str "misfit", .str "other"])) r4 = some (.tup [.str "misfit", .str "other"]) := upd_same
      have eL3 := z4 _ _ eL3
      have f1 := z4 _ _ f1
      have f2 := z4 _ _ f2
      have f3 := z4 _ _ f3
      have f4 := z4 _ _ f4
      have f5 := z4 _ _ f5
      have f6 := z4 _ _ f6
      have f7 := z4 _ _ f7
      have f8 := z4 _ _ f8
      have g1 := z4 _ _ g1
      have g2 := z4 _ _ g2
      have g3 := z4 _ _ g3
      generalize upd Z3 r4 (.tup [.str "misfit", .str "other"]) = Z4 at g4 eL3 f1 f2 f3 f4 f5 f6 f7 f8 g1 g2 g3
      clear z4
      refine ⟨(by show 2 ≤ sizeLine; decide), fun r5 nr5 => ?_⟩
      have z5 := Same.new (o := .tup [.str "point", .str "one"]) nr5
      have g5 : (upd Z4 r5 (.tup [.str "point", .str "one"])) r5 = some (.tup [.str "point", .str "one"]) := upd_same
      have eL3 := z5 _ _ eL3
      have f1 := z5 _ _ f1
      have f2 := z5 _ _ f2
      have f3 := z5 _ _ f3
      have f4 := z5 _ _ f4
      have f5 := z5 _ _ f5
      have f6 := z5 _ _ f6
      have f7 := z5 _ _ f7
      have f8 := z5 _ _ f8
      have g1 := z5 _ _ g1
      have g2 := z5 _ _ g2
      have g3 := z5 _ _ g3
      have g4 := z5 _ _ g4
      generalize upd Z4 r5 (.tup [.str "point", .str "one"]) = Z5 at g5 eL3 f1 f2 f3 f4 f5 f6 f7 f8 g1 g2 g3 g4
      clear z5
      refine ⟨(by show 2 ≤ sizeLine; decide), fun r6 nr6 => ?_⟩
      have z6 := Same.new (o := .tup [.str "point", .str "other"]) nr6
      have g6 : (upd Z5 r6 (.tup [.str "point", .str "other"])) r6 = some (.tup [.str "point", .str "other"]) := upd_same
      have eL3 := z6 _ _ eL3
      have f1 := z6 _ _ f1
      have f2 := z6 _ _ f2
      have f3 := z6 _ _ f3
      have f4 := z6 _ _ f4
      have f5 := z6 _ _ f5
      have f6 := z6 _ _ f6
      have f7 := z6 _ _ f7
      have f8 := z6 _ _ f8
      have g1 := z6 _ _ g1
      have g2 := z6 _ _ g2
      have g3 := z6 _ _ g3
      have g4 := z6 _ _ g4
      have g5 := z6 _ _ g5
      generalize upd Z5 r6 (.tup [.str "point", .str "other"]) = Z6 at g6 eL3 f1 f2 f3 f4 f5 f6 f7 f8 g1 g2 g3 g4 g5
      clear z6
      refine ⟨(by show 2 ≤ sizeLine; decide), fun r7 nr7 => ?_⟩
      have z7 := Same.new (o := .tup [.str "point", .str "third"]) nr7
      have g7 : (upd Z6 r7 (.tup [.str "point", .str "third"])) r7 = some (.tup [.str "point", .str "third"]) := upd_same
      have eL3 := z7 _ _ eL3
      have f1 := z7 _ _ f1
      have f2 := z7 _ _ f2
      have f3 := z7 _ _ f3
      have f4 := z7 _ _ f4
      have f5 := z7 _ _ f5
      have f6 := z7 _ _ f6
      have f7 := z7 _ _ f7
      have f8 := z7 _ _ f8
      have g1 := z7 _ _ g1
      have g2 := z7 _ _ g2
      have g3 := z7 _ _ g3
      have g4 := z7 _ _ g4
      have g5 := z7 _ _ g5
      have g6 := z7 _ _ g6
      generalize upd Z6 r7 (.tup [.str "point", .str "third"]) = Z7 at g7 eL3 f1 f2 f3 f4 f5 f6 f7 f8 g1 g2 g3 g4 g5 g6
      clear z7
      refine ⟨(by show 2 ≤ sizeLine; decide), fun r8 nr8 => ?_⟩
      have z8 := Same.new (o := .tup [.str "point", .str "fourth"]) nr8
      have g8 : (upd Z7 r8 (.tup [.str "point", .str "fourth"])) r8 = some (.tup [.str "point", .str "fourth"]) := upd_same
      have eL3 := z8 _ _ eL3
      have f1 := z8 _ _ f1
      have f2 := z8 _ _ f2
      have f3 := z8 _ _ f3
      have f4 := z8 _ _ f4
      have f5 := z8 _ _ f5
      have f6 := z8 _ _ f6
      have f7 := z8 _ _ f7
      have f8 := z8 _ _ f8
      have g1 := z8 _ _ g1
      have g2 := z8 _ _ g2
      have g3 := z8 _ _ g3
      have g4 := z8 _ _ g4
      have g5 := z8 _ _ g5
      have g6 := z8 _ _ g6
      have g7 := z8 _ _ g7
      generalize upd Z7 r8 (.tup [.str "point", .str "fourth"]) = Z8 at g8 eL3 f1 f2 f3 f4 f5 f6 f7 f8 g1 g2 g3 g4 g5 g6 g7
      clear z8
      refine ⟨(by show 8 ≤ sizeLine; decide), fun L4 nL4 => ?_⟩
      have z9 := Same.new (o := .lst [.ref r1, .ref r2, .ref r3, .ref r4, .ref r5, .ref r6, .ref r7, .ref r8]) nL4
      have two : ∀ {H : Hp} {p : Addr} {x y : Str}, H p = some (.tup [.str x, .str y]) → Dp K H (.ref p) (.tuple [.str x, .str y]) := fun e => Dp.tup (SqT.of e) (.cons (.str _) (.cons (.str _) .nil))
      refine ⟨told8, told8, Dp.lst (SqL.of (z9 _ _ eL3)) (.cons (two (z9 _ _ f1)) (.cons (two (z9 _ _ f2)) (.cons (two (z9 _ _ f3)) (.cons (two (z9 _ _ f4)) (.cons (two (z9 _ _ f5)) (.cons (two (z9 _ _ f6)) (.cons (two (z9 _ _ f7)) (.cons (two (z9 _ _ f8)) .nil)))))))), Dp.lst (SqL.of upd_same) (.cons (two (z9 _ _ g1)) (.cons (two (z9 _ _ g2)) (.cons (two (z9 _ _ g3)) (.cons (two (z9 _ _ g4)) (.cons (two (z9 _ _ g5)) (.cons (two (z9 _ _ g6)) (.cons (two (z9 _ _ g7)) (.cons (two (z9 _ _ g8)) .nil)))))))), told8_shaped, told8_shaped, ?_⟩
      show V.bl (PyData.eqv told8 told8) = .bl true
      rw [told8_eq]
end
end Bay
set_option Elab.async false
set_option linter.all false
set_option maxRecDepth 100000
set_option maxHeartbeats 4000000
namespace Bay
open PySem PySem.Spec PyProof.Rows L2
open LamX (TabB)
/-! ### the law's def, run where nothing is around it -/
theorem run_lawT {P : Program} {w : World} {K : PySem.W.Frag} {mg mb : Str → Option Value} {fa a c Tt : Addr} {fd : FuncData} {st : Stmt} {N : List Str} {k : Nat} {t : Shared} {us : List Value} {ns : List Int}
    (F : Fun K "law" "law" st fa fd) (S : FnScope N ["script"] (defScope st)) (bnd : ∀ (s : Shared) (u : Value), BindsTo s fd ⟨[u], []⟩ [("script", u)])
    (kin : K.In t.heap) (glob : t.heap.Ns mainGlobals mg) (blt : t.heap.Ns builtinsNs mb) (bbb : ∀ x : Str, x ≠ "__name__" → mb x = bootBuiltins x) (lim : t.heap.NoLimit) (gens : t.gens = #[])
    (arg : t.heap.get? a = some { cls := .type "list", data := .seq us.toArray }) (nums : IntsAre us ns) (len : ns.length ≤ sizeLine) (room : Room (k + 1) callerA)
    (hcode : fd.code = .ref c) (tT : t.heap.get? Tt = some { cls := .none, data := .fields #[] }) (nT : K.lookup Tt = none) (CH : PySem.W.CodeHd t.heap c Tt)
    (hbm : ∃ (bm : Addr) (ob : Obj), mg "__builtins__" = some (.ref bm) ∧ bm ≠ builtinsNs ∧ t.heap.get? bm = some ob ∧ ob.cls = .type "module" ∧ ob.dict = some builtinsNs ∧ ob.data = .plain)
    (body : ∀ (base : Heap) (cdv : Value) (H : Hp), K.In base → base.Ns mainGlobals mg → TabB base mg c Tt → cdv = .ref c → H Tt = some (.tbl #[]) → SqL K H a (ns.map V.int) → Room k (callerA.deeper (envOfC "law" (defScope st) t.heap.objs.size fa cdv)) →
      ∃ r, PSs (cxOf CX0 P w K mg base N "law" (defScope st) fa cdv callerA [] t H E0).nox (defBody st) r ∧ r { nx := fun _ _ => False, rt := fun v _ => v = .bl true } (start N [.ref a]) H) :
    codeAny (model P w) callerA (.call (.ref fa) ⟨[.ref a], []⟩) (fun r s' => r = .ok (.ret (.bool true)) ∧ OldK t.heap s'.heap ∧ s'.os = t.os ∧ AllBare s'.gens) t := by
  have rv := vals_ints nums
  obtain ⟨oc, od, kV, doc, pm, an, cdv, ct, osl, rfl, lk, hcd⟩ := F.ex
  have hcv : cdv = .ref c := hcode
  have aT : a ≠ Tt := fun z => by
    rw [z, tT] at arg
    cases arg
  have go : ∀ H : Hp, (∀ b, H b = none ∨ b = Tt ∨ (b = a ∧ ∃ o xs, H b = some (.frz o (.lst xs)))) → H Tt = some (.tbl #[]) → SqL K H a (ns.map V.int) → HOk P w H t.heap → (H a ≠ none → K.lookup a = none) →
      codeAny (model P w) callerA (.call (.ref fa) ⟨[.ref a], []⟩) (fun r s' => r = .ok (.ret (.bool true)) ∧ OldK t.heap s'.heap ∧ s'.os = t.os ∧ AllBare s'.gens) t := by
    intro H only hTt sq hok apart
    have hid : ∀ {b : Addr} {o : Obj}, t.heap.get? b = some o → H b = none → (hidT t.heap H).get? b = some o := fun e n => hidT_get e n
    have free : ∀ {b : Addr} {o : Obj} {es : Array DictEntry} {ep : Nat}, t.heap.get? b = some o → o.data = .dict es ep → H b = none := by
      intro b o es ep e d
      rcases only b with z | rfl | ⟨rfl, _⟩
      · exact z
      · rw [tT] at e
        cases e
        exact nomatch (show Data.fields #[] = Data.dict es ep from d)
      · rw [arg] at e
        cases e
        exact nomatch (show Data.seq us.toArray _ = Data.dict es ep from d)
    have space : ∀ {b : Addr} {m : Str → Option Value}, t.heap.Ns b m → (hidT t.heap H).Ns b m := by
      rintro b m ⟨o, es, ep, e, d, r⟩
      exact ⟨o, es, ep, hid e (free e d), d, r⟩
    have kb : K.In (hidT t.heap H) := by
      intro b o e
      refine hid (kin b o e) ?_
      rcases only b with z | rfl | ⟨rfl, z⟩
      · exact z
      · rw [nT] at e
        cases e
      · obtain ⟨_, _, z⟩ := z
        rw [apart (by rw [z]; exact fun q => nomatch q)] at e
        cases e
    have md : Mod K mg (hidT t.heap H) := by
      refine ⟨kb, space glob, ⟨mb, space blt, bbb⟩, ?_⟩
      obtain ⟨mc, e1, e2⟩ := lim
      exact ⟨mc, space e1, e2⟩
    have tb : TabB (hidT t.heap H) mg c Tt := by
      refine ⟨?_, ?_, fun z => ?_⟩
      · obtain ⟨o, vs, file, tf, flags, tg, inF, text, tt, u1, u2, u3, u4, u5, u6, u7, u8, u9, u10⟩ := CH
        refine ⟨o, vs, file, tf, flags, tg, inF, text, tt, hid u1 ?_, u2, u3, u4, u5, u6, u7, u8, u9, u10⟩
        rcases only c with z | z | ⟨z, _⟩
        · exact z
        · exact absurd z u10
        · rw [z, arg] at u1
          cases u1
          cases u3
      · obtain ⟨bm, ob, w1, w2, w3, w4, w5, w6⟩ := hbm
        have nG : bm ≠ mainGlobals := fun q => by
          obtain ⟨o, es, ep, e, hd, _⟩ := glob
          rw [q, e] at w3
          cases w3
          rw [hd] at w6
          cases w6
        have nTb : bm ≠ Tt := fun q => by
          rw [q, tT] at w3
          cases w3
          cases w6
        refine ⟨bm, ob, w1, w2, nG, nTb, hid w3 ?_, w4, w5, w6⟩
        rcases only bm with z | z | ⟨z, _⟩
        · exact z
        · exact absurd z nTb
        · rw [z, arg] at w3
          cases w3
          cases w6
      · obtain ⟨o, es, ep, e, hd, _⟩ := glob
        rw [z, tT] at e
        cases e
        cases hd
    have env : Env0 P w K mg (hidT t.heap H) callerA [] t H :=
      { frames := rfl, mod := md, bs := fun b o e => of_hidT e, bsz := Nat.le_of_eq (hidT_size _ _), funs := trivial, frf := fun b hb => (nomatch (show b ∈ ([] : List Addr) from hb)), hok := hok, bare := .of_eq gens }
    refine codeAny_mono (LamX.run_ofS (CX := CX0) (Q := fun v _ => v = .bl true) (E := E0) (vs := [.ref a]) (us := [.ref a]) lk hcd S room env (bnd t (.ref a)) (.cons rfl .nil) rfl fun hr => ?_) ?_
    · obtain ⟨r, h1, h2⟩ := body _ cdv H kb (space glob) tb hcv hTt sq hr
      refine ⟨r, h1.nox, ?_⟩
      have e : (fun (_ : L2.St) (H' : Hp) => (V.non : V) = .bl true) = fun _ _ => False := by
        funext _ _
        exact propext ⟨(fun z => nomatch z), False.elim⟩
      show r { nx := fun (_ : L2.St) (H' : Hp) => (V.non : V) = .bl true, rt := fun v _ => v = .bl true } _ _
      rw [e]
      exact h2
    · intro r s' z
      cases r with
      | error e => exact (show False from z).elim
      | ok fl =>
        cases fl with
        | ret u =>
          obtain ⟨v, H', os, bare, un, hok', rl, q⟩ := z
          cases (show v = .bl true from q)
          cases (show u = Value.bool true from rl)
          have same : ∀ b o, b ≠ Tt → t.heap.get? b = some o → s'.heap.get? b = some o := fun b o nb e => by
            rcases only b with n | z | ⟨_, ob, xs, n⟩
            · exact un.keep b o e n (fun z => (nomatch (show b ∈ ([] : List Addr) from z))) (fun z => nomatch z)
            · exact absurd z nb
            · obtain ⟨e1, _⟩ := hok b _ n
              obtain ⟨e2, _⟩ := hok' b _ (un.frzs b ob _ n)
              rw [e] at e1
              cases e1
              exact e2
          obtain ⟨more, zt⟩ := un.tbls Tt #[] hTt
          have grown : s'.heap.get? Tt = some { cls := .none, data := .fields (#[] ++ more) } := hok' Tt _ zt
          refine ⟨rfl, ⟨fun b o e => ?_, fun b o e => ?_⟩, os, bare⟩
          · by_cases hb : b = Tt
            · rw [hb] at e ⊢
              rw [tT] at e
              cases e
              exact .inr (.inl ⟨(CH.tab tT).isCodeTable, rfl, #[], more, rfl, grown⟩)
            · exact .inl (same b o hb e)
          · by_cases hb : b = Tt
            · rw [hb]
              exact ⟨_, grown⟩
            · exact ⟨o, same b o hb e⟩
        | next => exact (show False from z).elim
        | brk => exact (show False from z).elim
        | cont => exact (show False from z).elim
  cases hk : K.lookup a with
  | some o =>
    have e := kin a o hk
    rw [arg] at e
    cases e
    refine go (fun b => if b = Tt then some (.tbl #[]) else none) (fun b => ?_) (if_pos rfl) (.inr ⟨_, us.toArray, _, hk, rfl, rfl, rfl, by rw [List.size_toArray, nums.length]; exact len, by simpa using rv⟩) (fun b u z => ?_) (fun z => absurd (if_neg aT) z)
    · by_cases q : b = Tt
      · exact .inr (.inl q)
      · exact .inl (if_neg q)
    · by_cases q : b = Tt
      · cases (if_pos q).symm.trans z
        rw [q]
        exact tT
      · cases (if_neg q).symm.trans z
  | none =>
    refine go (fun b => if b = a then some (.frz { cls := .type "list", data := .seq us.toArray } (.lst (ns.map V.int))) else if b = Tt then some (.tbl #[]) else none) (fun b => ?_) ((if_neg (Ne.symm aT)).trans (if_pos rfl)) (.inl (.inr ⟨_, if_pos rfl⟩)) (fun b u z => ?_) fun _ => hk
    · by_cases q : b = a
      · exact .inr (.inr ⟨q, _, _, if_pos q⟩)
      · by_cases q2 : b = Tt
        · exact .inr (.inl q2)
        · exact .inl ((if_neg q).trans (if_neg q2))
    · by_cases q : b = a
      · cases (if_pos q).symm.trans z
        subst q
        exact ⟨arg, by rw [List.length_map]; exact len, us, _, rv, arg⟩
      · have z := (if_neg q).symm.trans z
        by_cases q2 : b = Tt
        · cases (if_pos q2).symm.trans z
          rw [q2]
          exact tT
        · cases (if_neg q2).symm.trans z
/-- the goal that k_head leaves, of a law that makes lambdas -/
theorem walk_lawT {l : PySem.W.OpenLaw} {n k : Nat} {q : Program} {loose : List Str} {XP : (Str → Option Value) → Heap → Prop} {YP : World → Heap → Prop} {d : DefRec} {K : Params → PySem.W.Frag} {st : Stmt} {N : List Str}
    (most : l.most = some n) (small : n ≤ sizeLine) (nodef : d.params.defaults = []) (room : Room (k + 1) callerA) (hrec : ((recsOf q).any fun e => e.name == d.name) = true) (S : FnScope N ["script"] (defScope st)) (ky : ∀ (w : World) (h : Heap), YP w h → (K w.params).In h)
    (F : ∀ (w : World) (mg : Str → Option Value) (fa : Addr) (h : Heap), (K w.params).In h → h.Ns mainGlobals mg → mg d.name = some (.ref fa) →
      ∃ (fd : FuncData) (c Tt : Addr), Fun (K w.params) "law" "law" st fa fd ∧ (∀ (s : Shared) (u : Value), BindsTo s fd ⟨[u], []⟩ [("script", u)]) ∧ fd.code = .ref c ∧ (K w.params).lookup Tt = none ∧ PySem.W.tabIn (K w.params) d.name = some (c, Tt) ∧
        ∀ (t : Shared) (base : Heap) (cdv : Value) (H : Hp) (a : Addr) (ns : List Int), (K w.params).In base → base.Ns mainGlobals mg → TabB base mg c Tt → cdv = .ref c → H Tt = some (.tbl #[]) → ns.length ≤ n → SqL (K w.params) H a (ns.map V.int) → Room k (callerA.deeper (envOfC "law" (defScope st) t.heap.objs.size fa cdv)) →
          ∃ r, PSs (cxOf CX0 l.prog w (K w.params) mg base N "law" (defScope st) fa cdv callerA [] t H E0).nox (defBody st) r ∧ r { nx := fun _ _ => False, rt := fun v _ => v = .bl true } (start N [.ref a]) H) :
    PySem.W.WalkO q loose XP YP l.row.toRowW d [] (fun f vs => PySem.call f vs) := by
  refine Att.attach_call most nodef ?_
  intro w s₀ t mg mb fa o pm cd doc a vs ns G Y ho hd hcd hmg hobj hints hlen hg
  obtain ⟨fd, c, Tt, h1, h2, h3, h4, h5, h6⟩ := F w mg fa _ (ky w _ Y) G.T.g hmg
  have hfind : ∃ d', (recsOf q).find? (fun e => e.name == d.name) = some d' := by
    cases e : (recsOf q).find? (fun e => e.name == d.name) with
    | some d' => exact ⟨d', rfl⟩
    | none =>
      obtain ⟨x, hx, hy⟩ := List.any_eq_true.mp hrec
      exact absurd hy (List.find?_eq_none.mp e x hx)
  obtain ⟨d', hd'⟩ := hfind
  obtain ⟨CH, tT⟩ := PySem.W.tab_of G.T (ky w _ Y) hd' h5
  exact run_lawT h1 S h2 (ky w _ Y) G.T.g G.T.b G.T.builtins G.T.nolimit hg hobj hints (Nat.le_trans hlen small) room h3 tT h4 CH G.T.bmain fun base cdv H kb nb tb hc hT sq hr => h6 t base cdv H a ns kb nb tb hc hT hlen sq hr
end Bay
set_option Elab.async false
set_option linter.all false
set_option maxRecDepth 100000
set_option maxHeartbeats 8000000
namespace Bay
open PySem PySem.Spec PyProof.Rows L2 Err Seg
open LamX (TabB)
theorem sup_mk {K : PySem.W.Frag} {F C : Addr} {x q xF qF : Str} {N NF : Addr} {bs sub bsF subF : List Value} {sn snF : List Str} {ab abF : Bool} {col colF : Option Bool} {dd ddF : Option Addr} {k0 k1 k2 k3 k5 j0 j1 j2 j3 j5 : Option Value} {r : Option (Option Value)}
    (l : K.lookup C = some (excClassObj x q C N bs (.ref F :: veT) true sn sub ab col dd k0 k1 k2 k3 k5 "ValueError.__new__")) (lF : K.lookup F = some (excClassObj xF qF F NF bsF veT true snF subF abF colF ddF j0 j1 j2 j3 j5 "ValueError.__new__"))
    (fi : PySem.W.findIn K (.ref F) "__init__" = r) : PySem.W.ks_superIn K C C "__init__" = r := by
  rw [← fi]
  have e : PySem.W.clsIn K C = some { name := x, bases := bs, mro := .ref C :: .ref F :: veT, ns := N, qualname := q, hasDict := true, slotNames := sn, subclasses := sub, abstract := ab, collection := col, hasDel := false } := by
    unfold PySem.W.clsIn
    rw [l] <;> rfl
  have a : PySem.W.findIn K (.ref F) "__init__" = PySem.W.alongIn K "__init__" (.ref F :: veT) := by
    show (match K.lookup F with | some ⟨_, _, .cls cd, _⟩ => PySem.W.alongIn K "__init__" cd.mro | _ => none) = _
    rw [lF] <;> rfl
  rw [a]
  unfold PySem.W.ks_superIn
  rw [e, Option.bind_some]
  show PySem.W.alongIn K "__init__" (List.drop 1 (List.dropWhile (fun z => z != .ref C) (.ref C :: .ref F :: veT))) = _
  have d : ((Value.ref C) != .ref C) = false := by simp
  rw [List.dropWhile_cons, if_neg (by rw [d]; exact Bool.false_ne_true)]
  rfl
/-- a class's facts, as they stand in the written part -/
theorem ec_mk {P : Program} {K : PySem.W.Frag} {h : Heap} {mg : Str → Option Value} {F C fI cc cda : Addr} {x qual q : Str} {st : Stmt} {N : Addr} {bs sub : List Value} {sn : List Str} {ab : Bool} {col : Option Bool} {dd : Option Addr} {k0 k1 k2 k3 k5 : Option Value}
    {xF qF : Str} {NF : Addr} {bsF subF : List Value} {snF : List Str} {abF : Bool} {colF : Option Bool} {ddF : Option Addr} {j0 j1 j2 j3 j5 : Option Value} {oc kV doc pm ct cl ccl : Value} {od an cld cdd : Option Addr} {osl csl ccs : Array (Option Value)} {vs : Array Value} {file : Str} {tf : Tok} (X : K.In h) (G : h.Ns mainGlobals mg)
    (a : PySem.W.nsIn K mainGlobals x = some (some (.ref C))) (l : K.lookup C = some (excClassObj x q C N bs (.ref F :: veT) true sn sub ab col dd k0 k1 k2 k3 k5 "ValueError.__new__"))
    (sa : PySem.W.findIn K (.ref C) "__setattr__" = some (some (.builtin "object.__setattr__"))) (ga : PySem.W.findIn K (.ref C) "__getattribute__" = some (some (.builtin "BaseException.__getattribute__"))) (gg : PySem.W.findIn K (.ref C) "__getattr__" = some none)
    (ha : PySem.W.findIn K (.ref C) "__class__" = some (some (.builtin "object.__class__"))) (kC : PySem.W.keepIn K (.ref C) = true) (lF : K.lookup F = some (excClassObj xF qF F NF bsF veT true snF subF abF colF ddF j0 j1 j2 j3 j5 "ValueError.__new__")) (fi : PySem.W.findIn K (.ref F) "__init__" = some (some (.builtin "ValueError.__init__")))
    (i : PySem.W.findIn K (.ref C) "__init__" = some (some (.ref fI))) (t : PySem.W.typeIn K (.ref fI) = some (.type "function"))
    (li : K.lookup fI = some ⟨oc, od, .func (PySem.W.ksFn "__init__" qual (L2.defArgs st) (L2.defBody st) (L2.defScope st) .none kV doc pm an (.ref cda) ct cc), osl⟩) (ci : PySem.W.codeIn K (.ref cda) qual = true)
    (lc : K.lookup cc = some ⟨cl, cld, .cell (some (.ref C)), csl⟩) (ld : K.lookup cda = some ⟨ccl, cdd, .fields vs, ccs⟩) (v2 : vs[2]? = some (.str file tf)) (fe : ((P.main.file : Str) == file) = true) : EC P K mg F x qual st C :=
  ⟨PySem.W.mg_of X G a, ⟨_, _, _, _, _, _, _, _, _, _, _, _, _, l⟩, sa, ga, gg, ha, kC, sup_mk l lF fi, ⟨_, _, _, _, _, _, _, _, _, _, _, i, t, li, ci, ⟨_, _, _, lc⟩, _, _, _, _, _, _, ld, v2, fe⟩⟩
theorem base_mk {K : PySem.W.Frag} {h : Heap} {mg : Str → Option Value} {F : Addr} {x q : Str} {N : Addr} {bs sub : List Value} {sn : List Str} {ab : Bool} {col : Option Bool} {dd : Option Addr} {k0 k1 k2 k3 k5 : Option Value} (X : K.In h) (G : h.Ns mainGlobals mg)
    (a : PySem.W.nsIn K mainGlobals x = some (some (.ref F))) (l : K.lookup F = some (excClassObj x q F N bs veT true sn sub ab col dd k0 k1 k2 k3 k5 "ValueError.__new__"))
    (op : PySem.W.nsIn K PySem.cStatics "thirdparty.any" = some none) (hn : PySem.W.specialIn K (.builtin "object.__class__") "__get__" = some (some (.builtin "getset_descriptor.__get__"))) (ht : PySem.W.takesIn K (.builtin "object.__class__") = some true) : Base K mg x F :=
  ⟨PySem.W.mg_of X G a, ⟨_, _, _, _, _, _, _, _, _, _, _, _, _, l⟩, op, hn, ht⟩
theorem cls_mk {P : Program} {K : PySem.W.Frag} {mg : Str → Option Value} {F C2 C3 : Addr} (B : Base K mg "FenceError" F) (sup : mg "super" = none) (tp : (P.main.scope.names.lookup ("super" : Str)).isSome = false)
    (c2 : EC P K mg F "BadPoint" "BadPoint.__init__" (ini 2) C2) (n2 : PySem.W.findIn K (.ref C2) "part" = some none) (c3 : EC P K mg F "Misfit" "Misfit.__init__" (ini 3) C3) (n3 : PySem.W.findIn K (.ref C3) "part" = some none) : Cl2 P K mg F C2 C3 :=
  ⟨B, sup, tp, c2, n2, c3, n3⟩
theorem vals_rev {zs : List V} {ws : List Value} (r : Vals zs ws) : Vals zs.reverse ws.reverse := by
  induction r with
  | nil => exact .nil
  | cons a _ ih =>
    rw [List.reverse_cons, List.reverse_cons]
    exact ih.append (.cons a .nil)
theorem tab_mk {K : PySem.W.Frag} {f c P : Addr} {x : Str} {oc e : Value} {od dd : Option Addr} {fd : FuncData} {osl sl : Array (Option Value)} {vs : Array Value} (a : PySem.W.nsIn K mainGlobals x = some (some (.ref f))) (l : K.lookup f = some ⟨oc, od, .func fd, osl⟩) (hc : fd.code = .ref c)
    (k : K.lookup c = some ⟨e, dd, .fields vs, sl⟩) (v : vs[11]? = some (.ref P)) : PySem.W.tabIn K x = some (c, P) := by
  unfold PySem.W.tabIn
  simp only [a, l, hc, k, v]
theorem all_mk {l : PySem.W.OpenLaw} {w : World} {K : PySem.W.Frag} {h : Heap} {mg : Str → Option Value} {fa F C2 C3 cL Tt f5 f6 f8 f10 f11 f12 f13 f14 f15 f17 f18 f19 f20 f21 f22 f23 f24 f25 : Addr} (X : K.In h) (G : h.Ns mainGlobals mg) (hfa : mg "law" = some (.ref fa))
    {od5 an5 od6 an6 od8 an8 od10 an10 od11 an11 od12 an12 od13 an13 od14 an14 od15 an15 od17 an17 od18 an18 od19 an19 od20 an20 od21 an21 od22 an22 od23 an23 od24 an24 od25 an25 odc : Option Addr} {sl5 sl6 sl8 sl10 sl11 sl12 sl13 sl14 sl15 sl17 sl18 sl19 sl20 sl21 sl22 sl23 sl24 sl25 slc : Array (Option Value)} {vsc : Array Value} {oc5 kV5 dc5 pm5 cd5 ct5 oc6 kV6 dc6 pm6 cd6 ct6 oc8 kV8 dc8 pm8 cd8 ct8 oc10 kV10 dc10 pm10 cd10 ct10 oc11 kV11 dc11 pm11 cd11 ct11 oc12 kV12 dc12 pm12 cd12 ct12 oc13 kV13 dc13 pm13 cd13 ct13 oc14 kV14 dc14 pm14 cd14 ct14 oc15 kV15 dc15 pm15 cd15 ct15 oc17 kV17 dc17 pm17 cd17 ct17 oc18 kV18 dc18 pm18 cd18 ct18 oc19 kV19 dc19 pm19 cd19 ct19 oc20 kV20 dc20 pm20 cd20 ct20 oc21 kV21 dc21 pm21 cd21 ct21 oc22 kV22 dc22 pm22 cd22 ct22 oc23 kV23 dc23 pm23 cd23 ct23 oc24 kV24 dc24 pm24 cd24 ct24 oc25 kV25 dc25 pm25  ct25 occ : Value}
    (a5 : PySem.W.nsIn K mainGlobals "is_integer" = some (some (.ref f5))) (l5 : K.lookup f5 = some ⟨oc5, od5, .func (PySem.W.fnOf "is_integer" "is_integer" (defArgs sInt) (defBody sInt) (defScope sInt) .none kV5 dc5 pm5 an5 cd5 ct5), sl5⟩) (c5 : PySem.W.codeIn K cd5 "is_integer" = true) (k5 : PySem.W.keepIn K (.ref f5) = true)
    (a6 : PySem.W.nsIn K mainGlobals "is_point" = some (some (.ref f6))) (l6 : K.lookup f6 = some ⟨oc6, od6, .func (PySem.W.fnOf "is_point" "is_point" (defArgs sPoint) (defBody sPoint) (defScope sPoint) .none kV6 dc6 pm6 an6 cd6 ct6), sl6⟩) (c6 : PySem.W.codeIn K cd6 "is_point" = true) (k6 : PySem.W.keepIn K (.ref f6) = true)
    (a8 : PySem.W.nsIn K mainGlobals "want_point" = some (some (.ref f8))) (l8 : K.lookup f8 = some ⟨oc8, od8, .func (PySem.W.fnOf "want_point" "want_point" (defArgs sWant) (defBody sWant) (defScope sWant) .none kV8 dc8 pm8 an8 cd8 ct8), sl8⟩) (c8 : PySem.W.codeIn K cd8 "want_point" = true) (k8 : PySem.W.keepIn K (.ref f8) = true)
    (a10 : PySem.W.nsIn K mainGlobals "cross_of" = some (some (.ref f10))) (l10 : K.lookup f10 = some ⟨oc10, od10, .func (PySem.W.fnOf "cross_of" "cross_of" (defArgs sCross) (defBody sCross) (defScope sCross) .none kV10 dc10 pm10 an10 cd10 ct10), sl10⟩) (c10 : PySem.W.codeIn K cd10 "cross_of" = true) (k10 : PySem.W.keepIn K (.ref f10) = true)
    (a11 : PySem.W.nsIn K mainGlobals "side_of" = some (some (.ref f11))) (l11 : K.lookup f11 = some ⟨oc11, od11, .func (PySem.W.fnOf "side_of" "side_of" (defArgs sSide) (defBody sSide) (defScope sSide) .none kV11 dc11 pm11 an11 cd11 ct11), sl11⟩) (c11 : PySem.W.codeIn K cd11 "side_of" = true) (k11 : PySem.W.keepIn K (.ref f11) = true)
    (a12 : PySem.W.nsIn K mainGlobals "boxes_meet" = some (some (.ref f12))) (l12 : K.lookup f12 = some ⟨oc12, od12, .func (PySem.W.fnOf "boxes_meet" "boxes_meet" (defArgs sBoxes) (defBody sBoxes) (defScope sBoxes) .none kV12 dc12 pm12 an12 cd12 ct12), sl12⟩) (c12 : PySem.W.codeIn K cd12 "boxes_meet" = true) (k12 : PySem.W.keepIn K (.ref f12) = true)
    (a13 : PySem.W.nsIn K mainGlobals "are_beside" = some (some (.ref f13))) (l13 : K.lookup f13 = some ⟨oc13, od13, .func (PySem.W.fnOf "are_beside" "are_beside" (defArgs sBeside) (defBody sBeside) (defScope sBeside) .none kV13 dc13 pm13 an13 cd13 ct13), sl13⟩) (c13 : PySem.W.codeIn K cd13 "are_beside" = true) (k13 : PySem.W.keepIn K (.ref f13) = true)
    (a14 : PySem.W.nsIn K mainGlobals "stretches_meet" = some (some (.ref f14))) (l14 : K.lookup f14 = some ⟨oc14, od14, .func (PySem.W.fnOf "stretches_meet" "stretches_meet" (defArgs sMeet) (defBody sMeet) (defScope sMeet) .none kV14 dc14 pm14 an14 cd14 ct14), sl14⟩) (c14 : PySem.W.codeIn K cd14 "stretches_meet" = true) (k14 : PySem.W.keepIn K (.ref f14) = true)
    (a15 : PySem.W.nsIn K mainGlobals "do_meet" = some (some (.ref f15))) (l15 : K.lookup f15 = some ⟨oc15, od15, .func (PySem.W.fnOf "do_meet" "do_meet" (defArgs sDo) (defBody sDo) (defScope sDo) .none kV15 dc15 pm15 an15 cd15 ct15), sl15⟩) (c15 : PySem.W.codeIn K cd15 "do_meet" = true) (k15 : PySem.W.keepIn K (.ref f15) = true)
    (a17 : PySem.W.nsIn K mainGlobals "_law_keg" = some (some (.ref f17))) (l17 : K.lookup f17 = some ⟨oc17, od17, .func (PySem.W.fnOf "_law_keg" "_law_keg" (defArgs sDune) (defBody sDune) (defScope sDune) .none kV17 dc17 pm17 an17 cd17 ct17), sl17⟩) (c17 : PySem.W.codeIn K cd17 "_law_keg" = true) (k17 : PySem.W.keepIn K (.ref f17) = true)
    (a18 : PySem.W.nsIn K mainGlobals "_law_pour" = some (some (.ref f18))) (l18 : K.lookup f18 = some ⟨oc18, od18, .func (PySem.W.fnOf "_law_pour" "_law_pour" (defArgs sDrift) (defBody sDrift) (defScope sDrift) .none kV18 dc18 pm18 an18 cd18 ct18), sl18⟩) (c18 : PySem.W.codeIn K cd18 "_law_pour" = true) (k18 : PySem.W.keepIn K (.ref f18) = true)
    (a19 : PySem.W.nsIn K mainGlobals "_law_pick" = some (some (.ref f19))) (l19 : K.lookup f19 = some ⟨oc19, od19, .func (PySem.W.fnOf "_law_pick" "_law_pick" (defArgs sPick) (defBody sPick) (defScope sPick) .none kV19 dc19 pm19 an19 cd19 ct19), sl19⟩) (c19 : PySem.W.codeIn K cd19 "_law_pick" = true) (k19 : PySem.W.keepIn K (.ref f19) = true)
    (a20 : PySem.W.nsIn K mainGlobals "_law_way" = some (some (.ref f20))) (l20 : K.lookup f20 = some ⟨oc20, od20, .func (PySem.W.fnOf "_law_way" "_law_way" (defArgs sWay) (defBody sWay) (defScope sWay) .none kV20 dc20 pm20 an20 cd20 ct20), sl20⟩) (c20 : PySem.W.codeIn K cd20 "_law_way" = true) (k20 : PySem.W.keepIn K (.ref f20) = true)
    (a21 : PySem.W.nsIn K mainGlobals "_law_cross" = some (some (.ref f21))) (l21 : K.lookup f21 = some ⟨oc21, od21, .func (PySem.W.fnOf "_law_cross" "_law_cross" (defArgs sLCross) (defBody sLCross) (defScope sLCross) .none kV21 dc21 pm21 an21 cd21 ct21), sl21⟩) (c21 : PySem.W.codeIn K cd21 "_law_cross" = true) (k21 : PySem.W.keepIn K (.ref f21) = true)
    (a22 : PySem.W.nsIn K mainGlobals "_law_point" = some (some (.ref f22))) (l22 : K.lookup f22 = some ⟨oc22, od22, .func (PySem.W.fnOf "_law_point" "_law_point" (defArgs sLPoint) (defBody sLPoint) (defScope sLPoint) .none kV22 dc22 pm22 an22 cd22 ct22), sl22⟩) (c22 : PySem.W.codeIn K cd22 "_law_point" = true) (k22 : PySem.W.keepIn K (.ref f22) = true)
    (a23 : PySem.W.nsIn K mainGlobals "_law_common" = some (some (.ref f23))) (l23 : K.lookup f23 = some ⟨oc23, od23, .func (PySem.W.fnOf "_law_common" "_law_common" (defArgs sCommon) (defBody sCommon) (defScope sCommon) .none kV23 dc23 pm23 an23 cd23 ct23), sl23⟩) (c23 : PySem.W.codeIn K cd23 "_law_common" = true) (k23 : PySem.W.keepIn K (.ref f23) = true)
    (a24 : PySem.W.nsIn K mainGlobals "_law_part" = some (some (.ref f24))) (l24 : K.lookup f24 = some ⟨oc24, od24, .func (PySem.W.fnOf "_law_part" "_law_part" (defArgs sPart) (defBody sPart) (defScope sPart) .none kV24 dc24 pm24 an24 cd24 ct24), sl24⟩) (c24 : PySem.W.codeIn K cd24 "_law_part" = true) (k24 : PySem.W.keepIn K (.ref f24) = true)
    (a25 : PySem.W.nsIn K mainGlobals "law" = some (some (.ref f25))) (l25 : K.lookup f25 = some ⟨oc25, od25, .func (PySem.W.fnOf "law" "law" (defArgs sLaw) (defBody sLaw) (defScope sLaw) .none kV25 dc25 pm25 an25 (.ref cL) ct25), sl25⟩) (c25 : PySem.W.codeIn K (.ref cL) "law" = true) (k25 : PySem.W.keepIn K (.ref f25) = true)
    (lc : K.lookup cL = some ⟨occ, odc, .fields vsc, slc⟩) (v11 : vsc[11]? = some (.ref Tt)) (nT : K.lookup Tt = none)
    (T : Cl2 l.prog K mg F C2 C3)
    (zint : PySem.W.nsIn K mainGlobals "int" = some none) (zlen : PySem.W.nsIn K mainGlobals "len" = some none) (zabs : PySem.W.nsIn K mainGlobals "abs" = some none) (zrange : PySem.W.nsIn K mainGlobals "range" = some none) (ztuple : PySem.W.nsIn K mainGlobals "tuple" = some none) (zisinstance : PySem.W.nsIn K mainGlobals "isinstance" = some none) (zbool : PySem.W.nsIn K mainGlobals "bool" = some none) (zlist : PySem.W.nsIn K mainGlobals "list" = some none) (zmax : PySem.W.nsIn K mainGlobals "max" = some none) (zmin : PySem.W.nsIn K mainGlobals "min" = some none) (zrepr : PySem.W.nsIn K mainGlobals "repr" = some none) :
    ∃ (fd : FuncData) (c Tt : Addr), Fun K "law" "law" sLaw fa fd ∧ (∀ (s : Shared) (u : Value), BindsTo s fd ⟨[u], []⟩ [("script", u)]) ∧ fd.code = .ref c ∧ K.lookup Tt = none ∧ PySem.W.tabIn K "law" = some (c, Tt) ∧
      ∀ (t : Shared) (base : Heap) (cdv : Value) (H : Hp) (a : Addr) (ns : List Int), K.In base → base.Ns mainGlobals mg → TabB base mg c Tt → cdv = .ref c → H Tt = some (.tbl #[]) → ns.length ≤ 63 → SqL K H a (ns.map V.int) → Room 6 (callerA.deeper (envOfC "law" (defScope sLaw) t.heap.objs.size fa cdv)) →
        ∃ r, PSs (cxOf CX0 l.prog w K mg base nLaw "law" (defScope sLaw) fa cdv callerA [] t H E0).nox (defBody sLaw) r ∧ r { nx := fun _ _ => False, rt := fun v _ => v = .bl true } (start nLaw [.ref a]) H := by
  have e := hfa.symm.trans (PySem.W.mg_of X G a25)
  cases e
  have F5 := fun_mk (st := sInt) l5 c5 k5
  have F6 := fun_mk (st := sPoint) l6 c6 k6
  have F8 := fun_mk (st := sWant) l8 c8 k8
  have F10 := fun_mk (st := sCross) l10 c10 k10
  have F11 := fun_mk (st := sSide) l11 c11 k11
  have F12 := fun_mk (st := sBoxes) l12 c12 k12
  have F13 := fun_mk (st := sBeside) l13 c13 k13
  have F14 := fun_mk (st := sMeet) l14 c14 k14
  have F15 := fun_mk (st := sDo) l15 c15 k15
  have F17 := fun_mk (st := sDune) l17 c17 k17
  have F18 := fun_mk (st := sDrift) l18 c18 k18
  have F19 := fun_mk (st := sPick) l19 c19 k19
  have F20 := fun_mk (st := sWay) l20 c20 k20
  have F21 := fun_mk (st := sLCross) l21 c21 k21
  have F22 := fun_mk (st := sLPoint) l22 c22 k22
  have F23 := fun_mk (st := sCommon) l23 c23 k23
  have F24 := fun_mk (st := sPart) l24 c24 k24
  have F25 := fun_mk (st := sLaw) l25 c25 k25
  have B : BltL mg := { int := PySem.W.mg_none_of X G zint, len := PySem.W.mg_none_of X G zlen, abs := PySem.W.mg_none_of X G zabs, range := PySem.W.mg_none_of X G zrange, tuple := PySem.W.mg_none_of X G ztuple, isi := PySem.W.mg_none_of X G zisinstance, bool := PySem.W.mg_none_of X G zbool, list := PySem.W.mg_none_of X G zlist, mx := PySem.W.mg_none_of X G zmax, mn := PySem.W.mg_none_of X G zmin, repr := PySem.W.mg_none_of X G zrepr }
  have L : Defs K mg (fun i => [f5, f6, 0, f8, 0, f10, f11, f12, f13, f14, f15, 0, f17, f18, f19, f20, f21, f22, f23, f24].getD (i - 5) 0) (fun i => [PySem.W.fnOf "is_integer" "is_integer" (defArgs sInt) (defBody sInt) (defScope sInt) .none kV5 dc5 pm5 an5 cd5 ct5, PySem.W.fnOf "is_point" "is_point" (defArgs sPoint) (defBody sPoint) (defScope sPoint) .none kV6 dc6 pm6 an6 cd6 ct6, PySem.W.fnOf "is_integer" "is_integer" (defArgs sInt) (defBody sInt) (defScope sInt) .none kV5 dc5 pm5 an5 cd5 ct5, PySem.W.fnOf "want_point" "want_point" (defArgs sWant) (defBody sWant) (defScope sWant) .none kV8 dc8 pm8 an8 cd8 ct8, PySem.W.fnOf "is_integer" "is_integer" (defArgs sInt) (defBody sInt) (defScope sInt) .none kV5 dc5 pm5 an5 cd5 ct5, PySem.W.fnOf "cross_of" "cross_of" (defArgs sCross) (defBody sCross) (defScope sCross) .none kV10 dc10 pm10 an10 cd10 ct10, PySem.W.fnOf "side_of" "side_of" (defArgs sSide) (defBody sSide) (defScope sSide) .none kV11 dc11 pm11 an11 cd11 ct11, PySem.W.fnOf "boxes_meet" "boxes_meet" (defArgs sBoxes) (defBody sBoxes) (defScope sBoxes) .none kV12 dc12 pm12 an12 cd12 ct12, PySem.W.fnOf "are_beside" "are_beside" (defArgs sBeside) (defBody sBeside) (defScope sBeside) .none kV13 dc13 pm13 an13 cd13 ct13, PySem.W.fnOf "stretches_meet" "stretches_meet" (defArgs sMeet) (defBody sMeet) (defScope sMeet) .none kV14 dc14 pm14 an14 cd14 ct14, PySem.W.fnOf "do_meet" "do_meet" (defArgs sDo) (defBody sDo) (defScope sDo) .none kV15 dc15 pm15 an15 cd15 ct15, PySem.W.fnOf "is_integer" "is_integer" (defArgs sInt) (defBody sInt) (defScope sInt) .none kV5 dc5 pm5 an5 cd5 ct5, PySem.W.fnOf "_law_keg" "_law_keg" (defArgs sDune) (defBody sDune) (defScope sDune) .none kV17 dc17 pm17 an17 cd17 ct17, PySem.W.fnOf "_law_pour" "_law_pour" (defArgs sDrift) (defBody sDrift) (defScope sDrift) .none kV18 dc18 pm18 an18 cd18 ct18, PySem.W.fnOf "_law_pick" "_law_pick" (defArgs sPick) (defBody sPick) (defScope sPick) .none kV19 dc19 pm19 an19 cd19 ct19, PySem.W.fnOf "_law_way" "_law_way" (defArgs sWay) (defBody sWay) (defScope sWay) .none kV20 dc20 pm20 an20 cd20 ct20, PySem.W.fnOf "_law_cross" "_law_cross" (defArgs sLCross) (defBody sLCross) (defScope sLCross) .none kV21 dc21 pm21 an21 cd21 ct21, PySem.W.fnOf "_law_point" "_law_point" (defArgs sLPoint) (defBody sLPoint) (defScope sLPoint) .none kV22 dc22 pm22 an22 cd22 ct22, PySem.W.fnOf "_law_common" "_law_common" (defArgs sCommon) (defBody sCommon) (defScope sCommon) .none kV23 dc23 pm23 an23 cd23 ct23, PySem.W.fnOf "_law_part" "_law_part" (defArgs sPart) (defBody sPart) (defScope sPart) .none kV24 dc24 pm24 an24 cd24 ct24].getD (i - 5) (PySem.W.fnOf "is_integer" "is_integer" (defArgs sInt) (defBody sInt) (defScope sInt) .none kV5 dc5 pm5 an5 cd5 ct5)) :=
    { F5 := F5, g5 := PySem.W.mg_of X G a5, F6 := F6, g6 := PySem.W.mg_of X G a6, F8 := F8, g8 := PySem.W.mg_of X G a8, F10 := F10, g10 := PySem.W.mg_of X G a10, F11 := F11, g11 := PySem.W.mg_of X G a11, F12 := F12, g12 := PySem.W.mg_of X G a12, F13 := F13, g13 := PySem.W.mg_of X G a13, F14 := F14, g14 := PySem.W.mg_of X G a14, F15 := F15, g15 := PySem.W.mg_of X G a15, F17 := F17, g17 := PySem.W.mg_of X G a17, F18 := F18, g18 := PySem.W.mg_of X G a18, F19 := F19, g19 := PySem.W.mg_of X G a19, F20 := F20, g20 := PySem.W.mg_of X G a20, F21 := F21, g21 := PySem.W.mg_of X G a21, F22 := F22, g22 := PySem.W.mg_of X G a22, F23 := F23, g23 := PySem.W.mg_of X G a23,
      b5 := F5.binds (ps := ["value"]) fun _ _ _ _ _ _ us hl => match us, hl with | [_], _ => rfl,
      b6 := F6.binds (ps := ["value"]) fun _ _ _ _ _ _ us hl => match us, hl with | [_], _ => rfl,
      b8 := F8.binds (ps := ["value", "part"]) fun _ _ _ _ _ _ us hl => match us, hl with | [_, _], _ => rfl,
      b10 := F10.binds (ps := ["one", "other", "point"]) fun _ _ _ _ _ _ us hl => match us, hl with | [_, _, _], _ => rfl,
      b11 := F11.binds (ps := ["one", "other", "point"]) fun _ _ _ _ _ _ us hl => match us, hl with | [_, _, _], _ => rfl,
      b12 := F12.binds (ps := ["one", "other", "third", "fourth"]) fun _ _ _ _ _ _ us hl => match us, hl with | [_, _, _, _], _ => rfl,
      b13 := F13.binds (ps := ["one", "other", "third", "fourth"]) fun _ _ _ _ _ _ us hl => match us, hl with | [_, _, _, _], _ => rfl,
      b14 := F14.binds (ps := ["one", "other", "third", "fourth"]) fun _ _ _ _ _ _ us hl => match us, hl with | [_, _, _, _], _ => rfl,
      b15 := F15.binds (ps := ["one", "other", "third", "fourth"]) fun _ _ _ _ _ _ us hl => match us, hl with | [_, _, _, _], _ => rfl,
      b17 := F17.binds (ps := ["script"]) fun _ _ _ _ _ _ us hl => match us, hl with | [_], _ => rfl,
      b18 := F18.binds (ps := ["keg", "many"]) fun _ _ _ _ _ _ us hl => match us, hl with | [_, _], _ => rfl,
      b19 := F19.binds (ps := ["keg", "some"]) fun _ _ _ _ _ _ us hl => match us, hl with | [_, _], _ => rfl,
      b20 := F20.binds (ps := ["one", "other"]) fun _ _ _ _ _ _ us hl => match us, hl with | [_, _], _ => rfl,
      b21 := F21.binds (ps := ["one", "other"]) fun _ _ _ _ _ _ us hl => match us, hl with | [_, _], _ => rfl,
      b22 := F22.binds (ps := ["keg", "far"]) fun _ _ _ _ _ _ us hl => match us, hl with | [_, _], _ => rfl,
      b23 := F23.binds (ps := ["one", "other", "third", "fourth"]) fun _ _ _ _ _ _ us hl => match us, hl with | [_, _, _, _], _ => rfl,
      n11 := kbn_of F11 (gg := fun ws => ws.reverse) (fun _ _ _ _ _ _ ws hl => match ws, hl with | [_, _, _], _ => rfl) (fun r => vals_rev r),
      n15 := kbn_of F15 (gg := fun ws => ws.reverse) (fun _ _ _ _ _ _ ws hl => match ws, hl with | [_, _, _, _], _ => rfl) (fun r => vals_rev r) }
  have b24 := F24.binds (ps := ["ask"]) fun _ _ _ _ _ _ us hl => match us, hl with | [_], _ => rfl
  exact ⟨_, cL, Tt, F25, fun s u => .of_eq rfl, rfl, nT, tab_mk a25 l25 rfl lc v11, fun t base cdv H a ns _ _ tb hc hT hl hS hr => law_body L F24 (PySem.W.mg_of X G a24) b24 T B tb hc hT hl hS hr⟩
end Bay
open PySem PySem.W PyProof.Rows
set_option maxRecDepth 100000 in
set_option maxHeartbeats 0 in
theorem PySem.Challenge.cw_baysout_k06_sides_and_stretches_that_mee_holds : PySem.Challenge.rw_baysout_k06_sides_and_stretches_that_mee.Holds := by
  w_on; o_law; k_head; (case hw => w_witness2)
  k_fill
  refine Bay.walk_lawT (l := PySem.Challenge.rw_baysout_k06_sides_and_stretches_that_mee) (n := 63) (k := 6) (st := Bay.sLaw) (N := Bay.nLaw) rfl (by decide) rfl ⟨rfl, by decide, by decide⟩ ?R Bay.scLaw (fun w h Y => PySem.W.km_in_of Y) ?F
  case R => first | rfl | decide +kernel
  case F =>
    intro w mg fa h KX G hmg
    refine' Bay.all_mk (l := PySem.Challenge.rw_baysout_k06_sides_and_stretches_that_mee) KX G hmg ?a5 ?l5 ?c5 ?k5 ?a6 ?l6 ?c6 ?k6 ?a8 ?l8 ?c8 ?k8 ?a10 ?l10 ?c10 ?k10 ?a11 ?l11 ?c11 ?k11 ?a12 ?l12 ?c12 ?k12 ?a13 ?l13 ?c13 ?k13 ?a14 ?l14 ?c14 ?k14 ?a15 ?l15 ?c15 ?k15 ?a17 ?l17 ?c17 ?k17 ?a18 ?l18 ?c18 ?k18 ?a19 ?l19 ?c19 ?k19 ?a20 ?l20 ?c20 ?k20 ?a21 ?l21 ?c21 ?k21 ?a22 ?l22 ?c22 ?k22 ?a23 ?l23 ?c23 ?k23 ?a24 ?l24 ?c24 ?k24 ?a25 ?l25 ?c25 ?k25 ?lc ?v11 ?nT
      (Bay.cls_mk (Bay.base_mk KX G ?aF ?lF ?op ?hn ?ht) (PySem.W.mg_none_of KX G ?zsuper) ?tp
        (Bay.ec_mk KX G ?ca2 ?cl2 ?cs2 ?cg2 ?ch2 ?cc2 ?ck2 ?lF ?fi ?ci2 ?ct2 ?cf2 ?cd2 ?ce2 ?cv2 ?cw2 ?cx2) ?n2
        (Bay.ec_mk KX G ?ca3 ?cl3 ?cs3 ?cg3 ?ch3 ?cc3 ?ck3 ?lF ?fi ?ci3 ?ct3 ?cf3 ?cd3 ?ce3 ?cv3 ?cw3 ?cx3) ?n3
      ) ?zint ?zlen ?zabs ?zrange ?ztuple ?zisinstance ?zbool ?zlist ?zmax ?zmin ?zrepr
    (case a5 => k_is); (case l5 => k_is); (case c5 => k_is); (case k5 => k_is)
    (case a6 => k_is); (case l6 => k_is); (case c6 => k_is); (case k6 => k_is)
    (case a8 => k_is); (case l8 => k_is); (case c8 => k_is); (case k8 => k_is)
    (case a10 => k_is); (case l10 => k_is); (case c10 => k_is); (case k10 => k_is)
    (case a11 => k_is); (case l11 => k_is); (case c11 => k_is); (case k11 => k_is)
    (case a12 => k_is); (case l12 => k_is); (case c12 => k_is); (case k12 => k_is)
    (case a13 => k_is); (case l13 => k_is); (case c13 => k_is); (case k13 => k_is)
    (case a14 => k_is); (case l14 => k_is); (case c14 => k_is); (case k14 => k_is)
    (case a15 => k_is); (case l15 => k_is); (case c15 => k_is); (case k15 => k_is)
    (case a17 => k_is); (case l17 => k_is); (case c17 => k_is); (case k17 => k_is)
    (case a18 => k_is); (case l18 => k_is); (case c18 => k_is); (case k18 => k_is)
    (case a19 => k_is); (case l19 => k_is); (case c19 => k_is); (case k19 => k_is)
    (case a20 => k_is); (case l20 => k_is); (case c20 => k_is); (case k20 => k_is)
    (case a21 => k_is); (case l21 => k_is); (case c21 => k_is); (case k21 => k_is)
    (case a22 => k_is); (case l22 => k_is); (case c22 => k_is); (case k22 => k_is)
    (case a23 => k_is); (case l23 => k_is); (case c23 => k_is); (case k23 => k_is)
    (case a24 => k_is); (case l24 => k_is); (case c24 => k_is); (case k24 => k_is)
    (case a25 => k_is); (case l25 => k_is); (case c25 => k_is); (case k25 => k_is)
    (case lc => k_is); (case v11 => rfl); (case nT => first | rfl | k_is | decide +kernel)
    (case aF => k_is); (case lF => k_is); (case fi => k_is); (case op => k_is); (case hn => k_is); (case ht => k_is); (case zsuper => k_is); (case tp => rfl)
    (case ca2 => k_is); (case cl2 => k_is); (case cs2 => k_is); (case cg2 => k_is); (case ch2 => k_is); (case cc2 => k_is); (case ck2 => k_is); (case ci2 => k_is); (case ct2 => k_is); (case cf2 => k_is); (case cd2 => k_is); (case ce2 => k_is); (case cv2 => k_is); (case cw2 => rfl); (case cx2 => rfl); (case n2 => k_is)
    (case ca3 => k_is); (case cl3 => k_is); (case cs3 => k_is); (case cg3 => k_is); (case ch3 => k_is); (case cc3 => k_is); (case ck3 => k_is); (case ci3 => k_is); (case ct3 => k_is); (case cf3 => k_is); (case cd3 => k_is); (case ce3 => k_is); (case cv3 => k_is); (case cw3 => rfl); (case cx3 => rfl); (case n3 => k_is)
    (case zint => k_is); (case zlen => k_is); (case zabs => k_is); (case zrange => k_is); (case ztuple => k_is); (case zisinstance => k_is); (case zbool => k_is); (case zlist => k_is); (case zmax => k_is); (case zmin => k_is); (case zrepr => k_is)
#print axioms PySem.Challenge.cw_baysout_k06_sides_and_stretches_that_mee_holds
