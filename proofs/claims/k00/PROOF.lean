import PyProof.Rows.All
import Wide.All
import OpenK.AllK
import Wide.FinOn
import PyProof.EqAt
import PyProof.EqKinds
import PyProof.TupleCall
import PyProof.ReprRoads
import KE.KExcSuper
import HandS.ForExc
import HandS.IsInst
import HandS.ExcIs
import HandS.ExcInit
import HandS.Defaults
import HandS.Lambda
import HandS.NoneIn
import HandS.ExcField
import HandS.ForMost
import KE.KExcIs
import HandS.Conv
import PySem.Challenge.RW_baysout_k00_errors_keep_their_fields
import HandS.Walk
import HandS.Iter
import HandS.Wide
set_option Elab.async false
set_option linter.all false
set_option maxRecDepth 100000
set_option maxHeartbeats 4000000
/-! Own errors whose __init__ says super().__init__(text) and keeps its fields: made, raised, caught by the base, kept behind the suite, asked. -/
namespace Err
open PySem PySem.W PySem.Calls PyProof.Rows PySem.HandSPX
/-- what the written part says of the class at C, of its __init__ at fI, its cell and its code object -/
structure Own (P : Program) (K : Frag) (C : Addr) (qual : Str) (st : Stmt) : Prop where
  cls : ∃ nm q N bs bm sn sub ab col dd k0 k1 k2 k3 k5, K.lookup C = some (excClassObj nm q C N bs bm true sn sub ab col dd k0 k1 k2 k3 k5 "ValueError.__new__") ∧ refsVE bm = true
  sa : findIn K (.ref C) "__setattr__" = some (some (.builtin "object.__setattr__"))
  op : nsIn K cStatics "thirdparty.any" = some none
  sup : ks_superIn K C C "__init__" = some (some (.builtin "ValueError.__init__"))
  slf : mroIn K C (.ref C) = some true
  vE : subIn K (.ref C) (.type "ValueError") = some true
  fn : ∃ (fI cc cda : Addr) (oc kV doc pm ct : Value) (od an : Option Addr) (osl : Array (Option Value)),
    findIn K (.ref C) "__init__" = some (some (.ref fI)) ∧ typeIn K (.ref fI) = some (.type "function") ∧
    K.lookup fI = some ⟨oc, od, .func (ksFn "__init__" qual (L2.defArgs st) (L2.defBody st) (L2.defScope st) .none kV doc pm an (.ref cda) ct cc), osl⟩ ∧ codeIn K (.ref cda) qual = true ∧
    (∃ cl cld csl, K.lookup cc = some ⟨cl, cld, .cell (some (.ref C)), csl⟩) ∧
    ∃ ccl cdd vs ccs file tf, K.lookup cda = some ⟨ccl, cdd, .fields vs, ccs⟩ ∧ vs[2]? = some (.str file tf) ∧ ((P.main.file : Str) == file) = true
/-- the module's names at a heap, as far as super is asked -/
structure Sup (mg : Str → Option Value) (h : Heap) : Prop where
  glob : h.Ns mainGlobals mg
  blt : ∃ mb, h.Ns builtinsNs mb ∧ mb "super" = some (.type "super")
  none : mg "super" = none
section
variable {P : Program} {w : World} {A : Around} {E : Value → Shared → Prop} {K : Frag} {mg : Str → Option Value} {C : Addr} {qual : Str} {st : Stmt}
theorem Own.data (T : Own P K C qual st) {h : Heap} (X : K.In h) : ∃ oD cd, h.get? C = some oD ∧ oD.data = .cls cd ∧ clsIn K C = some cd ∧ refsVE cd.mro = true ∧ cd.hasDict = true := by
  obtain ⟨nm, q, N, bs, bm, sn, sub, ab, col, dd, k0, k1, k2, k3, k5, hC, hb⟩ := T.cls
  refine ⟨_, _, X _ _ hC, rfl, ?_, (show refsVE (.ref C :: bm) = true from hb), rfl⟩
  unfold clsIn
  rw [hC] <;> rfl
/-- super().__init__(text), the first statement of an __init__ entered with self at x -/
theorem sup_first {f cc cda x L t0 : Addr} {s : Shared} {q1 q2 q3 q4 q5 q6 : Pos} {text : Str} {j : Nat} {rest body : List Stmt} {m : Str → Option Value} {fd : FuncData} {ar : Arg} {Q : Flow → Shared → Prop} {scope : Scope} {pl : Sem Bool}
    (T : Own P K C qual st) (X : K.In s.heap) (S : Sup mg s.heap) (top : (P.main.scope.names.lookup ("super" : Str)).isSome = false)
    (hf : ∃ o, s.heap.get? f = some o ∧ o.data = .func fd) (hp : (fd.params.posonlyargs ++ fd.params.args).head? = some ar)
    (cel : ∃ cl cld csl, K.lookup cc = some ⟨cl, cld, .cell (some (.ref C)), csl⟩)
    (cod : ∃ ccl cdd vs ccs file tf, K.lookup cda = some ⟨ccl, cdd, .fields vs, ccs⟩ ∧ vs[2]? = some (.str file tf) ∧ ((P.main.file : Str) == file) = true)
    (ks : scope.names.lookup ("super" : Str) = some .globalImplicit) (kc : scope.names.lookup ("__class__" : Str) = some .free) (ka : scope.names.lookup ar.arg = some .local) (kf : scope.kind = .function)
    (hn : s.heap.Ns L m) (hv : m ar.arg = some (.ref x)) (hx : s.heap.get? x = some (excO C t0))
    (he : eval (.Call (.Attribute (.Call (.Name "super" q1) [] [] q2) "__init__" q3) [.Constant (.str text) j q4] [] q5) (ksEnv qual scope L f (.ref cda) cc) = (do
      let ov ← attributeBase (.Call (.Name "super" q1) [] [] q2) "__init__" (ksEnv qual scope L f (.ref cda) cc) (eval (.Call (.Name "super" q1) [] [] q2) (ksEnv qual scope L f (.ref cda) cc))
      standAt q3.atName
      let (f', first) ← holding [ov] (getMethod ov "__init__" pl)
      callWith q5 f' first (backTo q5 (starEach [.Constant (.str text) j q4] (ksEnv qual scope L f (.ref cda) cc))) []))
    (hw : swapsWith (.Call (.Attribute (.Call (.Name "super" q1) [] [] q2) "__init__" q3) [.Constant (.str text) j q4] [] q5) none q6.line (ksEnv qual scope L f (.ref cda) cc) = pure false)
    (hst : starEach [.Constant (.str text) j q4] (ksEnv qual scope L f (.ref cda) cc) = [(false, eval (.Constant (.str text) j q4) (ksEnv qual scope L f (.ref cda) cc))])
    (h : ∀ h' tk t1, (∀ b o, b ≠ x → s.heap.get? b = some o → h'.get? b = some o) → h'.get? x = some (excO C t1) → _root_.PySem.wpAt (model P w) A (.func body (ksEnv qual scope L f (.ref cda) cc)) (execs rest (ksEnv qual scope L f (.ref cda) cc)) Q E { s with heap := h', toks := tk }) :
    _root_.PySem.wpAt (model P w) A (.func body (ksEnv qual scope L f (.ref cda) cc)) (execs (.Expr (.Call (.Attribute (.Call (.Name "super" q1) [] [] q2) "__init__" q3) [.Constant (.str text) j q4] [] q5) q6 :: rest) (ksEnv qual scope L f (.ref cda) cc)) Q E s := by
  obtain ⟨oD, cd, hD, hDd, hcl, hmro, hdict⟩ := T.data X
  obtain ⟨o, hfo, hfd⟩ := hf
  obtain ⟨cl, cld, csl, hcc⟩ := cel
  obtain ⟨ccl, cdd, vs, ccs, file, tf, hco, hvs, hfile⟩ := cod
  obtain ⟨mb, hb, hsup⟩ := S.blt
  obtain ⟨hp0, g, d, t, os⟩ := s
  have I : InstAt hp0 x (excO C t0) C none := ⟨hx, rfl, rfl, trivial⟩
  refine ks_wpAt_execs_cons (ks_wpAt_Expr_any (ks_wpAt_MethodCall (pl := pl) ?_ (he := he)) (hi := by simp [interactive, kf]) (hs := hw))
  refine ks_wpAt_super_base (env := ksEnv qual scope L f (.ref cda) cc) ks kc (by decide) rfl hfo hfd hp rfl (X _ _ hco) rfl hvs hfile top ?_
  refine ks_loadName_global kf ks (loadGlobal_builtin (env := ksEnv qual scope L f (.ref cda) cc) S.glob S.none hb hsup ⟨rfl, ?_⟩)
  refine wpAny_loadName_free kf kc rfl ⟨_, X _ _ hcc, rfl⟩ ?_
  refine wpAny_loadName_local kf ka hn hv ?_
  refine ks_wpAny_isType_cls hD hDd ⟨rfl, ?_⟩
  refine ks_wpAny_call_super hD hDd hx rfl (fun c e => by cases e) (looks_mroIn X T.slf) (fun h1 e1 k1 => ?_)
  have X1 : K.In h1 := X.keeps k1
  have I1 : InstAt h1 x (excO C t0) C none := ⟨k1 _ _ hx, rfl, rfl, trivial⟩
  have hm := T.sup
  unfold ks_superIn at hm
  rw [hcl] at hm
  refine kxs_getMethod kxs_ValueError e1 (looks_opaque X1 T.op) (l₀ := cd.mro) (fun A Q E s k q => wpAny_bind ((looks_clsIn X1 hcl) A _ E s k (wpAny_pure q))) rfl X1 hm (I1.type.andThen (looks_subIn X1 T.vE)) (ks_ne X1 I1 hcl) (by decide) ?_
  show wpAny _ _ (callWith q5 (Value.ref h1.objs.size) [] (backTo q5 (starEach [.Constant (.str text) j q4] (ksEnv qual scope L f (.ref cda) cc))) []) _ _ _
  rw [hst]
  refine kxs_callWith (i := "ValueError.__init__") (x := x) rfl (evalArgs_plain ?_)
  show wpAny _ _ (spliced ((false, eval (.Constant (.str text) j q4) (ksEnv qual scope L f (.ref cda) cc)) :: [])) _ _ _
  refine Calls.spliced_cons (Calls.Constant_str (Calls.spliced_nil ?_))
  have hu : (h1.push (kxs_mw "ValueError.__init__" x)).get? h1.objs.size = some (kxs_mw "ValueError.__init__" x) := Heap.get?_push_size _ rfl
  have hx2 : (h1.push (kxs_mw "ValueError.__init__" x)).get? x = some (excO C t0) := Heap.get?_push_of_some _ (k1 _ _ hx)
  refine ⟨hu, ?_⟩
  obtain ⟨nm, q, N, bs, bm, sn, sub, ab, col, dd, k0, ka', k2, k3, k5, hC, hbm⟩ := T.cls
  have hC2 := Heap.get?_push_of_some (kxs_mw "ValueError.__init__" x) (X1 _ _ hC)
  refine wpAny_call (codeAny_of_tree ?_)
  show wpAny _ A.in1 (callAny (.ref h1.objs.size) ⟨_, []⟩) _ _ _
  simp only [callAny]
  refine wpAny_bind (wpAny_load hu ?_)
  simp only [kxs_mw, show (Value.type "method-wrapper" == Value.type "method" || Value.type "method-wrapper" == Value.type "builtin_function_or_method" || Value.type "method-wrapper" == Value.type "method-wrapper") = true by decide, if_true]
  refine KFB.if_so (by decide) (wpAny_bind (check_bound_init F.excBase_ValueError.toExcCallFacts hC2 hx2 rfl ?_))
  refine wpAny_bind (wpAny_pure (wpAny_pure ⟨plainId_quiet F.excBase_ValueError.init.plain _, codeAny_builtin F.excBase_ValueError.initEntry ?_⟩))
  refine exc_init_tree (cls := .ref C) (t0 := t0) (dv := none) (c2 := .none) (c3 := .none) (b4 := .bool false) hx2 (by rw [sizeLine_eq]; show 1 ≤ 16777216; decide) fun h' k' e' _ => ?_
  exact h h' _ _ (fun b o hb eb => k' b o hb (Heap.get?_push_of_some _ (k1 _ _ eb))) e'
/-- a name of the frame, by its slot -/
theorem ld {M : Model} {s : Shared} {env : Env} {m : Str → Option Value} {x : Str} {pos : Pos} {v : Value} {Q : Value → Shared → Prop} (hn : s.heap.Ns env.locals m) (hv : m x = some v) (h : Q v s) (hk : env.scope.kind = .function) (hl : env.kindOf x = some .local)
    (hd : (x == ("__debug__" : Str)) = false) : wpAny M A (eval (.Name x pos) env) Q E s := wpAny_Name (wpAny_loadName_local hk hl hn hv h) hd
/-- self.f = f, the first field -/
theorem fld_first {env : Env} {x t1 : Addr} {s : Shared} {f : Str} {v : Value} {r1 r2 r3 r4 : Pos} {rest : List Stmt} {m : Str → Option Value} {Q : Flow → Shared → Prop}
    (T : Own P K C qual st) (X : K.In s.heap) (hn : s.heap.Ns env.locals m) (hx : s.heap.get? x = some (excO C t1)) (no : findIn K (.ref C) f = some none) (vs : m "self" = some (.ref x)) (vf : m f = some v) (hk : env.scope.kind = .function) (ls : env.kindOf "self" = some .local) (lf : env.kindOf f = some .local)
    (hd : (f == ("__debug__" : Str)) = false) (hw : swapsWith (.Name f r3) (some (.Attribute (.Name "self" r1) f r2)) r4.line env = pure false)
    (h : ∀ h' tk dx, (∀ b o, b ≠ x → s.heap.get? b = some o → h'.get? b = some o) → s.heap.objs.size ≤ dx → dx ≠ x → h'.get? x = some { cls := .ref C, dict := some dx, data := .fields #[.ref t1, .none, .none, .none, .bool false, .none] } →
      h'.Ns1 dx (fun y => if y = f then some v else none) → wpAny (model P w) A (execs rest env) Q E { s with heap := h', toks := tk }) :
    wpAny (model P w) A (execs (.Assign [.Attribute (.Name "self" r1) f r2] (.Name f r3) r4 :: rest) env) Q E s := by
  obtain ⟨oD, cd, hD, hDd, hcl, hmro, hdict⟩ := T.data X
  refine wpAny_execs_cons (plainObj_wpAny_Assign_Attribute (ld hn vf (ld hn vs ?_ hk ls (by decide)) hk lf hd) hw)
  obtain ⟨hp, g, d, t, os⟩ := s
  refine set_plain X (ox := excO C t1) (od := none) ⟨hx, rfl, rfl, trivial⟩ T.sa ?_
  exact exc_osa X hx hcl hmro hdict no fun h' tk' dx k dn dne hx' hn' => h h' tk' dx k dn dne hx' hn'
/-- self.f = f, a further field -/
theorem fld_next {env : Env} {x t1 dx : Addr} {s : Shared} {f g1 : Str} {v v1 : Value} {r1 r2 r3 r4 : Pos} {rest : List Stmt} {m : Str → Option Value} {Q : Flow → Shared → Prop}
    (T : Own P K C qual st) (X : K.In s.heap) (hn : s.heap.Ns env.locals m) (hx : s.heap.get? x = some { cls := .ref C, dict := some dx, data := .fields #[.ref t1, .none, .none, .none, .bool false, .none] }) (ns : s.heap.Ns1 dx (fun y => if y = g1 then some v1 else none)) (no : findIn K (.ref C) f = some none)
    (vs : m "self" = some (.ref x)) (vf : m f = some v) (hk : env.scope.kind = .function) (ls : env.kindOf "self" = some .local) (lf : env.kindOf f = some .local)
    (hd : (f == ("__debug__" : Str)) = false) (hw : swapsWith (.Name f r3) (some (.Attribute (.Name "self" r1) f r2)) r4.line env = pure false)
    (h : ∀ h' tk, (∀ b o, b ≠ dx → s.heap.get? b = some o → h'.get? b = some o) → h'.Ns1 dx (fun y => if y = f then some v else if y = g1 then some v1 else none) → wpAny (model P w) A (execs rest env) Q E { s with heap := h', toks := tk }) :
    wpAny (model P w) A (execs (.Assign [.Attribute (.Name "self" r1) f r2] (.Name f r3) r4 :: rest) env) Q E s := by
  obtain ⟨oD, cd, hD, hDd, hcl, hmro, hdict⟩ := T.data X
  refine wpAny_execs_cons (plainObj_wpAny_Assign_Attribute (ld hn vf (ld hn vs ?_ hk ls (by decide)) hk lf hd) hw)
  obtain ⟨hp, g, d, t, os⟩ := s
  obtain ⟨od, _, _, hod, _, _⟩ := ns.count (Within.cons g1 v1 Within.nil)
  refine set_plain X (ox := { cls := .ref C, dict := some dx, data := .fields #[.ref t1, .none, .none, .none, .bool false, .none] }) (od := some od) ⟨hx, rfl, rfl, hod⟩ T.sa ?_
  exact OEX.osa_old X hx ns (Within.cons g1 v1 Within.nil) (by show 1 ≤ 1000; decide) hcl hmro hdict no fun h' tk' k hn' => h h' tk' k hn'
end
end Err
set_option Elab.async false
set_option linter.all false
set_option maxRecDepth 100000
set_option maxHeartbeats 4000000
namespace Err
open PySem PySem.W PySem.Calls PyProof.Rows PySem.HandSPX
/-- what the machine asks of the first statement, over the def's own frames -/
structure SupOk (qual : Str) (sc : Scope) (q1 q2 q3 q4 q5 q6 : Pos) (text : Str) (j : Nat) (pl : Sem Bool) : Prop where
  he : ∀ (L f cda cc : Addr), eval (.Call (.Attribute (.Call (.Name "super" q1) [] [] q2) "__init__" q3) [.Constant (.str text) j q4] [] q5) (ksEnv qual sc L f (.ref cda) cc) = (do
      let ov ← attributeBase (.Call (.Name "super" q1) [] [] q2) "__init__" (ksEnv qual sc L f (.ref cda) cc) (eval (.Call (.Name "super" q1) [] [] q2) (ksEnv qual sc L f (.ref cda) cc))
      standAt q3.atName
      let (f', first) ← holding [ov] (getMethod ov "__init__" pl)
      callWith q5 f' first (backTo q5 (starEach [.Constant (.str text) j q4] (ksEnv qual sc L f (.ref cda) cc))) [])
  hw : ∀ (L f cda cc : Addr), swapsWith (.Call (.Attribute (.Call (.Name "super" q1) [] [] q2) "__init__" q3) [.Constant (.str text) j q4] [] q5) none q6.line (ksEnv qual sc L f (.ref cda) cc) = pure false
  hst : ∀ (L f cda cc : Addr), starEach [.Constant (.str text) j q4] (ksEnv qual sc L f (.ref cda) cc) = [(false, eval (.Constant (.str text) j q4) (ksEnv qual sc L f (.ref cda) cc))]
  ks : sc.names.lookup ("super" : Str) = some .globalImplicit
  kc : sc.names.lookup ("__class__" : Str) = some .free
  ka : sc.names.lookup ("self" : Str) = some .local
  kf : sc.kind = .function
  co : sc.isCoroutine = false
  gen : sc.isGenerator = false
  cell : ∀ x ∈ sc.names, x.2 ≠ .cell
structure FldOk (qual : Str) (sc : Scope) (f : Str) (r1 r2 r3 r4 : Pos) : Prop where
  hw : ∀ (L a cda cc : Addr), swapsWith (.Name f r3) (some (.Attribute (.Name "self" r1) f r2)) r4.line (ksEnv qual sc L a (.ref cda) cc) = pure false
  lf : sc.names.lookup f = some .local
  hd : (f == ("__debug__" : Str)) = false
/-- an __init__(self, f): super().__init__(text); self.f = f -/
structure One (qual : Str) (st : Stmt) (f : Str) : Prop where
  ex : ∃ (q1 q2 q3 q4 q5 q6 r1 r2 r3 r4 : Pos) (text : Str) (j : Nat) (pl : Sem Bool), SupOk qual (L2.defScope st) q1 q2 q3 q4 q5 q6 text j pl ∧ FldOk qual (L2.defScope st) f r1 r2 r3 r4 ∧
    L2.defBody st = [.Expr (.Call (.Attribute (.Call (.Name "super" q1) [] [] q2) "__init__" q3) [.Constant (.str text) j q4] [] q5) q6, .Assign [.Attribute (.Name "self" r1) f r2] (.Name f r3) r4]
  head : ∃ ar, ((L2.defArgs st).posonlyargs ++ (L2.defArgs st).args).head? = some ar ∧ ar.arg = "self"
  ne : f ≠ "self"
/-- what a made error is -/
structure Made (h h' : Heap) (e C d : Addr) (mp : Str → Option Value) : Prop where
  keep : ∀ b o, h.get? b = some o → h'.get? b = some o
  new : h.objs.size ≤ e
  obj : ∃ oe vs, h'.get? e = some oe ∧ oe.cls = .ref C ∧ oe.dict = some d ∧ oe.data = .fields vs ∧ vs[1]? = some .none
  dbig : h.objs.size ≤ d
  dne : d ≠ e
  ns : h'.Ns1 d mp
section
variable {P : Program} {w : World} {A : Around} {R : Result → Shared → Prop} {K : Frag} {mg : Str → Option Value} {C : Addr} {qual : Str} {st : Stmt}
theorem init1 {fI cc cda x t0 : Addr} {oc kV doc pm ct v : Value} {od an : Option Addr} {osl : Array (Option Value)} {s : Shared} {f : Str} {args : Args}
    (T : Own P K C qual st) (O : One qual st f) (no : findIn K (.ref C) f = some none) (X : K.In s.heap) (S : Sup mg s.heap) (top : (P.main.scope.names.lookup ("super" : Str)).isSome = false) (lim : s.heap.NoLimit) (room : A.depth < recursionLimit)
    (lk : K.lookup fI = some ⟨oc, od, .func (ksFn "__init__" qual (L2.defArgs st) (L2.defBody st) (L2.defScope st) .none kV doc pm an (.ref cda) ct cc), osl⟩) (cd : codeIn K (.ref cda) qual = true)
    (cel : ∃ cl cld csl, K.lookup cc = some ⟨cl, cld, .cell (some (.ref C)), csl⟩)
    (cod : ∃ ccl cdd vs ccs file tf, K.lookup cda = some ⟨ccl, cdd, .fields vs, ccs⟩ ∧ vs[2]? = some (.str file tf) ∧ ((P.main.file : Str) == file) = true)
    (bnd : BindsTo s (ksFn "__init__" qual (L2.defArgs st) (L2.defBody st) (L2.defScope st) .none kV doc pm an (.ref cda) ct cc) args [("self", .ref x), (f, v)])
    (hx : s.heap.get? x = some (excO C t0)) (nx : K.lookup x = none)
    (h : ∀ h' tk dx t1, (∀ b o, b ≠ x → s.heap.get? b = some o → h'.get? b = some o) → s.heap.objs.size ≤ dx → dx ≠ x → h'.get? x = some { cls := .ref C, dict := some dx, data := .fields #[.ref t1, .none, .none, .none, .bool false, .none] } →
      h'.Ns1 dx (fun y => if y = f then some v else none) → R (.ok (.ret .none)) { s with heap := h', toks := tk }) :
    codeAny (model P w) A (.call (.ref fI) args) R s := by
  obtain ⟨q1, q2, q3, q4, q5, q6, r1, r2, r3, r4, text, j, pl, U, V, hb⟩ := O.ex
  obtain ⟨ar, har, har2⟩ := O.head
  refine ks_codeAny_call_defAt (fd := ksFn "__init__" qual (L2.defArgs st) (L2.defBody st) (L2.defScope st) .none kV doc pm an (.ref cda) ct cc) (body := L2.defBody st) (binds := [("self", .ref x), (f, v)]) room (X _ _ lk) rfl lim (codeRec_of X cd) rfl bnd U.cell ?_ (fun h₁ hns hk₁ => ?_) U.co U.gen U.kf
  · intro y hy
    rcases List.mem_cons.mp hy with rfl | hy
    · exact U.ka
    · obtain rfl := List.mem_singleton.mp hy
      exact V.lf
  · have neL : ∀ {b : Addr} {o : Obj}, s.heap.get? b = some o → b ≠ s.heap.objs.size := fun e => Nat.ne_of_lt (Heap.lt_size e)
    show _root_.PySem.wpAt (model P w) _ (.func (L2.defBody st) (ksEnv qual (L2.defScope st) s.heap.objs.size fI (.ref cda) cc)) (execs (L2.defBody st) (ksEnv qual (L2.defScope st) s.heap.objs.size fI (.ref cda) cc)) _ _ _
    have mself : (fun y => (List.reverse [(("self" : Str), Value.ref x), (f, v)]).lookup y) "self" = some (.ref x) := by
      have e : (("self" : Str) == f) = false := beq_eq_false_iff_ne.mpr (Ne.symm O.ne)
      show List.lookup ("self" : Str) [(f, v), ("self", Value.ref x)] = _
      simp [List.lookup, e]
    have mf : (fun y => (List.reverse [(("self" : Str), Value.ref x), (f, v)]).lookup y) f = some v := by
      show List.lookup f [(f, v), ("self", Value.ref x)] = _
      simp [List.lookup]
    rw [hb]
    refine sup_first (mg := mg) (m := fun y => (List.reverse [(("self" : Str), Value.ref x), (f, v)]).lookup y) (fd := ksFn "__init__" qual (L2.defArgs st) (L2.defBody st) (L2.defScope st) .none kV doc pm an (.ref cda) ct cc) (ar := ar) T (X.keeps hk₁) ?_ top ⟨_, hk₁ _ _ (X _ _ lk), rfl⟩ har cel cod U.ks U.kc (by rw [har2]; exact U.ka) U.kf hns (by rw [har2]; exact mself) (hk₁ _ _ hx) (U.he _ _ _ _) (U.hw _ _ _ _) (U.hst _ _ _ _) fun h' tk t1 k1 e1 => ?_
    · obtain ⟨mb, a, b⟩ := S.blt
      exact ⟨S.glob.keeps hk₁, ⟨mb, a.keeps hk₁, b⟩, S.none⟩
    · have xL : s.heap.objs.size ≠ x := Ne.symm (neL hx)
      have hn2 : h'.Ns s.heap.objs.size (fun y => (List.reverse [(("self" : Str), Value.ref x), (f, v)]).lookup y) := by
        obtain ⟨o, es, ep, ho, r⟩ := hns
        exact ⟨o, es, ep, k1 _ _ xL ho, r⟩
      refine wpAt_of_wpAny ?_
      refine fld_first (env := ksEnv qual (L2.defScope st) s.heap.objs.size fI (.ref cda) cc) (m := fun y => (List.reverse [(("self" : Str), Value.ref x), (f, v)]).lookup y) T ?_ hn2 e1 no mself mf U.kf U.ka V.lf V.hd (V.hw _ _ _ _) fun h2 tk2 dx k2 big dne e2 n2 => ?_
      · intro b o hb
        refine k1 b o (fun z => ?_) (X.keeps hk₁ b o hb)
        rw [z, nx] at hb
        cases hb
      · refine wpAny_execs_nil ?_
        exact h h2 tk2 dx t1 (fun b o hb e => k2 b o hb (k1 b o hb (hk₁ b o e))) (Nat.le_trans (Nat.le_of_lt hn2.lt) big) dne e2 n2
/-- C(v): a new error with its own dict -/
theorem made1 {v : Value} {s : Shared} {f : Str} (T : Own P K C qual st) (O : One qual st f) (no : findIn K (.ref C) f = some none) (X : K.In s.heap) (S : Sup mg s.heap) (top : (P.main.scope.names.lookup ("super" : Str)).isSome = false) (lim : s.heap.NoLimit) (room : A.depth + 1 < recursionLimit)
    (bnd : ∀ (kV doc pm ct : Value) (an : Option Addr) (cda cc x : Addr), bindArgs (ksFn "__init__" qual (L2.defArgs st) (L2.defBody st) (L2.defScope st) .none kV doc pm an (.ref cda) ct cc) ⟨[.ref x, v], []⟩ = pure [(("self" : Str), Value.ref x), (f, v)])
    (h : ∀ h' tk e d, Made s.heap h' e C d (fun y => if y = f then some v else none) → R (.ok (.ret (.ref e))) { s with heap := h', toks := tk }) :
    codeAny (model P w) A (.call (.ref C) ⟨[v], []⟩) R s := by
  obtain ⟨fI, cc, cda, oc, kV, doc, pm, ct, od, an, osl, hi, ti, lk, cd, cel, cod⟩ := T.fn
  obtain ⟨nm, q, N, bs, bm, sn, sub, ab, col, dd, k0, k1, k2, k3, k5, hC, hbm⟩ := T.cls
  obtain ⟨hp, g, dr, tk, os⟩ := s
  have k : ∀ b o, hp.get? b = some o → ((hp.push (kdv_tup [v])).push (excO C hp.objs.size)).get? b = some o := fun b o e => Heap.get?_push_of_some _ (Heap.get?_push_of_some _ e)
  have hget : ((hp.push (kdv_tup [v])).push (excO C hp.objs.size)).get? (hp.objs.size + 1) = some (excO C hp.objs.size) := by heap_get
  have nx : K.lookup (hp.objs.size + 1) = none := by
    cases e : K.lookup (hp.objs.size + 1) with
    | none => rfl
    | some o =>
      have z := Heap.lt_size (show hp.get? (hp.objs.size + 1) = some o from X _ _ e)
      exact absurd (Nat.lt_of_succ_lt z) (Nat.lt_irrefl _)
  obtain ⟨mb, Sa, Sb⟩ := S.blt
  refine call_own F.excBase_ValueError (fun Y => refsVE_contains Y bm hbm) (X _ _ hC) (looks_findIn X hi) (fun self => bind_fn X self ti) (by rw [sizeLine_eq]; show 1 ≤ 16777216; decide) ?_
  refine init1 (mg := mg) (s := ⟨(hp.push (kdv_tup [v])).push (excO C hp.objs.size), g, dr, tk, os⟩) T O no (X.keeps k) ⟨S.glob.keeps k, ⟨mb, Sa.keeps k, Sb⟩, S.none⟩ top (lim.keeps k) (by show A.depth + 1 < recursionLimit; exact room) lk cd cel cod (.of_eq (bnd _ _ _ _ _ _ _ _)) hget nx ?_
  intro h' tk' dx t1 k' big dne he hns
  have z : hp.objs.size + 1 + 1 ≤ dx := by
    first
      | (simpa only [Heap.size_push] using big)
      | exact big
  exact ⟨rfl, h h' tk' (hp.objs.size + 1) dx ⟨fun b o e => k' b o (Nat.ne_of_lt (Nat.lt_succ_of_lt (Heap.lt_size e))) (k b o e), Nat.le_succ _, ⟨_, _, he, rfl, rfl, rfl, rfl⟩, Nat.le_trans (Nat.le_trans (Nat.le_succ _) (Nat.le_succ _)) z, dne, hns⟩⟩
end
end Err
set_option Elab.async false
set_option linter.all false
set_option maxRecDepth 100000
set_option maxHeartbeats 4000000
/-! A call of an own error class by keywords. -/
namespace Err
open PySem PySem.W PySem.Calls PyProof.Rows PySem.HandSPX
section
variable {M : Model} {A : Around} {E : Value → Shared → Prop} {h : Heap} {g : Array GenState} {d : Drawn} {t : Nat} {os : OsState}
variable {nm q : Str} {C N : Addr} {bs bm bmB : List Value} {hdct : Bool} {sn : List Str} {sub : List Value} {ab : Bool} {col : Option Bool} {dd : Option Addr} {k0 k1 k2 k3 k5 : Option Value} {B newId initId : String}
theorem new_checked (F : ExcBaseFacts B newId initId bmB) (hT : ∀ X : String, bm.contains (.type X) = bmB.contains (.type X)) {rest : List Value} {kws : List (Str × Value)} {Q : Unit → Shared → Prop}
    (hC : h.get? C = some (excClassObj nm q C N bs bm hdct sn sub ab col dd k0 k1 k2 k3 k5 newId))
    (hq : Q () ⟨h, g, d, t, os⟩) : wpAny M A (checkBuiltinCall newId ⟨.ref C :: rest, kws⟩) Q E ⟨h, g, d, t, os⟩ := by
  have hB : (Value.ref C :: bm).contains (.type B) = true := by
    rw [List.contains_cons, hT, F.hasB]
    exact Bool.or_true _
  have hst := F.noStar
  simp only [checkBuiltinCall, F.newKind, F.newSplit, F.newRow]
  repeat (first
    | refine wpAny_loadPart_at hC ?_
    | (refine wpAny_isSubtype_exc hC ?_; rw [hB])
    | refine wpAny_staticBase_exc hC ?_
    | refine wpAny_madeBy_exc hC ?_
    | simp only [bne_self_eq_false, Bool.false_eq_true, if_false]
    | wp_step)
  exact hq
end
section
variable {prog : Program} {w : World} {A : Around} {E : Value → Shared → Prop} {R : Result → Shared → Prop} {h : Heap} {g : Array GenState} {d : Drawn} {t : Nat} {os : OsState}
variable {nm q : Str} {C N : Addr} {bs bm bmB : List Value} {hdct : Bool} {sn : List Str} {sub : List Value} {ab : Bool} {col : Option Bool} {dd : Option Addr} {k0 k1 k2 k3 k5 : Option Value} {B newId initId : String}
theorem newK (F : ExcBaseFacts B newId initId bmB) (hT : ∀ X : String, bm.contains (.type X) = bmB.contains (.type X)) {rest : List Value} {kws : List (Str × Value)}
    (hC : h.get? C = some (excClassObj nm q C N bs bm hdct sn sub ab col dd k0 k1 k2 k3 k5 newId)) (hrest : rest.length ≤ sizeLine)
    (hq : R (.ok (.ret (.ref (h.objs.size + 1)))) ⟨(h.push (kdv_tup rest)).push (excO C h.objs.size), g, d, t, os⟩) :
    codeAny (model prog w) A (.builtin newId ⟨.ref C :: rest, kws⟩) R ⟨h, g, d, t, os⟩ := by
  have ends := F.ends
  have yB : (Value.ref C :: bm).contains (.type B) = true := by
    rw [List.contains_cons, hT, F.hasB]
    exact Bool.or_true _
  have nA : (Value.ref C :: bm).contains (.type "AttributeError") = false := by
    rw [List.contains_cons, hT, F.noAttr]
    rfl
  have nN : (Value.ref C :: bm).contains (.type "NameError") = false := by
    rw [List.contains_cons, hT, F.noName]
    rfl
  refine codeAny_builtinAt F.entry ?_
  unfold Builtin.«BaseException.__new__»
  refine _root_.PySem.wpAt_bind ?_
  show _root_.PySem.wpAt _ _ _ (stack >>= _) _ _ _
  refine _root_.PySem.wpAt_bind (_root_.PySem.wpAt_stack fun p below => _root_.PySem.wpAt_of_wpAny ?_)
  wp_walk
  refine _root_.PySem.wpAt_of_wpAny ?_
  rw [F.owner]
  repeat (first
    | with_reducible refine wpAny_madeHere_exc F.canon hC ?_
    | with_reducible refine wpAny_loadPart_at hC ?_
    | (with_reducible refine wpAny_isSubtype_exc hC ?_; first | rw [yB] | rw [nA] | rw [nN])
    | wp_step)
  show R _ _
  rw [Heap.size_push]
  exact hq
/-- type.__call__ with keywords: BaseException.__new__, then the own __init__ -/
theorem typeK (F : ExcBaseFacts B newId initId bmB) (hT : ∀ X : String, bm.contains (.type X) = bmB.contains (.type X)) {rest : List Value} {kws : List (Str × Value)} {fI : Addr} {Q : Fin → Shared → Prop}
    (hC : h.get? C = some (excClassObj nm q C N bs bm hdct sn sub ab col dd k0 k1 k2 k3 k5 newId))
    (hi : Looks (model prog w) h (typeLookup (.ref C) "__init__") (some (.ref fI))) (hb : ∀ self, Looks (model prog w) h (bindSpecial (.ref fI) self) (.ref fI, [self])) (hrest : rest.length ≤ sizeLine)
    (hq : codeAny (model prog w) A (.call (.ref fI) ⟨.ref (h.objs.size + 1) :: rest, kws⟩)
      (fun r s' => match r with | .ok (.ret v) => v = .none ∧ Q (.done (.ret (.ref (h.objs.size + 1)))) s' | .ok _ => False | .error e => E e s')
      ⟨(h.push (kdv_tup rest)).push (excO C h.objs.size), g, d, t, os⟩) :
    wpAny (model prog w) A (Builtin.«type.__call__» ⟨.ref C :: rest, kws⟩) Q E ⟨h, g, d, t, os⟩ := by
  repeat (first
    | with_reducible refine wpAny_loadPart_at hC ?_
    | with_reducible refine wpAny_madeBy_exc hC ?_
    | wp_step)
  refine codeAny_call_builtin_code (Code.quiet_builtin _ F.quiet) (new_checked F hT hC ?_)
  refine newK F hT hC hrest ?_
  show wpAny _ _ _ _ _ _
  have kp : ∀ b o, h.get? b = some o → ((h.push (kdv_tup rest)).push (excO C h.objs.size)).get? b = some o := fun b o e => Heap.get?_push_of_some _ (Heap.get?_push_of_some _ e)
  have C1 := kp _ _ hC
  have e1 : ((h.push (kdv_tup rest)).push (excO C h.objs.size)).get? (h.objs.size + 1) = some (excO C h.objs.size) := by heap_get
  have cc : (Value.ref C :: bm).contains (.ref C) = true := by simp
  have i1 := hi.keeps kp
  have b1 := (hb (.ref (h.objs.size + 1))).keeps kp
  unfold isInstance
  repeat (first
    | with_reducible refine wpAny_loadPart_at e1 ?_
    | (with_reducible refine wpAny_isSubtype_exc C1 ?_; rw [cc])
    | wp_step)
  show wpAny _ _ (typeLookup (.ref C) _) _ _ _
  refine i1.at ?_
  refine wpAny_holding (wpAny_bind (b1.at ?_))
  refine wpAny_bind (wpAny_call (codeAny_mono hq fun r s' z => ?_))
  rcases r with e | fl
  · exact z
  · cases fl with
    | next => exact z.elim
    | brk => exact z.elim
    | cont => exact z.elim
    | ret v =>
      obtain ⟨rfl, z⟩ := z
      first
        | exact wpAny_pure (wpAny_pure z)
        | (wp_walk; exact z)
theorem chkK {rest : List Value} {kws : List (Str × Value)} {Q : Unit → Shared → Prop} (hC : h.get? C = some (excClassObj nm q C N bs bm hdct sn sub ab col dd k0 k1 k2 k3 k5 newId))
    (hq : Q () ⟨h, g, d, t, os⟩) : wpAny (model prog w) A (checkBuiltinCall "type.__call__" ⟨.ref C :: rest, kws⟩) Q E ⟨h, g, d, t, os⟩ := by
  have f3 := tc_sub
  have hTy : (⟨h, g, d, t, os⟩ : Shared).TypeIs (.ref C) "type" := ⟨_, hC, rfl⟩
  simp only [checkBuiltinCall, tc_kind, tc_split]
  repeat (any_goals (first
    | assumption
    | with_reducible refine wpAny_loadPart_at hC ?_
    | with_reducible refine wpAny_onRaise ?_
    | with_reducible refine wpAny_map ?_
    | wp_step))
/-- C(.., k=..) -/
theorem callK (F : ExcBaseFacts B newId initId bmB) (hT : ∀ X : String, bm.contains (.type X) = bmB.contains (.type X)) {rest : List Value} {kws : List (Str × Value)} {fI : Addr}
    (hC : h.get? C = some (excClassObj nm q C N bs bm hdct sn sub ab col dd k0 k1 k2 k3 k5 newId))
    (hi : Looks (model prog w) h (typeLookup (.ref C) "__init__") (some (.ref fI))) (hb : ∀ self, Looks (model prog w) h (bindSpecial (.ref fI) self) (.ref fI, [self])) (hrest : rest.length ≤ sizeLine)
    (hq : codeAny (model prog w) (A.under (.builtin "type.__call__" ⟨.ref C :: rest, kws⟩)) (.call (.ref fI) ⟨.ref (h.objs.size + 1) :: rest, kws⟩) (InitBack (h.objs.size + 1) R)
      ⟨(h.push (kdv_tup rest)).push (excO C h.objs.size), g, d, t, os⟩) :
    codeAny (model prog w) A (.call (.ref C) ⟨rest, kws⟩) R ⟨h, g, d, t, os⟩ := by
  have f1 := tc_lookup
  have f2 := tc_bind (.ref C)
  have hTy : (⟨h, g, d, t, os⟩ : Shared).TypeIs (.ref C) "type" := ⟨_, hC, rfl⟩
  refine codeAny_of_tree ?_
  show wpAny _ _ (callAny (.ref C) _) _ _ _
  repeat (any_goals (first
    | assumption
    | with_reducible refine wpAny_loadPart_at hC ?_
    | wp_step))
  refine ⟨rfl, ?_⟩
  refine codeAny_call_builtin_at (Code.quiet_builtin _ (by decide +kernel)) entry_typeCall (chkK hC (typeK F hT hC hi hb hrest ?_))
  refine codeAny_mono hq fun r s' z => ?_
  rcases r with e | (v | _ | _ | _) <;> exact z
end
/-- an __init__(self, f, g): super().__init__(text); self.f = f; self.g = g -/
structure Two (qual : Str) (st : Stmt) (f g : Str) : Prop where
  ex : ∃ (q1 q2 q3 q4 q5 q6 r1 r2 r3 r4 t1 t2 t3 t4 : Pos) (text : Str) (j : Nat) (pl : Sem Bool), SupOk qual (L2.defScope st) q1 q2 q3 q4 q5 q6 text j pl ∧ FldOk qual (L2.defScope st) f r1 r2 r3 r4 ∧ FldOk qual (L2.defScope st) g t1 t2 t3 t4 ∧
    L2.defBody st = [.Expr (.Call (.Attribute (.Call (.Name "super" q1) [] [] q2) "__init__" q3) [.Constant (.str text) j q4] [] q5) q6, .Assign [.Attribute (.Name "self" r1) f r2] (.Name f r3) r4, .Assign [.Attribute (.Name "self" t1) g t2] (.Name g t3) t4]
  head : ∃ ar, ((L2.defArgs st).posonlyargs ++ (L2.defArgs st).args).head? = some ar ∧ ar.arg = "self"
  nf : f ≠ "self"
  ng : g ≠ "self"
  fg : f ≠ g
section
variable {P : Program} {w : World} {A : Around} {R : Result → Shared → Prop} {K : Frag} {mg : Str → Option Value} {C : Addr} {qual : Str} {st : Stmt}
theorem init2 {fI cc cda x t0 : Addr} {oc kV doc pm ct v u : Value} {od an : Option Addr} {osl : Array (Option Value)} {s : Shared} {f g : Str} {args : Args}
    (T : Own P K C qual st) (O : Two qual st f g) (no : findIn K (.ref C) f = some none) (no2 : findIn K (.ref C) g = some none) (X : K.In s.heap) (S : Sup mg s.heap) (top : (P.main.scope.names.lookup ("super" : Str)).isSome = false) (lim : s.heap.NoLimit) (room : A.depth < recursionLimit)
    (lk : K.lookup fI = some ⟨oc, od, .func (ksFn "__init__" qual (L2.defArgs st) (L2.defBody st) (L2.defScope st) .none kV doc pm an (.ref cda) ct cc), osl⟩) (cd : codeIn K (.ref cda) qual = true)
    (cel : ∃ cl cld csl, K.lookup cc = some ⟨cl, cld, .cell (some (.ref C)), csl⟩)
    (cod : ∃ ccl cdd vs ccs file tf, K.lookup cda = some ⟨ccl, cdd, .fields vs, ccs⟩ ∧ vs[2]? = some (.str file tf) ∧ ((P.main.file : Str) == file) = true)
    (bnd : BindsTo s (ksFn "__init__" qual (L2.defArgs st) (L2.defBody st) (L2.defScope st) .none kV doc pm an (.ref cda) ct cc) args [("self", .ref x), (f, v), (g, u)])
    (hx : s.heap.get? x = some (excO C t0)) (nx : K.lookup x = none)
    (h : ∀ h' tk dx t1, (∀ b o, b ≠ x → s.heap.get? b = some o → h'.get? b = some o) → s.heap.objs.size ≤ dx → dx ≠ x → h'.get? x = some { cls := .ref C, dict := some dx, data := .fields #[.ref t1, .none, .none, .none, .bool false, .none] } →
      h'.Ns1 dx (fun y => if y = g then some u else if y = f then some v else none) → R (.ok (.ret .none)) { s with heap := h', toks := tk }) :
    codeAny (model P w) A (.call (.ref fI) args) R s := by
  obtain ⟨q1, q2, q3, q4, q5, q6, r1, r2, r3, r4, w1, w2, w3, w4, text, j, pl, U, V, W, hb⟩ := O.ex
  obtain ⟨ar, har, har2⟩ := O.head
  refine ks_codeAny_call_defAt (fd := ksFn "__init__" qual (L2.defArgs st) (L2.defBody st) (L2.defScope st) .none kV doc pm an (.ref cda) ct cc) (body := L2.defBody st) (binds := [("self", .ref x), (f, v), (g, u)]) room (X _ _ lk) rfl lim (codeRec_of X cd) rfl bnd U.cell ?_ (fun h₁ hns hk₁ => ?_) U.co U.gen U.kf
  · intro y hy
    rcases List.mem_cons.mp hy with rfl | hy
    · exact U.ka
    · rcases List.mem_cons.mp hy with rfl | hy
      · exact V.lf
      · obtain rfl := List.mem_singleton.mp hy
        exact W.lf
  · have neL : ∀ {b : Addr} {o : Obj}, s.heap.get? b = some o → b ≠ s.heap.objs.size := fun e => Nat.ne_of_lt (Heap.lt_size e)
    show _root_.PySem.wpAt (model P w) _ (.func (L2.defBody st) (ksEnv qual (L2.defScope st) s.heap.objs.size fI (.ref cda) cc)) (execs (L2.defBody st) (ksEnv qual (L2.defScope st) s.heap.objs.size fI (.ref cda) cc)) _ _ _
    have e1 : (("self" : Str) == f) = false := beq_eq_false_iff_ne.mpr (Ne.symm O.nf)
    have e2 : (("self" : Str) == g) = false := beq_eq_false_iff_ne.mpr (Ne.symm O.ng)
    have e3 : (f == g) = false := beq_eq_false_iff_ne.mpr O.fg
    have mself : (fun y => (List.reverse [(("self" : Str), Value.ref x), (f, v), (g, u)]).lookup y) "self" = some (.ref x) := by
      show List.lookup ("self" : Str) [(g, u), (f, v), ("self", Value.ref x)] = _
      simp [List.lookup, e1, e2]
    have mf : (fun y => (List.reverse [(("self" : Str), Value.ref x), (f, v), (g, u)]).lookup y) f = some v := by
      show List.lookup f [(g, u), (f, v), ("self", Value.ref x)] = _
      simp [List.lookup, e3]
    have mG : (fun y => (List.reverse [(("self" : Str), Value.ref x), (f, v), (g, u)]).lookup y) g = some u := by
      show List.lookup g [(g, u), (f, v), ("self", Value.ref x)] = _
      simp [List.lookup]
    rw [hb]
    refine sup_first (mg := mg) (m := fun y => (List.reverse [(("self" : Str), Value.ref x), (f, v), (g, u)]).lookup y) (fd := ksFn "__init__" qual (L2.defArgs st) (L2.defBody st) (L2.defScope st) .none kV doc pm an (.ref cda) ct cc) (ar := ar) T (X.keeps hk₁) ?_ top ⟨_, hk₁ _ _ (X _ _ lk), rfl⟩ har cel cod U.ks U.kc (by rw [har2]; exact U.ka) U.kf hns (by rw [har2]; exact mself) (hk₁ _ _ hx) (U.he _ _ _ _) (U.hw _ _ _ _) (U.hst _ _ _ _) fun h' tk t1 k1 e1 => ?_
    · obtain ⟨mb, a, b⟩ := S.blt
      exact ⟨S.glob.keeps hk₁, ⟨mb, a.keeps hk₁, b⟩, S.none⟩
    · have xL : s.heap.objs.size ≠ x := Ne.symm (neL hx)
      have hn2 : h'.Ns s.heap.objs.size (fun y => (List.reverse [(("self" : Str), Value.ref x), (f, v), (g, u)]).lookup y) := by
        obtain ⟨o, es, ep, ho, r⟩ := hns
        exact ⟨o, es, ep, k1 _ _ xL ho, r⟩
      have Kin : ∀ {G : Heap} {z : Addr}, K.lookup z = none → (∀ b o, b ≠ z → h₁.get? b = some o → G.get? b = some o) → K.In G := fun {G z} nz k b o hb => by
        refine k b o (fun q => ?_) (X.keeps hk₁ b o hb)
        rw [q, nz] at hb
        cases hb
      refine _root_.PySem.wpAt_of_wpAny ?_
      refine fld_first (env := ksEnv qual (L2.defScope st) s.heap.objs.size fI (.ref cda) cc) (m := fun y => (List.reverse [(("self" : Str), Value.ref x), (f, v), (g, u)]).lookup y) T (Kin nx k1) hn2 e1 no mself mf U.kf U.ka V.lf V.hd (V.hw _ _ _ _) fun h2 tk2 dx k2 big dne e2 n2 => ?_
      have sz1 : s.heap.objs.size < h'.objs.size := hn2.lt
      have Ldx : s.heap.objs.size ≠ dx := Nat.ne_of_lt (Nat.lt_of_lt_of_le sz1 big)
      have hn3 : h2.Ns s.heap.objs.size (fun y => (List.reverse [(("self" : Str), Value.ref x), (f, v), (g, u)]).lookup y) := by
        obtain ⟨o, es, ep, ho, r⟩ := hn2
        exact ⟨o, es, ep, k2 _ _ xL ho, r⟩
      refine fld_next (env := ksEnv qual (L2.defScope st) s.heap.objs.size fI (.ref cda) cc) (g1 := f) (v1 := v) (m := fun y => (List.reverse [(("self" : Str), Value.ref x), (f, v), (g, u)]).lookup y) T (Kin nx fun b o hb e => k2 b o hb (k1 b o hb e)) hn3 e2 n2 no2 mself mG U.kf U.ka W.lf W.hd (W.hw _ _ _ _) fun h3 tk3 k3 n3 => ?_
      refine wpAny_execs_nil ?_
      refine h h3 tk3 dx t1 (fun b o hb e => k3 b o (fun q => ?_) (k2 b o hb (k1 b o hb (hk₁ b o e)))) (Nat.le_trans (Nat.le_of_lt sz1) big) dne (k3 x _ (Ne.symm dne) e2) n3
      have lt := Heap.lt_size e
      rw [q] at lt
      exact Nat.lt_irrefl _ (Nat.lt_of_lt_of_le lt (Nat.le_trans (Nat.le_of_lt sz1) big))
/-- C(..): what the __init__ leaves is a made error -/
theorem madeK {s : Shared} {rest : List Value} {kws : List (Str × Value)} {mp : Str → Option Value} (T : Own P K C qual st) (X : K.In s.heap) (S : Sup mg s.heap) (lim : s.heap.NoLimit) (size : rest.length ≤ sizeLine)
    (init : ∀ (fI cc cda x t0 : Addr) (oc kV doc pm ct : Value) (od an : Option Addr) (osl : Array (Option Value)) (s' : Shared) (A' : Around) (R' : Result → Shared → Prop), A'.depth = A.depth + 1 → K.In s'.heap → Sup mg s'.heap → s'.heap.NoLimit →
      K.lookup fI = some ⟨oc, od, .func (ksFn "__init__" qual (L2.defArgs st) (L2.defBody st) (L2.defScope st) .none kV doc pm an (.ref cda) ct cc), osl⟩ → codeIn K (.ref cda) qual = true →
      (∃ cl cld csl, K.lookup cc = some ⟨cl, cld, .cell (some (.ref C)), csl⟩) → (∃ ccl cdd vs ccs file tf, K.lookup cda = some ⟨ccl, cdd, .fields vs, ccs⟩ ∧ vs[2]? = some (.str file tf) ∧ ((P.main.file : Str) == file) = true) →
      s'.heap.get? x = some (excO C t0) → K.lookup x = none →
      (∀ h' tk dx t1, (∀ b o, b ≠ x → s'.heap.get? b = some o → h'.get? b = some o) → s'.heap.objs.size ≤ dx → dx ≠ x → h'.get? x = some { cls := .ref C, dict := some dx, data := .fields #[.ref t1, .none, .none, .none, .bool false, .none] } →
        h'.Ns1 dx mp → R' (.ok (.ret .none)) { s' with heap := h', toks := tk }) → codeAny (model P w) A' (.call (.ref fI) ⟨.ref x :: rest, kws⟩) R' s')
    (h : ∀ h' tk e d, Made s.heap h' e C d mp → R (.ok (.ret (.ref e))) { s with heap := h', toks := tk }) :
    codeAny (model P w) A (.call (.ref C) ⟨rest, kws⟩) R s := by
  obtain ⟨fI, cc, cda, oc, kV, doc, pm, ct, od, an, osl, hi, ti, lk, cd, cel, cod⟩ := T.fn
  obtain ⟨nm, q, N, bs, bm, sn, sub, ab, col, dd, k0, k1, k2, k3, k5, hC, hbm⟩ := T.cls
  obtain ⟨hp, g, dr, tk, os⟩ := s
  have k : ∀ b o, hp.get? b = some o → ((hp.push (kdv_tup rest)).push (excO C hp.objs.size)).get? b = some o := fun b o e => Heap.get?_push_of_some _ (Heap.get?_push_of_some _ e)
  have hget : ((hp.push (kdv_tup rest)).push (excO C hp.objs.size)).get? (hp.objs.size + 1) = some (excO C hp.objs.size) := by heap_get
  have nx : K.lookup (hp.objs.size + 1) = none := by
    cases e : K.lookup (hp.objs.size + 1) with
    | none => rfl
    | some o =>
      have z := Heap.lt_size (show hp.get? (hp.objs.size + 1) = some o from X _ _ e)
      exact absurd (Nat.lt_of_succ_lt z) (Nat.lt_irrefl _)
  obtain ⟨mb, Sa, Sb⟩ := S.blt
  refine callK F.excBase_ValueError (fun Y => refsVE_contains Y bm hbm) (X _ _ hC) (looks_findIn X hi) (fun self => bind_fn X self ti) size ?_
  refine init fI cc cda (hp.objs.size + 1) hp.objs.size oc kV doc pm ct od an osl ⟨(hp.push (kdv_tup rest)).push (excO C hp.objs.size), g, dr, tk, os⟩ _ _ rfl (X.keeps k) ⟨S.glob.keeps k, ⟨mb, Sa.keeps k, Sb⟩, S.none⟩ (lim.keeps k) lk cd cel cod hget nx ?_
  intro h' tk' dx t1 k' big dne he hns
  have z : hp.objs.size + 1 + 1 ≤ dx := by
    first
      | (simpa only [Heap.size_push] using big)
      | exact big
  exact ⟨rfl, h h' tk' (hp.objs.size + 1) dx ⟨fun b o e => k' b o (Nat.ne_of_lt (Nat.lt_succ_of_lt (Heap.lt_size e))) (k b o e), Nat.le_succ _, ⟨_, _, he, rfl, rfl, rfl, rfl⟩, Nat.le_trans (Nat.le_trans (Nat.le_succ _) (Nat.le_succ _)) z, dne, hns⟩⟩
end
end Err
set_option Elab.async false
set_option linter.all false
set_option maxRecDepth 100000
set_option maxHeartbeats 4000000
/-! Own errors at the hand layer: made by place and by keywords, kept behind the except suite, their fields and classes asked. -/
namespace Err
open PySem PySem.Spec PyProof.Rows L2
/-- the error at a: its class, its dict -/
def ExT (a : Addr) (cls : Value) (d : Option Addr) : HO := .ext fun h => ∃ oe vs, h.get? a = some oe ∧ Zc cls d oe ∧ oe.data = .fields vs
theorem ext_ok {P : Program} {w : World} {H : Hp} {h : Heap} {a : Addr} {oe : Obj} {vs : Array Value} {cls : Value} {d : Option Addr} (e : h.get? a = some oe) (z : Zc cls d oe) (v : oe.data = .fields vs) : ObjOk P w H h a (ExT a cls d) :=
  ⟨⟨oe, vs, e, z, v⟩, ⟨oe, e⟩, fun h1 h2 ⟨o1, v1, a1, b1, c1⟩ st => ⟨o1, v1, st _ a1, b1, c1⟩⟩
section
variable {X : Cx} {pins : List (Addr × Obj)} {σ : L2.St} {H : Hp} {s : Shared}
/-- an error that stands in the heap is known from now on -/
theorem track {a : Addr} {oe : Obj} {vs : Array Value} {cls : Value} {d : Option Addr} (J : Inv X pins σ H s) (ha : s.heap.get? a = some oe) (hd : oe.data = .fields vs) (hz : Zc cls d oe) (na : H a = none) (nL : a ≠ X.env.locals)
    (n0 : ∀ o, X.s_0.heap.get? a = some o → False) (np : ∀ p ∈ X.pn ++ pins, p.1 ≠ a) : Inv X pins σ (upd H a (ExT a cls d)) s := by
  have ne0 : ∀ {b : Addr} {o : Obj}, X.s_0.heap.get? b = some o → b ≠ a := fun {b o} e z => n0 o (by rw [← z]; exact e)
  have neH : ∀ {b : Addr} {o : HO}, H b = some o → b ≠ a := fun e => ne_of_none e na
  have neC : ∀ {x : Str} {c : Addr}, X.env.cells.lookup x = some c → c ≠ a := fun {x c} e z => by
    obtain ⟨v, o, ho, hv⟩ := J.cell x c e
    rw [z, ha] at ho
    cases ho
    rw [hd] at hv
    cases hv
  refine ⟨J.ok, J.os, J.bare, ⟨J.base.keep, J.base.slot, fun b o e n hx => ?_, J.base.there, fun b xs e => ?_, fun b o u e => ?_, fun b ps e => ?_⟩, J.loc, J.cell, ?_, fun x c e => ?_, fun p hp => ?_, fun b u e => ?_, J.len⟩
  · rw [upd_ne (ne0 e)]
    exact J.base.free b o e n hx
  · have z := J.base.tups b xs e
    rw [upd_ne (neH z)]
    exact z
  · have z := J.base.frzs b o u e
    rw [upd_ne (neH z)]
    exact z
  · obtain ⟨more, z⟩ := J.base.tbls b ps e
    exact ⟨more, by rw [upd_ne (neH z)]; exact z⟩
  · rw [upd_ne (Ne.symm nL)]
    exact J.free
  · rw [upd_ne (neC e)]
    exact J.freeC x c e
  · obtain ⟨z1, z2, z3, z4, z5⟩ := J.pin p hp
    exact ⟨z1, by rw [upd_ne (np p hp)]; exact z2, z3, z4, z5⟩
  · by_cases hb : b = a
    · subst hb
      rw [upd_same] at e
      cases e
      exact ext_ok ha hz hd
    · rw [upd_ne hb] at e
      refine (J.hok b u e).stay (fun _ _ _ q => q) (fun c q => ?_) fun c xs q => ?_
      · rw [upd_ne (neH q)]
        exact q
      · rw [upd_ne (neH q)]
        exact q
end
/-- what 'except x as n' wishes, the error known within the suite and behind it -/
def wKeep (K : PySem.W.Frag) (c : Value) (i : Nat) (ts : Addr → TS) (Wout : WX) (D : Ends) : WX := fun cls d σ H =>
  ∃ b, PySem.W.exmOne K cls c = some b ∧ (b = true → ∀ a, H a = none → ts a { nx := fun σ' H' => D.nx (σ'.set i none) H', rt := D.rt, bk := fun σ' H' => D.bk (σ'.set i none) H', ct := fun σ' H' => D.ct (σ'.set i none) H' } (σ.set i (some (.ref a))) (upd H a (ExT a cls d))) ∧
    (b = false → Wout cls d σ H)
section
variable {X : Cx} {x n : Str} {c : Value} {i : Nat} {body suite : List Stmt} {b₀ : Stmt} {np pos pos' : Pos} {tb : WX → TS} {ts : Addr → TS} {Wout : WX}
theorem ps_try_keep (hs : X.stack = X.env :: X.outer) (hf : X.env.frame = some X.env.locals) (hex : X.ex = []) (hN : X.N.Nodup) (hi : X.N[i]? = some n) (hln : X.env.kindOf n = some .local) (hc : Names X x c) (tk : Takes X Wout)
    (hb : ∀ (W : WX) (pn : List (Addr × Obj)) (xe : Value → Shared → Prop), Takes (X.tr pn xe) W → PassesOwn (model X.prog X.w) X.A X.env xe → PSs (X.tr pn xe) body (tb W))
    (hsu : ∀ (a : Addr) (pn : List (Addr × Obj)), PSs (X.suite a pn) (b₀ :: suite) (ts a)) :
    PS X (.Try body [.ExceptHandler (some (.Name x np)) (some n) (b₀ :: suite) pos'] [] [] pos) (fun D σ H => tb (wKeep X.K c i ts Wout D) D σ H) := by
  refine ⟨fun pins s σ H D I h => ?_⟩
  have ok := I.ok
  have fr1 : X.A.frames = some (X.env :: X.outer) := by
    rw [ok.frames]
    exact congrArg some hs
  have loc1 : Loc X.env.scope n := Or.inl hln
  refine wpAny_Try_except ?_
  refine wpAny_mono ((hb (wKeep X.K c i ts Wout D) (X.pn ++ pins)
      (fun e s₁ => wpAny (model X.prog X.w) X.A (noteFrame e X.env) (fun _ s₂ => wpAny (model X.prog X.w) X.A (setFlight e none)
        (fun _ s₃ => wpAny (model X.prog X.w) X.A (handleBy e X.env [.ExceptHandler (some (.Name x np)) (some n) (b₀ :: suite) pos']) (SP X pins D) X.xe s₃) X.xe s₂) X.xe s₁)
      (fun u s' xx => ?grab) PassesOwn.looking).run [] s σ H D (I.toTry _) h) (fun f s1 hsp => ?thru) (fun e s1 he => he)
  case grab =>
    obtain ⟨a, B, sI, pins', τ, G, cls, d, rfl, J', nb, up, sky, na, os, ag, b, hb1, hyes, hno⟩ := xx
    have J : Inv X pins τ G sI := J'.ofTry ok
    rw [show (X.tr (X.pn ++ pins) _).stack = X.env :: X.outer from hs] at sky
    show wpAny (model X.prog X.w) X.A (noteFrame (.ref a) X.env) _ _ _
    refine Sky.land Zc.steady fr1 hf sky fun h3 fl3 up3 => ?_
    have J3 : Inv X pins τ G { s' with heap := h3 } := J.landed nb fl3.1 (up.trans up3) os ag
    obtain ⟨oe3, vs3, he3, hz3, hd3⟩ := fl3.there
    have nfr : a ∉ frs (X.env :: X.outer) := fun hm => by
      obtain ⟨_, o', e', hnf⟩ := fl3.2.2.1.mem hm
      rw [he3] at e'
      cases e'
      exact hnf _ hd3
    have nL : a ≠ X.env.locals := fun z => nfr (List.mem_filterMap.mpr ⟨X.env, List.mem_cons_self, by rw [hf, z]⟩)
    have nI : ∀ o, sI.heap.get? a = some o → False := fun o e => by
      have z := nb a o e (by rw [show (X.tr (X.pn ++ pins) _).stack = X.env :: X.outer from hs]; exact nfr)
      rw [fl3.2.1] at z
      cases z
    have n0 : ∀ o, X.s_0.heap.get? a = some o → False := fun o e => by
      obtain ⟨o', z⟩ := J.base.there a o e (by rw [hex]; exact fun q => nomatch q)
      exact nI o' z
    have npin : ∀ p ∈ X.pn ++ pins, p.1 ≠ a := fun p hp z => by
      have q := (J.pin p hp).1
      rw [z] at q
      exact nI _ q
    have S3 : Inv (X.suite a (X.pn ++ pins)) [] τ (upd G a (ExT a cls d)) { s' with heap := h3 } := by
      have T3 := track J3 he3 hd3 hz3 na nL n0 npin
      exact ⟨T3.ok.suite _ _, T3.os, T3.bare, T3.base, T3.loc, T3.cell, T3.free, T3.freeC, fun p hp => T3.pin p (by rw [List.append_nil] at hp; exact hp), T3.hok, T3.len⟩
    refine wpAny_handleBy_cons (codeAny_handlers_test ?_) (by intro q; cases q)
    have LT : PySem.W.Looks (model X.prog X.w) h3 (typeOf (.ref a)) cls := fun A Q E s k q => wpAny_typeOf_ref (k _ _ he3) (by rw [hz3.1]; exact q)
    have LM := PySem.W.exm_one (M := model X.prog X.w) (J3.kIn) LT hb1
    have test : ∀ {Q : Value → Shared → Prop} {E : Value → Shared → Prop}, Q c { s' with heap := h3 } → wpAny (model X.prog X.w) (X.A.mark (some (.ref a))) (eval (.Name x np) X.env) Q E { s' with heap := h3 } := fun {Q E} q => by
      obtain ⟨g1, g2, g3 | ⟨g3, g4, g5⟩⟩ := hc
      · exact ld_glob (X := X.suite a (X.pn ++ pins)) S3 g1 g3 q g2
      · exact ld_blt (X := X.suite a (X.pn ++ pins)) S3 g1 g3 g4 q g5 g2
    refine test (LM.here ?_)
    cases b with
    | true =>
      refine codeAny_handlers_suite_as ?_
      refine HandSPX.lands_againZ fl3 fun h4 fl4 up4 => ?_
      have J4 : Inv X pins τ G { s' with heap := h4 } := J.landed nb fl4.1 ((up.trans up3).trans up4) os ag
      obtain ⟨oe4, vs4, he4, hz4, hd4⟩ := fl4.there
      have S4 : Inv (X.suite a (X.pn ++ pins)) [] τ (upd G a (ExT a cls d)) { s' with heap := h4 } := by
        have T4 := track J4 he4 hd4 hz4 na nL n0 npin
        exact ⟨T4.ok.suite _ _, T4.os, T4.bare, T4.base, T4.loc, T4.cell, T4.free, T4.freeC, fun p hp => T4.pin p (by rw [List.append_nil] at hp; exact hp), T4.hok, T4.len⟩
      refine store_ok (X := X.suite a (X.pn ++ pins)) (v := .ref a) S4 hN hi loc1 rfl (fun s5 S5 => ?_) (.inr hln)
      refine wpAny_mono ((hsu a (X.pn ++ pins)).run [] s5 _ _ _ S5 (hyes rfl a na)) (fun f s6 hsp => ?_) (fun _ _ z => False.elim z)
      have fin : ∀ {σ6 : L2.St} {H6 : Hp} {Q : Shared → Prop}, Inv (X.suite a (X.pn ++ pins)) [] σ6 H6 s6 → (∀ s7, Inv X pins (σ6.set i none) H6 s7 → Q s7) →
          wpAny (model X.prog X.w) X.A (do bindName X.env n .none; unbindBehindTheSuite X.env n pos') (fun _ s7 => Q s7) X.xe s6 := fun {σ6 H6 Q} S6 hq =>
        gone_ok (⟨ok, S6.os, S6.bare, S6.base, S6.loc, S6.cell, S6.free, S6.freeC, fun p hp => S6.pin p (List.mem_append_left _ hp), S6.hok, S6.len⟩ : Inv X pins σ6 H6 s6) hN hi hln hq
      cases f with
      | next =>
        obtain ⟨σ6, H6, S6, q6⟩ := hsp
        exact fin S6 fun s7 J7 => ⟨_, _, J7, q6⟩
      | brk =>
        obtain ⟨σ6, H6, S6, q6⟩ := hsp
        exact fin S6 fun s7 J7 => ⟨_, _, J7, q6⟩
      | cont =>
        obtain ⟨σ6, H6, S6, q6⟩ := hsp
        exact fin S6 fun s7 J7 => ⟨_, _, J7, q6⟩
      | ret u =>
        obtain ⟨v6, σ6, H6, S6, r6, q6⟩ := hsp
        exact fin S6 fun s7 J7 => ⟨_, _, _, J7, r6, q6⟩
    | false =>
      show wpAny _ X.A (handleBy (.ref a) X.env []) _ _ _
      refine wpAny_handleBy_nil ?_
      obtain ⟨k1, k2, k3, oe, vs, T, oT, ts', he, hz, hd, h1, hr⟩ := id fl3
      unfold PySem.passOn
      refine wpAny_bind (wpAny_field he hd h1 ?_)
      rw [if_neg (show ¬ ((Value.ref T == Value.none) = true) from by simp)]
      have on : wpAny (model X.prog X.w) X.A (setFlight (.ref a) X.env.frame) (fun _ s4 => wpAny (model X.prog X.w) X.A (throw (.ref a) : Sem Flow) (SP X pins D) X.xe s4) X.xe { s' with heap := h3 } := by
        rw [hf]
        refine HandSPX.setFlight_upZ fl3 fun h4 hh4 up4 => wpAny_throw (tk _ _ ?_)
        refine ⟨a, B, sI, pins, τ, G, cls, d, rfl, J, ?_, (up.trans up3).trans up4, .inr (.inr ?_), na, os, ag, hno rfl⟩
        · exact nb
        · rw [hs]
          exact hh4
      first
        | exact wpAny_bind (wpAny_pure (wpAny_bind on))
        | exact wpAny_bind on
  case thru =>
    cases f with
    | next =>
      obtain ⟨τ, G, J', q⟩ := hsp
      exact wpAny_execs_nil ⟨τ, G, J'.ofTry ok, q⟩
    | brk =>
      obtain ⟨τ, G, J', q⟩ := hsp
      exact ⟨τ, G, J'.ofTry ok, q⟩
    | cont =>
      obtain ⟨τ, G, J', q⟩ := hsp
      exact ⟨τ, G, J'.ofTry ok, q⟩
    | ret u =>
      obtain ⟨v, τ, G, J', r, q⟩ := hsp
      exact ⟨v, τ, G, J'.ofTry ok, r, q⟩
end
end Err
set_option Elab.async false
set_option linter.all false
set_option maxRecDepth 100000
set_option maxHeartbeats 4000000
namespace Err
open PySem PySem.Spec PyProof.Rows L2
/-- what the written part says of an error class x at C, beside Own -/
structure ErrC (P : Program) (K : PySem.W.Frag) (mg : Str → Option Value) (x qual : Str) (st : Stmt) (C : Addr) : Prop where
  own : Own P K C qual st
  gC : mg x = some (.ref C)
  kC : PySem.W.keepIn K (.ref C) = true
  exC : PySem.W.subIn K (.ref C) (.type "BaseException") = some true
  tyC : PySem.W.typeIn K (.ref C) = some (.type "type")
theorem relO1 {v : V} {v' : Value} (r : RelV v v') (f y : Str) : RelO (List.lookup y [(f, v)]) (if y = f then some v' else none) := by
  by_cases h : y = f
  · subst h
    rw [if_pos rfl]
    simp only [List.lookup, beq_self_eq_true]
    exact r
  · rw [if_neg h]
    have q : (y == f) = false := beq_eq_false_iff_ne.mpr h
    simp only [List.lookup, q]
    trivial
theorem relO2 {v u : V} {v' u' : Value} (r : RelV v v') (r2 : RelV u u') (f g y : Str) : RelO (List.lookup y [(g, u), (f, v)]) (if y = g then some u' else if y = f then some v' else none) := by
  by_cases h : y = g
  · subst h
    rw [if_pos rfl]
    simp only [List.lookup, beq_self_eq_true]
    exact r2
  · rw [if_neg h]
    have q : (y == g) = false := beq_eq_false_iff_ne.mpr h
    have e : List.lookup y [(g, u), (f, v)] = List.lookup y [(f, v)] := by simp only [List.lookup, q]
    rw [e]
    exact relO1 r f y
section
variable {X : Cx} {pins : List (Addr × Obj)} {σ : L2.St} {H : Hp} {Q : XK}
theorem mk_done {hp h' : Heap} {g : Array GenState} {dr : Drawn} {tk tk' : Nat} {os : OsState} {e C d : Addr} {mp : Str → Option Value} {fs : List (Str × V)} (I : Inv X pins σ H ⟨hp, g, dr, tk, os⟩) (M : Made hp h' e C d mp) (rl : ∀ y, RelO (fs.lookup y) (mp y))
    (exC : PySem.W.subIn X.K (.ref C) (.type "BaseException") = some true) (tyC : PySem.W.typeIn X.K (.ref C) = some (.type "type")) (q : ∀ d, H d = none → Q (.ref C) (some d) (upd H d (.xd fs))) : MkP X pins σ Q (.ref e) ⟨h', g, dr, tk', os⟩ := by
  obtain ⟨oe, fv, hoe, hc, hd, hdat, h1⟩ := M.obj
  have hns := M.ns
  obtain ⟨G, g1, g2⟩ := restrict h' fun b => decide (b ≠ e)
  have gk : ∀ b, b ≠ e → G.get? b = h'.get? b := fun b hb => g1 b (decide_eq_true hb)
  have ge : G.get? e = none := g2 e (by simp)
  have old : ∀ b o, hp.get? b = some o → G.get? b = some o := fun b o z => by
    rw [gk b (Nat.ne_of_lt (Nat.lt_of_lt_of_le (Heap.lt_size z) M.new))]
    exact M.keep b o z
  have ob : ObjOk X.prog X.w (upd H d (.xd fs)) G d (.xd fs) := ⟨mp, hns.at (fun o z => (gk d M.dne).trans z), rl⟩
  have J : Inv X pins σ (upd H d (.xd fs)) ⟨G, g, dr, tk', os⟩ := I.laid (t' := tk') old M.dbig ob
  refine ⟨e, oe, fv, ⟨G, g, dr, tk', os⟩, _, .ref C, some d, rfl, J, fun b o z => ?_, ge, hoe, ⟨hc, hd⟩, hdat, h1, ?_, rfl, I.bare, raises_own exC tyC, q d (I.hok.fresh M.dbig)⟩
  · by_cases hb : b = e
    · have z' : G.get? b = some o := z
      rw [hb, ge] at z'
      cases z'
    · rw [← gk b hb]
      exact z
  · rw [upd_ne (Ne.symm M.dne)]
    exact I.hok.fresh M.new
theorem sup_of {s : Shared} (I : Inv X pins σ H s) (no : X.mg "super" = none) : Sup X.mg s.heap := by
  obtain ⟨mb, b1, b2⟩ := I.mod.blt
  refine ⟨I.mod.glob.keeps I.bk, ⟨mb, b1.keeps I.bk, ?_⟩, no⟩
  rw [b2 "super" (by decide)]
  rfl
end
/-- a call of the class with n values by place and the keywords ks makes an error with the fields fs -/
def Makes (P : Program) (w : World) (K : PySem.W.Frag) (mg : Str → Option Value) (C : Addr) (n : Nat) (ks : List Str) (fs : List V → List V → List (Str × V)) : Prop :=
  ∀ (A : Around) (R : Result → Shared → Prop) (s : Shared) (us ws : List Value) (xs zs : List V), us.length = n → ws.length = ks.length → Vals xs us → Vals zs ws → K.In s.heap → Sup mg s.heap → s.heap.NoLimit → A.depth + 1 < recursionLimit →
    (∀ h' tk e d mp, Made s.heap h' e C d mp → (∀ y, RelO ((fs xs zs).lookup y) (mp y)) → R (.ok (.ret (.ref e))) { s with heap := h', toks := tk }) → codeAny (model P w) A (.call (.ref C) ⟨us, ks.zip ws⟩) R s
def f10 (f : Str) : List V → List V → List (Str × V) := fun xs _ => match xs with | [v] => [(f, v)] | _ => []
def f01 (f : Str) : List V → List V → List (Str × V) := fun _ zs => match zs with | [v] => [(f, v)] | _ => []
def f20 (f g : Str) : List V → List V → List (Str × V) := fun xs _ => match xs with | [v, u] => [(g, u), (f, v)] | _ => []
def f02 (f g : Str) : List V → List V → List (Str × V) := fun _ zs => match zs with | [u, v] => [(g, u), (f, v)] | _ => []
theorem one_val {xs : List V} {us : List Value} (r : Vals xs us) (h : us.length = 1) : ∃ v v', xs = [v] ∧ us = [v'] ∧ RelV v v' := by
  cases r with
  | nil => cases h
  | cons a t =>
    cases t with
    | nil => exact ⟨_, _, rfl, rfl, a⟩
    | cons b t => simp at h
theorem two_vals {xs : List V} {us : List Value} (r : Vals xs us) (h : us.length = 2) : ∃ v u v' u', xs = [v, u] ∧ us = [v', u'] ∧ RelV v v' ∧ RelV u u' := by
  cases r with
  | nil => cases h
  | cons a t =>
    obtain ⟨u, u', rfl, rfl, ru⟩ := one_val t (by simpa using h)
    exact ⟨_, _, _, _, rfl, rfl, a, ru⟩
theorem no_val {us : List Value} (h : us.length = 0) : us = [] := List.length_eq_zero_iff.mp h
section
variable {P : Program} {w : World} {K : PySem.W.Frag} {mg : Str → Option Value} {C : Addr} {qual f g : Str} {st : Stmt}
abbrev iFn (qual : Str) (st : Stmt) (kV doc pm ct : Value) (an : Option Addr) (cda cc : Addr) : FuncData := PySem.W.ksFn "__init__" qual (L2.defArgs st) (L2.defBody st) (L2.defScope st) .none kV doc pm an (.ref cda) ct cc
theorem size1 (v : Value) : [v].length ≤ sizeLine := by
  rw [sizeLine_eq]
  exact (by decide : 1 ≤ 16777216)
theorem size2 (v u : Value) : [v, u].length ≤ sizeLine := by
  rw [sizeLine_eq]
  exact (by decide : 2 ≤ 16777216)
theorem size0 : ([] : List Value).length ≤ sizeLine := by
  rw [sizeLine_eq]
  exact (by decide : 0 ≤ 16777216)
theorem mk10 (T : Own P K C qual st) (O : One qual st f) (no : PySem.W.findIn K (.ref C) f = some none) (top : (P.main.scope.names.lookup ("super" : Str)).isSome = false)
    (bnd : ∀ (kV doc pm ct : Value) (an : Option Addr) (cda cc : Addr) (xv v : Value), bindArgs (iFn qual st kV doc pm ct an cda cc) ⟨[xv, v], []⟩ = pure [(("self" : Str), xv), (f, v)]) : Makes P w K mg C 1 [] (f10 f) := by
  intro A R s us ws xs zs n1 n2 r1 r2 KX S lim room q
  obtain ⟨v, v', rfl, rfl, rv⟩ := one_val r1 n1
  obtain rfl := no_val n2
  refine madeK (mp := fun y => if y = f then some v' else none) T KX S lim (size1 v') (fun fI cc cda x t0 oc kV doc pm ct od an osl s' A' R' dep KX' S' lim' lk cd cel cod hx nx h => ?_) fun h' tk e d M => q h' tk e d _ M (relO1 rv f)
  exact init1 T O no KX' S' top lim' (by omega) lk cd cel cod (.of_eq (bnd _ _ _ _ _ _ _ _ _)) hx nx h
theorem mk01 (T : Own P K C qual st) (O : One qual st f) (no : PySem.W.findIn K (.ref C) f = some none) (top : (P.main.scope.names.lookup ("super" : Str)).isSome = false)
    (bnd : ∀ (kV doc pm ct : Value) (an : Option Addr) (cda cc : Addr) (xv v : Value), bindArgs (iFn qual st kV doc pm ct an cda cc) ⟨[xv], [(f, v)]⟩ = pure [(("self" : Str), xv), (f, v)]) : Makes P w K mg C 0 [f] (f01 f) := by
  intro A R s us ws xs zs n1 n2 r1 r2 KX S lim room q
  obtain ⟨v, v', rfl, rfl, rv⟩ := one_val r2 n2
  obtain rfl := no_val n1
  refine madeK (mp := fun y => if y = f then some v' else none) T KX S lim size0 (fun fI cc cda x t0 oc kV doc pm ct od an osl s' A' R' dep KX' S' lim' lk cd cel cod hx nx h => ?_) fun h' tk e d M => q h' tk e d _ M (relO1 rv f)
  exact init1 T O no KX' S' top lim' (by omega) lk cd cel cod (.of_eq (bnd _ _ _ _ _ _ _ _ _)) hx nx h
theorem mk20 (T : Own P K C qual st) (O : Two qual st f g) (no : PySem.W.findIn K (.ref C) f = some none) (no2 : PySem.W.findIn K (.ref C) g = some none) (top : (P.main.scope.names.lookup ("super" : Str)).isSome = false)
    (bnd : ∀ (kV doc pm ct : Value) (an : Option Addr) (cda cc : Addr) (xv v u : Value), bindArgs (iFn qual st kV doc pm ct an cda cc) ⟨[xv, v, u], []⟩ = pure [(("self" : Str), xv), (f, v), (g, u)]) : Makes P w K mg C 2 [] (f20 f g) := by
  intro A R s us ws xs zs n1 n2 r1 r2 KX S lim room q
  obtain ⟨v, u, v', u', rfl, rfl, rv, ru⟩ := two_vals r1 n1
  obtain rfl := no_val n2
  refine madeK (mp := fun y => if y = g then some u' else if y = f then some v' else none) T KX S lim (size2 v' u') (fun fI cc cda x t0 oc kV doc pm ct od an osl s' A' R' dep KX' S' lim' lk cd cel cod hx nx h => ?_) fun h' tk e d M => q h' tk e d _ M (relO2 rv ru f g)
  exact init2 T O no no2 KX' S' top lim' (by omega) lk cd cel cod (.of_eq (bnd _ _ _ _ _ _ _ _ _ _)) hx nx h
theorem mk02 (T : Own P K C qual st) (O : Two qual st f g) (no : PySem.W.findIn K (.ref C) f = some none) (no2 : PySem.W.findIn K (.ref C) g = some none) (top : (P.main.scope.names.lookup ("super" : Str)).isSome = false)
    (bnd : ∀ (kV doc pm ct : Value) (an : Option Addr) (cda cc : Addr) (xv v u : Value), bindArgs (iFn qual st kV doc pm ct an cda cc) ⟨[xv], [(g, u), (f, v)]⟩ = pure [(("self" : Str), xv), (f, v), (g, u)]) : Makes P w K mg C 0 [g, f] (f02 f g) := by
  intro A R s us ws xs zs n1 n2 r1 r2 KX S lim room q
  obtain ⟨u, v, u', v', rfl, rfl, ru, rv⟩ := two_vals r2 n2
  obtain rfl := no_val n1
  refine madeK (mp := fun y => if y = g then some u' else if y = f then some v' else none) T KX S lim size0 (fun fI cc cda x t0 oc kV doc pm ct od an osl s' A' R' dep KX' S' lim' lk cd cel cod hx nx h => ?_) fun h' tk e d M => q h' tk e d _ M (relO2 rv ru f g)
  exact init2 T O no no2 KX' S' top lim' (by omega) lk cd cel cod (.of_eq (bnd _ _ _ _ _ _ _ _ _ _)) hx nx h
end
/-- C(..), C(k=..): the error, its dict -/
def tMkA (C : Addr) (fs : List V → List V → List (Str × V)) (ta : TA) : L2.St → Hp → XK → Prop := fun σ H Q => ta σ H fun xs H1 => ∀ d, H1 d = none → Q (.ref C) (some d) (upd H1 d (.xd (fs xs [])))
def tMkW (C : Addr) (fs : List V → List V → List (Str × V)) (tk : TA) : L2.St → Hp → XK → Prop := fun σ H Q => tk σ H fun zs H1 => ∀ d, H1 d = none → Q (.ref C) (some d) (upd H1 d (.xd (fs [] zs)))
/-- as many as there are -/
def Len (t : TA) (n : Nat) : Prop := ∀ σ H Q, t σ H Q → t σ H fun xs H' => xs.length = n ∧ Q xs H'
section
variable {X : Cx} {x qual : Str} {st : Stmt} {C : Addr} {es : List Expr} {kws : List Keyword} {ta : TA} {p pos : Pos} {k n : Nat} {ks : List Str} {fs : List V → List V → List (Str × V)}
theorem pmkA {e : Expr} (T : ErrC X.prog X.K X.mg x qual st C) (Mk : Makes X.prog X.w X.K X.mg C n [] fs) (sup : X.mg "super" = none) (hr : Room (k + 1) X.A) (ha : PA X (e :: es) ta) (ln : Len ta n) (hg : Gl X x := by rfl) (hdb : (x == ("__debug__" : Str)) = false := by decide)
    (he : starEach (e :: es) X.env = (false, eval e X.env) :: starEach es X.env := by rfl) (hpl : (backTo pos (starEach es X.env)).any (·.1) = false := by rfl) : PMk X (.Call (.Name x p) (e :: es) [] pos) (tMkA C fs ta) := by
  intro pins s σ H Q I h
  refine wpAny_Call_Name_kw (ld_glob I hg T.gC ?_ hdb)
  refine PySem.W.callWith_K (h₀ := X.base) I.ok.mod.kin T.kC (thn (ha.run pos pins s σ H _ I (ln _ _ _ h)) fun us s1 hh => ?_) he hpl
  obtain ⟨xs, H1, I1, r1, len, q1⟩ := hh
  refine ⟨I1.kIn, ?_⟩
  show wpAny _ _ (call (.ref C) us) _ _ _
  have hlim := I1.nolimit
  have S := sup_of I1 sup
  have KX := I1.kIn
  obtain ⟨hp, g, dr, tk, os⟩ := s1
  refine wpAny_call (Mk _ _ _ us [] xs [] (r1.length.symm.trans len) rfl r1 .nil KX S hlim (by have := hr.dp; omega) fun h' tk' e d mp M rl => ?_)
  exact mk_done I1 M rl T.exC T.tyC q1
theorem pmkW {tk : TA} (T : ErrC X.prog X.K X.mg x qual st C) (Mk : Makes X.prog X.w X.K X.mg C 0 ks fs) (sup : X.mg "super" = none) (hr : Room (k + 1) X.A) (words : PK X kws tk) (ln : Len tk ks.length) (hg : Gl X x := by rfl) (hdb : (x == ("__debug__" : Str)) = false := by decide)
    (named : (backToKw pos (keywordEach kws X.env)).all (·.1.isSome) = true := by rfl) (names : (backToKw pos (keywordEach kws X.env)).filterMap (·.1) = ks := by rfl)
    (plain : ((backTo pos (starEach [] X.env)).any (·.1) || (backToKw pos (keywordEach kws X.env)).any (·.1.isNone)) = false := by rfl) : PMk X (.Call (.Name x p) [] kws pos) (tMkW C fs tk) := by
  intro pins s σ H Q I h
  refine wpAny_Call_Name_kw (ld_glob I hg T.gC (PySem.W.callWith_KW0 (h₀ := X.base) I.ok.mod.kin T.kC named ?_ plain) hdb)
  refine thn (words.run pos pins s σ H _ I (ln _ _ _ h)) fun ws s1 hh => ?_
  obtain ⟨zs, H1, I1, r1, len, q1⟩ := hh
  refine ⟨I1.kIn, ?_⟩
  rw [names]
  have hlim := I1.nolimit
  have S := sup_of I1 sup
  have KX := I1.kIn
  obtain ⟨hp, g, dr, tk', os⟩ := s1
  refine wpAny_call (Mk _ _ _ [] ws [] zs rfl (r1.length.symm.trans len) .nil r1 KX S hlim (by have := hr.dp; omega) fun h' tk' e d mp M rl => ?_)
  exact mk_done I1 M rl T.exC T.tyC q1
end
/-! ### its fields, its classes -/
/-- e.f, e an error that is known -/
def tFld (K : PySem.W.Frag) (f : Str) (te : TE) : TE := fun σ H Q => te σ H fun x H1 => ∃ (a C d : Addr) (fs : List (Str × V)) (v : V), x = .ref a ∧ H1 a = some (ExT a (.ref C) (some d)) ∧ H1 d = some (.xd fs) ∧ fs.lookup f = some v ∧ XfC K C ∧ PySem.W.findIn K (.ref C) f = some none ∧ Q v H1
section
variable {X : Cx}
theorem inst_of {P : Program} {w : World} {H : Hp} {h : Heap} {a C d : Addr} {fs : List (Str × V)} (ok : HOk P w H h) (e1 : H a = some (ExT a (.ref C) (some d))) (e2 : H d = some (.xd fs)) :
    ∃ (oe od : Obj) (mA : Str → Option Value), PySem.W.InstAt h a oe C (some od) ∧ (∀ name, PySem.W.lookIn name od = some (mA name)) ∧ ∀ f, RelO (fs.lookup f) (mA f) := by
  obtain ⟨⟨oe, vs, ha, hz, hd⟩, _, _⟩ := (show ObjOk P w H h a (ExT a (.ref C) (some d)) from ok a _ e1)
  obtain ⟨mA, hns, hr⟩ := (show ObjOk P w H h d (.xd fs) from ok d _ e2)
  obtain ⟨od, ho, hl⟩ := lookIn_ns hns
  refine ⟨oe, od, mA, ⟨ha, hz.1, ?_, ?_⟩, hl, hr⟩
  · unfold PySem.W.notCls
    rw [hd] <;> rfl
  · rw [hz.2]
    exact ho
theorem pe_fld {e : Expr} {te : TE} {pos : Pos} {f : Str} (he : PE X e te) (hb : attributeBase e f X.env (eval e X.env) = eval e X.env := by rfl) : PE X (.Attribute e f pos) (tFld X.K f te) := by
  refine ⟨fun pins s σ H Q I h => ?_⟩
  refine attr_of hb (thn (he.run pins s σ H _ I h) fun u s1 hh => ?_)
  obtain ⟨x, H1, I1, rx, a, C, d, fs, v, rfl, e1, e2, l, T, no, q⟩ := hh
  obtain rfl : u = Value.ref a := rx
  obtain ⟨oe, od, mA, J, hl, hr⟩ := inst_of I1.hok e1 e2
  obtain ⟨u, hu, ru⟩ := RelO.some_of (v := v) (o := mA f) (by rw [← l]; exact hr f)
  exact HandSPX.exc_get I1.kIn J T.ga T.gg T.exC (PySem.W.findObj_own T.hdC no rfl (by rw [hl, hu])) (handed_of ru) ⟨v, H1, I1.tok _, ru, q⟩
/-- what the class must say for isinstance of its instances -/
structure IsC (K : PySem.W.Frag) (C : Addr) : Prop extends XfC K C where
  ha : PySem.W.findIn K (.ref C) "__class__" = some (some (.builtin "object.__class__"))
  hn : PySem.W.specialIn K (.builtin "object.__class__") "__get__" = some (some (.builtin "getset_descriptor.__get__"))
  ht : PySem.W.takesIn K (.builtin "object.__class__") = some true
  hm : PySem.W.mroIn K C (.type "object") = some true
theorem IsC.kit {K : PySem.W.Frag} {C a : Addr} {oe : Obj} {od : Option Obj} (T : IsC K C) : PySem.W.KitX K (.ref a) (.ref C) (fun h => PySem.W.InstAt h a oe C od) := by
  refine PySem.W.kitx_exc ?_ T.ga T.gg T.exC T.ha T.hn T.ht T.hm
  have z := T.hdC
  unfold PySem.W.hasDictIn at z
  cases e : PySem.W.clsIn K C with
  | none =>
    rw [e] at z
    exact absurd z (by decide)
  | some cd => rfl
/-- isinstance(e, c), e an error that is known -/
def rIsX (K : PySem.W.Frag) : List V → Hp → VK → Prop := fun xs H Q => ∃ (a C d : Addr) (fs : List (Str × V)) (c : V) (cv : Value) (b : Bool), xs = [.ref a, c] ∧ H a = some (ExT a (.ref C) (some d)) ∧ H d = some (.xd fs) ∧ IsC K C ∧ ClsV c cv ∧ PySem.W.kitOne K (.ref C) cv = some b ∧ Q (.bl b) H
theorem call_isX : CallR X (.builtin "isinstance") (rIsX X.K) := by
  intro pins s σ H xs us Q I r h
  obtain ⟨a, C, d, fs, c, cv, b, rfl, e1, e2, T, kc, e, q⟩ := h
  obtain ⟨u1, u2, rfl, r1, r2⟩ := vals2 r
  cases (show u1 = Value.ref a from r1)
  have w2 := kc.eq r2
  subst w2
  obtain ⟨oe, od, mA, J, _, _⟩ := inst_of I.hok e1 e2
  exact PySem.W.kia_one T.kit I.kIn J e (fun z => nomatch z) fun tk => ⟨.bl b, H, I.tok tk, rfl, q⟩
/-- isinstance(e, (c1, c2, ..)) -/
def rIsXT (K : PySem.W.Frag) : List V → Hp → VK → Prop := fun xs H Q => ∃ (a C d : Addr) (fs : List (Str × V)) (tp : Addr) (cs : List V) (us : List Value) (b : Bool), xs = [.ref a, .ref tp] ∧ H a = some (ExT a (.ref C) (some d)) ∧ H d = some (.xd fs) ∧ IsC K C ∧
  H tp = some (.tup cs) ∧ Paired ClsV cs us ∧ PySem.W.kitAny K (.ref C) us = some b ∧ Q (.bl b) H
theorem call_isXT : CallR X (.builtin "isinstance") (rIsXT X.K) := by
  intro pins s σ H xs us Q I r h
  obtain ⟨a, C, d, fs, tp, cs, ws, b, rfl, e1, e2, T, hT, k, e, q⟩ := h
  obtain ⟨u1, u2, rfl, r1, r2⟩ := vals2 r
  cases (show u1 = Value.ref a from r1)
  cases (show u2 = Value.ref tp from r2)
  obtain ⟨oe, od, mA, J, _, _⟩ := inst_of I.hok e1 e2
  obtain ⟨_, its, rv, o, h1, h2, n, h3⟩ := (show ObjOk X.prog X.w H s.heap tp (.tup cs) from I.hok tp _ hT)
  have e3 := ClsV.all k rv
  subst e3
  obtain ⟨oc, od', dt, sl⟩ := o
  simp only at h2 h3
  subst h2 h3
  exact PySem.W.kia_tup T.kit I.kIn J h1 e (fun z => nomatch z) fun tk => ⟨.bl b, H, I.tok tk, rfl, q⟩
end
end Err
set_option Elab.async false
set_option linter.all false
set_option maxRecDepth 100000
set_option maxHeartbeats 4000000
/-! Error classes directly below one base, itself below ValueError: what the written part says of each. -/
namespace Err
open PySem PySem.Spec PyProof.Rows L2
abbrev veT : List Value := [.type "ValueError", .type "Exception", .type "BaseException", .type "object"]
/-- the base: class FenceError(ValueError): pass -/
structure Base (K : PySem.W.Frag) (mg : Str → Option Value) (x : Str) (F : Addr) : Prop where
  g : mg x = some (.ref F)
  lk : ∃ q N bs sn sub ab col dd k0 k1 k2 k3 k5, K.lookup F = some (excClassObj x q F N bs veT true sn sub ab col dd k0 k1 k2 k3 k5 "ValueError.__new__")
  op : PySem.W.nsIn K PySem.cStatics "thirdparty.any" = some none
  hn : PySem.W.specialIn K (.builtin "object.__class__") "__get__" = some (some (.builtin "getset_descriptor.__get__"))
  ht : PySem.W.takesIn K (.builtin "object.__class__") = some true
/-- a class below it -/
structure EC (P : Program) (K : PySem.W.Frag) (mg : Str → Option Value) (F : Addr) (x qual : Str) (st : Stmt) (C : Addr) : Prop where
  g : mg x = some (.ref C)
  lk : ∃ q N bs sn sub ab col dd k0 k1 k2 k3 k5, K.lookup C = some (excClassObj x q C N bs (.ref F :: veT) true sn sub ab col dd k0 k1 k2 k3 k5 "ValueError.__new__")
  sa : PySem.W.findIn K (.ref C) "__setattr__" = some (some (.builtin "object.__setattr__"))
  ga : PySem.W.findIn K (.ref C) "__getattribute__" = some (some (.builtin "BaseException.__getattribute__"))
  gg : PySem.W.findIn K (.ref C) "__getattr__" = some none
  ha : PySem.W.findIn K (.ref C) "__class__" = some (some (.builtin "object.__class__"))
  kC : PySem.W.keepIn K (.ref C) = true
  sup : PySem.W.ks_superIn K C C "__init__" = some (some (.builtin "ValueError.__init__"))
  fn : ∃ (fI cc cda : Addr) (oc kV doc pm ct : Value) (od an : Option Addr) (osl : Array (Option Value)),
    PySem.W.findIn K (.ref C) "__init__" = some (some (.ref fI)) ∧ PySem.W.typeIn K (.ref fI) = some (.type "function") ∧
    K.lookup fI = some ⟨oc, od, .func (PySem.W.ksFn "__init__" qual (L2.defArgs st) (L2.defBody st) (L2.defScope st) .none kV doc pm an (.ref cda) ct cc), osl⟩ ∧ PySem.W.codeIn K (.ref cda) qual = true ∧
    (∃ cl cld csl, K.lookup cc = some ⟨cl, cld, .cell (some (.ref C)), csl⟩) ∧
    ∃ ccl cdd vs ccs file tf, K.lookup cda = some ⟨ccl, cdd, .fields vs, ccs⟩ ∧ vs[2]? = some (.str file tf) ∧ ((P.main.file : Str) == file) = true
section
variable {P : Program} {K : PySem.W.Frag} {mg : Str → Option Value} {F C D : Addr} {x y qual q2 b : Str} {st st2 : Stmt}
theorem mro_of {C : Addr} {x : Str} {bm : List Value} {cd : Value → Prop} (h : ∃ q N bs sn sub ab col dd k0 k1 k2 k3 k5, K.lookup C = some (excClassObj x q C N bs bm true sn sub ab col dd k0 k1 k2 k3 k5 "ValueError.__new__")) (u : Value) :
    PySem.W.mroIn K C u = some ((Value.ref C :: bm).contains u) ∧ (PySem.W.clsIn K C).isSome = true ∧ PySem.W.hasDictIn K C = true ∧ PySem.W.typeIn K (.ref C) = some (.type "type") := by
  obtain ⟨q, N, bs, sn, sub, ab, col, dd, k0, k1, k2, k3, k5, h⟩ := h
  have e : ∃ cd, PySem.W.clsIn K C = some cd ∧ cd.mro = .ref C :: bm ∧ cd.hasDict = true := by
    unfold PySem.W.clsIn
    rw [h]
    exact ⟨_, rfl, rfl, rfl⟩
  obtain ⟨cd, e1, e2, e3⟩ := e
  refine ⟨?_, ?_, ?_, ?_⟩
  · unfold PySem.W.mroIn
    rw [e1, Option.bind_some, e2]
    rfl
  · rw [e1]
    rfl
  · unfold PySem.W.hasDictIn
    rw [e1]
    exact e3
  · show (K.lookup C).map (·.cls) = _
    rw [h]
    rfl
theorem EC.sub (T : EC P K mg F x qual st C) (u : Value) : PySem.W.subIn K (.ref C) u = some ((Value.ref C :: .ref F :: veT).contains u) := (mro_of (cd := fun _ => True) T.lk u).1
theorem EC.own (T : EC P K mg F x qual st C) (B : Base K mg b F) : Own P K C qual st := by
  refine ⟨?_, T.sa, B.op, T.sup, ?_, ?_, T.fn⟩
  · obtain ⟨q, N, bs, sn, sub, ab, col, dd, k0, k1, k2, k3, k5, h⟩ := T.lk
    exact ⟨_, _, _, _, _, _, _, _, _, _, _, _, _, _, _, h, rfl⟩
  · refine ((mro_of (cd := fun _ => True) T.lk _).1).trans ?_
    rw [List.contains_cons, beq_self_eq_true]
    rfl
  · exact T.sub _
theorem EC.err (T : EC P K mg F x qual st C) (B : Base K mg b F) : ErrC P K mg x qual st C := by
  have m := mro_of (cd := fun _ => True) T.lk (.type "BaseException")
  exact ⟨T.own B, T.g, T.kC, T.sub _, m.2.2.2⟩
theorem EC.xf (T : EC P K mg F x qual st C) : XfC K C := ⟨T.ga, T.gg, T.sub _, (mro_of (cd := fun _ => True) T.lk .none).2.2.1⟩
theorem EC.is (T : EC P K mg F x qual st C) (B : Base K mg b F) : IsC K C := ⟨T.xf, T.ha, B.hn, B.ht, T.sub _⟩
/-- which classes it is of -/
theorem kit_ref {D : Addr} (m : (PySem.W.clsIn K D).isSome = true ∧ PySem.W.typeIn K (.ref D) = some (.type "type")) (T : EC P K mg F x qual st C) : PySem.W.kitOne K (.ref C) (.ref D) = some (decide (C = D) || decide (F = D)) := by
  unfold PySem.W.kitOne
  by_cases h : C = D
  · subst h
    rw [if_pos (beq_self_eq_true _), decide_eq_true rfl]
    rfl
  · have hb : (Value.ref C == Value.ref D) = false := beq_eq_false_iff_ne.mpr fun z => h (Value.ref.inj z)
    have hb2 : (Value.ref D == Value.ref C) = false := beq_eq_false_iff_ne.mpr fun z => h (Value.ref.inj z).symm
    rw [if_neg (by rw [hb]; exact Bool.false_ne_true), decide_eq_false h, Bool.false_or]
    show (if _ then _ else _) = _
    have e : ((PySem.W.clsIn K D).isSome && PySem.W.typeIn K (.ref D) == some (.type "type")) = true := by
      rw [m.1, m.2]
      rfl
    rw [if_pos e, T.sub]
    congr 1
    rw [List.contains_cons, hb2, Bool.false_or, List.contains_cons]
    by_cases g : F = D
    · subst g
      rw [beq_self_eq_true, decide_eq_true rfl, Bool.true_or]
    · have gb : (Value.ref D == Value.ref F) = false := beq_eq_false_iff_ne.mpr fun z => g (Value.ref.inj z).symm
      rw [gb, decide_eq_false g, Bool.false_or]
      rfl
theorem EC.kitE (T : EC P K mg F x qual st C) (U : EC P K mg F y q2 st2 D) (ne : F ≠ D) : PySem.W.kitOne K (.ref C) (.ref D) = some (decide (C = D)) := by
  have m := mro_of (cd := fun _ => True) U.lk .none
  rw [kit_ref ⟨m.2.1, m.2.2.2⟩ T, decide_eq_false ne, Bool.or_false]
theorem EC.kitB (T : EC P K mg F x qual st C) {n : String} (h : PySem.W.kitMeta n = true) : PySem.W.kitOne K (.ref C) (.type n) = some (veT.contains (.type n)) := by
  unfold PySem.W.kitOne
  rw [if_neg (by rw [show (Value.ref C == Value.type n) = false from rfl]; exact Bool.false_ne_true)]
  show (if PySem.W.kitMeta n = true then _ else _) = _
  rw [if_pos h, T.sub]
  rfl
theorem EC.exm (T : EC P K mg F x qual st C) (B : Base K mg b F) : PySem.W.exmOne K (.ref C) (.ref F) = some true := by
  have m := mro_of (cd := fun _ => True) B.lk (.type "BaseException")
  have e1 : PySem.W.subIn K (.ref F) (.type "BaseException") = some true := m.1
  have e2 : ((PySem.W.clsIn K F).isSome && PySem.W.typeIn K (.ref F) == some (.type "type")) = true := by
    rw [m.2.1, m.2.2.2]
    rfl
  unfold PySem.W.exmOne
  rw [e1, if_pos (beq_self_eq_true _)]
  show (if _ then _ else _) = _
  rw [if_pos e2, T.sub]
  congr 1
  rw [List.contains_cons, List.contains_cons, beq_self_eq_true, Bool.true_or, Bool.or_true]
/-- classes of unlike names are unlike -/
theorem EC.ne (T : EC P K mg F x qual st C) (U : EC P K mg F y q2 st2 D) (n : x ≠ y) : C ≠ D := fun z => by
  subst z
  obtain ⟨q, N, bs, sn, sub, ab, col, dd, k0, k1, k2, k3, k5, h⟩ := T.lk
  obtain ⟨q', N', bs', sn', sub', ab', col', dd', k0', k1', k2', k3', k5', h'⟩ := U.lk
  rw [h] at h'
  injection h' with h'
  injection h' with _ _ h' _
  injection h' with h'
  injection h' with h'
  exact n h'
theorem EC.neB (T : EC P K mg F x qual st C) (B : Base K mg b F) (n : b ≠ x) : F ≠ C := fun z => by
  subst z
  obtain ⟨q, N, bs, sn, sub, ab, col, dd, k0, k1, k2, k3, k5, h⟩ := B.lk
  obtain ⟨q', N', bs', sn', sub', ab', col', dd', k0', k1', k2', k3', k5', h'⟩ := T.lk
  rw [h] at h'
  injection h' with h'
  injection h' with _ _ h' _
  injection h' with h'
  injection h' with h'
  exact n h'
end
end Err
set_option Elab.async false
set_option linter.all false
set_option maxRecDepth 100000
set_option maxHeartbeats 2000000
/-! Tools of my own over the hand layer: repr of data, calls by keywords alone, the law's call where nothing is being shown, the script as a dune. -/
namespace Bay
open PySem PySem.Spec PyProof.Rows L2
/-! ### repr of a list or tuple of plain data, where no repr runs around -/
def rShow (K : PySem.W.Frag) : List V → Hp → VK → Prop := fun xs H Q => ∃ (p : Addr) (d : PyData), xs = [V.ref p] ∧ Dp K H (.ref p) d ∧
  d.showable = true ∧ d.hasDict = false ∧ d.depth ≤ 60 ∧ d.shown.length ≤ sizeLine ∧ Q (.str d.shown) H
theorem call_show {X : Cx} (gu : X.A.guards = some []) (un : X.A.units + 64 < cLine) : CallR X (.builtin "repr") (rShow X.K) := by
  intro pins s σ H xs us Q I r h
  obtain ⟨p, d, rfl, hd, sh, nd, dp, sz, q⟩ := h
  obtain ⟨u, rfl, ru⟩ := vals1 r
  cases (show u = Value.ref p from ru)
  obtain ⟨as, rd⟩ := Dp.reads I d _ _ hd rfl
  refine repr_of_reads' rd sh (PyData.noDict_hsm nd) gu (by omega) (fun _ _ e => e) (fun h' u tk kp => ?_) sz
  exact ⟨.str d.shown, H, I.kept kp, ⟨_, rfl⟩, q⟩
/-! ### a def called by keywords alone -/
theorem pe_callN0 {X : Cx} {CX : CXT} {k : Nat} {f : Addr} {fd : FuncData} {ps ks : List Str} {sp : Sp} {E : XK} {x : Str} {p pos : Pos} {kws : List Keyword} {tk : TA} {g : List Value → List Value → List Value} {gV : List V → List V → List V}
    (F : FnOk X.prog X.w X.K X.mg X.base CX k f fd ps sp) (room : Room k X.A) (gl : Gl X x) (at_ : X.mg x = some (.ref f)) (kp : PySem.W.keepIn X.K (.ref f) = true) (bd : KBn X.K fd ps 0 ks g gV) (ps_ : Passes CX X E) (words : PK X kws tk)
    (named : (backToKw pos (keywordEach kws X.env)).all (·.1.isSome) = true := by rfl) (names : (backToKw pos (keywordEach kws X.env)).filterMap (·.1) = ks := by rfl)
    (plain : ((backTo pos (starEach [] X.env)).any (·.1) || (backToKw pos (keywordEach kws X.env)).any (·.1.isNone)) = false := by rfl) (nodb : (x == ("__debug__" : Str)) = false := by decide) :
    PE X (.Call (.Name x p) [] kws pos) (tCallN 0 ks.length sp gV E tNil tk) := by
  constructor
  intro pins s σ H Q I h
  refine wpAny_Call_Name_kw (ld_glob I gl at_ (PySem.W.callWith_KW0 (h₀ := X.base) I.ok.mod.kin kp named ?_ plain) nodb)
  refine thn (words.run pos pins s σ H _ I h) ?_
  rintro ws t ⟨zs, G, J, rz, n1, n2, q⟩
  refine ⟨J.kIn, ?_⟩
  rw [names]
  exact run_fnN (us := []) (vs := []) F room bd ps_ J .nil rz n1 n2 q
/-- how keywords bind: h by «match ws, n with | [_, ..], _ => rfl» -/
theorem kbn_of {K : PySem.W.Frag} {x qual : Str} {st : Stmt} {f : Addr} {fd : FuncData} {ps ks : List Str} {gg : {α : Type} → List α → List α} (F : Fun K x qual st f fd)
    (bind : ∀ (kV doc pm : Value) (an : Option Addr) (cdv ct : Value) (ws : List Value), ws.length = ks.length → bindArgs (PySem.W.fnOf x qual (defArgs st) (defBody st) (defScope st) .none kV doc pm an cdv ct) ⟨[], ks.zip ws⟩ = pure (ps.zip (gg ws)))
    (rel : ∀ {zs : List V} {ws : List Value}, Vals zs ws → Vals (gg zs) (gg ws)) : KBn K fd ps 0 ks (fun _ ws => gg ws) (fun _ zs => gg zs) := by
  obtain ⟨oc, od, kV, doc, pm, an, cdv, ct, osl, rfl, lk, hcd⟩ := F.ex
  refine ⟨fun s us ws _ n1 n2 => ?_, fun _ r => rel r⟩
  cases us with
  | nil => exact .of_eq (bind kV doc pm an cdv ct ws n2)
  | cons u us => cases n1
/-! ### the law's def, run where nothing is around it -/
theorem run_law {P : Program} {w : World} {K : PySem.W.Frag} {mg mb : Str → Option Value} {fa a : Addr} {fd : FuncData} {st : Stmt} {N : List Str} {k : Nat} {t : Shared} {us : List Value} {ns : List Int}
    (F : Fun K "law" "law" st fa fd) (S : FnScope N ["script"] (defScope st)) (bnd : ∀ (s : Shared) (u : Value), BindsTo s fd ⟨[u], []⟩ [("script", u)])
    (kin : K.In t.heap) (glob : t.heap.Ns mainGlobals mg) (blt : t.heap.Ns builtinsNs mb) (bbb : ∀ x : Str, x ≠ "__name__" → mb x = bootBuiltins x) (lim : t.heap.NoLimit) (gens : t.gens = #[])
    (arg : t.heap.get? a = some { cls := .type "list", data := .seq us.toArray }) (nums : IntsAre us ns) (len : ns.length ≤ sizeLine) (room : Room (k + 1) callerA)
    (body : ∀ (base : Heap) (cdv : Value) (H : Hp), K.In base → base.Ns mainGlobals mg → SqL K H a (ns.map V.int) → Room k (callerA.deeper (envOfC "law" (defScope st) t.heap.objs.size fa cdv)) →
      ∃ r, PSs (cxOf CX0 P w K mg base N "law" (defScope st) fa cdv callerA [] t H E0).nox (defBody st) r ∧ r { nx := fun _ _ => False, rt := fun v _ => v = .bl true } (start N [.ref a]) H) :
    codeAny (model P w) callerA (.call (.ref fa) ⟨[.ref a], []⟩) (fun r s' => r = .ok (.ret (.bool true)) ∧ OldK t.heap s'.heap ∧ s'.os = t.os ∧ AllBare s'.gens) t := by
  have rv := vals_ints nums
  obtain ⟨oc, od, kV, doc, pm, an, cdv, ct, osl, rfl, lk, hcd⟩ := F.ex
  have go : ∀ H : Hp, (∀ b, H b = none ∨ (b = a ∧ ∃ o xs, H b = some (.frz o (.lst xs)))) → SqL K H a (ns.map V.int) → HOk P w H t.heap → (H a ≠ none → K.lookup a = none) →
      codeAny (model P w) callerA (.call (.ref fa) ⟨[.ref a], []⟩) (fun r s' => r = .ok (.ret (.bool true)) ∧ OldK t.heap s'.heap ∧ s'.os = t.os ∧ AllBare s'.gens) t := by
    intro H only sq hok apart
    have hid : ∀ {b : Addr} {o : Obj}, t.heap.get? b = some o → H b = none → (hidT t.heap H).get? b = some o := fun e n => hidT_get e n
    have free : ∀ {b : Addr} {o : Obj} {es : Array DictEntry} {ep : Nat}, t.heap.get? b = some o → o.data = .dict es ep → H b = none := by
      intro b o es ep e d
      rcases only b with z | ⟨rfl, _⟩
      · exact z
      · rw [arg] at e
        cases e
        exact nomatch (show Data.seq us.toArray _ = Data.dict es ep from d)
    have space : ∀ {b : Addr} {m : Str → Option Value}, t.heap.Ns b m → (hidT t.heap H).Ns b m := by
      rintro b m ⟨o, es, ep, e, d, r⟩
      exact ⟨o, es, ep, hid e (free e d), d, r⟩
    have kb : K.In (hidT t.heap H) := by
      intro b o e
      refine hid (kin b o e) ?_
      rcases only b with z | ⟨rfl, z⟩
      · exact z
      · obtain ⟨_, _, z⟩ := z
        rw [apart (by rw [z]; exact fun q => nomatch q)] at e
        cases e
    have md : Mod K mg (hidT t.heap H) := by
      refine ⟨kb, space glob, ⟨mb, space blt, bbb⟩, ?_⟩
      obtain ⟨mc, e1, e2⟩ := lim
      exact ⟨mc, space e1, e2⟩
    have env : Env0 P w K mg (hidT t.heap H) callerA [] t H :=
      { frames := rfl, mod := md, bs := fun b o e => of_hidT e, bsz := Nat.le_of_eq (hidT_size _ _), funs := trivial, frf := fun b hb => (nomatch (show b ∈ ([] : List Addr) from hb)), hok := hok, bare := .of_eq gens }
    refine codeAny_mono (LamX.run_ofS (CX := CX0) (Q := fun v _ => v = .bl true) (E := E0) (vs := [.ref a]) (us := [.ref a]) lk hcd S room env (bnd t (.ref a)) (.cons rfl .nil) rfl fun hr => ?_) ?_
    · obtain ⟨r, h1, h2⟩ := body _ cdv H kb (space glob) sq hr
      refine ⟨r, h1.nox, ?_⟩
      have e : (fun (_ : L2.St) (H' : Hp) => (V.non : V) = .bl true) = fun _ _ => False := by
        funext _ _
        exact propext ⟨(fun z => nomatch z), False.elim⟩
      show r { nx := fun (_ : L2.St) (H' : Hp) => (V.non : V) = .bl true, rt := fun v _ => v = .bl true } _ _
      rw [e]
      exact h2
    · intro r s' z
      cases r with
      | error e => exact (show False from z).elim
      | ok fl =>
        cases fl with
        | ret u =>
          obtain ⟨v, H', os, bare, un, hok', rl, q⟩ := z
          cases (show v = .bl true from q)
          cases (show u = Value.bool true from rl)
          refine ⟨rfl, OldK.of_keep fun b o e => ?_, os, bare⟩
          rcases only b with n | ⟨_, ob, xs, n⟩
          · exact un.keep b o e n (fun z => (nomatch (show b ∈ ([] : List Addr) from z))) (fun z => nomatch z)
          · obtain ⟨e1, _⟩ := hok b _ n
            obtain ⟨e2, _⟩ := hok' b _ (un.frzs b ob _ n)
            rw [e] at e1
            cases e1
            exact e2
        | next => exact (show False from z).elim
        | brk => exact (show False from z).elim
        | cont => exact (show False from z).elim
  cases hk : K.lookup a with
  | some o =>
    have e := kin a o hk
    rw [arg] at e
    cases e
    refine go (fun _ => none) (fun _ => .inl rfl) (.inr ⟨_, us.toArray, _, hk, rfl, rfl, rfl, by rw [List.size_toArray, nums.length]; exact len, by simpa using rv⟩) (fun b u z => nomatch (show (none : Option HO) = some u from z)) (fun z => (z rfl).elim)
  | none =>
    refine go (fun b => if b = a then some (.frz { cls := .type "list", data := .seq us.toArray } (.lst (ns.map V.int))) else none) (fun b => ?_) (.inl (.inr ⟨_, if_pos rfl⟩)) (fun b u z => ?_) fun _ => hk
    · by_cases c : b = a
      · exact .inr ⟨c, _, _, if_pos c⟩
      · exact .inl (if_neg c)
    · by_cases c : b = a
      · cases (if_pos c).symm.trans z
        subst c
        exact ⟨arg, by rw [List.length_map]; exact len, us, _, rv, arg⟩
      · cases (if_neg c).symm.trans z
/-- the goal that k_head leaves -/
theorem walk_law {l : PySem.W.OpenLaw} {n k : Nat} {q : Program} {loose : List Str} {XP : (Str → Option Value) → Heap → Prop} {YP : World → Heap → Prop} {d : DefRec} {K : Params → PySem.W.Frag} {st : Stmt} {N : List Str}
    (most : l.most = some n) (small : n ≤ sizeLine) (nodef : d.params.defaults = []) (room : Room (k + 1) callerA) (S : FnScope N ["script"] (defScope st)) (ky : ∀ (w : World) (h : Heap), YP w h → (K w.params).In h)
    (F : ∀ (w : World) (mg : Str → Option Value) (fa : Addr) (h : Heap), (K w.params).In h → h.Ns mainGlobals mg → mg d.name = some (.ref fa) →
      ∃ fd : FuncData, Fun (K w.params) "law" "law" st fa fd ∧ (∀ (s : Shared) (u : Value), BindsTo s fd ⟨[u], []⟩ [("script", u)]) ∧
        ∀ (t : Shared) (base : Heap) (cdv : Value) (H : Hp) (a : Addr) (ns : List Int), (K w.params).In base → base.Ns mainGlobals mg → ns.length ≤ n → SqL (K w.params) H a (ns.map V.int) → Room k (callerA.deeper (envOfC "law" (defScope st) t.heap.objs.size fa cdv)) →
          ∃ r, PSs (cxOf CX0 l.prog w (K w.params) mg base N "law" (defScope st) fa cdv callerA [] t H E0).nox (defBody st) r ∧ r { nx := fun _ _ => False, rt := fun v _ => v = .bl true } (start N [.ref a]) H) :
    PySem.W.WalkO q loose XP YP l.row.toRowW d [] (fun f vs => PySem.call f vs) := by
  refine Att.attach_call most nodef ?_
  intro w s₀ t mg mb fa o pm cd doc a vs ns G Y ho hd hcd hmg hobj hints hlen hg
  obtain ⟨fd, h1, h2, h3⟩ := F w mg fa _ (ky w _ Y) G.T.g hmg
  exact run_law h1 S h2 (ky w _ Y) G.T.g G.T.b G.T.builtins G.T.nolimit hg hobj hints (Nat.le_trans hlen small) room fun base cdv H kb nb sq hr => h3 t base cdv H a ns kb nb hlen sq hr
end Bay
set_option Elab.async false
set_option linter.all false
set_option maxRecDepth 100000
set_option maxHeartbeats 2000000
namespace Bay
open PySem PySem.Spec PyProof.Rows L2
def top (i : Nat) : Stmt := PySem.Challenge.pw_baysout_k00_errors_keep_their_fields.main.body.getD i (.Pass ⟨0, 0, 0, 0⟩)
/-! ### the dune: the script's first numbers, how many draws there were, what is left of a great number -/
structure Dn (H : Hp) (D C : Addr) (ms : List Int) (t l : Int) : Prop where
  d : H D = some (.lst [.ref C, .int t, .int l])
  c : H C = some (.lst (ms.map V.int))
  ne : C ≠ D
  n : ms.length ≤ 60
  t0 : 0 ≤ t
  l0 : 0 ≤ l
/-- all that stood stands, but for the object at D -/
def Kp (D : Addr) (H H' : Hp) : Prop := ∀ b o, H b = some o → b ≠ D → H' b = some o
theorem Kp.refl (D : Addr) (H : Hp) : Kp D H H := fun _ _ e _ => e
theorem Kp.trans {D : Addr} {H G F : Hp} (a : Kp D H G) (b : Kp D G F) : Kp D H F := fun c o e n => b c o (a c o e n) n
theorem Kp.same {D : Addr} {H G : Hp} (a : Same H G) : Kp D H G := fun c o e _ => a c o e
theorem Same.new {H : Hp} {p : Addr} {o : HO} (n : H p = none) : Same H (upd H p o) := fun b u e => by
  rw [upd_ne (ne_of_none e n)]
  exact e
theorem Dn.same {H G : Hp} {D C : Addr} {ms : List Int} {t l : Int} (a : Dn H D C ms t l) (s : Same H G) : Dn G D C ms t l := ⟨s _ _ a.d, s _ _ a.c, a.ne, a.n, a.t0, a.l0⟩
/-- the dune's own list is written -/
theorem Dn.put {H : Hp} {D C : Addr} {ms : List Int} {t l t' l' : Int} (a : Dn H D C ms t l) (h1 : 0 ≤ t') (h2 : 0 ≤ l') : Dn (upd H D (.lst [.ref C, .int t', .int l'])) D C ms t' l' :=
  ⟨upd_same, by rw [upd_ne a.ne]; exact a.c, a.ne, a.n, h1, h2⟩
theorem Kp.put {D : Addr} {H : Hp} {o : HO} : Kp D H (upd H D o) := fun b u e n => by
  rw [upd_ne n]
  exact e
theorem at0 {x y z : V} : atI [x, y, z] 0 = some x := rfl
theorem at1 {x y z : V} : atI [x, y, z] 1 = some y := rfl
theorem at2 {x y z : V} : atI [x, y, z] 2 = some z := rfl
theorem shaped_ints (ms : List Int) : SeqAt.shaped (.list (ms.map PyData.int)) = true := by
  have a : PyData.canLayAll0 (ms.map PyData.int) = true := by
    induction ms with
    | nil => rfl
    | cons m r ih =>
      show (PyData.canLay0 (.int m) && PyData.canLayAll0 (r.map PyData.int)) = true
      rw [ih]
      rfl
  have b : PyData.depthAll (ms.map PyData.int) ≤ 1 := by
    clear a
    induction ms with
    | nil => simp [PyData.depthAll]
    | cons m r ih =>
      have e : PyData.depthAll ((m :: r).map PyData.int) = max (PyData.depth (.int m)) (PyData.depthAll (r.map PyData.int)) := rfl
      have e2 : PyData.depth (.int m) ≤ 1 := by simp [PyData.depth]
      omega
  unfold SeqAt.shaped
  have c : PyData.canLay0 (.list (ms.map PyData.int)) = true := a
  rw [c]
  have d : PyData.depth (.list (ms.map PyData.int)) ≤ 64 := by
    simp only [PyData.depth]
    omega
  simpa using d
theorem dp_ints {K : PySem.W.Frag} {H : Hp} : ∀ ms : List Int, DpAll K H (ms.map V.int) (ms.map PyData.int)
  | [] => .nil
  | m :: r => .cons (.int m) (dp_ints r)
theorem eqv_nil (ms : List Int) : PyData.eqv (.list (ms.map PyData.int)) (.list []) = decide (ms = []) := by
  cases ms with
  | nil => rfl
  | cons m r => rfl
theorem in_list {ms : List Int} {t : Int} (h : ms ≠ []) (t0 : 0 ≤ t) : ∃ c, c ∈ ms ∧ atI (ms.map V.int) (t.fmod ((ms.map V.int).length : Int)) = some (.int c) := by
  have hl : 0 < ms.length := List.length_pos_iff.mpr h
  rw [List.length_map]
  have e : t.fmod (ms.length : Int) = ((t.toNat % ms.length : Nat) : Int) := by
    rw [Int.fmod_eq_emod_of_nonneg t (by omega), Int.natCast_emod, Int.toNat_of_nonneg t0]
  have lt : t.toNat % ms.length < ms.length := Nat.mod_lt _ hl
  refine ⟨ms[t.toNat % ms.length], List.getElem_mem lt, ?_⟩
  rw [e]
  refine atI_nat ?_
  rw [List.getElem?_map, List.getElem?_eq_getElem lt]
  rfl
theorem fmod_pos (x : Int) {y : Int} (h : 0 < y) : 0 ≤ x.fmod y ∧ x.fmod y < y := by
  rw [Int.fmod_eq_emod_of_nonneg x (by omega)]
  exact ⟨Int.emod_nonneg x (by omega), Int.emod_lt_of_pos x h⟩
theorem fdiv_pos {x y : Int} (h0 : 0 ≤ x) (h : 0 < y) : 0 ≤ x.fdiv y := by
  rw [Int.fdiv_eq_ediv_of_nonneg x (by omega)]
  exact Int.ediv_nonneg h0 (by omega)
theorem mul_in {x y X Y : Int} (a : 0 ≤ x) (b : x ≤ X) (c : 0 ≤ y) (d : y ≤ Y) : 0 ≤ x * y ∧ x * y ≤ X * Y :=
  ⟨Int.mul_nonneg a c, Int.mul_le_mul b d c (Int.le_trans a b)⟩
/-! ### a draw -/
/-- _law_open(dune, many): a number below many; one draw more at most -/
def spDrift : Sp := fun vs H Q _ => ∃ (D C : Addr) (ms : List Int) (t l many : Int), vs = [.ref D, .int many] ∧ Dn H D C ms t l ∧ t ≤ 1000000 ∧ 0 < many ∧ many < 1073741824 ∧
  ∀ (H' : Hp) (t' l' r : Int), Dn H' D C ms t' l' → t' ≤ t + 1 → Kp D H H' → 0 ≤ r → r < many → Q (.int r) H'
abbrev sDrift : Stmt := top 18
theorem scDrift : FnScope ["burr", "many", "left", "turn", "cell", "mixed"] ["burr", "many"] (defScope sDrift) := ⟨rfl, rfl, rfl, by decide +kernel, rfl, by decide +kernel, by decide +kernel⟩
/-- the built-ins that the law's helpers use -/
structure Blt (mg : Str → Option Value) : Prop where
  int : mg "int" = none
  len : mg "len" = none
  abs : mg "abs" = none
section
variable {P : Program} {w : World} {K : PySem.W.Frag} {mg : Str → Option Value} {base : Heap}
theorem ok_drift {f : Addr} {fd : FuncData} (F : Fun K "_law_open" "_law_open" sDrift f fd) (T : Blt mg) : FnOk P w K mg base CX0 1 f fd ["burr", "many"] spDrift := by
  refine F.ok scDrift (fun vs H Q E h => ?_) (fun cdv A outer s H vs Q E hr h => ?_)
  · obtain ⟨D, C, ms, t, l, many, rfl, _⟩ := h
    rfl
  · obtain ⟨D, C, ms, t, l, many, rfl, dn, tb, m0, m1, q⟩ := h
    have nd := scDrift.nd
    refine ⟨_, pss_cons (ps_if (pt_cmpR op_gt (pe_ix ix_list (pv 0) pe_int (fun _ _ => rfl)) pe_int (nomark _))
        (pss_cons (ps_set (i := 2) nd rfl (.inl rfl) (pe_callTy call_int1 (by rfl) T.int (by decide +kernel) (pa_cons (pe_ix ix_list (pv 0) pe_int (fun _ _ => rfl)) pa_nil)))
          (pss_cons (ps_asg (pe_op op_fdivN (pv 2) (pv 1)) (pg_sub (pv 0) pe_int set_list))
            (pss_one (ps_ret (pe_op op_modN (pe_callTy call_int1 (by rfl) T.int (by decide +kernel) (pa_cons (pv 2) pa_nil)) (pv 1)))))) pss_nil)
      (pss_cons (ps_set (i := 3) nd rfl (.inl rfl) (pe_ix ix_list (pv 0) pe_int (fun _ _ => rfl)))
      (pss_cons (ps_asg (pe_op op_add (pv 3) pe_int) (pg_sub (pv 0) pe_int set_list))
      (pss_cons (ps_set (i := 4) nd rfl (.inl rfl) (pe_op op_add (pe_op op_mul pe_int (pv 3)) pe_int))
      (C8.pss_cut (ps_if (pt_cmpR (op_neD hr.units) (pe_ix ix_list (pv 0) pe_int (fun _ _ => rfl)) (pe_lst pa_nil) (nomark _))
        (pss_one (ps_set (i := 4) nd rfl (.inl rfl) (pe_ix ix_list (pe_ix ix_list (pv 0) pe_int (fun _ _ => rfl)) (pe_op op_modN (pe_callTy call_int1 (by rfl) T.int (by decide +kernel) (pa_cons (pv 3) pa_nil))
          (pe_callB call_len_seq (by rfl) T.len PySem.boot_len (pa_cons (pe_ix ix_list (pv 0) pe_int (fun _ _ => rfl)) pa_nil))) (fun _ _ => rfl)))) pss_nil)
      (C8.pss_cut (ps_if (PW.pt (pw_and (pt_cmpR op_lt (pv 3) (pe_callB call_len_seq (by rfl) T.len PySem.boot_len (pa_cons (pe_ix ix_list (pv 0) pe_int (fun _ _ => rfl)) pa_nil)) (nomark _))
            (pw_and1 (pt_cmpR op_ge (pe_callB call_abs (by rfl) T.abs (by decide +kernel) (pa_cons (pv 4) pa_nil)) (pe_op op_pow pe_int pe_int) (nomark _)))))
        (pss_cons (ps_set (i := 2) nd rfl (.inl rfl) (pe_op op_add (pe_op op_mul pe_int (pe_op op_sub (pe_callB call_abs (by rfl) T.abs (by decide +kernel) (pa_cons (pe_callTy call_int1 (by rfl) T.int (by decide +kernel) (pa_cons (pv 4) pa_nil)) pa_nil)) (pe_op op_pow pe_int pe_int)))
            (pe_callTy call_int1 (by rfl) T.int (by decide +kernel) (pa_cons (pe_cmpR op_lt (pv 4) pe_int (nomark _)) pa_nil))))
          (pss_cons (ps_asg (pe_op op_fdivN (pv 2) (pv 1)) (pg_sub (pv 0) pe_int set_list))
            (pss_one (ps_ret (pe_op op_modN (pe_callTy call_int1 (by rfl) T.int (by decide +kernel) (pa_cons (pv 2) pa_nil)) (pv 1)))))) pss_nil)
      (pss_cons (ps_set (i := 5) nd rfl (.inl rfl) (pe_op op_modN (pe_callTy call_int1 (by rfl) T.int (by decide +kernel) (pa_cons (pe_op op_pow (pe_op op_add (pe_op op_add (pe_op op_modN (pe_callTy call_int1 (by rfl) T.int (by decide +kernel) (pa_cons (pv 4) pa_nil)) pe_int) (pe_op op_mul pe_int (pv 3))) pe_int) pe_int) pa_nil)) pe_int))
      (pss_cons (ps_set (i := 5) nd rfl (.inl rfl) (pe_op op_modN (pe_callTy call_int1 (by rfl) T.int (by decide +kernel) (pa_cons (pe_op op_pow (pe_op op_add (pe_op op_add (pe_op op_mul (pv 5) (pe_op op_add (pe_op op_mul pe_int (pv 3)) pe_int)) (pe_op op_mul (pe_op op_mul pe_int (pv 3)) (pv 3))) pe_int) pe_int) pa_nil)) pe_int))
      (pss_one (ps_ret (pe_op op_modN (pe_callTy call_int1 (by rfl) T.int (by decide +kernel) (pa_cons (pe_op op_fdivN (pv 5) pe_int) pa_nil)) (pv 1))))))))))), ?_⟩
    -- if dune[2] > 0
    refine ⟨.ref D, rfl, D, _, _, .int l, rfl, rfl, SqL.of dn.d, at2, l, 0, rfl, rfl, _, rfl, ite2 (fun _ => ?_) (fun _ => ?_)⟩
    · refine ⟨.ref D, rfl, D, _, _, .int l, rfl, rfl, SqL.of dn.d, at2, .inl ⟨l, rfl, ?_⟩⟩
      refine ⟨.int l, rfl, .int many, rfl, l, many, rfl, rfl, ⟨by omega, by omega⟩, .ref D, rfl, D, _, _, 2, rfl, rfl, dn.d, rfl, ?_⟩
      refine ⟨.int l, rfl, .inl ⟨l, rfl, .int many, rfl, l, many, rfl, rfl, by omega, ?_⟩⟩
      have b := fmod_pos l m0
      exact q _ t _ _ (dn.put dn.t0 (fdiv_pos dn.l0 m0)) (by omega) Kp.put b.1 b.2
    · -- turn = dune[1]; dune[1] = turn + 1
      refine ⟨.ref D, rfl, D, _, _, .int t, rfl, rfl, SqL.of dn.d, at1, ?_⟩
      refine ⟨.int t, rfl, t, 1, rfl, rfl, .ref D, rfl, D, _, _, 1, rfl, rfl, dn.d, rfl, ?_⟩
      have dn1 : Dn (upd H D (.lst [.ref C, .int (t + 1), .int l])) D C ms (t + 1) l := dn.put (by have := dn.t0; omega) dn.l0
      have kp1 : Kp D H (upd H D (.lst [.ref C, .int (t + 1), .int l])) := Kp.put
      show tSeq _ _ _ _ (upd H D (.lst [.ref C, .int (t + 1), .int l]))
      generalize upd H D (.lst [.ref C, .int (t + 1), .int l]) = G at dn1 kp1
      have t0 : 0 ≤ t := dn.t0
      clear dn
      -- cell = a * turn + b
      refine ⟨.int t, rfl, _, t, rfl, rfl, .inl ⟨by decide, by decide⟩, _, _, rfl, rfl, ?_⟩
      -- if dune[0] != []: cell = dune[0][turn % len(dune[0])]
      refine ⟨fun σ J => ∃ c : Int, σ = [some (.ref D), some (.int many), none, some (.int t), some (.int c), none] ∧ Same G J, ?_, ?_⟩
      · refine ⟨.ref D, rfl, D, _, _, .ref C, rfl, rfl, SqL.of dn1.d, at0, Nat.zero_le _, fun p np => ?_⟩
        have dn2 := dn1.same (Same.new (o := .lst []) np)
        refine ⟨_, _, Dp.lst (SqL.of dn2.c) (dp_ints ms), Dp.lst (SqL.of upd_same) .nil, shaped_ints ms, rfl, _, rfl, ?_⟩
        rw [eqv_nil]
        by_cases e : ms = []
        · rw [decide_eq_true e]
          refine iteF ?_
          exact ⟨_, rfl, Same.new np⟩
        · rw [decide_eq_false e]
          refine iteT ?_
          obtain ⟨c, _, hc⟩ := in_list e t0
          refine ⟨.ref D, rfl, D, _, _, .ref C, rfl, rfl, SqL.of dn2.d, at0, .int t, rfl, .inl ⟨t, rfl, .ref D, rfl, D, _, _, .ref C, rfl, rfl, SqL.of dn2.d, at0, C, _, rfl, .inl (SqL.of dn2.c), t, _, rfl, rfl, ?_, C, _, _, .int c, rfl, rfl, SqL.of dn2.c, hc, ?_⟩⟩
          · rw [List.length_map]
            have := List.length_pos_iff.mpr e
            omega
          · exact ⟨c, rfl, Same.new np⟩
      · rintro σ J ⟨c, rfl, sm⟩
        have dn3 := dn1.same sm
        have kp3 : Kp D H J := kp1.trans (.same sm)
        clear dn1 kp1 sm
        have le : t + 1 ≤ t + 1 := Int.le_refl _
        -- if turn < len(dune[0]) and abs(cell) >= 10 ** 18
        refine ⟨fun σ J' => σ = [some (.ref D), some (.int many), none, some (.int t), some (.int c), none] ∧ J' = J, ?_, ?_⟩
        · refine ⟨.int t, rfl, .ref D, rfl, D, _, _, .ref C, rfl, rfl, SqL.of dn3.d, at0, C, _, rfl, .inl (SqL.of dn3.c), t, _, rfl, rfl, _, rfl, ?_⟩
          refine ite2 (fun _ => ?_) (fun _ => iteF ⟨rfl, rfl⟩)
          refine ⟨.int c, rfl, c, rfl, 10, 18, rfl, rfl, ⟨by decide, by decide, by decide⟩, _, _, rfl, rfl, _, rfl, ite2 (fun big => ?_) (fun _ => ⟨rfl, rfl⟩)⟩
          have big' := of_decide_eq_true big
          refine ⟨.int c, rfl, .inl ⟨c, rfl, c, rfl, 10, 18, rfl, rfl, ⟨by decide, by decide, by decide⟩, _, _, rfl, rfl, _, _, rfl, rfl, .inl ⟨by decide, by decide⟩, .int c, rfl, c, 0, rfl, rfl, .inr ⟨_, rfl, _, _, rfl, rfl, ?_⟩⟩⟩
          have g0 : (0 : Int) ≤ 2 * ((if c < 0 then -c else c) - 10 ^ (18 : Int).toNat) + (if decide (c < 0) = true then 1 else 0) := by
            have h1 : (0 : Int) ≤ (if c < 0 then -c else c) - 10 ^ (18 : Int).toNat := by omega
            have h2 : (0 : Int) ≤ (if decide (c < 0) = true then 1 else 0) := by split <;> omega
            omega
          show tSeq _ _ _ (List.set _ _ (some (.int (2 * ((if c < 0 then -c else c) - 10 ^ (18 : Int).toNat) + (if decide (c < 0) = true then 1 else 0))))) J
          generalize 2 * ((if c < 0 then -c else c) - 10 ^ (18 : Int).toNat) + (if decide (c < 0) = true then 1 else 0) = g at g0
          refine ⟨.int g, rfl, .int many, rfl, g, many, rfl, rfl, ⟨by omega, by omega⟩, .ref D, rfl, D, _, _, 2, rfl, rfl, dn3.d, rfl, ?_⟩
          refine ⟨.int g, rfl, .inl ⟨g, rfl, .int many, rfl, g, many, rfl, rfl, by omega, ?_⟩⟩
          have b := fmod_pos g m0
          exact q _ (t + 1) _ _ (dn3.put dn3.t0 (fdiv_pos g0 m0)) le (kp3.trans Kp.put) b.1 b.2
        · rintro σ J' ⟨rfl, rfl⟩
          refine ⟨.int c, rfl, .inl ⟨c, rfl, c, _, rfl, rfl, by (dsimp only; decide), .int t, rfl, _, t, rfl, rfl, .inl ⟨by decide, by decide⟩, _, _, rfl, rfl, _, _, rfl, rfl, _, 5, rfl, rfl, ⟨by decide, by decide, ?_⟩, .inl ⟨_, rfl, _, _, rfl, rfl, by (dsimp only; decide), ?_⟩⟩⟩
          · have b := fmod_pos c (show (0 : Int) < 2147483549 by decide)
            omega
          · have b := fmod_pos ((c.fmod 2147483549 + 86111 * t + 8807) ^ Int.toNat 5) (show (0 : Int) < 2147483587 by decide)
            show tSeq _ _ _ (List.set _ _ (some (.int (((c.fmod 2147483549 + 86111 * t + 8807) ^ Int.toNat 5).fmod 2147483587)))) J'
            generalize ((c.fmod 2147483549 + 86111 * t + 8807) ^ Int.toNat 5).fmod 2147483587 = y at b
            have n1 := mul_in b.1 (show y ≤ 2147483587 by omega) (show 0 ≤ 2 * t + 8807 by omega) (show 2 * t + 8807 ≤ 3000000 by omega)
            have n2 := mul_in (show 0 ≤ 112121 * t by omega) (show 112121 * t ≤ 112121000000 by omega) t0 tb
            refine ⟨.int y, rfl, .int t, rfl, _, t, rfl, rfl, .inl ⟨by decide, by decide⟩, _, _, rfl, rfl, y, _, rfl, rfl, .inl ⟨by omega, by omega⟩, .int t, rfl, _, t, rfl, rfl, .inl ⟨by decide, by decide⟩, .int t, rfl, _, t, rfl, rfl, .inr ⟨by omega, by omega⟩, _, _, rfl, rfl, _, _, rfl, rfl, _, 3, rfl, rfl, ⟨by decide, by decide, ?_⟩, .inl ⟨_, rfl, _, _, rfl, rfl, by (dsimp only; decide), ?_⟩⟩
            · omega
            · refine ⟨.int _, rfl, _, 64, rfl, rfl, ⟨by decide, by decide⟩, .inl ⟨_, rfl, .int many, rfl, _, many, rfl, rfl, by (dsimp only; omega), ?_⟩⟩
              have b2 := fmod_pos (((y * (2 * t + 8807) + 112121 * t * t + 86111) ^ Int.toNat 3).fmod 2147483549 |>.fdiv 64) m0
              exact q _ (t + 1) _ _ dn3 le kp3 b2.1 b2.2
end
end Bay
set_option Elab.async false
set_option linter.all false
set_option maxRecDepth 100000
set_option maxHeartbeats 2000000
namespace Bay
open PySem PySem.Spec PyProof.Rows L2
theorem Dn.apart {H : Hp} {D C p : Addr} {ms : List Int} {t l : Int} (a : Dn H D C ms t l) (np : H p = none) : p ≠ D := fun e => by
  rw [e, a.d] at np
  cases np
section
variable {P : Program} {w : World} {K : PySem.W.Frag} {mg : Str → Option Value} {base : Heap}
/-! ### a pick -/
def spPick : Sp := fun vs H Q _ => ∃ (D C p : Addr) (ms : List Int) (t l : Int) (xs : List V), vs = [.ref D, .ref p] ∧ Dn H D C ms t l ∧ t ≤ 1000000 ∧ H p = some (.lst xs) ∧ p ≠ D ∧ 0 < xs.length ∧ xs.length ≤ 1000 ∧
  ∀ (H' : Hp) (t' l' : Int) (x : V), Dn H' D C ms t' l' → t' ≤ t + 1 → Kp D H H' → x ∈ xs → Q x H'
abbrev sPick : Stmt := top 19
theorem scPick : FnScope ["burr", "some"] ["burr", "some"] (defScope sPick) := ⟨rfl, rfl, rfl, by decide +kernel, rfl, by decide +kernel, by decide +kernel⟩
theorem ok_pick {f fD : Addr} {fd fdD : FuncData} (F : Fun K "_law_pick" "_law_pick" sPick f fd) (FD : Fun K "_law_open" "_law_open" sDrift fD fdD) (T : Blt mg) (gD : mg "_law_open" = some (.ref fD)) (bD : Binds K fdD ["burr", "many"] []) :
    FnOk P w K mg base CX0 2 f fd ["burr", "some"] spPick := by
  have GD : FnOk P w K mg base CX0 1 fD fdD ["burr", "many"] spDrift := ok_drift FD T
  refine F.ok scPick (fun vs H Q E h => ?_) (fun cdv A outer s H vs Q E hr h => ?_)
  · obtain ⟨D, C, p, ms, t, l, xs, rfl, _⟩ := h
    rfl
  · obtain ⟨D, C, p, ms, t, l, xs, rfl, dn, tb, hp, pD, n0, n1, q⟩ := h
    refine ⟨_, pss_one (ps_ret (pe_ix ix_list (pv 1) (pe_call GD hr (by rfl) gD FD.kp bD .nil pass0 (pa_cons (pv 0) (pa_cons (pe_callB call_len_seq (by rfl) T.len PySem.boot_len (pa_cons (pv 1) pa_nil)) pa_nil))) (fun _ _ => rfl))), ?_⟩
    refine ⟨.ref p, rfl, .ref D, rfl, .ref p, rfl, p, xs, rfl, .inl (SqL.of hp), D, C, ms, t, l, _, rfl, dn, tb, by omega, by omega, fun H' t' l' r dn' tt kp r0 r1 => ?_⟩
    have lt : r.toNat < xs.length := by omega
    refine ⟨p, xs, r, xs[r.toNat], rfl, rfl, SqL.of (kp _ _ hp pD), at_of (j := r.toNat) (by omega) (List.getElem?_eq_getElem lt), ?_⟩
    exact q H' t' l' _ dn' tt kp (List.getElem_mem lt)
/-! ### the dune is made -/
def spDune (K : PySem.W.Frag) : Sp := fun vs H Q _ => ∃ (a : Addr) (ns : List Int), vs = [.ref a] ∧ SqL K H a (ns.map V.int) ∧ ns.length ≤ 63 ∧
  ∀ (H' : Hp) (D C : Addr) (ms : List Int), Same H H' → H D = none → Dn H' D C ms 0 0 → Q (.ref D) H'
abbrev sDune : Stmt := top 17
theorem scDune : FnScope ["script", "cell"] ["script"] (defScope sDune) := ⟨rfl, rfl, rfl, by decide +kernel, rfl, by decide +kernel, by decide +kernel⟩
theorem cut60 (ns : List Int) : cutV (ns.map V.int) none (some 60) = (ns.take 60).map V.int := by
  unfold cutV
  rw [show HT.sIx (ns.map V.int).length (ns.map V.int).length (some 60) = min 60 (ns.map V.int).length from HT.sIx_nat _ _ 60, HT.sIx_none, List.length_map]
  rw [List.drop_zero, Nat.sub_zero, ← List.map_take]
  congr 1
  rcases Nat.le_total 60 ns.length with h | h
  · rw [Nat.min_eq_left h]
  · rw [Nat.min_eq_right h, List.take_of_length_le h, List.take_of_length_le (Nat.le_refl _)]
theorem ok_dune {f : Addr} {fd : FuncData} (F : Fun K "_law_burr" "_law_burr" sDune f fd) (T : Blt mg) : FnOk P w K mg base CX0 1 f fd ["script"] (spDune K) := by
  refine F.ok scDune (fun vs H Q E h => ?_) (fun cdv A outer s H vs Q E hr h => ?_)
  · obtain ⟨a, ns, rfl, _⟩ := h
    rfl
  · obtain ⟨a, ns, rfl, hS, hn, q⟩ := h
    have nd := scDune.nd
    refine ⟨_, pss_one (ps_ret (pe_lst (pa_cons (pe_lc (own := [("cell", 1)]) (g := gName 1) (tt := tYes) rfl nd (pi_list (pe_slice sl_list (pv 0) po_none (po_some pe_int))) (blkOk_by (N := ["script", "cell"]) (sc := defScope sDune) (by decide +kernel))
      (fun _ _ _ _ _ => pg_name (i := 1) nd rfl (Or.inl rfl)) (fun _ _ _ _ _ => pts_nil) (fun _ _ _ _ _ => pe_callTy call_int1 (by rfl) T.int (by decide +kernel) (pa_cons (pv 1) pa_nil))) (pa_cons pe_int (pa_cons pe_int pa_nil))))), ?_⟩
    refine ⟨.ref a, rfl, 60, rfl, a, ns.map V.int, rfl, hS, fun c nc => ?_⟩
    rw [cut60]
    have s1 : Same H (upd H c (.lst ((ns.take 60).map V.int))) := Same.new nc
    have e1 : (upd H c (.lst ((ns.take 60).map V.int))) c = some (.lst ((ns.take 60).map V.int)) := upd_same
    generalize upd H c (.lst ((ns.take 60).map V.int)) = G at s1 e1
    generalize hms : ns.take 60 = ms at e1
    have hl : ms.length ≤ 60 := by
      rw [← hms, List.length_take]
      omega
    refine ⟨c, rfl, ⟨_, SqL.of e1⟩, fun L nL => ?_⟩
    have cL : c ≠ L := ne_of_none e1 nL
    refine lc_list (K := K) (a := c) (xs := ms.map V.int) (fun i H' => Same G H' ∧ H' L = some (.lst ((ms.take i).map V.int))) ⟨Same.new nL, upd_same⟩ (fun i H' _ z => SqL.of (z.1 _ _ e1)) ?_ ?_
    · rintro i x H' hx ⟨sm, hL⟩
      rw [List.getElem?_map] at hx
      cases e : ms[i]? with
      | none =>
        rw [e] at hx
        cases hx
      | some z =>
        rw [e] at hx
        obtain rfl : V.int z = x := Option.some.inj hx
        refine ⟨rfl, .int z, rfl, .inl ⟨z, rfl, _, hL, ?_, ?_, ?_⟩⟩
        · rw [List.length_map, List.length_take]
          exact small1000 (by omega)
        · intro b o eb
          have eb' := sm b o eb
          by_cases hb : b = L
          · subst hb
            rw [nL] at eb
            cases eb
          · rw [upd_ne hb]
            exact eb'
        · rw [upd_same, List.take_add_one, e, List.map_append]
          rfl
    · rintro H' ⟨sm, hL⟩
      rw [List.length_map, List.take_length] at hL
      refine ⟨(by show 3 ≤ sizeLine; decide), fun D nD => ?_⟩
      have LD : L ≠ D := ne_of_none hL nD
      refine q _ D L ms ((s1.trans sm).trans (Same.new nD)) ?_ ⟨upd_same, by rw [upd_ne LD]; exact hL, LD, hl, by omega, by omega⟩
      exact (s1.trans sm).free nD
end
end Bay
set_option Elab.async false
set_option linter.all false
set_option maxRecDepth 100000
set_option maxHeartbeats 4000000
namespace Bay
open PySem PySem.Spec PyProof.Rows L2
/-! ### lists and data that repr may show, dicts within too -/
def tLstM (t : TA) : TE := fun σ H Q => t σ H fun xs H1 => xs.length ≤ sizeLine ∧ ∀ p, H1 p = none → p ≠ sysModules → Q (.ref p) (upd H1 p (.lst xs))
theorem pe_lstM {X : Cx} {es : List Expr} {t : TA} {pos : Pos} (h : PA X es t) : PE X (.List es pos) (tLstM t) := by
  refine ⟨fun pins s σ H Q I hq => ?_⟩
  refine wpAny_List_spliced (thn (h.run pos pins s σ H _ I hq) fun us s1 hh => ?_)
  obtain ⟨xs, H1, I1, r, z, q⟩ := hh
  refine ⟨by rw [← r.length]; exact z, ?_⟩
  have fr : H1 s1.heap.objs.size = none := I1.hok.fresh (Nat.le_refl _)
  have big : s1.heap.objs.size ≠ sysModules := Ne.symm (Nat.ne_of_lt I1.big)
  refine ⟨.ref s1.heap.objs.size, upd H1 s1.heap.objs.size (.lst xs), ?_, rfl, q _ fr big⟩
  exact I1.laid (t' := s1.toks) (fun b u e => Heap.get?_push_of_some _ e) (Nat.le_refl _) ⟨z, us, 0, r, Heap.get?_push_size _ rfl⟩
mutual
inductive Dm (H : Hp) : V → PyData → Prop
  | non : Dm H .non .none
  | bl (b : Bool) : Dm H (.bl b) (.bool b)
  | int (i : Int) : Dm H (.int i) (.int i)
  | str (x : Str) : Dm H (.str x) (.str x)
  | lst {a : Addr} {xs : List V} {ds : List PyData} : a ≠ sysModules → H a = some (.lst xs) → Dms H xs ds → Dm H (.ref a) (.list ds)
  | tup {a : Addr} {xs : List V} {ds : List PyData} : H a = some (.tup xs) → Dms H xs ds → Dm H (.ref a) (.tuple ds)
  | dct {a : Addr} {k : Str} {i : Int} : H a = some (.dK [(.inr k, .int i)]) → Dm H (.ref a) (.dict [(.str k, .int i)])
inductive Dms (H : Hp) : List V → List PyData → Prop
  | nil : Dms H [] []
  | cons {v : V} {vs : List V} {d : PyData} {ds : List PyData} : Dm H v d → Dms H vs ds → Dms H (v :: vs) (d :: ds)
end
section
variable {X : Cx} {pins : List (Addr × Obj)} {σ : L2.St} {H : Hp} {s : Shared}
mutual
theorem Dm.reads (I : Inv X pins σ H s) : ∀ (d : PyData) (v : V) (u : Value), Dm H v d → RelV v u → ∃ as, Reads s.heap u d as ∧ sysModules ∉ as
  | .none, _, _, h, r => by
    cases h
    cases r
    exact ⟨_, Reads.none, (fun z => nomatch z)⟩
  | .bool b, _, _, h, r => by
    cases h
    cases r
    exact ⟨_, Reads.bool b, (fun z => nomatch z)⟩
  | .int i, _, _, h, r => by
    cases h
    obtain ⟨t, rfl⟩ := r
    exact ⟨_, Reads.int i t, (fun z => nomatch z)⟩
  | .str x, _, _, h, r => by
    cases h
    obtain ⟨t, rfl⟩ := r
    exact ⟨_, Reads.str x t, (fun z => nomatch z)⟩
  | .list ds, _, _, h, r => by
    cases h with
    | lst ne e ha =>
      cases r
      obtain ⟨_, its, n, rv, ho⟩ := (show ObjOk X.prog X.w H s.heap _ (.lst _) from I.hok _ _ e)
      obtain ⟨as, hr, hn⟩ := Dms.reads I ds _ its ha rv
      refine ⟨_, Reads.list ho rfl rfl hr, fun z => ?_⟩
      rcases List.mem_cons.mp z with z | z
      · exact ne z.symm
      · exact hn z
  | .tuple ds, _, _, h, r => by
    cases h with
    | tup e ha =>
      cases r
      obtain ⟨_, its, rv, o, ho, hc, n, hd⟩ := (show ObjOk X.prog X.w H s.heap _ (.tup _) from I.hok _ _ e)
      obtain ⟨as, hr, hn⟩ := Dms.reads I ds _ its ha rv
      exact ⟨_, Reads.tuple ho hc hd hr, hn⟩
  | .dict _, _, _, h, r => by
    cases h with
    | dct e =>
      cases r
      obtain ⟨_, nm, vs, rel, o, es, ep, ho, hx, hd, _, prs, _⟩ := (show ObjOk X.prog X.w H s.heap _ (.dK _) from I.hok _ _ e)
      cases rel with
      | @cons _ bb _ _ r1 r2 =>
        cases r2
        obtain ⟨bk, bv⟩ := bb
        obtain ⟨k1, k2⟩ := r1
        generalize hes : es.toList = el at prs
        cases prs with
        | @cons en _ _ _ q1 q2 q3 =>
          cases q3
          obtain ⟨i, hi⟩ := (show ∃ t, _ = Value.int _ t from k2)
          obtain ⟨hh, ky, vl⟩ := en
          dsimp only at k1 hi q1 q2
          subst k1
          rcases keyIs_shape (k := .inr _) (v := ky) (show keyIs (.inr _) ky = true from q1) with ⟨j, t, e1, e2⟩ | ⟨y, t, e1, e2⟩
          · cases e1
          · cases e1
            refine ⟨_, Reads.dict ho hx.1 hd (as := []) (bs := []) ?_ ?_, fun z => ?_⟩
            · rw [hes]
              show ReadsAll _ [ky] _ _
              rw [e2]
              exact ReadsAll.cons (Reads.str _ _) ReadsAll.nil
            · rw [hes]
              show ReadsAll _ [vl] _ _
              rw [q2, hi]
              exact ReadsAll.cons (Reads.int _ _) ReadsAll.nil
            · have z' := List.mem_singleton.mp (show sysModules ∈ [_] from z)
              rw [← z'] at nm
              exact absurd nm (by decide)
theorem Dms.reads (I : Inv X pins σ H s) : ∀ (ds : List PyData) (vs : List V) (us : List Value), Dms H vs ds → Vals vs us → ∃ as, ReadsAll s.heap us ds as ∧ sysModules ∉ as
  | [], _, _, h, r => by
    cases h
    cases r
    exact ⟨_, ReadsAll.nil, (fun z => nomatch z)⟩
  | d :: ds, _, _, h, r => by
    cases h with
    | cons h1 h2 =>
      cases r with
      | cons r1 r2 =>
        obtain ⟨as, q1, n1⟩ := Dm.reads I d _ _ h1 r1
        obtain ⟨bs, q2, n2⟩ := Dms.reads I ds _ _ h2 r2
        exact ⟨_, ReadsAll.cons q1 q2, fun z => (List.mem_append.mp z).elim n1 n2⟩
end
end
def rShowM : List V → Hp → VK → Prop := fun xs H Q => ∃ (p : Addr) (d : PyData), xs = [V.ref p] ∧ Dm H (.ref p) d ∧ d.showable = true ∧ d.depth ≤ 60 ∧ d.shown.length ≤ sizeLine ∧ Q (.str d.shown) H
theorem call_showM {X : Cx} (gu : X.A.guards = some []) (un : X.A.units + 64 < cLine) : CallR X (.builtin "repr") rShowM := by
  intro pins s σ H xs us Q I r h
  obtain ⟨p, d, rfl, hd, sh, dp, sz, q⟩ := h
  obtain ⟨u, rfl, ru⟩ := vals1 r
  cases (show u = Value.ref p from ru)
  obtain ⟨as, rd, nm⟩ := Dm.reads I d _ _ hd rfl
  refine repr_of_reads' rd sh (fun _ => nm) gu (by omega) (fun _ _ e => e) (fun h' u tk kp => ?_) sz
  exact ⟨.str d.shown, H, I.kept kp, ⟨_, rfl⟩, q⟩
/-! ### a def that is called where nothing is being shown -/
structure FnG (P : Program) (w : World) (K : PySem.W.Frag) (mg : Str → Option Value) (base : Heap) (CX : CXT) (k : Nat) (f : Addr) (fd : FuncData) (ps : List Str) (sp : Sp) : Prop where
  len : ∀ vs H Q E, sp vs H Q E → vs.length = ps.length
  run : ∀ (A : Around) (outer : List Env) (s : Shared) (H : Hp) (args : Args) (us : List Value) (vs : List V) (Q : VK) (E : XK), A.guards = some [] → Room k A → Env0 P w K mg base A outer s H → BindsTo s fd args (ps.zip us) → Vals vs us → sp vs H Q E →
    codeAny (model P w) A (.call (.ref f) args) (CR CX outer P w H s Q E) s
theorem guarded {P : Program} {w : World} {K : PySem.W.Frag} {mg : Str → Option Value} {base : Heap} {x qual : Str} {st : Stmt} {f : Addr} {fd : FuncData} {N ps : List Str} {k : Nat} {sp : Sp} (F : Fun K x qual st f fd) (S : FnScope N ps (defScope st)) (len : ∀ vs H Q E, sp vs H Q E → vs.length = ps.length)
    (hbody : ∀ (cdv : Value) (A : Around) (outer : List Env) (s : Shared) (H : Hp) (vs : List V) (Q : VK) (E : XK), (A.deeper (envOfC qual (defScope st) s.heap.objs.size f cdv)).guards = some [] → Room k (A.deeper (envOfC qual (defScope st) s.heap.objs.size f cdv)) → sp vs H Q E →
      ∃ t, PSs (cxOf CX0 P w K mg base N qual (defScope st) f cdv A outer s H E).nox (defBody st) t ∧ t { nx := fun _ H' => Q .non H', rt := Q } (start N vs) H) : FnG P w K mg base CX0 (k + 1) f fd ps sp := by
  obtain ⟨oc, od, kV, doc, pm, an, cdv, ct, osl, rfl, lk, hcd⟩ := F.ex
  refine ⟨len, fun A outer s H args us vs Q E hg hr e0 hb rv h => ?_⟩
  refine LamX.run_ofS lk hcd S hr e0 hb rv (len _ _ _ _ h) fun hr' => ?_
  obtain ⟨t, h1, h2⟩ := hbody cdv A outer s H vs Q E hg hr' h
  exact ⟨t, h1.nox, h2⟩
theorem pe_callG {X : Cx} {CX : CXT} {k : Nat} {f : Addr} {fd : FuncData} {ps : List Str} {sp : Sp} {E : XK} {x : Str} {p pos : Pos} {e : Expr} {es : List Expr} {t : TA} (F : FnG X.prog X.w X.K X.mg X.base CX k f fd ps sp) (gu : X.A.guards = some []) (hr : Room k X.A) (hg : Gl X x) (hm : X.mg x = some (.ref f)) (hk : PySem.W.keepIn X.K (.ref f) = true) (hb : Binds X.K fd ps []) (hx : Passes CX X E)
    (ha : PA X (e :: es) t) (hdb : (x == ("__debug__" : Str)) = false := by decide) (he : starEach (e :: es) X.env = (false, eval e X.env) :: starEach es X.env := by rfl) (hpl : (backTo pos (starEach es X.env)).any (·.1) = false := by rfl) :
    PE X (.Call (.Name x p) (e :: es) [] pos) (tCall sp [] E t) := by
  refine ⟨fun pins s σ H Q I h => ?_⟩
  refine wpAny_Call_Name_kw (ld_glob I hg hm ?_ hdb)
  refine PySem.W.callWith_K (h₀ := X.base) I.ok.mod.kin hk (thn (ha.run pos pins s σ H _ I h) fun us s1 hh => ?_) he hpl
  obtain ⟨vs, H1, I1, r, q⟩ := hh
  refine ⟨I1.kIn, ?_⟩
  rw [List.append_nil] at q
  have hl : us.length = ps.length := by
    rw [← r.length]
    exact F.len _ _ _ _ q
  have bd := hb s1 us I1.kIn (by rw [List.append_nil]; exact hl)
  rw [List.append_nil] at bd
  show wpAny _ _ (call (.ref f) us) _ _ _
  refine wpAny_call (codeAny_mono (F.run X.A X.stack s1 H1 ⟨us, []⟩ us vs Q E gu hr I1.env0 bd r q) fun r s' hq => ?_)
  cases r with
  | error e => exact hx pins σ H1 s1 e s' I1 hq
  | ok fl =>
    cases fl with
    | ret u => exact I1.after hq
    | next => exact False.elim hq
    | brk => exact False.elim hq
    | cont => exact False.elim hq
end Bay
set_option Elab.async false
set_option linter.all false
set_option maxRecDepth 100000
set_option maxHeartbeats 4000000
namespace Bay
open PySem PySem.Spec PyProof.Rows L2
/-- the data of the drawn values -/
def vd (i : Nat) : PyData := [PyData.none, .bool true, .int 5, .int (-7), .tuple [.int 7, .int 2], .str "fence", .list [.int 1, .list [.int 2]], .dict [(.str "a", .int 1)], .tuple [], .str "", .int (10 ^ 30)].getD i .none
/-- data that stands while nothing but the object at D is written -/
def Vd (D : Addr) (H : Hp) (v : V) (d : PyData) : Prop := ∀ H', Kp D H H' → Dm H' v d
theorem Vd.on {D : Addr} {H G : Hp} {v : V} {d : PyData} (a : Vd D H v d) (k : Kp D H G) : Vd D G v d := fun H' k' => a H' (k.trans k')
section
variable {P : Program} {w : World} {K : PySem.W.Frag} {mg : Str → Option Value} {base : Heap}
def spValue : Sp := fun vs H Q _ => ∃ (D C : Addr) (ms : List Int) (t l : Int), vs = [.ref D] ∧ Dn H D C ms t l ∧ t + 1 ≤ 1000000 ∧
  ∀ (H' : Hp) (t' l' : Int) (v : V) (i : Nat), Dn H' D C ms t' l' → t' ≤ t + 1 → Kp D H H' → i < 11 → Vd D H' v (vd i) → Q v H'
abbrev sValue : Stmt := top 20
theorem scValue : FnScope ["burr"] ["burr"] (defScope sValue) := ⟨rfl, rfl, rfl, by decide +kernel, rfl, by decide +kernel, by decide +kernel⟩
theorem ok_value {f fD fP : Addr} {fd fdD fdP : FuncData} (F : Fun K "_law_value" "_law_value" sValue f fd) (FD : Fun K "_law_open" "_law_open" sDrift fD fdD) (FP : Fun K "_law_pick" "_law_pick" sPick fP fdP) (T : Blt mg)
    (gD : mg "_law_open" = some (.ref fD)) (bD : Binds K fdD ["burr", "many"] []) (gP : mg "_law_pick" = some (.ref fP)) (bP : Binds K fdP ["burr", "some"] []) : FnOk P w K mg base CX0 3 f fd ["burr"] spValue := by
  have GP : FnOk P w K mg base CX0 2 fP fdP ["burr", "some"] spPick := ok_pick FP FD T gD bD
  refine F.ok scValue (fun vs H Q E h => ?_) (fun cdv A outer s H vs Q E hr h => ?_)
  · obtain ⟨D, C, ms, t, l, rfl, _⟩ := h
    rfl
  · obtain ⟨D, C, ms, t, l, rfl, dn, tb, q⟩ := h
    refine ⟨_, pss_one (ps_ret (pe_call GP hr (by rfl) gP FP.kp bP .nil pass0 (pa_cons (pv 0) (pa_cons (pe_lst (pa_cons pe_non (pa_cons pe_bl (pa_cons pe_int (pa_cons (pe_un un_neg pe_int)
      (pa_cons (pe_tup (pa_cons pe_int (pa_cons pe_int pa_nil))) (pa_cons pe_str (pa_cons (pe_lstM (pa_cons pe_int (pa_cons (pe_lstM (pa_cons pe_int pa_nil)) pa_nil)))
      (pa_cons (pe_disp (pps_cons pe_str pe_int pps_nil) (by rfl) (by rfl) (fun z => by cases z) (by decide)) (pa_cons (pe_tup pa_nil) (pa_cons pe_str (pa_cons (pe_op op_pow pe_int pe_int) pa_nil)))))))))))) pa_nil)))), ?_⟩
    refine ⟨.ref D, rfl, 7, rfl, (by show 2 ≤ sizeLine; decide), fun p1 np1 => ?_⟩
    have s1 : Same H (upd H p1 (.tup [.int 7, .int 2])) := Same.new np1
    have e1 : (upd H p1 (.tup [.int 7, .int 2])) p1 = some (.tup [.int 7, .int 2]) := upd_same
    generalize upd H p1 (.tup [.int 7, .int 2]) = H1 at s1 e1
    refine ⟨(by show 1 ≤ sizeLine; decide), fun p2 np2 nm2 => ?_⟩
    have s2 : Same H1 (upd H1 p2 (.lst [.int 2])) := Same.new np2
    have e2 : (upd H1 p2 (.lst [.int 2])) p2 = some (.lst [.int 2]) := upd_same
    generalize upd H1 p2 (.lst [.int 2]) = H2 at s2 e2
    refine ⟨(by show 2 ≤ sizeLine; decide), fun p3 np3 nm3 => ?_⟩
    have s3 : Same H2 (upd H2 p3 (.lst [.int 1, .ref p2])) := Same.new np3
    have e3 : (upd H2 p3 (.lst [.int 1, .ref p2])) p3 = some (.lst [.int 1, .ref p2]) := upd_same
    generalize upd H2 p3 (.lst [.int 1, .ref p2]) = H3 at s3 e3
    intro p4 np4
    refine ⟨upd_same, [(.inr "a", .int 1)], rfl, by decide, ?_⟩
    have s4 : Same H3 (upd (upd H3 p4 (.dK [])) p4 (.dK (mergeK [] [(.inr "a", .int 1)]))) := by
      rw [upd_upd]
      exact Same.new np4
    have e4 : (upd (upd H3 p4 (.dK [])) p4 (.dK (mergeK [] [(.inr "a", .int 1)]))) p4 = some (.dK [(.inr "a", .int 1)]) := upd_same
    generalize upd (upd H3 p4 (.dK [])) p4 (.dK (mergeK [] [(.inr "a", .int 1)])) = H4 at s4 e4
    refine ⟨Nat.zero_le _, fun p5 np5 => ?_⟩
    have s5 : Same H4 (upd H4 p5 (.tup [])) := Same.new np5
    have e5 : (upd H4 p5 (.tup [])) p5 = some (.tup []) := upd_same
    generalize upd H4 p5 (.tup []) = H5 at s5 e5
    refine ⟨10, 30, rfl, rfl, ⟨by decide, by decide, by decide⟩, (by show 11 ≤ sizeLine; decide), fun p6 np6 => ?_⟩
    have s6 := Same.new (o := .lst [.non, .bl true, .int 5, .int (-7), .ref p1, .str "fence", .ref p3, .ref p4, .ref p5, .str "", .int (10 ^ (30 : Int).toNat)]) np6
    have t2 := s1.trans s2
    have t3 := t2.trans s3
    have t4 := t3.trans s4
    have t5 := t4.trans s5
    have t6 := t5.trans s6
    have a1 := dn.apart np1
    have a2 := (dn.same s1).apart np2
    have a3 := (dn.same t2).apart np3
    have a4 := (dn.same t3).apart np4
    have a5 := (dn.same t4).apart np5
    refine ⟨D, C, p6, ms, t, l, _, rfl, dn.same t6, by omega, upd_same, (dn.same t5).apart np6, (by show 0 < 11; decide), (by show 11 ≤ 1000; decide), fun J t' l' x dn' tt kp hx => ?_⟩
    have k5 : Kp D H5 J := (Kp.same s6).trans kp
    have k4 : Kp D H4 J := (Kp.same s5).trans k5
    have k3 : Kp D H3 J := (Kp.same s4).trans k4
    have k2 : Kp D H2 J := (Kp.same s3).trans k3
    have k1 : Kp D H1 J := (Kp.same s2).trans k2
    have go : ∀ i, i < 11 → Vd D J x (vd i) → Q x J := fun i hi z => q J t' l' x i dn' tt ((Kp.same t6).trans kp) hi z
    simp only [List.mem_cons, List.not_mem_nil, or_false] at hx
    rcases hx with e | e | e | e | e | e | e | e | e | e | e
    · subst e
      exact go 0 (by decide) fun _ _ => .non
    · subst e
      exact go 1 (by decide) fun _ _ => .bl _
    · subst e
      exact go 2 (by decide) fun _ _ => .int _
    · subst e
      exact go 3 (by decide) fun _ _ => .int _
    · subst e
      exact go 4 (by decide) fun _ k => .tup (k _ _ (k1 _ _ e1 a1) a1) (.cons (.int _) (.cons (.int _) .nil))
    · subst e
      exact go 5 (by decide) fun _ _ => .str _
    · subst e
      exact go 6 (by decide) fun _ k => .lst nm3 (k _ _ (k3 _ _ e3 a3) a3) (.cons (.int _) (.cons (.lst nm2 (k _ _ (k2 _ _ e2 a2) a2) (.cons (.int _) .nil)) .nil))
    · subst e
      exact go 7 (by decide) fun _ k => .dct (k _ _ (k4 _ _ e4 a4) a4)
    · subst e
      exact go 8 (by decide) fun _ k => .tup (k _ _ (k5 _ _ e5 a5) a5) .nil
    · subst e
      exact go 9 (by decide) fun _ _ => .str _
    · subst e
      exact go 10 (by decide) fun _ _ => .int _
end
end Bay
set_option Elab.async false
set_option linter.all false
set_option maxRecDepth 100000
set_option maxHeartbeats 4000000
namespace Bay
open PySem PySem.Spec PyProof.Rows L2 Err
def ini (i : Nat) : Stmt := match top i with
  | .ClassDef _ _ _ b _ _ _ _ _ _ _ => b.getD 0 (.Pass ⟨0, 0, 0, 0⟩)
  | _ => .Pass ⟨0, 0, 0, 0⟩
theorem shape0 : One "BadNumber.__init__" (ini 2) "part" := by 
  refine ⟨⟨_, _, _, _, _, _, _, _, _, _, _, _, ?pl, ?sup, ?fld, by rfl⟩, ⟨_, by rfl, by rfl⟩, by decide⟩
  (case sup => (refine ⟨fun L f cda cc => ?_, fun L f cda cc => ?_, fun L f cda cc => ?_, ?_, ?_, ?_, ?_, ?_, ?_, ?_⟩; (· rfl); (· rfl); (· rfl); (· decide +kernel); (· decide +kernel); (· decide +kernel); (· rfl); (· rfl); (· rfl); (· decide +kernel)))
  (case fld => (refine ⟨fun L a cda cc => ?_, ?_, ?_⟩; (· rfl); (· decide +kernel); (· decide +kernel)))
theorem shape1 : One "BadPoint.__init__" (ini 3) "part" := by 
  refine ⟨⟨_, _, _, _, _, _, _, _, _, _, _, _, ?pl, ?sup, ?fld, by rfl⟩, ⟨_, by rfl, by rfl⟩, by decide⟩
  (case sup => (refine ⟨fun L f cda cc => ?_, fun L f cda cc => ?_, fun L f cda cc => ?_, ?_, ?_, ?_, ?_, ?_, ?_, ?_⟩; (· rfl); (· rfl); (· rfl); (· decide +kernel); (· decide +kernel); (· decide +kernel); (· rfl); (· rfl); (· rfl); (· decide +kernel)))
  (case fld => (refine ⟨fun L a cda cc => ?_, ?_, ?_⟩; (· rfl); (· decide +kernel); (· decide +kernel)))
theorem shape2 : One "BadFence.__init__" (ini 4) "part" := by 
  refine ⟨⟨_, _, _, _, _, _, _, _, _, _, _, _, ?pl, ?sup, ?fld, by rfl⟩, ⟨_, by rfl, by rfl⟩, by decide⟩
  (case sup => (refine ⟨fun L f cda cc => ?_, fun L f cda cc => ?_, fun L f cda cc => ?_, ?_, ?_, ?_, ?_, ?_, ?_, ?_⟩; (· rfl); (· rfl); (· rfl); (· decide +kernel); (· decide +kernel); (· decide +kernel); (· rfl); (· rfl); (· rfl); (· decide +kernel)))
  (case fld => (refine ⟨fun L a cda cc => ?_, ?_, ?_⟩; (· rfl); (· decide +kernel); (· decide +kernel)))
theorem shape3 : One "BadMouth.__init__" (ini 5) "part" := by 
  refine ⟨⟨_, _, _, _, _, _, _, _, _, _, _, _, ?pl, ?sup, ?fld, by rfl⟩, ⟨_, by rfl, by rfl⟩, by decide⟩
  (case sup => (refine ⟨fun L f cda cc => ?_, fun L f cda cc => ?_, fun L f cda cc => ?_, ?_, ?_, ?_, ?_, ?_, ?_, ?_⟩; (· rfl); (· rfl); (· rfl); (· decide +kernel); (· decide +kernel); (· decide +kernel); (· rfl); (· rfl); (· rfl); (· decide +kernel)))
  (case fld => (refine ⟨fun L a cda cc => ?_, ?_, ?_⟩; (· rfl); (· decide +kernel); (· decide +kernel)))
theorem shape4 : One "BadFilm.__init__" (ini 6) "part" := by 
  refine ⟨⟨_, _, _, _, _, _, _, _, _, _, _, _, ?pl, ?sup, ?fld, by rfl⟩, ⟨_, by rfl, by rfl⟩, by decide⟩
  (case sup => (refine ⟨fun L f cda cc => ?_, fun L f cda cc => ?_, fun L f cda cc => ?_, ?_, ?_, ?_, ?_, ?_, ?_, ?_⟩; (· rfl); (· rfl); (· rfl); (· decide +kernel); (· decide +kernel); (· decide +kernel); (· rfl); (· rfl); (· rfl); (· decide +kernel)))
  (case fld => (refine ⟨fun L a cda cc => ?_, ?_, ?_⟩; (· rfl); (· decide +kernel); (· decide +kernel)))
theorem shape5 : One "BadWord.__init__" (ini 7) "part" := by 
  refine ⟨⟨_, _, _, _, _, _, _, _, _, _, _, _, ?pl, ?sup, ?fld, by rfl⟩, ⟨_, by rfl, by rfl⟩, by decide⟩
  (case sup => (refine ⟨fun L f cda cc => ?_, fun L f cda cc => ?_, fun L f cda cc => ?_, ?_, ?_, ?_, ?_, ?_, ?_, ?_⟩; (· rfl); (· rfl); (· rfl); (· decide +kernel); (· decide +kernel); (· decide +kernel); (· rfl); (· rfl); (· rfl); (· decide +kernel)))
  (case fld => (refine ⟨fun L a cda cc => ?_, ?_, ?_⟩; (· rfl); (· decide +kernel); (· decide +kernel)))
theorem shape6 : One "BadName.__init__" (ini 8) "part" := by 
  refine ⟨⟨_, _, _, _, _, _, _, _, _, _, _, _, ?pl, ?sup, ?fld, by rfl⟩, ⟨_, by rfl, by rfl⟩, by decide⟩
  (case sup => (refine ⟨fun L f cda cc => ?_, fun L f cda cc => ?_, fun L f cda cc => ?_, ?_, ?_, ?_, ?_, ?_, ?_, ?_⟩; (· rfl); (· rfl); (· rfl); (· decide +kernel); (· decide +kernel); (· decide +kernel); (· rfl); (· rfl); (· rfl); (· decide +kernel)))
  (case fld => (refine ⟨fun L a cda cc => ?_, ?_, ?_⟩; (· rfl); (· decide +kernel); (· decide +kernel)))
theorem shape7 : One "BadPaper.__init__" (ini 9) "part" := by 
  refine ⟨⟨_, _, _, _, _, _, _, _, _, _, _, _, ?pl, ?sup, ?fld, by rfl⟩, ⟨_, by rfl, by rfl⟩, by decide⟩
  (case sup => (refine ⟨fun L f cda cc => ?_, fun L f cda cc => ?_, fun L f cda cc => ?_, ?_, ?_, ?_, ?_, ?_, ?_, ?_⟩; (· rfl); (· rfl); (· rfl); (· decide +kernel); (· decide +kernel); (· decide +kernel); (· rfl); (· rfl); (· rfl); (· decide +kernel)))
  (case fld => (refine ⟨fun L a cda cc => ?_, ?_, ?_⟩; (· rfl); (· decide +kernel); (· decide +kernel)))
theorem shape8 : One "Misfit.__init__" (ini 10) "part" := by 
  refine ⟨⟨_, _, _, _, _, _, _, _, _, _, _, _, ?pl, ?sup, ?fld, by rfl⟩, ⟨_, by rfl, by rfl⟩, by decide⟩
  (case sup => (refine ⟨fun L f cda cc => ?_, fun L f cda cc => ?_, fun L f cda cc => ?_, ?_, ?_, ?_, ?_, ?_, ?_, ?_⟩; (· rfl); (· rfl); (· rfl); (· decide +kernel); (· decide +kernel); (· decide +kernel); (· rfl); (· rfl); (· rfl); (· decide +kernel)))
  (case fld => (refine ⟨fun L a cda cc => ?_, ?_, ?_⟩; (· rfl); (· decide +kernel); (· decide +kernel)))
theorem shape9 : One "NoName.__init__" (ini 11) "value" := by 
  refine ⟨⟨_, _, _, _, _, _, _, _, _, _, _, _, ?pl, ?sup, ?fld, by rfl⟩, ⟨_, by rfl, by rfl⟩, by decide⟩
  (case sup => (refine ⟨fun L f cda cc => ?_, fun L f cda cc => ?_, fun L f cda cc => ?_, ?_, ?_, ?_, ?_, ?_, ?_, ?_⟩; (· rfl); (· rfl); (· rfl); (· decide +kernel); (· decide +kernel); (· decide +kernel); (· rfl); (· rfl); (· rfl); (· decide +kernel)))
  (case fld => (refine ⟨fun L a cda cc => ?_, ?_, ?_⟩; (· rfl); (· decide +kernel); (· decide +kernel)))
theorem shape10 : One "Twice.__init__" (ini 12) "value" := by 
  refine ⟨⟨_, _, _, _, _, _, _, _, _, _, _, _, ?pl, ?sup, ?fld, by rfl⟩, ⟨_, by rfl, by rfl⟩, by decide⟩
  (case sup => (refine ⟨fun L f cda cc => ?_, fun L f cda cc => ?_, fun L f cda cc => ?_, ?_, ?_, ?_, ?_, ?_, ?_, ?_⟩; (· rfl); (· rfl); (· rfl); (· decide +kernel); (· decide +kernel); (· decide +kernel); (· rfl); (· rfl); (· rfl); (· decide +kernel)))
  (case fld => (refine ⟨fun L a cda cc => ?_, ?_, ?_⟩; (· rfl); (· decide +kernel); (· decide +kernel)))
theorem shape11 : Two "TooMany.__init__" (ini 13) "what" "most" := by 
  refine ⟨⟨_, _, _, _, _, _, _, _, _, _, _, _, _, _, _, _, ?pl, ?sup, ?fld, ?fld2, by rfl⟩, ⟨_, by rfl, by rfl⟩, by decide, by decide, by decide⟩
  (case sup => (refine ⟨fun L f cda cc => ?_, fun L f cda cc => ?_, fun L f cda cc => ?_, ?_, ?_, ?_, ?_, ?_, ?_, ?_⟩; (· rfl); (· rfl); (· rfl); (· decide +kernel); (· decide +kernel); (· decide +kernel); (· rfl); (· rfl); (· rfl); (· decide +kernel)))
  (case fld => (refine ⟨fun L a cda cc => ?_, ?_, ?_⟩; (· rfl); (· decide +kernel); (· decide +kernel)))
  (case fld2 => (refine ⟨fun L a cda cc => ?_, ?_, ?_⟩; (· rfl); (· decide +kernel); (· decide +kernel)))
theorem shape12 : Two "BadText.__init__" (ini 14) "line" "item" := by 
  refine ⟨⟨_, _, _, _, _, _, _, _, _, _, _, _, _, _, _, _, ?pl, ?sup, ?fld, ?fld2, by rfl⟩, ⟨_, by rfl, by rfl⟩, by decide, by decide, by decide⟩
  (case sup => (refine ⟨fun L f cda cc => ?_, fun L f cda cc => ?_, fun L f cda cc => ?_, ?_, ?_, ?_, ?_, ?_, ?_, ?_⟩; (· rfl); (· rfl); (· rfl); (· decide +kernel); (· decide +kernel); (· decide +kernel); (· rfl); (· rfl); (· rfl); (· decide +kernel)))
  (case fld => (refine ⟨fun L a cda cc => ?_, ?_, ?_⟩; (· rfl); (· decide +kernel); (· decide +kernel)))
  (case fld2 => (refine ⟨fun L a cda cc => ?_, ?_, ?_⟩; (· rfl); (· decide +kernel); (· decide +kernel)))
theorem shape13 : Two "BadLine.__init__" (ini 15) "line" "error" := by 
  refine ⟨⟨_, _, _, _, _, _, _, _, _, _, _, _, _, _, _, _, ?pl, ?sup, ?fld, ?fld2, by rfl⟩, ⟨_, by rfl, by rfl⟩, by decide, by decide, by decide⟩
  (case sup => (refine ⟨fun L f cda cc => ?_, fun L f cda cc => ?_, fun L f cda cc => ?_, ?_, ?_, ?_, ?_, ?_, ?_, ?_⟩; (· rfl); (· rfl); (· rfl); (· decide +kernel); (· decide +kernel); (· decide +kernel); (· rfl); (· rfl); (· rfl); (· decide +kernel)))
  (case fld => (refine ⟨fun L a cda cc => ?_, ?_, ?_⟩; (· rfl); (· decide +kernel); (· decide +kernel)))
  (case fld2 => (refine ⟨fun L a cda cc => ?_, ?_, ?_⟩; (· rfl); (· decide +kernel); (· decide +kernel)))
/-- the fourteen classes -/
structure Cls (P : Program) (K : PySem.W.Frag) (mg : Str → Option Value) (F : Addr) (C : Nat → Addr) : Prop where
  B : Base K mg "FenceError" F
  sup : mg "super" = none
  tp : (P.main.scope.names.lookup ("super" : Str)).isSome = false
  c0 : EC P K mg F "BadNumber" "BadNumber.__init__" (ini 2) (C 0)
  n0a : PySem.W.findIn K (.ref (C 0)) "part" = some none
  c1 : EC P K mg F "BadPoint" "BadPoint.__init__" (ini 3) (C 1)
  n1a : PySem.W.findIn K (.ref (C 1)) "part" = some none
  c2 : EC P K mg F "BadFence" "BadFence.__init__" (ini 4) (C 2)
  n2a : PySem.W.findIn K (.ref (C 2)) "part" = some none
  c3 : EC P K mg F "BadMouth" "BadMouth.__init__" (ini 5) (C 3)
  n3a : PySem.W.findIn K (.ref (C 3)) "part" = some none
  c4 : EC P K mg F "BadFilm" "BadFilm.__init__" (ini 6) (C 4)
  n4a : PySem.W.findIn K (.ref (C 4)) "part" = some none
  c5 : EC P K mg F "BadWord" "BadWord.__init__" (ini 7) (C 5)
  n5a : PySem.W.findIn K (.ref (C 5)) "part" = some none
  c6 : EC P K mg F "BadName" "BadName.__init__" (ini 8) (C 6)
  n6a : PySem.W.findIn K (.ref (C 6)) "part" = some none
  c7 : EC P K mg F "BadPaper" "BadPaper.__init__" (ini 9) (C 7)
  n7a : PySem.W.findIn K (.ref (C 7)) "part" = some none
  c8 : EC P K mg F "Misfit" "Misfit.__init__" (ini 10) (C 8)
  n8a : PySem.W.findIn K (.ref (C 8)) "part" = some none
  c9 : EC P K mg F "NoName" "NoName.__init__" (ini 11) (C 9)
  n9a : PySem.W.findIn K (.ref (C 9)) "value" = some none
  c10 : EC P K mg F "Twice" "Twice.__init__" (ini 12) (C 10)
  n10a : PySem.W.findIn K (.ref (C 10)) "value" = some none
  c11 : EC P K mg F "TooMany" "TooMany.__init__" (ini 13) (C 11)
  n11a : PySem.W.findIn K (.ref (C 11)) "what" = some none
  n11b : PySem.W.findIn K (.ref (C 11)) "most" = some none
  c12 : EC P K mg F "BadText" "BadText.__init__" (ini 14) (C 12)
  n12a : PySem.W.findIn K (.ref (C 12)) "line" = some none
  n12b : PySem.W.findIn K (.ref (C 12)) "item" = some none
  c13 : EC P K mg F "BadLine" "BadLine.__init__" (ini 15) (C 13)
  n13a : PySem.W.findIn K (.ref (C 13)) "line" = some none
  n13b : PySem.W.findIn K (.ref (C 13)) "error" = some none
/-- the fields of the error with a number -/
def flds (i : Nat) (one other : V) : List (Str × V) :=
  if i < 9 then [("part", one)] else if i < 11 then [("value", one)] else if i = 11 then [("most", other), ("what", one)] else if i = 12 then [("item", other), ("line", one)] else [("error", other), ("line", one)]
theorem ite_t {c : Bool} {A B : Prop} (h : c = true) (a : A) : if c = true then A else B := by
  rw [if_pos h]
  exact a
theorem ite_f {c : Bool} {A B : Prop} (h : c = false) (b : B) : if c = true then A else B := by
  rw [if_neg (by rw [h]; exact Bool.false_ne_true)]
  exact b
theorem len1 {i : Nat} : Len (tCons (tVar i) tNil) 1 := fun σ H Q h => by
  obtain ⟨v, e, q⟩ := h
  exact ⟨v, e, rfl, q⟩
theorem len2 {i j : Nat} : Len (tCons (tVar i) (tCons (tVar j) tNil)) 2 := fun σ H Q h => by
  obtain ⟨v, e, u, e2, q⟩ := h
  exact ⟨v, e, u, e2, rfl, q⟩
section
variable {P : Program} {w : World} {K : PySem.W.Frag} {mg : Str → Option Value} {base : Heap} {F : Addr} {C : Nat → Addr}
theorem byPlace0 (T : Cls P K mg F C) : Makes P w K mg (C 0) 1 [] (f10 "part") := mk10 (T.c0.own T.B) shape0 T.n0a T.tp (fun _ _ _ _ _ _ _ _ _ => rfl)
theorem byName0 (T : Cls P K mg F C) : Makes P w K mg (C 0) 0 ["part"] (f01 "part") := mk01 (T.c0.own T.B) shape0 T.n0a T.tp (fun _ _ _ _ _ _ _ _ _ => rfl)
theorem byPlace1 (T : Cls P K mg F C) : Makes P w K mg (C 1) 1 [] (f10 "part") := mk10 (T.c1.own T.B) shape1 T.n1a T.tp (fun _ _ _ _ _ _ _ _ _ => rfl)
theorem byName1 (T : Cls P K mg F C) : Makes P w K mg (C 1) 0 ["part"] (f01 "part") := mk01 (T.c1.own T.B) shape1 T.n1a T.tp (fun _ _ _ _ _ _ _ _ _ => rfl)
theorem byPlace2 (T : Cls P K mg F C) : Makes P w K mg (C 2) 1 [] (f10 "part") := mk10 (T.c2.own T.B) shape2 T.n2a T.tp (fun _ _ _ _ _ _ _ _ _ => rfl)
theorem byName2 (T : Cls P K mg F C) : Makes P w K mg (C 2) 0 ["part"] (f01 "part") := mk01 (T.c2.own T.B) shape2 T.n2a T.tp (fun _ _ _ _ _ _ _ _ _ => rfl)
theorem byPlace3 (T : Cls P K mg F C) : Makes P w K mg (C 3) 1 [] (f10 "part") := mk10 (T.c3.own T.B) shape3 T.n3a T.tp (fun _ _ _ _ _ _ _ _ _ => rfl)
theorem byName3 (T : Cls P K mg F C) : Makes P w K mg (C 3) 0 ["part"] (f01 "part") := mk01 (T.c3.own T.B) shape3 T.n3a T.tp (fun _ _ _ _ _ _ _ _ _ => rfl)
theorem byPlace4 (T : Cls P K mg F C) : Makes P w K mg (C 4) 1 [] (f10 "part") := mk10 (T.c4.own T.B) shape4 T.n4a T.tp (fun _ _ _ _ _ _ _ _ _ => rfl)
theorem byName4 (T : Cls P K mg F C) : Makes P w K mg (C 4) 0 ["part"] (f01 "part") := mk01 (T.c4.own T.B) shape4 T.n4a T.tp (fun _ _ _ _ _ _ _ _ _ => rfl)
theorem byPlace5 (T : Cls P K mg F C) : Makes P w K mg (C 5) 1 [] (f10 "part") := mk10 (T.c5.own T.B) shape5 T.n5a T.tp (fun _ _ _ _ _ _ _ _ _ => rfl)
theorem byName5 (T : Cls P K mg F C) : Makes P w K mg (C 5) 0 ["part"] (f01 "part") := mk01 (T.c5.own T.B) shape5 T.n5a T.tp (fun _ _ _ _ _ _ _ _ _ => rfl)
theorem byPlace6 (T : Cls P K mg F C) : Makes P w K mg (C 6) 1 [] (f10 "part") := mk10 (T.c6.own T.B) shape6 T.n6a T.tp (fun _ _ _ _ _ _ _ _ _ => rfl)
theorem byName6 (T : Cls P K mg F C) : Makes P w K mg (C 6) 0 ["part"] (f01 "part") := mk01 (T.c6.own T.B) shape6 T.n6a T.tp (fun _ _ _ _ _ _ _ _ _ => rfl)
theorem byPlace7 (T : Cls P K mg F C) : Makes P w K mg (C 7) 1 [] (f10 "part") := mk10 (T.c7.own T.B) shape7 T.n7a T.tp (fun _ _ _ _ _ _ _ _ _ => rfl)
theorem byName7 (T : Cls P K mg F C) : Makes P w K mg (C 7) 0 ["part"] (f01 "part") := mk01 (T.c7.own T.B) shape7 T.n7a T.tp (fun _ _ _ _ _ _ _ _ _ => rfl)
theorem byPlace8 (T : Cls P K mg F C) : Makes P w K mg (C 8) 1 [] (f10 "part") := mk10 (T.c8.own T.B) shape8 T.n8a T.tp (fun _ _ _ _ _ _ _ _ _ => rfl)
theorem byName8 (T : Cls P K mg F C) : Makes P w K mg (C 8) 0 ["part"] (f01 "part") := mk01 (T.c8.own T.B) shape8 T.n8a T.tp (fun _ _ _ _ _ _ _ _ _ => rfl)
theorem byPlace9 (T : Cls P K mg F C) : Makes P w K mg (C 9) 1 [] (f10 "value") := mk10 (T.c9.own T.B) shape9 T.n9a T.tp (fun _ _ _ _ _ _ _ _ _ => rfl)
theorem byName9 (T : Cls P K mg F C) : Makes P w K mg (C 9) 0 ["value"] (f01 "value") := mk01 (T.c9.own T.B) shape9 T.n9a T.tp (fun _ _ _ _ _ _ _ _ _ => rfl)
theorem byPlace10 (T : Cls P K mg F C) : Makes P w K mg (C 10) 1 [] (f10 "value") := mk10 (T.c10.own T.B) shape10 T.n10a T.tp (fun _ _ _ _ _ _ _ _ _ => rfl)
theorem byName10 (T : Cls P K mg F C) : Makes P w K mg (C 10) 0 ["value"] (f01 "value") := mk01 (T.c10.own T.B) shape10 T.n10a T.tp (fun _ _ _ _ _ _ _ _ _ => rfl)
theorem byPlace11 (T : Cls P K mg F C) : Makes P w K mg (C 11) 2 [] (f20 "what" "most") := mk20 (T.c11.own T.B) shape11 T.n11a T.n11b T.tp (fun _ _ _ _ _ _ _ _ _ _ => rfl)
theorem byName11 (T : Cls P K mg F C) : Makes P w K mg (C 11) 0 ["most", "what"] (f02 "what" "most") := mk02 (T.c11.own T.B) shape11 T.n11a T.n11b T.tp (fun _ _ _ _ _ _ _ _ _ _ => rfl)
theorem byPlace12 (T : Cls P K mg F C) : Makes P w K mg (C 12) 2 [] (f20 "line" "item") := mk20 (T.c12.own T.B) shape12 T.n12a T.n12b T.tp (fun _ _ _ _ _ _ _ _ _ _ => rfl)
theorem byName12 (T : Cls P K mg F C) : Makes P w K mg (C 12) 0 ["item", "line"] (f02 "line" "item") := mk02 (T.c12.own T.B) shape12 T.n12a T.n12b T.tp (fun _ _ _ _ _ _ _ _ _ _ => rfl)
theorem byPlace13 (T : Cls P K mg F C) : Makes P w K mg (C 13) 2 [] (f20 "line" "error") := mk20 (T.c13.own T.B) shape13 T.n13a T.n13b T.tp (fun _ _ _ _ _ _ _ _ _ _ => rfl)
theorem byName13 (T : Cls P K mg F C) : Makes P w K mg (C 13) 0 ["error", "line"] (f02 "line" "error") := mk02 (T.c13.own T.B) shape13 T.n13a T.n13b T.tp (fun _ _ _ _ _ _ _ _ _ _ => rfl)
/-- a def that raises the error with a number -/
def spOf (C : Nat → Addr) (m : Nat) : Sp := fun vs H _ E => ∃ (i : Nat) (one : V), vs = [.int i, one] ∧ i ≤ m ∧ ∀ d, H d = none → E (.ref (C i)) (some d) (upd H d (.xd (flds i one .non)))
abbrev sFirst : Stmt := top 21
abbrev sNamed : Stmt := top 22
theorem scFirst : FnScope ["at", "one"] ["at", "one"] (defScope sFirst) := ⟨rfl, rfl, rfl, by decide +kernel, rfl, by decide +kernel, by decide +kernel⟩
theorem scNamed : FnScope ["at", "one"] ["at", "one"] (defScope sNamed) := ⟨rfl, rfl, rfl, by decide +kernel, rfl, by decide +kernel, by decide +kernel⟩
theorem ok_first {f : Addr} {fd : FuncData} (Fn : Fun K "_law_first" "_law_first" sFirst f fd) (T : Cls P K mg F C) : FnOk P w K mg base (L2.CX P w) 2 f fd ["at", "one"] (spOf C 10) := by
  refine Fn.okX scFirst (fun vs H Q E h => ?_) (fun cdv A outer s H vs Q E hr h => ?_)
  · obtain ⟨i, one, rfl, _⟩ := h
    rfl
  · obtain ⟨i, one, rfl, hi, q⟩ := h
    refine ⟨_, (pss_cons (ps_if (pt_cmpR op_eq (pv 0) pe_int (nomark _)) (pss_one (ps_raise rfl (takes_of rfl rfl rfl rfl) (pmkA (T.c0.err T.B) (byPlace0 T) T.sup hr (pa_cons (pv 1) pa_nil) len1))) pss_nil)
      (pss_cons (ps_if (pt_cmpR op_eq (pv 0) pe_int (nomark _)) (pss_one (ps_raise rfl (takes_of rfl rfl rfl rfl) (pmkA (T.c1.err T.B) (byPlace1 T) T.sup hr (pa_cons (pv 1) pa_nil) len1))) pss_nil)
      (pss_cons (ps_if (pt_cmpR op_eq (pv 0) pe_int (nomark _)) (pss_one (ps_raise rfl (takes_of rfl rfl rfl rfl) (pmkA (T.c2.err T.B) (byPlace2 T) T.sup hr (pa_cons (pv 1) pa_nil) len1))) pss_nil)
      (pss_cons (ps_if (pt_cmpR op_eq (pv 0) pe_int (nomark _)) (pss_one (ps_raise rfl (takes_of rfl rfl rfl rfl) (pmkA (T.c3.err T.B) (byPlace3 T) T.sup hr (pa_cons (pv 1) pa_nil) len1))) pss_nil)
      (pss_cons (ps_if (pt_cmpR op_eq (pv 0) pe_int (nomark _)) (pss_one (ps_raise rfl (takes_of rfl rfl rfl rfl) (pmkA (T.c4.err T.B) (byPlace4 T) T.sup hr (pa_cons (pv 1) pa_nil) len1))) pss_nil)
      (pss_cons (ps_if (pt_cmpR op_eq (pv 0) pe_int (nomark _)) (pss_one (ps_raise rfl (takes_of rfl rfl rfl rfl) (pmkA (T.c5.err T.B) (byPlace5 T) T.sup hr (pa_cons (pv 1) pa_nil) len1))) pss_nil)
      (pss_cons (ps_if (pt_cmpR op_eq (pv 0) pe_int (nomark _)) (pss_one (ps_raise rfl (takes_of rfl rfl rfl rfl) (pmkA (T.c6.err T.B) (byPlace6 T) T.sup hr (pa_cons (pv 1) pa_nil) len1))) pss_nil)
      (pss_cons (ps_if (pt_cmpR op_eq (pv 0) pe_int (nomark _)) (pss_one (ps_raise rfl (takes_of rfl rfl rfl rfl) (pmkA (T.c7.err T.B) (byPlace7 T) T.sup hr (pa_cons (pv 1) pa_nil) len1))) pss_nil)
      (pss_cons (ps_if (pt_cmpR op_eq (pv 0) pe_int (nomark _)) (pss_one (ps_raise rfl (takes_of rfl rfl rfl rfl) (pmkA (T.c8.err T.B) (byPlace8 T) T.sup hr (pa_cons (pv 1) pa_nil) len1))) pss_nil)
      (pss_cons (ps_if (pt_cmpR op_eq (pv 0) pe_int (nomark _)) (pss_one (ps_raise rfl (takes_of rfl rfl rfl rfl) (pmkA (T.c9.err T.B) (byPlace9 T) T.sup hr (pa_cons (pv 1) pa_nil) len1))) pss_nil)
      (pss_one (ps_raise rfl (takes_of rfl rfl rfl rfl) (pmkA (T.c10.err T.B) (byPlace10 T) T.sup hr (pa_cons (pv 1) pa_nil) len1))))))))))))), ?_⟩
    have cs : i = 0 ∨ i = 1 ∨ i = 2 ∨ i = 3 ∨ i = 4 ∨ i = 5 ∨ i = 6 ∨ i = 7 ∨ i = 8 ∨ i = 9 ∨ i = 10 := by omega
    rcases cs with rfl | rfl | rfl | rfl | rfl | rfl | rfl | rfl | rfl | rfl | rfl
    · refine ⟨.int 0, rfl, rfl, _, rfl, ite_t (by decide) ?_⟩
      exact ⟨one, rfl, q⟩
    · refine ⟨.int 1, rfl, rfl, _, rfl, ite_f (by decide) ?_⟩
      refine ⟨.int 1, rfl, rfl, _, rfl, ite_t (by decide) ?_⟩
      exact ⟨one, rfl, q⟩
    · refine ⟨.int 2, rfl, rfl, _, rfl, ite_f (by decide) ?_⟩
      refine ⟨.int 2, rfl, rfl, _, rfl, ite_f (by decide) ?_⟩
      refine ⟨.int 2, rfl, rfl, _, rfl, ite_t (by decide) ?_⟩
      exact ⟨one, rfl, q⟩
    · refine ⟨.int 3, rfl, rfl, _, rfl, ite_f (by decide) ?_⟩
      refine ⟨.int 3, rfl, rfl, _, rfl, ite_f (by decide) ?_⟩
      refine ⟨.int 3, rfl, rfl, _, rfl, ite_f (by decide) ?_⟩
      refine ⟨.int 3, rfl, rfl, _, rfl, ite_t (by decide) ?_⟩
      exact ⟨one, rfl, q⟩
    · refine ⟨.int 4, rfl, rfl, _, rfl, ite_f (by decide) ?_⟩
      refine ⟨.int 4, rfl, rfl, _, rfl, ite_f (by decide) ?_⟩
      refine ⟨.int 4, rfl, rfl, _, rfl, ite_f (by decide) ?_⟩
      refine ⟨.int 4, rfl, rfl, _, rfl, ite_f (by decide) ?_⟩
      refine ⟨.int 4, rfl, rfl, _, rfl, ite_t (by decide) ?_⟩
      exact ⟨one, rfl, q⟩
    · refine ⟨.int 5, rfl, rfl, _, rfl, ite_f (by decide) ?_⟩
      refine ⟨.int 5, rfl, rfl, _, rfl, ite_f (by decide) ?_⟩
      refine ⟨.int 5, rfl, rfl, _, rfl, ite_f (by decide) ?_⟩
      refine ⟨.int 5, rfl, rfl, _, rfl, ite_f (by decide) ?_⟩
      refine ⟨.int 5, rfl, rfl, _, rfl, ite_f (by decide) ?_⟩
      refine ⟨.int 5, rfl, rfl, _, rfl, ite_t (by decide) ?_⟩
      exact ⟨one, rfl, q⟩
    · refine ⟨.int 6, rfl, rfl, _, rfl, ite_f (by decide) ?_⟩
      refine ⟨.int 6, rfl, rfl, _, rfl, ite_f (by decide) ?_⟩
      refine ⟨.int 6, rfl, rfl, _, rfl, ite_f (by decide) ?_⟩
      refine ⟨.int 6, rfl, rfl, _, rfl, ite_f (by decide) ?_⟩
      refine ⟨.int 6, rfl, rfl, _, rfl, ite_f (by decide) ?_⟩
      refine ⟨.int 6, rfl, rfl, _, rfl, ite_f (by decide) ?_⟩
      refine ⟨.int 6, rfl, rfl, _, rfl, ite_t (by decide) ?_⟩
      exact ⟨one, rfl, q⟩
    · refine ⟨.int 7, rfl, rfl, _, rfl, ite_f (by decide) ?_⟩
      refine ⟨.int 7, rfl, rfl, _, rfl, ite_f (by decide) ?_⟩
      refine ⟨.int 7, rfl, rfl, _, rfl, ite_f (by decide) ?_⟩
      refine ⟨.int 7, rfl, rfl, _, rfl, ite_f (by decide) ?_⟩
      refine ⟨.int 7, rfl, rfl, _, rfl, ite_f (by decide) ?_⟩
      refine ⟨.int 7, rfl, rfl, _, rfl, ite_f (by decide) ?_⟩
      refine ⟨.int 7, rfl, rfl, _, rfl, ite_f (by decide) ?_⟩
      refine ⟨.int 7, rfl, rfl, _, rfl, ite_t (by decide) ?_⟩
      exact ⟨one, rfl, q⟩
    · refine ⟨.int 8, rfl, rfl, _, rfl, ite_f (by decide) ?_⟩
      refine ⟨.int 8, rfl, rfl, _, rfl, ite_f (by decide) ?_⟩
      refine ⟨.int 8, rfl, rfl, _, rfl, ite_f (by decide) ?_⟩
      refine ⟨.int 8, rfl, rfl, _, rfl, ite_f (by decide) ?_⟩
      refine ⟨.int 8, rfl, rfl, _, rfl, ite_f (by decide) ?_⟩
      refine ⟨.int 8, rfl, rfl, _, rfl, ite_f (by decide) ?_⟩
      refine ⟨.int 8, rfl, rfl, _, rfl, ite_f (by decide) ?_⟩
      refine ⟨.int 8, rfl, rfl, _, rfl, ite_f (by decide) ?_⟩
      refine ⟨.int 8, rfl, rfl, _, rfl, ite_t (by decide) ?_⟩
      exact ⟨one, rfl, q⟩
    · refine ⟨.int 9, rfl, rfl, _, rfl, ite_f (by decide) ?_⟩
      refine ⟨.int 9, rfl, rfl, _, rfl, ite_f (by decide) ?_⟩
      refine ⟨.int 9, rfl, rfl, _, rfl, ite_f (by decide) ?_⟩
      refine ⟨.int 9, rfl, rfl, _, rfl, ite_f (by decide) ?_⟩
      refine ⟨.int 9, rfl, rfl, _, rfl, ite_f (by decide) ?_⟩
      refine ⟨.int 9, rfl, rfl, _, rfl, ite_f (by decide) ?_⟩
      refine ⟨.int 9, rfl, rfl, _, rfl, ite_f (by decide) ?_⟩
      refine ⟨.int 9, rfl, rfl, _, rfl, ite_f (by decide) ?_⟩
      refine ⟨.int 9, rfl, rfl, _, rfl, ite_f (by decide) ?_⟩
      refine ⟨.int 9, rfl, rfl, _, rfl, ite_t (by decide) ?_⟩
      exact ⟨one, rfl, q⟩
    · refine ⟨.int 10, rfl, rfl, _, rfl, ite_f (by decide) ?_⟩
      refine ⟨.int 10, rfl, rfl, _, rfl, ite_f (by decide) ?_⟩
      refine ⟨.int 10, rfl, rfl, _, rfl, ite_f (by decide) ?_⟩
      refine ⟨.int 10, rfl, rfl, _, rfl, ite_f (by decide) ?_⟩
      refine ⟨.int 10, rfl, rfl, _, rfl, ite_f (by decide) ?_⟩
      refine ⟨.int 10, rfl, rfl, _, rfl, ite_f (by decide) ?_⟩
      refine ⟨.int 10, rfl, rfl, _, rfl, ite_f (by decide) ?_⟩
      refine ⟨.int 10, rfl, rfl, _, rfl, ite_f (by decide) ?_⟩
      refine ⟨.int 10, rfl, rfl, _, rfl, ite_f (by decide) ?_⟩
      refine ⟨.int 10, rfl, rfl, _, rfl, ite_f (by decide) ?_⟩
      exact ⟨one, rfl, q⟩
theorem ok_named {f : Addr} {fd : FuncData} (Fn : Fun K "_law_named" "_law_named" sNamed f fd) (T : Cls P K mg F C) : FnOk P w K mg base (L2.CX P w) 2 f fd ["at", "one"] (spOf C 10) := by
  refine Fn.okX scNamed (fun vs H Q E h => ?_) (fun cdv A outer s H vs Q E hr h => ?_)
  · obtain ⟨i, one, rfl, _⟩ := h
    rfl
  · obtain ⟨i, one, rfl, hi, q⟩ := h
    refine ⟨_, (pss_cons (ps_if (pt_cmpR op_eq (pv 0) pe_int (nomark _)) (pss_one (ps_raise rfl (takes_of rfl rfl rfl rfl) (pmkW (T.c0.err T.B) (byName0 T) T.sup hr (pk_cons (pv 1) pk_nil) len1))) pss_nil)
      (pss_cons (ps_if (pt_cmpR op_eq (pv 0) pe_int (nomark _)) (pss_one (ps_raise rfl (takes_of rfl rfl rfl rfl) (pmkW (T.c1.err T.B) (byName1 T) T.sup hr (pk_cons (pv 1) pk_nil) len1))) pss_nil)
      (pss_cons (ps_if (pt_cmpR op_eq (pv 0) pe_int (nomark _)) (pss_one (ps_raise rfl (takes_of rfl rfl rfl rfl) (pmkW (T.c2.err T.B) (byName2 T) T.sup hr (pk_cons (pv 1) pk_nil) len1))) pss_nil)
      (pss_cons (ps_if (pt_cmpR op_eq (pv 0) pe_int (nomark _)) (pss_one (ps_raise rfl (takes_of rfl rfl rfl rfl) (pmkW (T.c3.err T.B) (byName3 T) T.sup hr (pk_cons (pv 1) pk_nil) len1))) pss_nil)
      (pss_cons (ps_if (pt_cmpR op_eq (pv 0) pe_int (nomark _)) (pss_one (ps_raise rfl (takes_of rfl rfl rfl rfl) (pmkW (T.c4.err T.B) (byName4 T) T.sup hr (pk_cons (pv 1) pk_nil) len1))) pss_nil)
      (pss_cons (ps_if (pt_cmpR op_eq (pv 0) pe_int (nomark _)) (pss_one (ps_raise rfl (takes_of rfl rfl rfl rfl) (pmkW (T.c5.err T.B) (byName5 T) T.sup hr (pk_cons (pv 1) pk_nil) len1))) pss_nil)
      (pss_cons (ps_if (pt_cmpR op_eq (pv 0) pe_int (nomark _)) (pss_one (ps_raise rfl (takes_of rfl rfl rfl rfl) (pmkW (T.c6.err T.B) (byName6 T) T.sup hr (pk_cons (pv 1) pk_nil) len1))) pss_nil)
      (pss_cons (ps_if (pt_cmpR op_eq (pv 0) pe_int (nomark _)) (pss_one (ps_raise rfl (takes_of rfl rfl rfl rfl) (pmkW (T.c7.err T.B) (byName7 T) T.sup hr (pk_cons (pv 1) pk_nil) len1))) pss_nil)
      (pss_cons (ps_if (pt_cmpR op_eq (pv 0) pe_int (nomark _)) (pss_one (ps_raise rfl (takes_of rfl rfl rfl rfl) (pmkW (T.c8.err T.B) (byName8 T) T.sup hr (pk_cons (pv 1) pk_nil) len1))) pss_nil)
      (pss_cons (ps_if (pt_cmpR op_eq (pv 0) pe_int (nomark _)) (pss_one (ps_raise rfl (takes_of rfl rfl rfl rfl) (pmkW (T.c9.err T.B) (byName9 T) T.sup hr (pk_cons (pv 1) pk_nil) len1))) pss_nil)
      (pss_one (ps_raise rfl (takes_of rfl rfl rfl rfl) (pmkW (T.c10.err T.B) (byName10 T) T.sup hr (pk_cons (pv 1) pk_nil) len1))))))))))))), ?_⟩
    have cs : i = 0 ∨ i = 1 ∨ i = 2 ∨ i = 3 ∨ i = 4 ∨ i = 5 ∨ i = 6 ∨ i = 7 ∨ i = 8 ∨ i = 9 ∨ i = 10 := by omega
    rcases cs with rfl | rfl | rfl | rfl | rfl | rfl | rfl | rfl | rfl | rfl | rfl
    · refine ⟨.int 0, rfl, rfl, _, rfl, ite_t (by decide) ?_⟩
      exact ⟨one, rfl, q⟩
    · refine ⟨.int 1, rfl, rfl, _, rfl, ite_f (by decide) ?_⟩
      refine ⟨.int 1, rfl, rfl, _, rfl, ite_t (by decide) ?_⟩
      exact ⟨one, rfl, q⟩
    · refine ⟨.int 2, rfl, rfl, _, rfl, ite_f (by decide) ?_⟩
      refine ⟨.int 2, rfl, rfl, _, rfl, ite_f (by decide) ?_⟩
      refine ⟨.int 2, rfl, rfl, _, rfl, ite_t (by decide) ?_⟩
      exact ⟨one, rfl, q⟩
    · refine ⟨.int 3, rfl, rfl, _, rfl, ite_f (by decide) ?_⟩
      refine ⟨.int 3, rfl, rfl, _, rfl, ite_f (by decide) ?_⟩
      refine ⟨.int 3, rfl, rfl, _, rfl, ite_f (by decide) ?_⟩
      refine ⟨.int 3, rfl, rfl, _, rfl, ite_t (by decide) ?_⟩
      exact ⟨one, rfl, q⟩
    · refine ⟨.int 4, rfl, rfl, _, rfl, ite_f (by decide) ?_⟩
      refine ⟨.int 4, rfl, rfl, _, rfl, ite_f (by decide) ?_⟩
      refine ⟨.int 4, rfl, rfl, _, rfl, ite_f (by decide) ?_⟩
      refine ⟨.int 4, rfl, rfl, _, rfl, ite_f (by decide) ?_⟩
      refine ⟨.int 4, rfl, rfl, _, rfl, ite_t (by decide) ?_⟩
      exact ⟨one, rfl, q⟩
    · refine ⟨.int 5, rfl, rfl, _, rfl, ite_f (by decide) ?_⟩
      refine ⟨.int 5, rfl, rfl, _, rfl, ite_f (by decide) ?_⟩
      refine ⟨.int 5, rfl, rfl, _, rfl, ite_f (by decide) ?_⟩
      refine ⟨.int 5, rfl, rfl, _, rfl, ite_f (by decide) ?_⟩
      refine ⟨.int 5, rfl, rfl, _, rfl, ite_f (by decide) ?_⟩
      refine ⟨.int 5, rfl, rfl, _, rfl, ite_t (by decide) ?_⟩
      exact ⟨one, rfl, q⟩
    · refine ⟨.int 6, rfl, rfl, _, rfl, ite_f (by decide) ?_⟩
      refine ⟨.int 6, rfl, rfl, _, rfl, ite_f (by decide) ?_⟩
      refine ⟨.int 6, rfl, rfl, _, rfl, ite_f (by decide) ?_⟩
      refine ⟨.int 6, rfl, rfl, _, rfl, ite_f (by decide) ?_⟩
      refine ⟨.int 6, rfl, rfl, _, rfl, ite_f (by decide) ?_⟩
      refine ⟨.int 6, rfl, rfl, _, rfl, ite_f (by decide) ?_⟩
      refine ⟨.int 6, rfl, rfl, _, rfl, ite_t (by decide) ?_⟩
      exact ⟨one, rfl, q⟩
    · refine ⟨.int 7, rfl, rfl, _, rfl, ite_f (by decide) ?_⟩
      refine ⟨.int 7, rfl, rfl, _, rfl, ite_f (by decide) ?_⟩
      refine ⟨.int 7, rfl, rfl, _, rfl, ite_f (by decide) ?_⟩
      refine ⟨.int 7, rfl, rfl, _, rfl, ite_f (by decide) ?_⟩
      refine ⟨.int 7, rfl, rfl, _, rfl, ite_f (by decide) ?_⟩
      refine ⟨.int 7, rfl, rfl, _, rfl, ite_f (by decide) ?_⟩
      refine ⟨.int 7, rfl, rfl, _, rfl, ite_f (by decide) ?_⟩
      refine ⟨.int 7, rfl, rfl, _, rfl, ite_t (by decide) ?_⟩
      exact ⟨one, rfl, q⟩
    · refine ⟨.int 8, rfl, rfl, _, rfl, ite_f (by decide) ?_⟩
      refine ⟨.int 8, rfl, rfl, _, rfl, ite_f (by decide) ?_⟩
      refine ⟨.int 8, rfl, rfl, _, rfl, ite_f (by decide) ?_⟩
      refine ⟨.int 8, rfl, rfl, _, rfl, ite_f (by decide) ?_⟩
      refine ⟨.int 8, rfl, rfl, _, rfl, ite_f (by decide) ?_⟩
      refine ⟨.int 8, rfl, rfl, _, rfl, ite_f (by decide) ?_⟩
      refine ⟨.int 8, rfl, rfl, _, rfl, ite_f (by decide) ?_⟩
      refine ⟨.int 8, rfl, rfl, _, rfl, ite_f (by decide) ?_⟩
      refine ⟨.int 8, rfl, rfl, _, rfl, ite_t (by decide) ?_⟩
      exact ⟨one, rfl, q⟩
    · refine ⟨.int 9, rfl, rfl, _, rfl, ite_f (by decide) ?_⟩
      refine ⟨.int 9, rfl, rfl, _, rfl, ite_f (by decide) ?_⟩
      refine ⟨.int 9, rfl, rfl, _, rfl, ite_f (by decide) ?_⟩
      refine ⟨.int 9, rfl, rfl, _, rfl, ite_f (by decide) ?_⟩
      refine ⟨.int 9, rfl, rfl, _, rfl, ite_f (by decide) ?_⟩
      refine ⟨.int 9, rfl, rfl, _, rfl, ite_f (by decide) ?_⟩
      refine ⟨.int 9, rfl, rfl, _, rfl, ite_f (by decide) ?_⟩
      refine ⟨.int 9, rfl, rfl, _, rfl, ite_f (by decide) ?_⟩
      refine ⟨.int 9, rfl, rfl, _, rfl, ite_f (by decide) ?_⟩
      refine ⟨.int 9, rfl, rfl, _, rfl, ite_t (by decide) ?_⟩
      exact ⟨one, rfl, q⟩
    · refine ⟨.int 10, rfl, rfl, _, rfl, ite_f (by decide) ?_⟩
      refine ⟨.int 10, rfl, rfl, _, rfl, ite_f (by decide) ?_⟩
      refine ⟨.int 10, rfl, rfl, _, rfl, ite_f (by decide) ?_⟩
      refine ⟨.int 10, rfl, rfl, _, rfl, ite_f (by decide) ?_⟩
      refine ⟨.int 10, rfl, rfl, _, rfl, ite_f (by decide) ?_⟩
      refine ⟨.int 10, rfl, rfl, _, rfl, ite_f (by decide) ?_⟩
      refine ⟨.int 10, rfl, rfl, _, rfl, ite_f (by decide) ?_⟩
      refine ⟨.int 10, rfl, rfl, _, rfl, ite_f (by decide) ?_⟩
      refine ⟨.int 10, rfl, rfl, _, rfl, ite_f (by decide) ?_⟩
      refine ⟨.int 10, rfl, rfl, _, rfl, ite_f (by decide) ?_⟩
      exact ⟨one, rfl, q⟩
end
end Bay
set_option Elab.async false
set_option linter.all false
set_option maxRecDepth 100000
set_option maxHeartbeats 4000000
namespace Bay
open PySem PySem.Spec PyProof.Rows L2 Err
section
variable {P : Program} {w : World} {K : PySem.W.Frag} {mg : Str → Option Value} {base : Heap} {F : Addr} {C : Nat → Addr}
def spLast (C : Nat → Addr) : Sp := fun vs H _ E => ∃ (i : Nat) (one other : V) (b : Bool), vs = [.int i, one, other, .bl b] ∧ (i = 11 ∨ i = 12 ∨ i = 13) ∧ ∀ d, H d = none → E (.ref (C i)) (some d) (upd H d (.xd (flds i one other)))
abbrev sLast : Stmt := top 23
theorem scLast : FnScope ["at", "one", "other", "by_name"] ["at", "one", "other", "by_name"] (defScope sLast) := ⟨rfl, rfl, rfl, by decide +kernel, rfl, by decide +kernel, by decide +kernel⟩
theorem ok_last {f : Addr} {fd : FuncData} (Fn : Fun K "_law_last" "_law_last" sLast f fd) (T : Cls P K mg F C) : FnOk P w K mg base (L2.CX P w) 2 f fd ["at", "one", "other", "by_name"] (spLast C) := by
  refine Fn.okX scLast (fun vs H Q E h => ?_) (fun cdv A outer s H vs Q E hr h => ?_)
  · obtain ⟨i, one, other, b, rfl, _⟩ := h
    rfl
  · obtain ⟨i, one, other, b, rfl, hi, q⟩ := h
    refine ⟨_, pss_cons (ps_if (PW.pt (pw_and (pt_cmpR op_eq (pv 0) pe_int (nomark _)) (pw_and1 (pt_val (pv 3))))) (pss_one (ps_raise rfl (takes_of rfl rfl rfl rfl) (pmkW (T.c11.err T.B) (byName11 T) T.sup hr (pk_cons (pv 2) (pk_cons (pv 1) pk_nil)) len2))) pss_nil)
      (pss_cons (ps_if (pt_cmpR op_eq (pv 0) pe_int (nomark _)) (pss_one (ps_raise rfl (takes_of rfl rfl rfl rfl) (pmkA (T.c11.err T.B) (byPlace11 T) T.sup hr (pa_cons (pv 1) (pa_cons (pv 2) pa_nil)) len2))) pss_nil)
      (pss_cons (ps_if (PW.pt (pw_and (pt_cmpR op_eq (pv 0) pe_int (nomark _)) (pw_and1 (pt_val (pv 3))))) (pss_one (ps_raise rfl (takes_of rfl rfl rfl rfl) (pmkW (T.c12.err T.B) (byName12 T) T.sup hr (pk_cons (pv 2) (pk_cons (pv 1) pk_nil)) len2))) pss_nil)
      (pss_cons (ps_if (pt_cmpR op_eq (pv 0) pe_int (nomark _)) (pss_one (ps_raise rfl (takes_of rfl rfl rfl rfl) (pmkA (T.c12.err T.B) (byPlace12 T) T.sup hr (pa_cons (pv 1) (pa_cons (pv 2) pa_nil)) len2))) pss_nil)
      (pss_cons (ps_if (pt_val (pv 3)) (pss_one (ps_raise rfl (takes_of rfl rfl rfl rfl) (pmkW (T.c13.err T.B) (byName13 T) T.sup hr (pk_cons (pv 2) (pk_cons (pv 1) pk_nil)) len2))) pss_nil)
      (pss_one (ps_raise rfl (takes_of rfl rfl rfl rfl) (pmkA (T.c13.err T.B) (byPlace13 T) T.sup hr (pa_cons (pv 1) (pa_cons (pv 2) pa_nil)) len2))))))), ?_⟩
    rcases hi with rfl | rfl | rfl
    · refine ⟨.int 11, rfl, rfl, _, rfl, ite_t (by decide) ?_⟩
      cases b with
      | true =>
        refine ⟨.bl true, rfl, _, rfl, ite_t rfl ?_⟩
        exact ⟨other, rfl, one, rfl, q⟩
      | false =>
        refine ⟨.bl false, rfl, _, rfl, ite_f rfl ?_⟩
        refine ⟨.int 11, rfl, rfl, _, rfl, ite_t (by decide) ?_⟩
        exact ⟨one, rfl, other, rfl, q⟩
    · refine ⟨.int 12, rfl, rfl, _, rfl, ite_f (by decide) ?_⟩
      refine ⟨.int 12, rfl, rfl, _, rfl, ite_f (by decide) ?_⟩
      refine ⟨.int 12, rfl, rfl, _, rfl, ite_t (by decide) ?_⟩
      cases b with
      | true =>
        refine ⟨.bl true, rfl, _, rfl, ite_t rfl ?_⟩
        exact ⟨other, rfl, one, rfl, q⟩
      | false =>
        refine ⟨.bl false, rfl, _, rfl, ite_f rfl ?_⟩
        refine ⟨.int 12, rfl, rfl, _, rfl, ite_t (by decide) ?_⟩
        exact ⟨one, rfl, other, rfl, q⟩
    · refine ⟨.int 13, rfl, rfl, _, rfl, ite_f (by decide) ?_⟩
      refine ⟨.int 13, rfl, rfl, _, rfl, ite_f (by decide) ?_⟩
      refine ⟨.int 13, rfl, rfl, _, rfl, ite_f (by decide) ?_⟩
      refine ⟨.int 13, rfl, rfl, _, rfl, ite_f (by decide) ?_⟩
      cases b with
      | true =>
        refine ⟨.bl true, rfl, _, rfl, ite_t rfl ?_⟩
        exact ⟨other, rfl, one, rfl, q⟩
      | false =>
        refine ⟨.bl false, rfl, _, rfl, ite_f rfl ?_⟩
        exact ⟨one, rfl, other, rfl, q⟩
/-- .. of all fourteen -/
def spRaises (C : Nat → Addr) : Sp := fun vs H _ E => ∃ (i : Nat) (one other : V) (b : Bool), vs = [.int i, one, other, .bl b] ∧ i ≤ 13 ∧ ∀ d, H d = none → E (.ref (C i)) (some d) (upd H d (.xd (flds i one other)))
abbrev sRaises : Stmt := top 26
theorem scRaises : FnScope ["at", "one", "other", "by_name"] ["at", "one", "other", "by_name"] (defScope sRaises) := ⟨rfl, rfl, rfl, by decide +kernel, rfl, by decide +kernel, by decide +kernel⟩
theorem flds_le {i : Nat} (h : i ≤ 10) (one other : V) : flds i one other = flds i one .non := by
  unfold flds
  by_cases a : i < 9
  · rw [if_pos a, if_pos a]
  · rw [if_neg a, if_neg a, if_pos (by omega), if_pos (by omega)]
theorem ok_raises {f f1 f2 f3 : Addr} {fd d1 d2 d3 : FuncData} (Fn : Fun K "_law_raises" "_law_raises" sRaises f fd) (F1 : Fun K "_law_first" "_law_first" sFirst f1 d1) (F2 : Fun K "_law_named" "_law_named" sNamed f2 d2) (F3 : Fun K "_law_last" "_law_last" sLast f3 d3) (T : Cls P K mg F C)
    (g1 : mg "_law_first" = some (.ref f1)) (g2 : mg "_law_named" = some (.ref f2)) (g3 : mg "_law_last" = some (.ref f3)) (b1 : Binds K d1 ["at", "one"] []) (b2 : Binds K d2 ["at", "one"] []) (b3 : Binds K d3 ["at", "one", "other", "by_name"] []) :
    FnOk P w K mg base (L2.CX P w) 3 f fd ["at", "one", "other", "by_name"] (spRaises C) := by
  have G1 : FnOk P w K mg base (L2.CX P w) 2 f1 d1 ["at", "one"] (spOf C 10) := ok_first F1 T
  have G2 : FnOk P w K mg base (L2.CX P w) 2 f2 d2 ["at", "one"] (spOf C 10) := ok_named F2 T
  have G3 : FnOk P w K mg base (L2.CX P w) 2 f3 d3 ["at", "one", "other", "by_name"] (spLast C) := ok_last F3 T
  refine Fn.okX scRaises (fun vs H Q E h => ?_) (fun cdv A outer s H vs Q E hr h => ?_)
  · obtain ⟨i, one, other, b, rfl, _⟩ := h
    rfl
  · obtain ⟨i, one, other, b, rfl, hi, q⟩ := h
    refine ⟨_, pss_cons (ps_if (pt_cmpR op_gt (pv 0) pe_int (nomark _)) (pss_one (ps_expr (pe_callS G3 hr (by rfl) g3 F3.kp b3 (fun σ => passAt (takes_of rfl rfl rfl rfl) σ) (pa_cons (pv 0) (pa_cons (pv 1) (pa_cons (pv 2) (pa_cons (pv 3) pa_nil))))))) pss_nil)
      (pss_cons (ps_if (pt_val (pv 3)) (pss_one (ps_expr (pe_callS G2 hr (by rfl) g2 F2.kp b2 (fun σ => passAt (takes_of rfl rfl rfl rfl) σ) (pa_cons (pv 0) (pa_cons (pv 1) pa_nil))))) pss_nil)
      (pss_one (ps_expr (pe_callS G1 hr (by rfl) g1 F1.kp b1 (fun σ => passAt (takes_of rfl rfl rfl rfl) σ) (pa_cons (pv 0) (pa_cons (pv 1) pa_nil)))))), ?_⟩
    by_cases c : (i : Int) > 10
    · refine ⟨.int i, rfl, i, 10, rfl, rfl, _, rfl, ite_t (decide_eq_true c) ?_⟩
      exact ⟨.int i, rfl, one, rfl, other, rfl, .bl b, rfl, i, one, other, b, rfl, by omega, q⟩
    · refine ⟨.int i, rfl, i, 10, rfl, rfl, _, rfl, ite_f (decide_eq_false c) ?_⟩
      have i10 : i ≤ 10 := by omega
      rw [flds_le i10] at q
      cases b with
      | true =>
        refine ⟨.bl true, rfl, _, rfl, ite_t rfl ?_⟩
        exact ⟨.int i, rfl, one, rfl, i, one, rfl, i10, q⟩
      | false =>
        refine ⟨.bl false, rfl, _, rfl, ite_f rfl ?_⟩
        exact ⟨.int i, rfl, one, rfl, i, one, rfl, i10, q⟩
end
end Bay
set_option Elab.async false
set_option linter.all false
set_option maxRecDepth 100000
set_option maxHeartbeats 4000000
namespace Bay
open PySem PySem.Spec PyProof.Rows L2 Err
/-- the names of the classes -/
def nm (i : Nat) : Str := [("BadNumber" : Str), ("BadPoint" : Str), ("BadFence" : Str), ("BadMouth" : Str), ("BadFilm" : Str), ("BadWord" : Str), ("BadName" : Str), ("BadPaper" : Str), ("Misfit" : Str), ("NoName" : Str), ("Twice" : Str), ("TooMany" : Str), ("BadText" : Str), ("BadLine" : Str)].getD i ""
theorem nm_ne : ∀ i, i ≤ 13 → ∀ j, j ≤ 13 → i ≠ j → nm i ≠ nm j := by decide +kernel
section
variable {P : Program} {w : World} {K : PySem.W.Frag} {mg : Str → Option Value} {base : Heap} {F : Addr} {C : Nat → Addr}
theorem Cls.ec (T : Cls P K mg F C) : ∀ i, i ≤ 13 → ∃ qual st, EC P K mg F (nm i) qual st (C i) := by
  intro i hi
  have cs : i = 0 ∨ i = 1 ∨ i = 2 ∨ i = 3 ∨ i = 4 ∨ i = 5 ∨ i = 6 ∨ i = 7 ∨ i = 8 ∨ i = 9 ∨ i = 10 ∨ i = 11 ∨ i = 12 ∨ i = 13 := by omega
  rcases cs with rfl | rfl | rfl | rfl | rfl | rfl | rfl | rfl | rfl | rfl | rfl | rfl | rfl | rfl
  · exact ⟨_, _, T.c0⟩
  · exact ⟨_, _, T.c1⟩
  · exact ⟨_, _, T.c2⟩
  · exact ⟨_, _, T.c3⟩
  · exact ⟨_, _, T.c4⟩
  · exact ⟨_, _, T.c5⟩
  · exact ⟨_, _, T.c6⟩
  · exact ⟨_, _, T.c7⟩
  · exact ⟨_, _, T.c8⟩
  · exact ⟨_, _, T.c9⟩
  · exact ⟨_, _, T.c10⟩
  · exact ⟨_, _, T.c11⟩
  · exact ⟨_, _, T.c12⟩
  · exact ⟨_, _, T.c13⟩
theorem Cls.kit (T : Cls P K mg F C) {i j : Nat} (hi : i ≤ 13) (hj : j ≤ 13) : PySem.W.kitOne K (.ref (C i)) (.ref (C j)) = some (decide (i = j)) := by
  obtain ⟨q1, s1, e1⟩ := T.ec i hi
  obtain ⟨q2, s2, e2⟩ := T.ec j hj
  have fe : ∀ j, j ≤ 13 → ("FenceError" : Str) ≠ nm j := by decide +kernel
  rw [e1.kitE e2 (e2.neB T.B (fe j hj))]
  by_cases h : i = j
  · subst h
    rw [decide_eq_true rfl, decide_eq_true rfl]
  · rw [decide_eq_false h, decide_eq_false (e1.ne e2 (nm_ne i hi j hj h))]
theorem Cls.is (T : Cls P K mg F C) {i : Nat} (hi : i ≤ 13) : IsC K (C i) := by
  obtain ⟨q1, s1, e1⟩ := T.ec i hi
  exact e1.is T.B
theorem Cls.exm (T : Cls P K mg F C) {i : Nat} (hi : i ≤ 13) : PySem.W.exmOne K (.ref (C i)) (.ref F) = some true := by
  obtain ⟨q1, s1, e1⟩ := T.ec i hi
  exact e1.exm T.B
theorem Cls.bi (T : Cls P K mg F C) {i : Nat} {n : String} (hi : i ≤ 13) (h : PySem.W.kitMeta n = true) : PySem.W.kitOne K (.ref (C i)) (.type n) = some (veT.contains (.type n)) := by
  obtain ⟨q1, s1, e1⟩ := T.ec i hi
  exact e1.kitB h
theorem Cls.part (T : Cls P K mg F C) {i : Nat} (hi : i < 9) : PySem.W.findIn K (.ref (C i)) "part" = some none := by
  have cs : i = 0 ∨ i = 1 ∨ i = 2 ∨ i = 3 ∨ i = 4 ∨ i = 5 ∨ i = 6 ∨ i = 7 ∨ i = 8 := by omega
  rcases cs with rfl | rfl | rfl | rfl | rfl | rfl | rfl | rfl | rfl
  · exact T.n0a
  · exact T.n1a
  · exact T.n2a
  · exact T.n3a
  · exact T.n4a
  · exact T.n5a
  · exact T.n6a
  · exact T.n7a
  · exact T.n8a
theorem Cls.value (T : Cls P K mg F C) {i : Nat} (h9 : 9 ≤ i) (hi : i < 11) : PySem.W.findIn K (.ref (C i)) "value" = some none := by
  have cs : i = 9 ∨ i = 10 := by omega
  rcases cs with rfl | rfl
  · exact T.n9a
  · exact T.n10a
/-- an error of the class with a number stands at a -/
structure Er (C : Nat → Addr) (H : Hp) (i : Nat) (one other : V) (a d : Addr) : Prop where
  e : H a = some (ExT a (.ref (C i)) (some d))
  f : H d = some (.xd (flds i one other))
theorem Er.same {C : Nat → Addr} {H G : Hp} {i : Nat} {one other : V} {a d : Addr} (r : Er C H i one other a d) (s : Same H G) : Er C G i one other a d := ⟨s _ _ r.e, s _ _ r.f⟩
def fieldsOf (i : Nat) (one other : V) : List V := if i < 11 then [one] else [one, other]
def spFields (C : Nat → Addr) : Sp := fun vs H Q _ => ∃ (i : Nat) (one other : V) (a d : Addr), vs = [.int i, .ref a] ∧ i ≤ 13 ∧ Er C H i one other a d ∧ ∀ p, H p = none → p ≠ sysModules → Q (.ref p) (upd H p (.lst (fieldsOf i one other)))
abbrev sFields : Stmt := top 25
theorem scFields : FnScope ["at", "error"] ["at", "error"] (defScope sFields) := ⟨rfl, rfl, rfl, by decide +kernel, rfl, by decide +kernel, by decide +kernel⟩
theorem ok_fields {f : Addr} {fd : FuncData} (Fn : Fun K "_law_fields" "_law_fields" sFields f fd) (T : Cls P K mg F C) : FnOk P w K mg base CX0 1 f fd ["at", "error"] (spFields C) := by
  refine Fn.ok scFields (fun vs H Q E h => ?_) (fun cdv A outer s H vs Q E hr h => ?_)
  · obtain ⟨i, one, other, a, d, rfl, _⟩ := h
    rfl
  · obtain ⟨i, one, other, a, d, rfl, hi, r, q⟩ := h
    refine ⟨_, pss_cons (ps_if (pt_cmpR op_lt (pv 0) pe_int (nomark _)) (pss_one (ps_ret (pe_lstM (pa_cons (pe_fld (pv 1)) pa_nil)))) pss_nil)
      (pss_cons (ps_if (pt_cmpR op_lt (pv 0) pe_int (nomark _)) (pss_one (ps_ret (pe_lstM (pa_cons (pe_fld (pv 1)) pa_nil)))) pss_nil)
      (pss_cons (ps_if (pt_cmpR op_eq (pv 0) pe_int (nomark _)) (pss_one (ps_ret (pe_lstM (pa_cons (pe_fld (pv 1)) (pa_cons (pe_fld (pv 1)) pa_nil))))) pss_nil)
      (pss_one (ps_ret (pe_ifExp (pt_cmpR op_eq (pv 0) pe_int (nomark _)) (pe_lstM (pa_cons (pe_fld (pv 1)) (pa_cons (pe_fld (pv 1)) pa_nil))) (pe_lstM (pa_cons (pe_fld (pv 1)) (pa_cons (pe_fld (pv 1)) pa_nil)))))))), ?_⟩
    obtain ⟨e1, e2⟩ := r
    have xf : XfC K (C i) := (T.is hi).toXfC
    by_cases c9 : i < 9
    · refine ⟨.int i, rfl, i, 9, rfl, rfl, _, rfl, ite_t (decide_eq_true (by omega)) ?_⟩
      have fe : flds i one other = [(("part" : Str), one)] := if_pos c9
      have re : fieldsOf i one other = [one] := if_pos (by omega)
      rw [fe] at e2
      rw [re] at q
      exact ⟨.ref a, rfl, a, C i, d, _, one, rfl, e1, e2, rfl, xf, T.part c9, (by show 1 ≤ sizeLine; decide), q⟩
    · refine ⟨.int i, rfl, i, 9, rfl, rfl, _, rfl, ite_f (decide_eq_false (by omega)) ?_⟩
      by_cases c11 : i < 11
      · refine ⟨.int i, rfl, i, 11, rfl, rfl, _, rfl, ite_t (decide_eq_true (by omega)) ?_⟩
        have fe : flds i one other = [(("value" : Str), one)] := (if_neg c9).trans (if_pos c11)
        have re : fieldsOf i one other = [one] := if_pos c11
        rw [fe] at e2
        rw [re] at q
        exact ⟨.ref a, rfl, a, C i, d, _, one, rfl, e1, e2, rfl, xf, T.value (by omega) c11, (by show 1 ≤ sizeLine; decide), q⟩
      · refine ⟨.int i, rfl, i, 11, rfl, rfl, _, rfl, ite_f (decide_eq_false (by omega)) ?_⟩
        have cs : i = 11 ∨ i = 12 ∨ i = 13 := by omega
        rcases cs with rfl | rfl | rfl
        · refine ⟨.int 11, rfl, rfl, _, rfl, ite_t (by decide) ?_⟩
          exact ⟨.ref a, rfl, a, C 11, d, _, one, rfl, e1, e2, rfl, xf, T.n11a, .ref a, rfl, a, C 11, d, _, other, rfl, e1, e2, rfl, xf, T.n11b, (by show 2 ≤ sizeLine; decide), q⟩
        · refine ⟨.int 12, rfl, rfl, _, rfl, ite_f (by decide) ?_⟩
          refine ⟨.int 12, rfl, rfl, _, rfl, ite_t (by decide) ?_⟩
          exact ⟨.ref a, rfl, a, C 12, d, _, one, rfl, e1, e2, rfl, xf, T.n12a, .ref a, rfl, a, C 12, d, _, other, rfl, e1, e2, rfl, xf, T.n12b, (by show 2 ≤ sizeLine; decide), q⟩
        · refine ⟨.int 13, rfl, rfl, _, rfl, ite_f (by decide) ?_⟩
          refine ⟨.int 13, rfl, rfl, _, rfl, ite_f (by decide) ?_⟩
          exact ⟨.ref a, rfl, a, C 13, d, _, one, rfl, e1, e2, rfl, xf, T.n13a, .ref a, rfl, a, C 13, d, _, other, rfl, e1, e2, rfl, xf, T.n13b, (by show 2 ≤ sizeLine; decide), q⟩
def spKinds (C : Nat → Addr) : Sp := fun vs H Q _ => ∃ (i : Nat) (one other : V) (a d : Addr), vs = [.ref a] ∧ i ≤ 13 ∧ Er C H i one other a d ∧ ∀ H' p, Same H H' → H p = none → H' p = some (.lst [.int i]) → Q (.ref p) H'
abbrev sKinds : Stmt := top 24
theorem scKinds : FnScope ["error", "first", "at", "is_kind"] ["error"] (defScope sKinds) := ⟨rfl, rfl, rfl, by decide +kernel, rfl, by decide +kernel, by decide +kernel⟩
def bits (i n : Nat) : List V := (List.range n).map fun j => V.bl (decide (i = j))
theorem ok_kinds {f : Addr} {fd : FuncData} (Fn : Fun K "_law_kinds" "_law_kinds" sKinds f fd) (T : Cls P K mg F C) (TI : mg "isinstance" = none) (TE : mg "enumerate" = none) : FnOk P w K mg base CX0 1 f fd ["error"] (spKinds C) := by
  refine Fn.ok scKinds (fun vs H Q E h => ?_) (fun cdv A outer s H vs Q E hr h => ?_)
  · obtain ⟨i, one, other, a, d, rfl, _⟩ := h
    rfl
  · obtain ⟨i, one, other, a, d, rfl, hi, r, q⟩ := h
    have nd := scKinds.nd
    refine ⟨_, pss_cons (ps_set (i := 1) nd rfl (.inl rfl) (pe_lst (pa_cons (pe_callB call_isX (by rfl) TI (by decide +kernel) (pa_cons (pv 0) (pa_cons (pe_glob (v := .ref (C 0)) (by rfl) T.c0.g rfl) pa_nil))) (pa_cons (pe_callB call_isX (by rfl) TI (by decide +kernel) (pa_cons (pv 0) (pa_cons (pe_glob (v := .ref (C 1)) (by rfl) T.c1.g rfl) pa_nil))) (pa_cons (pe_callB call_isX (by rfl) TI (by decide +kernel) (pa_cons (pv 0) (pa_cons (pe_glob (v := .ref (C 2)) (by rfl) T.c2.g rfl) pa_nil))) (pa_cons (pe_callB call_isX (by rfl) TI (by decide +kernel) (pa_cons (pv 0) (pa_cons (pe_glob (v := .ref (C 3)) (by rfl) T.c3.g rfl) pa_nil))) pa_nil))))))
      (pss_cons (ps_set (i := 1) nd rfl (.inl rfl) (pe_op op_cat (pv 1) (pe_lst (pa_cons (pe_callB call_isX (by rfl) TI (by decide +kernel) (pa_cons (pv 0) (pa_cons (pe_glob (v := .ref (C 4)) (by rfl) T.c4.g rfl) pa_nil))) (pa_cons (pe_callB call_isX (by rfl) TI (by decide +kernel) (pa_cons (pv 0) (pa_cons (pe_glob (v := .ref (C 5)) (by rfl) T.c5.g rfl) pa_nil))) (pa_cons (pe_callB call_isX (by rfl) TI (by decide +kernel) (pa_cons (pv 0) (pa_cons (pe_glob (v := .ref (C 6)) (by rfl) T.c6.g rfl) pa_nil))) (pa_cons (pe_callB call_isX (by rfl) TI (by decide +kernel) (pa_cons (pv 0) (pa_cons (pe_glob (v := .ref (C 7)) (by rfl) T.c7.g rfl) pa_nil))) pa_nil)))))))
      (pss_cons (ps_set (i := 1) nd rfl (.inl rfl) (pe_op op_cat (pv 1) (pe_lst (pa_cons (pe_callB call_isX (by rfl) TI (by decide +kernel) (pa_cons (pv 0) (pa_cons (pe_glob (v := .ref (C 8)) (by rfl) T.c8.g rfl) pa_nil))) (pa_cons (pe_callB call_isX (by rfl) TI (by decide +kernel) (pa_cons (pv 0) (pa_cons (pe_glob (v := .ref (C 9)) (by rfl) T.c9.g rfl) pa_nil))) (pa_cons (pe_callB call_isX (by rfl) TI (by decide +kernel) (pa_cons (pv 0) (pa_cons (pe_glob (v := .ref (C 10)) (by rfl) T.c10.g rfl) pa_nil))) pa_nil))))))
      (pss_cons (ps_set (i := 1) nd rfl (.inl rfl) (pe_op op_cat (pv 1) (pe_lst (pa_cons (pe_callB call_isX (by rfl) TI (by decide +kernel) (pa_cons (pv 0) (pa_cons (pe_glob (v := .ref (C 11)) (by rfl) T.c11.g rfl) pa_nil))) (pa_cons (pe_callB call_isX (by rfl) TI (by decide +kernel) (pa_cons (pv 0) (pa_cons (pe_glob (v := .ref (C 12)) (by rfl) T.c12.g rfl) pa_nil))) (pa_cons (pe_callB call_isX (by rfl) TI (by decide +kernel) (pa_cons (pv 0) (pa_cons (pe_glob (v := .ref (C 13)) (by rfl) T.c13.g rfl) pa_nil))) pa_nil))))))
      (pss_one (ps_ret (pe_lc (own := [("at", 2), ("is_kind", 3)]) (g := gTup K 2 (gCons (gName 2) (gCons (gName 3) gNil))) rfl nd (pi_enum (by rfl) TE (pa_cons (pv 1) pa_nil)) (blkOk_by (N := ["error", "first", "at", "is_kind"]) (sc := defScope sKinds) (by decide +kernel))
        (fun _ _ _ _ _ => pg_tup rfl (pgs_cons (pg_name (i := 2) nd rfl (Or.inl rfl)) (pgs_cons (pg_name (i := 3) nd rfl (Or.inl rfl)) pgs_nil))) (fun _ _ _ _ _ => pts_one (pt_val (pv 3))) (fun _ _ _ _ _ => pv 2))))))), ?_⟩
    have ti := T.is hi
    obtain ⟨e1, e2⟩ := r
    refine ⟨.ref a, rfl, a, C i, d, _, .ref (C 0), .ref (C 0), _, rfl, e1, e2, ti, .own _, T.kit hi (j := 0) (by decide), .ref a, rfl, a, C i, d, _, .ref (C 1), .ref (C 1), _, rfl, e1, e2, ti, .own _, T.kit hi (j := 1) (by decide), .ref a, rfl, a, C i, d, _, .ref (C 2), .ref (C 2), _, rfl, e1, e2, ti, .own _, T.kit hi (j := 2) (by decide), .ref a, rfl, a, C i, d, _, .ref (C 3), .ref (C 3), _, rfl, e1, e2, ti, .own _, T.kit hi (j := 3) (by decide), (by show 4 ≤ sizeLine; decide), fun p0 np0 => ?_⟩
    have s0 := Same.new (o := .lst (bits i 4)) np0
    have g0 : (upd H p0 (.lst (bits i 4))) p0 = some (.lst (bits i 4)) := upd_same
    have e1 := s0 _ _ e1
    have e2 := s0 _ _ e2
    show tSeq _ _ _ _ (upd H p0 (.lst (bits i 4)))
    generalize upd H p0 (.lst (bits i 4)) = H0 at s0 g0 e1 e2
    refine ⟨.ref p0, rfl, .ref a, rfl, a, C i, d, _, .ref (C 4), .ref (C 4), _, rfl, e1, e2, ti, .own _, T.kit hi (j := 4) (by decide), .ref a, rfl, a, C i, d, _, .ref (C 5), .ref (C 5), _, rfl, e1, e2, ti, .own _, T.kit hi (j := 5) (by decide), .ref a, rfl, a, C i, d, _, .ref (C 6), .ref (C 6), _, rfl, e1, e2, ti, .own _, T.kit hi (j := 6) (by decide), .ref a, rfl, a, C i, d, _, .ref (C 7), .ref (C 7), _, rfl, e1, e2, ti, .own _, T.kit hi (j := 7) (by decide), (by show 4 ≤ sizeLine; decide), fun l1 nl1 => ?_⟩
    have t1 := Same.new (o := .lst [V.bl (decide (i = 4)), V.bl (decide (i = 5)), V.bl (decide (i = 6)), V.bl (decide (i = 7))]) nl1
    have h1 : (upd H0 l1 (.lst [V.bl (decide (i = 4)), V.bl (decide (i = 5)), V.bl (decide (i = 6)), V.bl (decide (i = 7))])) l1 = some (.lst [V.bl (decide (i = 4)), V.bl (decide (i = 5)), V.bl (decide (i = 6)), V.bl (decide (i = 7))]) := upd_same
    have g0 := t1 _ _ g0
    have e1 := t1 _ _ e1
    have e2 := t1 _ _ e2
    refine ⟨p0, l1, _, _, rfl, rfl, g0, h1, (by show 4 + 4 ≤ sizeLine; decide), fun p1 np1 => ?_⟩
    have u1 := Same.new (o := .lst (bits i 8)) np1
    have g1 : (upd (upd H0 l1 (.lst [V.bl (decide (i = 4)), V.bl (decide (i = 5)), V.bl (decide (i = 6)), V.bl (decide (i = 7))])) p1 (.lst (bits i 8))) p1 = some (.lst (bits i 8)) := upd_same
    have e1 := u1 _ _ e1
    have e2 := u1 _ _ e2
    have s1 := s0.trans (t1.trans u1)
    show tSeq _ _ _ _ (upd (upd H0 l1 (.lst [V.bl (decide (i = 4)), V.bl (decide (i = 5)), V.bl (decide (i = 6)), V.bl (decide (i = 7))])) p1 (.lst (bits i 8)))
    generalize upd (upd H0 l1 (.lst [V.bl (decide (i = 4)), V.bl (decide (i = 5)), V.bl (decide (i = 6)), V.bl (decide (i = 7))])) p1 (.lst (bits i 8)) = H1 at s1 g1 e1 e2
    clear t1 u1 h1 g0
    refine ⟨.ref p1, rfl, .ref a, rfl, a, C i, d, _, .ref (C 8), .ref (C 8), _, rfl, e1, e2, ti, .own _, T.kit hi (j := 8) (by decide), .ref a, rfl, a, C i, d, _, .ref (C 9), .ref (C 9), _, rfl, e1, e2, ti, .own _, T.kit hi (j := 9) (by decide), .ref a, rfl, a, C i, d, _, .ref (C 10), .ref (C 10), _, rfl, e1, e2, ti, .own _, T.kit hi (j := 10) (by decide), (by show 3 ≤ sizeLine; decide), fun l2 nl2 => ?_⟩
    have t2 := Same.new (o := .lst [V.bl (decide (i = 8)), V.bl (decide (i = 9)), V.bl (decide (i = 10))]) nl2
    have h2 : (upd H1 l2 (.lst [V.bl (decide (i = 8)), V.bl (decide (i = 9)), V.bl (decide (i = 10))])) l2 = some (.lst [V.bl (decide (i = 8)), V.bl (decide (i = 9)), V.bl (decide (i = 10))]) := upd_same
    have g1 := t2 _ _ g1
    have e1 := t2 _ _ e1
    have e2 := t2 _ _ e2
    refine ⟨p1, l2, _, _, rfl, rfl, g1, h2, (by show 8 + 3 ≤ sizeLine; decide), fun p2 np2 => ?_⟩
    have u2 := Same.new (o := .lst (bits i 11)) np2
    have g2 : (upd (upd H1 l2 (.lst [V.bl (decide (i = 8)), V.bl (decide (i = 9)), V.bl (decide (i = 10))])) p2 (.lst (bits i 11))) p2 = some (.lst (bits i 11)) := upd_same
    have e1 := u2 _ _ e1
    have e2 := u2 _ _ e2
    have s2 := s1.trans (t2.trans u2)
    show tSeq _ _ _ _ (upd (upd H1 l2 (.lst [V.bl (decide (i = 8)), V.bl (decide (i = 9)), V.bl (decide (i = 10))])) p2 (.lst (bits i 11)))
    generalize upd (upd H1 l2 (.lst [V.bl (decide (i = 8)), V.bl (decide (i = 9)), V.bl (decide (i = 10))])) p2 (.lst (bits i 11)) = H2 at s2 g2 e1 e2
    clear t2 u2 h2 g1
    refine ⟨.ref p2, rfl, .ref a, rfl, a, C i, d, _, .ref (C 11), .ref (C 11), _, rfl, e1, e2, ti, .own _, T.kit hi (j := 11) (by decide), .ref a, rfl, a, C i, d, _, .ref (C 12), .ref (C 12), _, rfl, e1, e2, ti, .own _, T.kit hi (j := 12) (by decide), .ref a, rfl, a, C i, d, _, .ref (C 13), .ref (C 13), _, rfl, e1, e2, ti, .own _, T.kit hi (j := 13) (by decide), (by show 3 ≤ sizeLine; decide), fun l3 nl3 => ?_⟩
    have t3 := Same.new (o := .lst [V.bl (decide (i = 11)), V.bl (decide (i = 12)), V.bl (decide (i = 13))]) nl3
    have h3 : (upd H2 l3 (.lst [V.bl (decide (i = 11)), V.bl (decide (i = 12)), V.bl (decide (i = 13))])) l3 = some (.lst [V.bl (decide (i = 11)), V.bl (decide (i = 12)), V.bl (decide (i = 13))]) := upd_same
    have g2 := t3 _ _ g2
    have e1 := t3 _ _ e1
    have e2 := t3 _ _ e2
    refine ⟨p2, l3, _, _, rfl, rfl, g2, h3, (by show 11 + 3 ≤ sizeLine; decide), fun p3 np3 => ?_⟩
    have u3 := Same.new (o := .lst (bits i 14)) np3
    have g3 : (upd (upd H2 l3 (.lst [V.bl (decide (i = 11)), V.bl (decide (i = 12)), V.bl (decide (i = 13))])) p3 (.lst (bits i 14))) p3 = some (.lst (bits i 14)) := upd_same
    have e1 := u3 _ _ e1
    have e2 := u3 _ _ e2
    have s3 := s2.trans (t3.trans u3)
    show tSeq _ _ _ _ (upd (upd H2 l3 (.lst [V.bl (decide (i = 11)), V.bl (decide (i = 12)), V.bl (decide (i = 13))])) p3 (.lst (bits i 14)))
    generalize upd (upd H2 l3 (.lst [V.bl (decide (i = 11)), V.bl (decide (i = 12)), V.bl (decide (i = 13))])) p3 (.lst (bits i 14)) = H3 at s3 g3 e1 e2
    clear t3 u3 h3 g2
    have ln : (bits i 14).length = 14 := by
      unfold bits
      rw [List.length_map, List.length_range]
    refine ⟨.ref p3, rfl, p3, _, rfl, SqL.of g3, fun D nD => ?_⟩
    have pD : p3 ≠ D := ne_of_none g3 nD
    refine lc_it (walk_enum (K := K) (a := p3) (xs := bits i 14)) (fun j G => Same H3 G ∧ G D = some (.lst (if i < j then [V.int i] else []))) ⟨Same.new nD, upd_same⟩ (fun j G _ z => SqL.of (z.1 _ _ g3)) ?_ ?_
    · rintro j x G G' hj ⟨sm, gD⟩ ⟨T0, y1, y2, rfl, nT, rfl, hy1, hy2⟩
      cases Option.some.inj hy1
      rw [ln] at hj
      have hy : y2 = V.bl (decide (i = j)) := by
        have hy2 : ((List.range 14).map fun j => V.bl (decide (i = j)))[j]? = some y2 := hy2
        rw [List.getElem?_map, List.getElem?_range hj] at hy2
        exact (Option.some.inj hy2).symm
      subst hy
      have TD : D ≠ T0 := ne_of_none gD nT
      refine ⟨T0, _, rfl, SqT.of upd_same, rfl, .int j, _, rfl, ?_⟩
      refine ⟨_, _, rfl, ?_⟩
      refine ⟨rfl, rfl, .bl (decide (i = j)), rfl, decide (i = j), rfl, ?_⟩
      have gD' : (upd G T0 (.tup [V.int (j : Nat), V.bl (decide (i = j))])) D = some (.lst (if i < j then [V.int i] else [])) := by
        rw [upd_ne TD]
        exact gD
      have sm' : Same H3 (upd G T0 (.tup [V.int (j : Nat), V.bl (decide (i = j))])) := sm.trans (Same.new nT)
      generalize upd G T0 (.tup [V.int (j : Nat), V.bl (decide (i = j))]) = G2 at gD' sm'
      by_cases h : i = j
      · subst h
        rw [decide_eq_true rfl]
        refine iteT ⟨.int i, rfl, _, gD', ?_, ?_, ?_⟩
        · rw [if_neg (Nat.lt_irrefl _)]
          exact small1000 (by decide)
        · intro b o eb
          rw [upd_ne (ne_of_none eb nD)]
          exact sm' b o eb
        · rw [upd_same, if_neg (Nat.lt_irrefl _), if_pos (Nat.lt_succ_self _)]
          rfl
      · rw [decide_eq_false h]
        refine iteF ⟨sm', ?_⟩
        rw [gD']
        by_cases h2 : i < j
        · rw [if_pos h2, if_pos (by omega)]
        · rw [if_neg h2, if_neg (by omega)]
    · rintro G ⟨sm, gD⟩
      rw [ln, if_pos (by omega)] at gD
      exact q G D (s3.trans sm) (s3.free nD) gD
end
end Bay
set_option Elab.async false
set_option linter.all false
set_option maxRecDepth 100000
set_option maxHeartbeats 4000000
namespace Bay
open PySem PySem.Spec PyProof.Rows L2 Err
section
variable {P : Program} {w : World} {K : PySem.W.Frag} {mg : Str → Option Value} {base : Heap} {F : Addr} {C : Nat → Addr}
structure BltR (mg : Str → Option Value) : Prop where
  isi : mg "isinstance" = none
  enum : mg "enumerate" = none
  repr : mg "repr" = none
  int : mg "int" = none
  ve : mg "ValueError" = none
  le : mg "LookupError" = none
  te : mg "TypeError" = none
  ae : mg "ArithmeticError" = none
  re : mg "RuntimeError" = none
  at_ : mg "AttributeError" = none
/-- what is shown is short -/
def okd (d : PyData) : Bool := d.showable && decide (d.depth ≤ 60) && decide (d.shown.length ≤ sizeLine)
theorem okd1 : ∀ i, i < 11 → okd (.list [vd i]) = true := by decide +kernel
theorem okd2 : ∀ i, i < 11 → ∀ j, j < 11 → okd (.list [vd i, vd j]) = true := by decide +kernel
theorem eq_one (i : Nat) : PyData.eqv (.list [.int i]) (.list [.int i]) = true := by simp [PyData.eqv, PyData.eqvAll]
def spRight : Sp := fun vs H Q _ => ∃ (i k l : Nat) (one other : V) (b : Bool), vs = [.int i, one, other, .bl b] ∧ i ≤ 13 ∧ k < 11 ∧ l < 11 ∧ (∀ G, Same H G → Dm G one (vd k)) ∧ (∀ G, Same H G → Dm G other (vd l)) ∧ ∀ H', Same H H' → Q (.bl true) H'
abbrev sRight : Stmt := top 27
abbrev nRight : List Str := ["at", "one", "other", "by_name", "caught", "error", "due"]
theorem scRight : FnScope nRight ["at", "one", "other", "by_name"] (defScope sRight) := ⟨rfl, rfl, rfl, by decide +kernel, rfl, by decide +kernel, by decide +kernel⟩
def MR (C : Nat → Addr) (H : Hp) (i : Nat) (one other : V) (b : Bool) : L2.St → Hp → Prop := fun σ J => ∃ a d, σ = [some (.int i), some one, some other, some (.bl b), some (.ref a), none, none] ∧ Er C J i one other a d ∧ Same H J
theorem ok_right {f fr fk ff : Addr} {fd dr dk df : FuncData} (Fn : Fun K "_law_right" "_law_right" sRight f fd) (FR : Fun K "_law_raises" "_law_raises" sRaises fr dr) (FK : Fun K "_law_kinds" "_law_kinds" sKinds fk dk) (FF : Fun K "_law_fields" "_law_fields" sFields ff df) (T : Cls P K mg F C) (B : BltR mg)
    (GR : FnOk P w K mg base (L2.CX P w) 3 fr dr ["at", "one", "other", "by_name"] (spRaises C)) (gr : mg "_law_raises" = some (.ref fr)) (gk : mg "_law_kinds" = some (.ref fk)) (gf : mg "_law_fields" = some (.ref ff)) (br : Binds K dr ["at", "one", "other", "by_name"] []) (bk : Binds K dk ["error"] []) (bf : Binds K df ["at", "error"] []) :
    FnG P w K mg base CX0 5 f fd ["at", "one", "other", "by_name"] spRight := by
  have GK : FnOk P w K mg base CX0 1 fk dk ["error"] (spKinds C) := ok_kinds FK T B.isi B.enum
  have GF : FnOk P w K mg base CX0 1 ff df ["at", "error"] (spFields C) := ok_fields FF T
  refine guarded Fn scRight (fun vs H Q E h => ?_) (fun cdv A outer s H vs Q E gu hr h => ?_)
  · obtain ⟨i, k, l, one, other, b, rfl, _⟩ := h
    rfl
  · obtain ⟨i, k, l, one, other, b, rfl, hi, hk, hl, d1, d2, q⟩ := h
    have nd := scRight.nd
    have hr1 : Room 1 _ := hr.mono (by decide)
    have hr3 : Room 3 _ := hr.mono (by decide)
    have un := hr.units
    refine ⟨_, pss_cons (ps_set (i := 4) nd rfl (.inl rfl) pe_non)
      (C8.pss_cut (ps_try_keep (i := 5) (n := "error") (c := .ref F) (tb := fun W => tDrop (tCallS (spRaises C) (WE W) (tCons (tVar 0) (tCons (tVar 1) (tCons (tVar 2) (tCons (tVar 3) tNil)))))) (ts := fun _ => tAsg (tVar 5) (gName 4)) (Wout := fun _ _ _ _ => False) rfl rfl rfl nd rfl rfl ⟨rfl, by decide, Or.inl T.B.g⟩ LamX.takes0
        (fun W pn xe tk _ => pss_one (ps_expr (by exact (pe_callS GR hr3 (by rfl) gr FR.kp br (fun σ => passAt tk σ) (pa_cons (pv 0) (pa_cons (pv 1) (pa_cons (pv 2) (pa_cons (pv 3) pa_nil))))))))
        (fun a pn => pss_one (ps_set (i := 4) nd rfl (Or.inl rfl) (pv 5))))
      (C8.pss_cut (ps_if (PW.pt (pw_or (pt_cmp (pc_isN (pv 4))) (pw_or (pt_not (pt_val (pe_callB call_isX (by rfl) B.isi (by decide +kernel) (pa_cons (pv 4) (pa_cons (pe_bltn (v := .ty "ValueError") (u := .type "ValueError") (by rfl) B.ve (by decide +kernel) rfl) pa_nil)))))
          (pw_or1 (pt_cmpR (op_neD un) (pe_call GK hr1 (by rfl) gk FK.kp bk .nil pass0 (pa_cons (pv 4) pa_nil)) (pe_lst (pa_cons (pv 0) pa_nil)) (nomark _)))))) (pss_one (ps_ret pe_bl)) pss_nil)
      (C8.pss_cut (ps_if (pt_val (pe_callB call_isXT (by rfl) B.isi (by decide +kernel) (pa_cons (pv 4) (pa_cons (pe_tup (pa_cons (pe_bltn (v := .ty "LookupError") (u := .type "LookupError") (by rfl) B.le (by decide +kernel) rfl) (pa_cons (pe_bltn (v := .ty "TypeError") (u := .type "TypeError") (by rfl) B.te (by decide +kernel) rfl)
          (pa_cons (pe_bltn (v := .ty "ArithmeticError") (u := .type "ArithmeticError") (by rfl) B.ae (by decide +kernel) rfl) (pa_cons (pe_bltn (v := .ty "RuntimeError") (u := .type "RuntimeError") (by rfl) B.re (by decide +kernel) rfl) (pa_cons (pe_bltn (v := .ty "AttributeError") (u := .type "AttributeError") (by rfl) B.at_ (by decide +kernel) rfl) pa_nil)))))) pa_nil)))) (pss_one (ps_ret pe_bl)) pss_nil)
      (pss_cons (ps_set (i := 6) nd rfl (.inl rfl) (pe_ifExp (pt_cmpR op_gt (pv 0) pe_int (nomark _)) (pe_lstM (pa_cons (pv 1) (pa_cons (pv 2) pa_nil))) (pe_lstM (pa_cons (pv 1) pa_nil))))
      (pss_one (ps_ret (pe_cmpR op_eq (pe_callB (call_showM gu un) (by rfl) B.repr (by decide +kernel) (pa_cons (pe_call GF hr1 (by rfl) gf FF.kp bf .nil pass0 (pa_cons (pv 0) (pa_cons (pv 4) pa_nil))) pa_nil)) (pe_callB (call_showM gu un) (by rfl) B.repr (by decide +kernel) (pa_cons (pv 6) pa_nil)) (nomark _)))))))), ?_⟩
    refine ⟨MR C H i one other b, ?_, ?_⟩
    · refine ⟨.int i, rfl, one, rfl, other, rfl, .bl b, rfl, i, one, other, b, rfl, hi, fun d nd' => ?_⟩
      refine ⟨true, T.exm hi, fun _ a na => ?_, fun z => nomatch z⟩
      refine ⟨.ref a, rfl, ?_⟩
      have ed : (upd H d (.xd (flds i one other))) d = some (.xd (flds i one other)) := upd_same
      refine ⟨a, d, rfl, ⟨upd_same, ?_⟩, (Same.new nd').trans (Same.new na)⟩
      rw [upd_ne (ne_of_none ed na)]
      exact ed
    rintro σ J ⟨a, d, rfl, er, sm⟩
    -- if caught is None or ..
    refine ⟨MR C H i one other b, ?_, ?_⟩
    · obtain ⟨e1, e2⟩ := er
      refine ⟨.ref a, rfl, _, rfl, ite_f (decide_eq_false (fun z => nomatch z)) ?_⟩
      refine ⟨.ref a, rfl, a, C i, d, _, .ty "ValueError", .type "ValueError", true, rfl, e1, e2, T.is hi, .ty _, T.bi hi (by decide +kernel), _, rfl, ite_f rfl ?_⟩
      refine ⟨.ref a, rfl, i, one, other, a, d, rfl, hi, ⟨e1, e2⟩, fun J1 p s1 np e => ?_⟩
      refine ⟨.int i, rfl, (by show 1 ≤ sizeLine; decide), fun l nl => ?_⟩
      have s2 : Same J1 (upd J1 l (.lst [.int i])) := Same.new nl
      refine ⟨_, _, Dp.lst (SqL.of (s2 _ _ e)) (dp_ints [(i : Int)]), Dp.lst (SqL.of upd_same) (dp_ints [(i : Int)]), shaped_ints [(i : Int)], shaped_ints [(i : Int)], _, rfl, ?_⟩
      refine ite_f ?_ ?_
      · show (!PyData.eqv (.list [.int i]) (.list [.int i])) = false
        rw [eq_one]
        rfl
      · exact ⟨a, d, rfl, Er.same ⟨e1, e2⟩ (s1.trans s2), sm.trans (s1.trans s2)⟩
    clear er sm
    rintro σ J ⟨a, d, rfl, er, sm⟩
    -- no other kind
    refine ⟨MR C H i one other b, ?_, ?_⟩
    · obtain ⟨e1, e2⟩ := er
      refine ⟨.ref a, rfl, (by show 5 ≤ sizeLine; decide), fun p np => ?_⟩
      have s1 := Same.new (o := .tup [.ty "LookupError", .ty "TypeError", .ty "ArithmeticError", .ty "RuntimeError", .ty "AttributeError"]) np
      refine ⟨a, C i, d, _, p, _, [.type "LookupError", .type "TypeError", .type "ArithmeticError", .type "RuntimeError", .type "AttributeError"], false, rfl, s1 _ _ e1, s1 _ _ e2, T.is hi, upd_same, ?_, ?_, _, rfl, ite_f rfl ?_⟩
      · exact .cons (.ty _) (.cons (.ty _) (.cons (.ty _) (.cons (.ty _) (.cons (.ty _) .nil))))
      · refine kitAny_cons (b := false) ((T.bi hi (by decide +kernel)).trans (by decide +kernel)) (fun _ => ?_) (fun z => nomatch z)
        refine kitAny_cons (b := false) ((T.bi hi (by decide +kernel)).trans (by decide +kernel)) (fun _ => ?_) (fun z => nomatch z)
        refine kitAny_cons (b := false) ((T.bi hi (by decide +kernel)).trans (by decide +kernel)) (fun _ => ?_) (fun z => nomatch z)
        refine kitAny_cons (b := false) ((T.bi hi (by decide +kernel)).trans (by decide +kernel)) (fun _ => ?_) (fun z => nomatch z)
        exact kitAny_cons (b := false) ((T.bi hi (by decide +kernel)).trans (by decide +kernel)) (fun _ => kitAny_nil) (fun z => nomatch z)
      · exact ⟨a, d, rfl, Er.same ⟨e1, e2⟩ s1, sm.trans s1⟩
    clear er sm
    rintro σ J ⟨a, d, rfl, er, sm⟩
    -- due, and both shown
    have ok1 : ∀ (G : Hp) (p : Addr), Same H G → p ≠ sysModules → G p = some (.lst (fieldsOf i one other)) → ∃ D : PyData, Dm G (.ref p) D ∧ okd D = true ∧ D = (if i < 11 then .list [vd k] else .list [vd k, vd l]) := by
      intro G p sg nm e
      by_cases c : i < 11
      · rw [if_pos c]
        unfold fieldsOf at e
        rw [if_pos c] at e
        exact ⟨_, .lst nm e (.cons (d1 G sg) .nil), okd1 k hk, rfl⟩
      · rw [if_neg c]
        unfold fieldsOf at e
        rw [if_neg c] at e
        exact ⟨_, .lst nm e (.cons (d1 G sg) (.cons (d2 G sg) .nil)), okd2 k hk l hl, rfl⟩
    have split : ∀ {D : PyData}, okd D = true → D.showable = true ∧ D.depth ≤ 60 ∧ D.shown.length ≤ sizeLine := by
      intro D h
      unfold okd at h
      simp only [Bool.and_eq_true, decide_eq_true_eq] at h
      exact ⟨h.1.1, h.1.2, h.2⟩
    have last : ∀ (p : Addr) (G : Hp), Same J G → p ≠ sysModules → G p = some (.lst (fieldsOf i one other)) → tRet
          (tOp rEq (tCB rShowM (tCons (tCall (spFields C) [] E0 (tCons (tVar 0) (tCons (tVar 4) tNil))) tNil))
            (tCB rShowM (tCons (tVar 6) tNil))) { nx := fun x H' => Q V.non H', rt := Q } [some (V.int i), some one, some other, some (V.bl b), some (V.ref a), none, some (V.ref p)] G := by
      intro p G sg nm e
      obtain ⟨D, m1, m2, m3⟩ := ok1 G p (sm.trans sg) nm e
      refine ⟨.int i, rfl, .ref a, rfl, i, one, other, a, d, rfl, hi, er.same sg, fun r nr nmr => ?_⟩
      have s1 : Same G (upd G r (.lst (fieldsOf i one other))) := Same.new nr
      obtain ⟨D', m1', m2', m3'⟩ := ok1 _ r ((sm.trans sg).trans s1) nmr upd_same
      obtain ⟨D2, m1'', m2'', m3''⟩ := ok1 _ p ((sm.trans sg).trans s1) nm (s1 _ _ e)
      obtain ⟨x1, x2, x3⟩ := split m2'
      obtain ⟨y1, y2, y3⟩ := split m2''
      refine ⟨r, D', rfl, m1', x1, x2, x3, .ref p, rfl, p, D2, rfl, m1'', y1, y2, y3, ?_⟩
      have de : D2 = D' := m3''.trans m3'.symm
      subst de
      refine ⟨rfl, ?_⟩
      show Q (.bl (decide (V.str D2.shown = V.str D2.shown))) _
      rw [decide_eq_true rfl]
      exact q _ ((sm.trans sg).trans s1)
    by_cases c : (i : Int) > 10
    · refine ⟨.int i, rfl, i, 10, rfl, rfl, _, rfl, ite_t (decide_eq_true c) ?_⟩
      refine ⟨one, rfl, other, rfl, (by show 2 ≤ sizeLine; decide), fun p np nm => ?_⟩
      refine last p _ (Same.new np) nm ?_
      rw [upd_same]
      unfold fieldsOf
      rw [if_neg (by omega)]
    · refine ⟨.int i, rfl, i, 10, rfl, rfl, _, rfl, ite_f (decide_eq_false c) ?_⟩
      refine ⟨one, rfl, (by show 1 ≤ sizeLine; decide), fun p np nm => ?_⟩
      refine last p _ (Same.new np) nm ?_
      rw [upd_same]
      unfold fieldsOf
      rw [if_pos (by omega)]
end
end Bay
set_option Elab.async false
set_option linter.all false
set_option maxRecDepth 100000
set_option maxHeartbeats 4000000
namespace Bay
open PySem PySem.Spec PyProof.Rows L2 Err
section
variable {P : Program} {w : World} {K : PySem.W.Frag} {mg : Str → Option Value} {base : Heap} {F : Addr} {C : Nat → Addr}
def spKept : Sp := fun vs H Q _ => ∃ (i : Nat) (z : Int) (b : Bool), vs = [.int i, .int z, .bl b] ∧ i ≤ 13 ∧ ∀ H', Same H H' → Q (.bl true) H'
abbrev sKept : Stmt := top 28
abbrev nKept : List Str := ["at", "great", "by_name", "caught", "error", "each"]
theorem scKept : FnScope nKept ["at", "great", "by_name"] (defScope sKept) := ⟨rfl, rfl, rfl, by decide +kernel, rfl, by decide +kernel, by decide +kernel⟩
def MK (C : Nat → Addr) (H : Hp) (i : Nat) (z : Int) (b : Bool) : L2.St → Hp → Prop := fun σ J => ∃ a d, σ = [some (.int i), some (.int z), some (.bl b), some (.ref a), none, none] ∧ Er C J i (.int z) (.int z) a d ∧ Same H J
theorem ok_kept {f fr ff : Addr} {fd dr df : FuncData} (Fn : Fun K "_law_is_kept" "_law_is_kept" sKept f fd) (FR : Fun K "_law_raises" "_law_raises" sRaises fr dr) (FF : Fun K "_law_fields" "_law_fields" sFields ff df) (T : Cls P K mg F C) (B : BltR mg)
    (GR : FnOk P w K mg base (L2.CX P w) 3 fr dr ["at", "one", "other", "by_name"] (spRaises C)) (gr : mg "_law_raises" = some (.ref fr)) (gf : mg "_law_fields" = some (.ref ff)) (br : Binds K dr ["at", "one", "other", "by_name"] []) (bf : Binds K df ["at", "error"] []) :
    FnOk P w K mg base CX0 5 f fd ["at", "great", "by_name"] spKept := by
  have GF : FnOk P w K mg base CX0 1 ff df ["at", "error"] (spFields C) := ok_fields FF T
  refine Fn.ok scKept (fun vs H Q E h => ?_) (fun cdv A outer s H vs Q E hr h => ?_)
  · obtain ⟨i, z, b, rfl, _⟩ := h
    rfl
  · obtain ⟨i, z, b, rfl, hi, q⟩ := h
    have nd := scKept.nd
    have hr1 : Room 1 _ := hr.mono (by decide)
    have hr3 : Room 3 _ := hr.mono (by decide)
    have un := hr.units
    refine ⟨_, pss_cons (ps_set (i := 3) nd rfl (.inl rfl) pe_non)
      (C8.pss_cut (ps_try_keep (i := 4) (n := "error") (c := .ref F) (tb := fun W => tDrop (tCallS (spRaises C) (WE W) (tCons (tVar 0) (tCons (tVar 1) (tCons (tVar 1) (tCons (tVar 2) tNil)))))) (ts := fun _ => tAsg (tVar 4) (gName 3)) (Wout := fun _ _ _ _ => False) rfl rfl rfl nd rfl rfl ⟨rfl, by decide, Or.inl T.B.g⟩ LamX.takes0
        (fun W pn xe tk _ => pss_one (ps_expr (by exact (pe_callS GR hr3 (by rfl) gr FR.kp br (fun σ => passAt tk σ) (pa_cons (pv 0) (pa_cons (pv 1) (pa_cons (pv 1) (pa_cons (pv 2) pa_nil))))))))
        (fun a pn => pss_one (ps_set (i := 3) nd rfl (Or.inl rfl) (pv 4))))
      (pss_one (ps_ret (pe_and (pe_cmp (pc_notN (pv 3))) (pe_one (pe_cmpR (op_eqD un) (pe_lc (own := [("each", 5)]) (g := gName 5) rfl nd (pi_list (pe_call GF hr1 (by rfl) gf FF.kp bf .nil pass0 (pa_cons (pv 0) (pa_cons (pv 3) pa_nil)))) (blkOk_by (N := nKept) (sc := defScope sKept) (by decide +kernel))
          (fun _ _ _ _ _ => pg_name (i := 5) nd rfl (Or.inl rfl))
          (fun _ _ _ _ _ => pts_one (PW.pt (pw_or (pt_not (pt_val (pe_callB (id := "isinstance") (r := rIsi K) call_isi (by rfl) B.isi (by decide +kernel) (pa_cons (pv 5) (pa_cons (pe_bltn (v := .ty "int") (u := .type "int") (by rfl) B.int (by decide +kernel) rfl) pa_nil))))) (pw_or1 (pt_cmpR op_ne (pv 5) (pv 1) (nomark _))))))
          (fun _ _ _ _ _ => pv 5)) (pe_lst pa_nil) (nomark _))))))), ?_⟩
    refine ⟨MK C H i z b, ?_, ?_⟩
    · refine ⟨.int i, rfl, .int z, rfl, .int z, rfl, .bl b, rfl, i, .int z, .int z, b, rfl, hi, fun d nd' => ?_⟩
      refine ⟨true, T.exm hi, fun _ a na => ?_, fun z => nomatch z⟩
      refine ⟨.ref a, rfl, ?_⟩
      have ed : (upd H d (.xd (flds i (.int z) (.int z)))) d = some (.xd (flds i (.int z) (.int z))) := upd_same
      refine ⟨a, d, rfl, ⟨upd_same, ?_⟩, (Same.new nd').trans (Same.new na)⟩
      rw [upd_ne (ne_of_none ed na)]
      exact ed
    · rintro σ J ⟨a, d, rfl, er, sm⟩
      refine ⟨.ref a, rfl, _, rfl, ite_t (by rfl) ?_⟩
      refine ⟨.int i, rfl, .ref a, rfl, i, .int z, .int z, a, d, rfl, hi, er, fun p np nm => ?_⟩
      have s1 : Same J (upd J p (.lst (fieldsOf i (.int z) (.int z)))) := Same.new np
      have e1 : (upd J p (.lst (fieldsOf i (.int z) (.int z)))) p = some (.lst (fieldsOf i (.int z) (.int z))) := upd_same
      have all : ∀ x ∈ fieldsOf i (.int z) (.int z), x = .int z := by
        intro x hx
        unfold fieldsOf at hx
        by_cases c : i < 11
        · rw [if_pos c] at hx
          exact List.mem_singleton.mp hx
        · rw [if_neg c] at hx
          simp only [List.mem_cons, List.not_mem_nil, or_false] at hx
          rcases hx with e | e <;> exact e
      generalize upd J p (.lst (fieldsOf i (.int z) (.int z))) = G at s1 e1
      refine ⟨p, rfl, ⟨_, SqL.of e1⟩, fun D nD => ?_⟩
      refine lc_list (K := K) (a := p) (xs := fieldsOf i (.int z) (.int z)) (fun j G' => Same G G' ∧ G' D = some (.lst [])) ⟨Same.new nD, upd_same⟩ (fun j G' _ y => SqL.of (y.1 _ _ e1)) ?_ ?_
      · rintro j x G' hx ⟨sg, gD⟩
        obtain rfl := all x (List.mem_of_getElem? hx)
        refine ⟨rfl, .int z, rfl, .int z, .ty "int", _, _, true, rfl, .ty _, .base (.int z), kit_ty (r := true) (by decide +kernel), _, rfl, ite_f rfl ?_⟩
        refine ⟨.int z, rfl, .int z, rfl, rfl, _, rfl, ?_⟩
        refine ite_f ?_ ⟨sg, gD⟩
        show (!decide (V.int z = V.int z)) = false
        rw [decide_eq_true rfl]
        rfl
      · rintro G' ⟨sg, gD⟩
        refine ⟨Nat.zero_le _, fun l nl => ?_⟩
        have s2 : Same G' (upd G' l (.lst [])) := Same.new nl
        refine ⟨.list [], .list [], Dp.lst (SqL.of (s2 _ _ gD)) .nil, Dp.lst (SqL.of upd_same) .nil, rfl, rfl, ?_⟩
        exact q _ (((sm.trans s1).trans sg).trans s2)
end
end Bay
set_option Elab.async false
set_option linter.all false
set_option maxRecDepth 100000
set_option maxHeartbeats 4000000
namespace Bay
open PySem PySem.Spec PyProof.Rows L2 Err
abbrev sLaw : Stmt := top 29
abbrev nLaw : List Str := ["script", "burr", "at", "one", "other", "great", "turn"]
theorem scLaw : FnScope nLaw ["script"] (defScope sLaw) := ⟨rfl, rfl, rfl, by decide +kernel, rfl, by decide +kernel, by decide +kernel⟩
structure Defs (K : PySem.W.Frag) (mg : Str → Option Value) (f : Nat → Addr) (d : Nat → FuncData) : Prop where
  F17 : Fun K "_law_burr" "_law_burr" sDune (f 17) (d 17)
  g17 : mg "_law_burr" = some (.ref (f 17))
  b17 : Binds K (d 17) ["script"] []
  F18 : Fun K "_law_open" "_law_open" sDrift (f 18) (d 18)
  g18 : mg "_law_open" = some (.ref (f 18))
  b18 : Binds K (d 18) ["burr", "many"] []
  F19 : Fun K "_law_pick" "_law_pick" sPick (f 19) (d 19)
  g19 : mg "_law_pick" = some (.ref (f 19))
  b19 : Binds K (d 19) ["burr", "some"] []
  F20 : Fun K "_law_value" "_law_value" sValue (f 20) (d 20)
  g20 : mg "_law_value" = some (.ref (f 20))
  b20 : Binds K (d 20) ["burr"] []
  F21 : Fun K "_law_first" "_law_first" sFirst (f 21) (d 21)
  g21 : mg "_law_first" = some (.ref (f 21))
  b21 : Binds K (d 21) ["at", "one"] []
  F22 : Fun K "_law_named" "_law_named" sNamed (f 22) (d 22)
  g22 : mg "_law_named" = some (.ref (f 22))
  b22 : Binds K (d 22) ["at", "one"] []
  F23 : Fun K "_law_last" "_law_last" sLast (f 23) (d 23)
  g23 : mg "_law_last" = some (.ref (f 23))
  b23 : Binds K (d 23) ["at", "one", "other", "by_name"] []
  F24 : Fun K "_law_kinds" "_law_kinds" sKinds (f 24) (d 24)
  g24 : mg "_law_kinds" = some (.ref (f 24))
  b24 : Binds K (d 24) ["error"] []
  F25 : Fun K "_law_fields" "_law_fields" sFields (f 25) (d 25)
  g25 : mg "_law_fields" = some (.ref (f 25))
  b25 : Binds K (d 25) ["at", "error"] []
  F26 : Fun K "_law_raises" "_law_raises" sRaises (f 26) (d 26)
  g26 : mg "_law_raises" = some (.ref (f 26))
  b26 : Binds K (d 26) ["at", "one", "other", "by_name"] []
  F27 : Fun K "_law_right" "_law_right" sRight (f 27) (d 27)
  g27 : mg "_law_right" = some (.ref (f 27))
  b27 : Binds K (d 27) ["at", "one", "other", "by_name"] []
  F28 : Fun K "_law_is_kept" "_law_is_kept" sKept (f 28) (d 28)
  g28 : mg "_law_is_kept" = some (.ref (f 28))
  b28 : Binds K (d 28) ["at", "great", "by_name"] []
/-- between the statements of a turn -/
def ML (a D C : Addr) (ms : List Int) (n : Nat) (B : Int) : L2.St → Hp → Prop := fun σ J => ∃ (t l : Int) (one other : V) (k m : Nat) (y5 y6 : Option V),
  σ = [some (.ref a), some (.ref D), some (.int n), some one, some other, y5, y6] ∧ Dn J D C ms t l ∧ t ≤ B ∧ k < 11 ∧ m < 11 ∧ Vd D J one (vd k) ∧ Vd D J other (vd m)
section
variable {P : Program} {w : World} {K : PySem.W.Frag} {mg : Str → Option Value} {base : Heap} {F : Addr} {C : Nat → Addr} {f : Nat → Addr} {d : Nat → FuncData}
theorem law_body (L : Defs K mg f d) (TC : Cls P K mg F C) (T : Blt mg) (B : BltR mg) (rg : mg "range" = none) {t : Shared} {cdv : Value} {H : Hp} {a fa : Addr} {ns : List Int} (len : ns.length ≤ 63) (hS : SqL K H a (ns.map V.int))
    (hr : Room 5 (callerA.deeper (envOfC "law" (defScope sLaw) t.heap.objs.size fa cdv))) :
    ∃ r, PSs (cxOf CX0 P w K mg base nLaw "law" (defScope sLaw) fa cdv callerA [] t H E0).nox (defBody sLaw) r ∧ r { nx := fun _ _ => False, rt := fun v _ => v = .bl true } (start nLaw [.ref a]) H := by
  have GB : FnOk P w K mg base CX0 1 (f 17) (d 17) ["script"] (spDune K) := ok_dune L.F17 T
  have GO : FnOk P w K mg base CX0 1 (f 18) (d 18) ["burr", "many"] spDrift := ok_drift L.F18 T
  have GV : FnOk P w K mg base CX0 3 (f 20) (d 20) ["burr"] spValue := ok_value L.F20 L.F18 L.F19 T L.g18 L.b18 L.g19 L.b19
  have GR : FnOk P w K mg base (L2.CX P w) 3 (f 26) (d 26) ["at", "one", "other", "by_name"] (spRaises C) := ok_raises L.F26 L.F21 L.F22 L.F23 TC L.g21 L.g22 L.g23 L.b21 L.b22 L.b23
  have GG : FnG P w K mg base CX0 5 (f 27) (d 27) ["at", "one", "other", "by_name"] spRight := ok_right L.F27 L.F26 L.F24 L.F25 TC B GR L.g26 L.g24 L.g25 L.b26 L.b24 L.b25
  have GK : FnOk P w K mg base CX0 5 (f 28) (d 28) ["at", "great", "by_name"] spKept := ok_kept L.F28 L.F26 L.F25 TC B GR L.g26 L.g25 L.b26 L.b25
  have hr1 : Room 1 _ := hr.mono (by decide)
  have hr3 : Room 3 _ := hr.mono (by decide)
  have nd := scLaw.nd
  have un := hr.units
  refine ⟨_, pss_cons (ps_set (i := 1) nd rfl (Or.inl rfl) (pe_call GB hr1 (by rfl) L.g17 L.F17.kp L.b17 .nil pass0 (pa_cons (pv 0) pa_nil)))
    (pss_cons (ps_for PassesOwn.never rfl (pi_range1 (by rfl) rg (pa_cons pe_int pa_nil)) (pg_name (i := 2) nd rfl (Or.inl rfl))
      (C8.pss_cut (ps_par (i := 3) (j := 4) (by rfl) nd rfl rfl (by decide) rfl rfl (pa_cons (pe_call GV hr3 (by rfl) L.g20 L.F20.kp L.b20 .nil pass0 (pa_cons (pv 1) pa_nil)) (pa_cons (pe_call GV hr3 (by rfl) L.g20 L.F20.kp L.b20 .nil pass0 (pa_cons (pv 1) pa_nil)) pa_nil)) (by rfl))
      (pss_one (ps_if (PW.pt (pw_or (pt_not (pt_val (pe_callG GG rfl hr (by rfl) L.g27 L.F27.kp L.b27 pass0 (pa_cons (pv 2) (pa_cons (pv 3) (pa_cons (pv 4) (pa_cons pe_bl pa_nil)))))))
          (pw_or1 (pt_not (pt_val (pe_callG GG rfl hr (by rfl) L.g27 L.F27.kp L.b27 pass0 (pa_cons (pv 2) (pa_cons (pv 3) (pa_cons (pv 4) (pa_cons pe_bl pa_nil)))))))))) (pss_one (ps_ret pe_bl)) pss_nil))))
    (pss_cons (ps_set (i := 5) nd rfl (Or.inr rfl) (pe_op op_add pe_int (pe_call GO hr1 (by rfl) L.g18 L.F18.kp L.b18 .nil pass0 (pa_cons (pv 1) (pa_cons (pe_op op_pow pe_int pe_int) pa_nil)))))
    (pss_cons (ps_for PassesOwn.never rfl (pi_range1 (by rfl) rg (pa_cons pe_int pa_nil)) (pg_name (i := 6) nd rfl (Or.inl rfl))
      (pss_one (ps_set (i := 5) nd rfl (Or.inr rfl) (pe_op op_mulW (pv 5) (pe_op op_pow pe_int pe_int)))))
    (pss_one (ps_ret (pe_cmpR (op_eqD un) (pe_lc (own := [("at", 2)]) (g := gName 2) rfl nd (pi_range1 (by rfl) rg (pa_cons pe_int pa_nil)) (blkOk_by (N := nLaw) (sc := defScope sLaw) (by decide +kernel))
        (fun _ _ _ _ _ => pg_name (i := 2) nd rfl (Or.inl rfl))
        (fun _ _ _ _ _ => pts_one (PW.pt (pw_or (pt_not (pt_val (pe_call (sp := spKept) (dvs := []) (E := E0) GK hr (by rfl) L.g28 L.F28.kp L.b28 .nil pass0 (pa_cons (pv 2) (pa_cons (pv 5) (pa_cons pe_bl pa_nil))))))
          (pw_or1 (pt_not (pt_val (pe_call (sp := spKept) (dvs := []) (E := E0) GK hr (by rfl) L.g28 L.F28.kp L.b28 .nil pass0 (pa_cons (pv 2) (pa_cons (pv 5) (pa_cons pe_bl pa_nil))))))))))
        (fun _ _ _ _ _ => pv 2)) (pe_lst pa_nil) (nomark _))))))), ?_⟩
  refine ⟨.ref a, rfl, a, ns, rfl, hS, len, fun H1 D Cl ms sm nD dn0 => ?_⟩
  refine ⟨14, rfl, by decide, by decide, for_range (lo := 0) (n := 14) (fun i σ J => ∃ (t l : Int) (y2 y3 y4 y5 y6 : Option V), σ = [some (.ref a), some (.ref D), y2, y3, y4, y5, y6] ∧ Dn J D Cl ms t l ∧ t ≤ i * 2)
    ⟨0, 0, none, none, none, none, none, rfl, dn0, by omega⟩ ?_ ?_⟩
  · rintro i σ J hi ⟨t, l, y2, y3, y4, y5, y6, rfl, dn, tb⟩
    clear dn0 sm nD hS
    refine ⟨ML a D Cl ms i (i * 2 + 2), ?_, ?_⟩
    · refine ⟨.ref D, rfl, D, Cl, ms, t, l, rfl, dn, by omega, fun J1 t1 l1 v1 k1 dn1 tt1 kp1 hk1 vd1 => ?_⟩
      refine ⟨.ref D, rfl, D, Cl, ms, t1, l1, rfl, dn1, by omega, fun J2 t2 l2 v2 k2 dn2 tt2 kp2 hk2 vd2 => ?_⟩
      refine ⟨v1, v2, rfl, t2, l2, v1, v2, k1, k2, y5, y6, ?_, dn2, by omega, hk1, hk2, vd1.on kp2, vd2⟩
      have z : (0 : Int) + (i : Int) = (i : Int) := by omega
      show [some (V.ref a), some (V.ref D), some (V.int (0 + (i : Int))), some v1, some v2, y5, y6] = _
      rw [z]
    clear tb dn
    rintro σ J ⟨t, l, one, other, k, m, z5, z6, rfl, dn, tb, hk, hm, v1, v2⟩
    refine ⟨.int i, rfl, one, rfl, other, rfl, i, k, m, one, other, false, rfl, by omega, hk, hm, fun G s => v1 G (.same s), fun G s => v2 G (.same s), fun J1 s1 => ?_⟩
    refine ⟨true, rfl, ite_f rfl ?_⟩
    refine ⟨.int i, rfl, one, rfl, other, rfl, i, k, m, one, other, true, rfl, by omega, hk, hm, fun G s => v1 G (.same (s1.trans s)), fun G s => v2 G (.same (s1.trans s)), fun J2 s2 => ?_⟩
    refine ⟨true, rfl, ite_f rfl ?_⟩
    exact ⟨t, l, _, _, _, _, _, rfl, dn.same (s1.trans s2), by omega⟩
  · rintro σ J ⟨t, l, y2, y3, y4, y5, y6, rfl, dn, tb⟩
    clear dn0 sm nD hS
    refine ⟨.ref D, rfl, 10, 9, rfl, rfl, ⟨by decide, by decide, by decide⟩, D, Cl, ms, t, l, _, rfl, dn, by omega, by decide, by decide, fun J1 t1 l1 r dn1 tt1 kp1 r0 r1 => ?_⟩
    have r1' : r < 1000000000 := r1
    refine ⟨1, r, rfl, rfl, ?_⟩
    refine ⟨73, rfl, by decide, by decide, for_range (lo := 0) (n := 73) (fun i σ J => ∃ (z : Int) (y2 y3 y4 y6 : Option V), σ = [some (.ref a), some (.ref D), y2, y3, y4, some (.int z), y6] ∧ z.natAbs < 2 ^ (31 + 200 * i))
      ⟨1 + r, _, _, _, _, rfl, Nat.lt_of_lt_of_le (show (1 + r).natAbs < 2147483648 by omega) (by decide)⟩ ?_ ?_⟩
    · rintro i σ J hi ⟨z, y2, y3, y4, y6, rfl, hz⟩
      have hb : ((10 : Int) ^ (60 : Int).toNat).natAbs < 2 ^ 200 := by decide +kernel
      refine ⟨.int z, rfl, 10, 60, rfl, rfl, ⟨by decide, by decide, by decide⟩, z, _, rfl, rfl, wide_mul hz hb (by omega) (by decide) (by omega), ?_⟩
      refine ⟨_, _, _, _, _, rfl, ?_⟩
      have e : 31 + 200 * (i + 1) = 31 + 200 * i + 200 := by omega
      rw [e]
      exact wide_lt hz hb
    · rintro σ J ⟨z, y2, y3, y4, y6, rfl, hz⟩
      refine ⟨14, rfl, by decide, by decide, fun N nN => ?_⟩
      refine lc_range (lo := 0) (n := 14) (fun j G => Same J G ∧ G N = some (.lst [])) ⟨Same.new nN, upd_same⟩ ?_ ?_
      · rintro j G hj ⟨sg, gN⟩
        refine ⟨rfl, .int (0 + (j : Int)), rfl, .int z, rfl, j, z, false, (by rw [Int.zero_add]; rfl), by omega, fun G1 s1 => ⟨true, rfl, ite_f rfl ?_⟩⟩
        refine ⟨.int (0 + (j : Int)), rfl, .int z, rfl, j, z, true, (by rw [Int.zero_add]; rfl), by omega, fun G2 s2 => ⟨true, rfl, ite_f rfl ?_⟩⟩
        exact ⟨(sg.trans s1).trans s2, s2 _ _ (s1 _ _ gN)⟩
      · rintro G ⟨sg, gN⟩
        refine ⟨Nat.zero_le _, fun l nl => ?_⟩
        have s2 : Same G (upd G l (.lst [])) := Same.new nl
        refine ⟨.list [], .list [], Dp.lst (SqL.of (s2 _ _ gN)) .nil, Dp.lst (SqL.of upd_same) .nil, rfl, rfl, ?_⟩
        rfl
end
end Bay
set_option Elab.async false
set_option linter.all false
set_option maxRecDepth 100000
set_option maxHeartbeats 8000000
namespace Bay
open PySem PySem.Spec PyProof.Rows L2 Err
theorem sup_mk {K : PySem.W.Frag} {F C : Addr} {x q xF qF : Str} {N NF : Addr} {bs sub bsF subF : List Value} {sn snF : List Str} {ab abF : Bool} {col colF : Option Bool} {dd ddF : Option Addr} {k0 k1 k2 k3 k5 j0 j1 j2 j3 j5 : Option Value} {r : Option (Option Value)}
    (l : K.lookup C = some (excClassObj x q C N bs (.ref F :: veT) true sn sub ab col dd k0 k1 k2 k3 k5 "ValueError.__new__")) (lF : K.lookup F = some (excClassObj xF qF F NF bsF veT true snF subF abF colF ddF j0 j1 j2 j3 j5 "ValueError.__new__"))
    (fi : PySem.W.findIn K (.ref F) "__init__" = r) : PySem.W.ks_superIn K C C "__init__" = r := by
  rw [← fi]
  have e : PySem.W.clsIn K C = some { name := x, bases := bs, mro := .ref C :: .ref F :: veT, ns := N, qualname := q, hasDict := true, slotNames := sn, subclasses := sub, abstract := ab, collection := col, hasDel := false } := by
    unfold PySem.W.clsIn
    rw [l] <;> rfl
  have a : PySem.W.findIn K (.ref F) "__init__" = PySem.W.alongIn K "__init__" (.ref F :: veT) := by
    show (match K.lookup F with | some ⟨_, _, .cls cd, _⟩ => PySem.W.alongIn K "__init__" cd.mro | _ => none) = _
    rw [lF] <;> rfl
  rw [a]
  unfold PySem.W.ks_superIn
  rw [e, Option.bind_some]
  show PySem.W.alongIn K "__init__" (List.drop 1 (List.dropWhile (fun z => z != .ref C) (.ref C :: .ref F :: veT))) = _
  have d : ((Value.ref C) != .ref C) = false := by simp
  rw [List.dropWhile_cons, if_neg (by rw [d]; exact Bool.false_ne_true)]
  rfl
/-- a class's facts, as they stand in the written part -/
theorem ec_mk {P : Program} {K : PySem.W.Frag} {h : Heap} {mg : Str → Option Value} {F C fI cc cda : Addr} {x qual q : Str} {st : Stmt} {N : Addr} {bs sub : List Value} {sn : List Str} {ab : Bool} {col : Option Bool} {dd : Option Addr} {k0 k1 k2 k3 k5 : Option Value}
    {xF qF : Str} {NF : Addr} {bsF subF : List Value} {snF : List Str} {abF : Bool} {colF : Option Bool} {ddF : Option Addr} {j0 j1 j2 j3 j5 : Option Value} {oc kV doc pm ct cl ccl : Value} {od an cld cdd : Option Addr} {osl csl ccs : Array (Option Value)} {vs : Array Value} {file : Str} {tf : Tok} (X : K.In h) (G : h.Ns mainGlobals mg)
    (a : PySem.W.nsIn K mainGlobals x = some (some (.ref C))) (l : K.lookup C = some (excClassObj x q C N bs (.ref F :: veT) true sn sub ab col dd k0 k1 k2 k3 k5 "ValueError.__new__"))
    (sa : PySem.W.findIn K (.ref C) "__setattr__" = some (some (.builtin "object.__setattr__"))) (ga : PySem.W.findIn K (.ref C) "__getattribute__" = some (some (.builtin "BaseException.__getattribute__"))) (gg : PySem.W.findIn K (.ref C) "__getattr__" = some none)
    (ha : PySem.W.findIn K (.ref C) "__class__" = some (some (.builtin "object.__class__"))) (kC : PySem.W.keepIn K (.ref C) = true) (lF : K.lookup F = some (excClassObj xF qF F NF bsF veT true snF subF abF colF ddF j0 j1 j2 j3 j5 "ValueError.__new__")) (fi : PySem.W.findIn K (.ref F) "__init__" = some (some (.builtin "ValueError.__init__")))
    (i : PySem.W.findIn K (.ref C) "__init__" = some (some (.ref fI))) (t : PySem.W.typeIn K (.ref fI) = some (.type "function"))
    (li : K.lookup fI = some ⟨oc, od, .func (PySem.W.ksFn "__init__" qual (L2.defArgs st) (L2.defBody st) (L2.defScope st) .none kV doc pm an (.ref cda) ct cc), osl⟩) (ci : PySem.W.codeIn K (.ref cda) qual = true)
    (lc : K.lookup cc = some ⟨cl, cld, .cell (some (.ref C)), csl⟩) (ld : K.lookup cda = some ⟨ccl, cdd, .fields vs, ccs⟩) (v2 : vs[2]? = some (.str file tf)) (fe : ((P.main.file : Str) == file) = true) : EC P K mg F x qual st C :=
  ⟨PySem.W.mg_of X G a, ⟨_, _, _, _, _, _, _, _, _, _, _, _, _, l⟩, sa, ga, gg, ha, kC, sup_mk l lF fi, ⟨_, _, _, _, _, _, _, _, _, _, _, i, t, li, ci, ⟨_, _, _, lc⟩, _, _, _, _, _, _, ld, v2, fe⟩⟩
theorem cls_mk {P : Program} {K : PySem.W.Frag} {mg : Str → Option Value} {F C0 C1 C2 C3 C4 C5 C6 C7 C8 C9 C10 C11 C12 C13 : Addr} (B : Base K mg "FenceError" F) (sup : mg "super" = none) (tp : (P.main.scope.names.lookup ("super" : Str)).isSome = false)
    (c0 : EC P K mg F "BadNumber" "BadNumber.__init__" (ini 2) C0) (n0a : PySem.W.findIn K (.ref C0) "part" = some none)
    (c1 : EC P K mg F "BadPoint" "BadPoint.__init__" (ini 3) C1) (n1a : PySem.W.findIn K (.ref C1) "part" = some none)
    (c2 : EC P K mg F "BadFence" "BadFence.__init__" (ini 4) C2) (n2a : PySem.W.findIn K (.ref C2) "part" = some none)
    (c3 : EC P K mg F "BadMouth" "BadMouth.__init__" (ini 5) C3) (n3a : PySem.W.findIn K (.ref C3) "part" = some none)
    (c4 : EC P K mg F "BadFilm" "BadFilm.__init__" (ini 6) C4) (n4a : PySem.W.findIn K (.ref C4) "part" = some none)
    (c5 : EC P K mg F "BadWord" "BadWord.__init__" (ini 7) C5) (n5a : PySem.W.findIn K (.ref C5) "part" = some none)
    (c6 : EC P K mg F "BadName" "BadName.__init__" (ini 8) C6) (n6a : PySem.W.findIn K (.ref C6) "part" = some none)
    (c7 : EC P K mg F "BadPaper" "BadPaper.__init__" (ini 9) C7) (n7a : PySem.W.findIn K (.ref C7) "part" = some none)
    (c8 : EC P K mg F "Misfit" "Misfit.__init__" (ini 10) C8) (n8a : PySem.W.findIn K (.ref C8) "part" = some none)
    (c9 : EC P K mg F "NoName" "NoName.__init__" (ini 11) C9) (n9a : PySem.W.findIn K (.ref C9) "value" = some none)
    (c10 : EC P K mg F "Twice" "Twice.__init__" (ini 12) C10) (n10a : PySem.W.findIn K (.ref C10) "value" = some none)
    (c11 : EC P K mg F "TooMany" "TooMany.__init__" (ini 13) C11) (n11a : PySem.W.findIn K (.ref C11) "what" = some none) (n11b : PySem.W.findIn K (.ref C11) "most" = some none)
    (c12 : EC P K mg F "BadText" "BadText.__init__" (ini 14) C12) (n12a : PySem.W.findIn K (.ref C12) "line" = some none) (n12b : PySem.W.findIn K (.ref C12) "item" = some none)
    (c13 : EC P K mg F "BadLine" "BadLine.__init__" (ini 15) C13) (n13a : PySem.W.findIn K (.ref C13) "line" = some none) (n13b : PySem.W.findIn K (.ref C13) "error" = some none)
    : Cls P K mg F (fun i => [C0, C1, C2, C3, C4, C5, C6, C7, C8, C9, C10, C11, C12, C13].getD i 0) :=
  { B := B, sup := sup, tp := tp, c0 := c0, n0a := n0a, c1 := c1, n1a := n1a, c2 := c2, n2a := n2a, c3 := c3, n3a := n3a, c4 := c4, n4a := n4a, c5 := c5, n5a := n5a, c6 := c6, n6a := n6a, c7 := c7, n7a := n7a, c8 := c8, n8a := n8a, c9 := c9, n9a := n9a, c10 := c10, n10a := n10a, c11 := c11, n11a := n11a, n11b := n11b, c12 := c12, n12a := n12a, n12b := n12b, c13 := c13, n13a := n13a, n13b := n13b }
theorem base_mk {K : PySem.W.Frag} {h : Heap} {mg : Str → Option Value} {F : Addr} {x q : Str} {N : Addr} {bs sub : List Value} {sn : List Str} {ab : Bool} {col : Option Bool} {dd : Option Addr} {k0 k1 k2 k3 k5 : Option Value} (X : K.In h) (G : h.Ns mainGlobals mg)
    (a : PySem.W.nsIn K mainGlobals x = some (some (.ref F))) (l : K.lookup F = some (excClassObj x q F N bs veT true sn sub ab col dd k0 k1 k2 k3 k5 "ValueError.__new__"))
    (op : PySem.W.nsIn K PySem.cStatics "thirdparty.any" = some none) (hn : PySem.W.specialIn K (.builtin "object.__class__") "__get__" = some (some (.builtin "getset_descriptor.__get__"))) (ht : PySem.W.takesIn K (.builtin "object.__class__") = some true) : Base K mg x F :=
  ⟨PySem.W.mg_of X G a, ⟨_, _, _, _, _, _, _, _, _, _, _, _, _, l⟩, op, hn, ht⟩
theorem all_mk {l : PySem.W.OpenLaw} {w : World} {K : PySem.W.Frag} {h : Heap} {mg : Str → Option Value} {fa F f17 f18 f19 f20 f21 f22 f23 f24 f25 f26 f27 f28 f29 C0 C1 C2 C3 C4 C5 C6 C7 C8 C9 C10 C11 C12 C13 : Addr} (X : K.In h) (G : h.Ns mainGlobals mg) (hfa : mg "law" = some (.ref fa))
    {od17 an17 od18 an18 od19 an19 od20 an20 od21 an21 od22 an22 od23 an23 od24 an24 od25 an25 od26 an26 od27 an27 od28 an28 od29 an29 : Option Addr} {sl17 sl18 sl19 sl20 sl21 sl22 sl23 sl24 sl25 sl26 sl27 sl28 sl29 : Array (Option Value)} {oc17 kV17 dc17 pm17 cd17 ct17 oc18 kV18 dc18 pm18 cd18 ct18 oc19 kV19 dc19 pm19 cd19 ct19 oc20 kV20 dc20 pm20 cd20 ct20 oc21 kV21 dc21 pm21 cd21 ct21 oc22 kV22 dc22 pm22 cd22 ct22 oc23 kV23 dc23 pm23 cd23 ct23 oc24 kV24 dc24 pm24 cd24 ct24 oc25 kV25 dc25 pm25 cd25 ct25 oc26 kV26 dc26 pm26 cd26 ct26 oc27 kV27 dc27 pm27 cd27 ct27 oc28 kV28 dc28 pm28 cd28 ct28 oc29 kV29 dc29 pm29 cd29 ct29 : Value}
    (a17 : PySem.W.nsIn K mainGlobals "_law_burr" = some (some (.ref f17))) (l17 : K.lookup f17 = some ⟨oc17, od17, .func (PySem.W.fnOf "_law_burr" "_law_burr" (defArgs sDune) (defBody sDune) (defScope sDune) .none kV17 dc17 pm17 an17 cd17 ct17), sl17⟩) (c17 : PySem.W.codeIn K cd17 "_law_burr" = true) (k17 : PySem.W.keepIn K (.ref f17) = true)
    (a18 : PySem.W.nsIn K mainGlobals "_law_open" = some (some (.ref f18))) (l18 : K.lookup f18 = some ⟨oc18, od18, .func (PySem.W.fnOf "_law_open" "_law_open" (defArgs sDrift) (defBody sDrift) (defScope sDrift) .none kV18 dc18 pm18 an18 cd18 ct18), sl18⟩) (c18 : PySem.W.codeIn K cd18 "_law_open" = true) (k18 : PySem.W.keepIn K (.ref f18) = true)
    (a19 : PySem.W.nsIn K mainGlobals "_law_pick" = some (some (.ref f19))) (l19 : K.lookup f19 = some ⟨oc19, od19, .func (PySem.W.fnOf "_law_pick" "_law_pick" (defArgs sPick) (defBody sPick) (defScope sPick) .none kV19 dc19 pm19 an19 cd19 ct19), sl19⟩) (c19 : PySem.W.codeIn K cd19 "_law_pick" = true) (k19 : PySem.W.keepIn K (.ref f19) = true)
    (a20 : PySem.W.nsIn K mainGlobals "_law_value" = some (some (.ref f20))) (l20 : K.lookup f20 = some ⟨oc20, od20, .func (PySem.W.fnOf "_law_value" "_law_value" (defArgs sValue) (defBody sValue) (defScope sValue) .none kV20 dc20 pm20 an20 cd20 ct20), sl20⟩) (c20 : PySem.W.codeIn K cd20 "_law_value" = true) (k20 : PySem.W.keepIn K (.ref f20) = true)
    (a21 : PySem.W.nsIn K mainGlobals "_law_first" = some (some (.ref f21))) (l21 : K.lookup f21 = some ⟨oc21, od21, .func (PySem.W.fnOf "_law_first" "_law_first" (defArgs sFirst) (defBody sFirst) (defScope sFirst) .none kV21 dc21 pm21 an21 cd21 ct21), sl21⟩) (c21 : PySem.W.codeIn K cd21 "_law_first" = true) (k21 : PySem.W.keepIn K (.ref f21) = true)
    (a22 : PySem.W.nsIn K mainGlobals "_law_named" = some (some (.ref f22))) (l22 : K.lookup f22 = some ⟨oc22, od22, .func (PySem.W.fnOf "_law_named" "_law_named" (defArgs sNamed) (defBody sNamed) (defScope sNamed) .none kV22 dc22 pm22 an22 cd22 ct22), sl22⟩) (c22 : PySem.W.codeIn K cd22 "_law_named" = true) (k22 : PySem.W.keepIn K (.ref f22) = true)
    (a23 : PySem.W.nsIn K mainGlobals "_law_last" = some (some (.ref f23))) (l23 : K.lookup f23 = some ⟨oc23, od23, .func (PySem.W.fnOf "_law_last" "_law_last" (defArgs sLast) (defBody sLast) (defScope sLast) .none kV23 dc23 pm23 an23 cd23 ct23), sl23⟩) (c23 : PySem.W.codeIn K cd23 "_law_last" = true) (k23 : PySem.W.keepIn K (.ref f23) = true)
    (a24 : PySem.W.nsIn K mainGlobals "_law_kinds" = some (some (.ref f24))) (l24 : K.lookup f24 = some ⟨oc24, od24, .func (PySem.W.fnOf "_law_kinds" "_law_kinds" (defArgs sKinds) (defBody sKinds) (defScope sKinds) .none kV24 dc24 pm24 an24 cd24 ct24), sl24⟩) (c24 : PySem.W.codeIn K cd24 "_law_kinds" = true) (k24 : PySem.W.keepIn K (.ref f24) = true)
    (a25 : PySem.W.nsIn K mainGlobals "_law_fields" = some (some (.ref f25))) (l25 : K.lookup f25 = some ⟨oc25, od25, .func (PySem.W.fnOf "_law_fields" "_law_fields" (defArgs sFields) (defBody sFields) (defScope sFields) .none kV25 dc25 pm25 an25 cd25 ct25), sl25⟩) (c25 : PySem.W.codeIn K cd25 "_law_fields" = true) (k25 : PySem.W.keepIn K (.ref f25) = true)
    (a26 : PySem.W.nsIn K mainGlobals "_law_raises" = some (some (.ref f26))) (l26 : K.lookup f26 = some ⟨oc26, od26, .func (PySem.W.fnOf "_law_raises" "_law_raises" (defArgs sRaises) (defBody sRaises) (defScope sRaises) .none kV26 dc26 pm26 an26 cd26 ct26), sl26⟩) (c26 : PySem.W.codeIn K cd26 "_law_raises" = true) (k26 : PySem.W.keepIn K (.ref f26) = true)
    (a27 : PySem.W.nsIn K mainGlobals "_law_right" = some (some (.ref f27))) (l27 : K.lookup f27 = some ⟨oc27, od27, .func (PySem.W.fnOf "_law_right" "_law_right" (defArgs sRight) (defBody sRight) (defScope sRight) .none kV27 dc27 pm27 an27 cd27 ct27), sl27⟩) (c27 : PySem.W.codeIn K cd27 "_law_right" = true) (k27 : PySem.W.keepIn K (.ref f27) = true)
    (a28 : PySem.W.nsIn K mainGlobals "_law_is_kept" = some (some (.ref f28))) (l28 : K.lookup f28 = some ⟨oc28, od28, .func (PySem.W.fnOf "_law_is_kept" "_law_is_kept" (defArgs sKept) (defBody sKept) (defScope sKept) .none kV28 dc28 pm28 an28 cd28 ct28), sl28⟩) (c28 : PySem.W.codeIn K cd28 "_law_is_kept" = true) (k28 : PySem.W.keepIn K (.ref f28) = true)
    (a29 : PySem.W.nsIn K mainGlobals "law" = some (some (.ref f29))) (l29 : K.lookup f29 = some ⟨oc29, od29, .func (PySem.W.fnOf "law" "law" (defArgs sLaw) (defBody sLaw) (defScope sLaw) .none kV29 dc29 pm29 an29 cd29 ct29), sl29⟩) (c29 : PySem.W.codeIn K cd29 "law" = true) (k29 : PySem.W.keepIn K (.ref f29) = true)
    (T : Cls l.prog K mg F (fun i => [C0, C1, C2, C3, C4, C5, C6, C7, C8, C9, C10, C11, C12, C13].getD i 0))
    (zint : PySem.W.nsIn K mainGlobals "int" = some none) (zlen : PySem.W.nsIn K mainGlobals "len" = some none) (zabs : PySem.W.nsIn K mainGlobals "abs" = some none) (zrange : PySem.W.nsIn K mainGlobals "range" = some none) (zisinstance : PySem.W.nsIn K mainGlobals "isinstance" = some none) (zenumerate : PySem.W.nsIn K mainGlobals "enumerate" = some none) (zrepr : PySem.W.nsIn K mainGlobals "repr" = some none) (zValueError : PySem.W.nsIn K mainGlobals "ValueError" = some none) (zLookupError : PySem.W.nsIn K mainGlobals "LookupError" = some none) (zTypeError : PySem.W.nsIn K mainGlobals "TypeError" = some none) (zArithmeticError : PySem.W.nsIn K mainGlobals "ArithmeticError" = some none) (zRuntimeError : PySem.W.nsIn K mainGlobals "RuntimeError" = some none) (zAttributeError : PySem.W.nsIn K mainGlobals "AttributeError" = some none) :
    ∃ fd : FuncData, Fun K "law" "law" sLaw fa fd ∧ (∀ (s : Shared) (u : Value), BindsTo s fd ⟨[u], []⟩ [("script", u)]) ∧
      ∀ (t : Shared) (base : Heap) (cdv : Value) (H : Hp) (a : Addr) (ns : List Int), K.In base → base.Ns mainGlobals mg → ns.length ≤ 63 → SqL K H a (ns.map V.int) → Room 5 (callerA.deeper (envOfC "law" (defScope sLaw) t.heap.objs.size fa cdv)) →
        ∃ r, PSs (cxOf CX0 l.prog w K mg base nLaw "law" (defScope sLaw) fa cdv callerA [] t H E0).nox (defBody sLaw) r ∧ r { nx := fun _ _ => False, rt := fun v _ => v = .bl true } (start nLaw [.ref a]) H := by
  have e := hfa.symm.trans (PySem.W.mg_of X G a29)
  cases e
  have F17 := fun_mk (st := sDune) l17 c17 k17
  have F18 := fun_mk (st := sDrift) l18 c18 k18
  have F19 := fun_mk (st := sPick) l19 c19 k19
  have F20 := fun_mk (st := sValue) l20 c20 k20
  have F21 := fun_mk (st := sFirst) l21 c21 k21
  have F22 := fun_mk (st := sNamed) l22 c22 k22
  have F23 := fun_mk (st := sLast) l23 c23 k23
  have F24 := fun_mk (st := sKinds) l24 c24 k24
  have F25 := fun_mk (st := sFields) l25 c25 k25
  have F26 := fun_mk (st := sRaises) l26 c26 k26
  have F27 := fun_mk (st := sRight) l27 c27 k27
  have F28 := fun_mk (st := sKept) l28 c28 k28
  have F29 := fun_mk (st := sLaw) l29 c29 k29
  have T1 : Blt mg := { int := PySem.W.mg_none_of X G zint, len := PySem.W.mg_none_of X G zlen, abs := PySem.W.mg_none_of X G zabs }
  have T2 : BltR mg := { isi := PySem.W.mg_none_of X G zisinstance, enum := PySem.W.mg_none_of X G zenumerate, repr := PySem.W.mg_none_of X G zrepr, int := PySem.W.mg_none_of X G zint, ve := PySem.W.mg_none_of X G zValueError, le := PySem.W.mg_none_of X G zLookupError, te := PySem.W.mg_none_of X G zTypeError, ae := PySem.W.mg_none_of X G zArithmeticError, re := PySem.W.mg_none_of X G zRuntimeError, at_ := PySem.W.mg_none_of X G zAttributeError }
  have L : Defs K mg (fun i => [f17, f18, f19, f20, f21, f22, f23, f24, f25, f26, f27, f28].getD (i - 17) 0) (fun i => [PySem.W.fnOf "_law_burr" "_law_burr" (defArgs sDune) (defBody sDune) (defScope sDune) .none kV17 dc17 pm17 an17 cd17 ct17, PySem.W.fnOf "_law_open" "_law_open" (defArgs sDrift) (defBody sDrift) (defScope sDrift) .none kV18 dc18 pm18 an18 cd18 ct18, PySem.W.fnOf "_law_pick" "_law_pick" (defArgs sPick) (defBody sPick) (defScope sPick) .none kV19 dc19 pm19 an19 cd19 ct19, PySem.W.fnOf "_law_value" "_law_value" (defArgs sValue) (defBody sValue) (defScope sValue) .none kV20 dc20 pm20 an20 cd20 ct20, PySem.W.fnOf "_law_first" "_law_first" (defArgs sFirst) (defBody sFirst) (defScope sFirst) .none kV21 dc21 pm21 an21 cd21 ct21, PySem.W.fnOf "_law_named" "_law_named" (defArgs sNamed) (defBody sNamed) (defScope sNamed) .none kV22 dc22 pm22 an22 cd22 ct22, PySem.W.fnOf "_law_last" "_law_last" (defArgs sLast) (defBody sLast) (defScope sLast) .none kV23 dc23 pm23 an23 cd23 ct23, PySem.W.fnOf "_law_kinds" "_law_kinds" (defArgs sKinds) (defBody sKinds) (defScope sKinds) .none kV24 dc24 pm24 an24 cd24 ct24, PySem.W.fnOf "_law_fields" "_law_fields" (defArgs sFields) (defBody sFields) (defScope sFields) .none kV25 dc25 pm25 an25 cd25 ct25, PySem.W.fnOf "_law_raises" "_law_raises" (defArgs sRaises) (defBody sRaises) (defScope sRaises) .none kV26 dc26 pm26 an26 cd26 ct26, PySem.W.fnOf "_law_right" "_law_right" (defArgs sRight) (defBody sRight) (defScope sRight) .none kV27 dc27 pm27 an27 cd27 ct27, PySem.W.fnOf "_law_is_kept" "_law_is_kept" (defArgs sKept) (defBody sKept) (defScope sKept) .none kV28 dc28 pm28 an28 cd28 ct28].getD (i - 17) (PySem.W.fnOf "law" "law" (defArgs sLaw) (defBody sLaw) (defScope sLaw) .none kV29 dc29 pm29 an29 cd29 ct29)) :=
    { F17 := F17, g17 := PySem.W.mg_of X G a17, F18 := F18, g18 := PySem.W.mg_of X G a18, F19 := F19, g19 := PySem.W.mg_of X G a19, F20 := F20, g20 := PySem.W.mg_of X G a20, F21 := F21, g21 := PySem.W.mg_of X G a21, F22 := F22, g22 := PySem.W.mg_of X G a22, F23 := F23, g23 := PySem.W.mg_of X G a23, F24 := F24, g24 := PySem.W.mg_of X G a24, F25 := F25, g25 := PySem.W.mg_of X G a25, F26 := F26, g26 := PySem.W.mg_of X G a26, F27 := F27, g27 := PySem.W.mg_of X G a27, F28 := F28, g28 := PySem.W.mg_of X G a28,
      b17 := F17.binds (ps := ["script"]) fun _ _ _ _ _ _ us hl => match us, hl with | [_], _ => rfl,
      b18 := F18.binds (ps := ["burr", "many"]) fun _ _ _ _ _ _ us hl => match us, hl with | [_, _], _ => rfl,
      b19 := F19.binds (ps := ["burr", "some"]) fun _ _ _ _ _ _ us hl => match us, hl with | [_, _], _ => rfl,
      b20 := F20.binds (ps := ["burr"]) fun _ _ _ _ _ _ us hl => match us, hl with | [_], _ => rfl,
      b21 := F21.binds (ps := ["at", "one"]) fun _ _ _ _ _ _ us hl => match us, hl with | [_, _], _ => rfl,
      b22 := F22.binds (ps := ["at", "one"]) fun _ _ _ _ _ _ us hl => match us, hl with | [_, _], _ => rfl,
      b23 := F23.binds (ps := ["at", "one", "other", "by_name"]) fun _ _ _ _ _ _ us hl => match us, hl with | [_, _, _, _], _ => rfl,
      b24 := F24.binds (ps := ["error"]) fun _ _ _ _ _ _ us hl => match us, hl with | [_], _ => rfl,
      b25 := F25.binds (ps := ["at", "error"]) fun _ _ _ _ _ _ us hl => match us, hl with | [_, _], _ => rfl,
      b26 := F26.binds (ps := ["at", "one", "other", "by_name"]) fun _ _ _ _ _ _ us hl => match us, hl with | [_, _, _, _], _ => rfl,
      b27 := F27.binds (ps := ["at", "one", "other", "by_name"]) fun _ _ _ _ _ _ us hl => match us, hl with | [_, _, _, _], _ => rfl,
      b28 := F28.binds (ps := ["at", "great", "by_name"]) fun _ _ _ _ _ _ us hl => match us, hl with | [_, _, _], _ => rfl }
  exact ⟨_, F29, fun s u => .of_eq rfl, fun t base cdv H a ns _ _ hl hS hr => law_body L T T1 T2 (PySem.W.mg_none_of X G zrange) hl hS hr⟩
end Bay
open PySem PySem.W PyProof.Rows
set_option maxRecDepth 100000 in
set_option maxHeartbeats 0 in
theorem PySem.Challenge.cw_baysout_k00_errors_keep_their_fields_holds : PySem.Challenge.rw_baysout_k00_errors_keep_their_fields.Holds := by
  w_on; o_law; k_head; (case hw => w_witness2)
  k_fill
  refine Bay.walk_law (l := PySem.Challenge.rw_baysout_k00_errors_keep_their_fields) (n := 63) (k := 5) (st := Bay.sLaw) (N := Bay.nLaw) rfl (by decide) rfl ⟨rfl, by decide, by decide⟩ Bay.scLaw (fun w h Y => PySem.W.kIn_of Y) ?F
  case F =>
    intro w mg fa h KX G hmg
    refine' Bay.all_mk (l := PySem.Challenge.rw_baysout_k00_errors_keep_their_fields) KX G hmg ?a17 ?l17 ?c17 ?k17 ?a18 ?l18 ?c18 ?k18 ?a19 ?l19 ?c19 ?k19 ?a20 ?l20 ?c20 ?k20 ?a21 ?l21 ?c21 ?k21 ?a22 ?l22 ?c22 ?k22 ?a23 ?l23 ?c23 ?k23 ?a24 ?l24 ?c24 ?k24 ?a25 ?l25 ?c25 ?k25 ?a26 ?l26 ?c26 ?k26 ?a27 ?l27 ?c27 ?k27 ?a28 ?l28 ?c28 ?k28 ?a29 ?l29 ?c29 ?k29
      (Bay.cls_mk (Bay.base_mk KX G ?aF ?lF ?op ?hn ?ht) (PySem.W.mg_none_of KX G ?zsuper) ?tp
        (Bay.ec_mk KX G ?ca0 ?cl0 ?cs0 ?cg0 ?ch0 ?cc0 ?ck0 ?lF ?fi ?ci0 ?ct0 ?cf0 ?cd0 ?ce0 ?cv0 ?cw0 ?cx0) ?n0a
        (Bay.ec_mk KX G ?ca1 ?cl1 ?cs1 ?cg1 ?ch1 ?cc1 ?ck1 ?lF ?fi ?ci1 ?ct1 ?cf1 ?cd1 ?ce1 ?cv1 ?cw1 ?cx1) ?n1a
        (Bay.ec_mk KX G ?ca2 ?cl2 ?cs2 ?cg2 ?ch2 ?cc2 ?ck2 ?lF ?fi ?ci2 ?ct2 ?cf2 ?cd2 ?ce2 ?cv2 ?cw2 ?cx2) ?n2a
        (Bay.ec_mk KX G ?ca3 ?cl3 ?cs3 ?cg3 ?ch3 ?cc3 ?ck3 ?lF ?fi ?ci3 ?ct3 ?cf3 ?cd3 ?ce3 ?cv3 ?cw3 ?cx3) ?n3a
        (Bay.ec_mk KX G ?ca4 ?cl4 ?cs4 ?cg4 ?ch4 ?cc4 ?ck4 ?lF ?fi ?ci4 ?ct4 ?cf4 ?cd4 ?ce4 ?cv4 ?cw4 ?cx4) ?n4a
        (Bay.ec_mk KX G ?ca5 ?cl5 ?cs5 ?cg5 ?ch5 ?cc5 ?ck5 ?lF ?fi ?ci5 ?ct5 ?cf5 ?cd5 ?ce5 ?cv5 ?cw5 ?cx5) ?n5a
        (Bay.ec_mk KX G ?ca6 ?cl6 ?cs6 ?cg6 ?ch6 ?cc6 ?ck6 ?lF ?fi ?ci6 ?ct6 ?cf6 ?cd6 ?ce6 ?cv6 ?cw6 ?cx6) ?n6a
        (Bay.ec_mk KX G ?ca7 ?cl7 ?cs7 ?cg7 ?ch7 ?cc7 ?ck7 ?lF ?fi ?ci7 ?ct7 ?cf7 ?cd7 ?ce7 ?cv7 ?cw7 ?cx7) ?n7a
        (Bay.ec_mk KX G ?ca8 ?cl8 ?cs8 ?cg8 ?ch8 ?cc8 ?ck8 ?lF ?fi ?ci8 ?ct8 ?cf8 ?cd8 ?ce8 ?cv8 ?cw8 ?cx8) ?n8a
        (Bay.ec_mk KX G ?ca9 ?cl9 ?cs9 ?cg9 ?ch9 ?cc9 ?ck9 ?lF ?fi ?ci9 ?ct9 ?cf9 ?cd9 ?ce9 ?cv9 ?cw9 ?cx9) ?n9a
        (Bay.ec_mk KX G ?ca10 ?cl10 ?cs10 ?cg10 ?ch10 ?cc10 ?ck10 ?lF ?fi ?ci10 ?ct10 ?cf10 ?cd10 ?ce10 ?cv10 ?cw10 ?cx10) ?n10a
        (Bay.ec_mk KX G ?ca11 ?cl11 ?cs11 ?cg11 ?ch11 ?cc11 ?ck11 ?lF ?fi ?ci11 ?ct11 ?cf11 ?cd11 ?ce11 ?cv11 ?cw11 ?cx11) ?n11a ?n11b
        (Bay.ec_mk KX G ?ca12 ?cl12 ?cs12 ?cg12 ?ch12 ?cc12 ?ck12 ?lF ?fi ?ci12 ?ct12 ?cf12 ?cd12 ?ce12 ?cv12 ?cw12 ?cx12) ?n12a ?n12b
        (Bay.ec_mk KX G ?ca13 ?cl13 ?cs13 ?cg13 ?ch13 ?cc13 ?ck13 ?lF ?fi ?ci13 ?ct13 ?cf13 ?cd13 ?ce13 ?cv13 ?cw13 ?cx13) ?n13a ?n13b
      ) ?zint ?zlen ?zabs ?zrange ?zisinstance ?zenumerate ?zrepr ?zValueError ?zLookupError ?zTypeError ?zArithmeticError ?zRuntimeError ?zAttributeError
    (case a17 => k_is); (case l17 => k_is); (case c17 => k_is); (case k17 => k_is)
    (case a18 => k_is); (case l18 => k_is); (case c18 => k_is); (case k18 => k_is)
    (case a19 => k_is); (case l19 => k_is); (case c19 => k_is); (case k19 => k_is)
    (case a20 => k_is); (case l20 => k_is); (case c20 => k_is); (case k20 => k_is)
    (case a21 => k_is); (case l21 => k_is); (case c21 => k_is); (case k21 => k_is)
    (case a22 => k_is); (case l22 => k_is); (case c22 => k_is); (case k22 => k_is)
    (case a23 => k_is); (case l23 => k_is); (case c23 => k_is); (case k23 => k_is)
    (case a24 => k_is); (case l24 => k_is); (case c24 => k_is); (case k24 => k_is)
    (case a25 => k_is); (case l25 => k_is); (case c25 => k_is); (case k25 => k_is)
    (case a26 => k_is); (case l26 => k_is); (case c26 => k_is); (case k26 => k_is)
    (case a27 => k_is); (case l27 => k_is); (case c27 => k_is); (case k27 => k_is)
    (case a28 => k_is); (case l28 => k_is); (case c28 => k_is); (case k28 => k_is)
    (case a29 => k_is); (case l29 => k_is); (case c29 => k_is); (case k29 => k_is)
    (case aF => k_is); (case lF => k_is); (case fi => k_is); (case op => k_is); (case hn => k_is); (case ht => k_is); (case zsuper => k_is); (case tp => rfl)
    (case ca0 => k_is); (case cl0 => k_is); (case cs0 => k_is); (case cg0 => k_is); (case ch0 => k_is); (case cc0 => k_is); (case ck0 => k_is); (case ci0 => k_is); (case ct0 => k_is); (case cf0 => k_is); (case cd0 => k_is); (case ce0 => k_is); (case cv0 => k_is); (case cw0 => rfl); (case cx0 => rfl); (case n0a => k_is)
    (case ca1 => k_is); (case cl1 => k_is); (case cs1 => k_is); (case cg1 => k_is); (case ch1 => k_is); (case cc1 => k_is); (case ck1 => k_is); (case ci1 => k_is); (case ct1 => k_is); (case cf1 => k_is); (case cd1 => k_is); (case ce1 => k_is); (case cv1 => k_is); (case cw1 => rfl); (case cx1 => rfl); (case n1a => k_is)
    (case ca2 => k_is); (case cl2 => k_is); (case cs2 => k_is); (case cg2 => k_is); (case ch2 => k_is); (case cc2 => k_is); (case ck2 => k_is); (case ci2 => k_is); (case ct2 => k_is); (case cf2 => k_is); (case cd2 => k_is); (case ce2 => k_is); (case cv2 => k_is); (case cw2 => rfl); (case cx2 => rfl); (case n2a => k_is)
    (case ca3 => k_is); (case cl3 => k_is); (case cs3 => k_is); (case cg3 => k_is); (case ch3 => k_is); (case cc3 => k_is); (case ck3 => k_is); (case ci3 => k_is); (case ct3 => k_is); (case cf3 => k_is); (case cd3 => k_is); (case ce3 => k_is); (case cv3 => k_is); (case cw3 => rfl); (case cx3 => rfl); (case n3a => k_is)
    (case ca4 => k_is); (case cl4 => k_is); (case cs4 => k_is); (case cg4 => k_is); (case ch4 => k_is); (case cc4 => k_is); (case ck4 => k_is); (case ci4 => k_is); (case ct4 => k_is); (case cf4 => k_is); (case cd4 => k_is); (case ce4 => k_is); (case cv4 => k_is); (case cw4 => rfl); (case cx4 => rfl); (case n4a => k_is)
    (case ca5 => k_is); (case cl5 => k_is); (case cs5 => k_is); (case cg5 => k_is); (case ch5 => k_is); (case cc5 => k_is); (case ck5 => k_is); (case ci5 => k_is); (case ct5 => k_is); (case cf5 => k_is); (case cd5 => k_is); (case ce5 => k_is); (case cv5 => k_is); (case cw5 => rfl); (case cx5 => rfl); (case n5a => k_is)
    (case ca6 => k_is); (case cl6 => k_is); (case cs6 => k_is); (case cg6 => k_is); (case ch6 => k_is); (case cc6 => k_is); (case ck6 => k_is); (case ci6 => k_is); (case ct6 => k_is); (case cf6 => k_is); (case cd6 => k_is); (case ce6 => k_is); (case cv6 => k_is); (case cw6 => rfl); (case cx6 => rfl); (case n6a => k_is)
    (case ca7 => k_is); (case cl7 => k_is); (case cs7 => k_is); (case cg7 => k_is); (case ch7 => k_is); (case cc7 => k_is); (case ck7 => k_is); (case ci7 => k_is); (case ct7 => k_is); (case cf7 => k_is); (case cd7 => k_is); (case ce7 => k_is); (case cv7 => k_is); (case cw7 => rfl); (case cx7 => rfl); (case n7a => k_is)
    (case ca8 => k_is); (case cl8 => k_is); (case cs8 => k_is); (case cg8 => k_is); (case ch8 => k_is); (case cc8 => k_is); (case ck8 => k_is); (case ci8 => k_is); (case ct8 => k_is); (case cf8 => k_is); (case cd8 => k_is); (case ce8 => k_is); (case cv8 => k_is); (case cw8 => rfl); (case cx8 => rfl); (case n8a => k_is)
    (case ca9 => k_is); (case cl9 => k_is); (case cs9 => k_is); (case cg9 => k_is); (case ch9 => k_is); (case cc9 => k_is); (case ck9 => k_is); (case ci9 => k_is); (case ct9 => k_is); (case cf9 => k_is); (case cd9 => k_is); (case ce9 => k_is); (case cv9 => k_is); (case cw9 => rfl); (case cx9 => rfl); (case n9a => k_is)
    (case ca10 => k_is); (case cl10 => k_is); (case cs10 => k_is); (case cg10 => k_is); (case ch10 => k_is); (case cc10 => k_is); (case ck10 => k_is); (case ci10 => k_is); (case ct10 => k_is); (case cf10 => k_is); (case cd10 => k_is); (case ce10 => k_is); (case cv10 => k_is); (case cw10 => rfl); (case cx10 => rfl); (case n10a => k_is)
    (case ca11 => k_is); (case cl11 => k_is); (case cs11 => k_is); (case cg11 => k_is); (case ch11 => k_is); (case cc11 => k_is); (case ck11 => k_is); (case ci11 => k_is); (case ct11 => k_is); (case cf11 => k_is); (case cd11 => k_is); (case ce11 => k_is); (case cv11 => k_is); (case cw11 => rfl); (case cx11 => rfl); (case n11a => k_is); (case n11b => k_is)
    (case ca12 => k_is); (case cl12 => k_is); (case cs12 => k_is); (case cg12 => k_is); (case ch12 => k_is); (case cc12 => k_is); (case ck12 => k_is); (case ci12 => k_is); (case ct12 => k_is); (case cf12 => k_is); (case cd12 => k_is); (case ce12 => k_is); (case cv12 => k_is); (case cw12 => rfl); (case cx12 => rfl); (case n12a => k_is); (case n12b => k_is)
    (case ca13 => k_is); (case cl13 => k_is); (case cs13 => k_is); (case cg13 => k_is); (case ch13 => k_is); (case cc13 => k_is); (case ck13 => k_is); (case ci13 => k_is); (case ct13 => k_is); (case cf13 => k_is); (case cd13 => k_is); (case ce13 => k_is); (case cv13 => k_is); (case cw13 => rfl); (case cx13 => rfl); (case n13a => k_is); (case n13b => k_is)
    (case zint => k_is); (case zlen => k_is); (case zabs => k_is); (case zrange => k_is); (case zisinstance => k_is); (case zenumerate => k_is); (case zrepr => k_is); (case zValueError => k_is); (case zLookupError => k_is); (case zTypeError => k_is); (case zArithmeticError => k_is); (case zRuntimeError => k_is); (case zAttributeError => k_is)
#print axioms PySem.Challenge.cw_baysout_k00_errors_keep_their_fields_holds
