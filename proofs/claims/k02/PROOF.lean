import PyProof.Rows.All
import Wide.All
import OpenK.AllK
import Wide.FinOn
import PyProof.EqAt
import PyProof.EqKinds
import PyProof.TupleCall
import PyProof.ReprRoads
import HandS.ForMost
import HandS.IsInst
import HandS.Defaults
import HandS.NoneIn
import HandS.Lambda
import HandS.Conv
import PySem.Challenge.RW_baysout_k02_integers_and_points
set_option Elab.async false
set_option linter.all false
set_option maxRecDepth 100000
set_option maxHeartbeats 2000000
/-! Tools of my own over the hand layer: repr of data, calls by keywords alone, the law's call where nothing is being shown, the script as a dune. -/
namespace Bay
open PySem PySem.Spec PyProof.Rows L2
/-! ### repr of a list or tuple of plain data, where no repr runs around -/
def rShow (K : PySem.W.Frag) : List V → Hp → VK → Prop := fun xs H Q => ∃ (p : Addr) (d : PyData), xs = [V.ref p] ∧ Dp K H (.ref p) d ∧
  d.showable = true ∧ d.hasDict = false ∧ d.depth ≤ 60 ∧ d.shown.length ≤ sizeLine ∧ Q (.str d.shown) H
theorem call_show {X : Cx} (gu : X.A.guards = some []) (un : X.A.units + 64 < cLine) : CallR X (.builtin "repr") (rShow X.K) := by
  intro pins s σ H xs us Q I r h
  obtain ⟨p, d, rfl, hd, sh, nd, dp, sz, q⟩ := h
  obtain ⟨u, rfl, ru⟩ := vals1 r
  cases (show u = Value.ref p from ru)
  obtain ⟨as, rd⟩ := Dp.reads I d _ _ hd rfl
  refine repr_of_reads' rd sh (PyData.noDict_hsm nd) gu (by omega) (fun _ _ e => e) (fun h' u tk kp => ?_) sz
  exact ⟨.str d.shown, H, I.kept kp, ⟨_, rfl⟩, q⟩
/-! ### a def called by keywords alone -/
theorem pe_callN0 {X : Cx} {CX : CXT} {k : Nat} {f : Addr} {fd : FuncData} {ps ks : List Str} {sp : Sp} {E : XK} {x : Str} {p pos : Pos} {kws : List Keyword} {tk : TA} {g : List Value → List Value → List Value} {gV : List V → List V → List V}
    (F : FnOk X.prog X.w X.K X.mg X.base CX k f fd ps sp) (room : Room k X.A) (gl : Gl X x) (at_ : X.mg x = some (.ref f)) (kp : PySem.W.keepIn X.K (.ref f) = true) (bd : KBn X.K fd ps 0 ks g gV) (ps_ : Passes CX X E) (words : PK X kws tk)
    (named : (backToKw pos (keywordEach kws X.env)).all (·.1.isSome) = true := by rfl) (names : (backToKw pos (keywordEach kws X.env)).filterMap (·.1) = ks := by rfl)
    (plain : ((backTo pos (starEach [] X.env)).any (·.1) || (backToKw pos (keywordEach kws X.env)).any (·.1.isNone)) = false := by rfl) (nodb : (x == ("__debug__" : Str)) = false := by decide) :
    PE X (.Call (.Name x p) [] kws pos) (tCallN 0 ks.length sp gV E tNil tk) := by
  constructor
  intro pins s σ H Q I h
  refine wpAny_Call_Name_kw (ld_glob I gl at_ (PySem.W.callWith_KW0 (h₀ := X.base) I.ok.mod.kin kp named ?_ plain) nodb)
  refine thn (words.run pos pins s σ H _ I h) ?_
  rintro ws t ⟨zs, G, J, rz, n1, n2, q⟩
  refine ⟨J.kIn, ?_⟩
  rw [names]
  exact run_fnN (us := []) (vs := []) F room bd ps_ J .nil rz n1 n2 q
/-- how keywords bind: h by «match ws, n with | [_, ..], _ => rfl» -/
theorem kbn_of {K : PySem.W.Frag} {x qual : Str} {st : Stmt} {f : Addr} {fd : FuncData} {ps ks : List Str} {gg : {α : Type} → List α → List α} (F : Fun K x qual st f fd)
    (bind : ∀ (kV doc pm : Value) (an : Option Addr) (cdv ct : Value) (ws : List Value), ws.length = ks.length → bindArgs (PySem.W.fnOf x qual (defArgs st) (defBody st) (defScope st) .none kV doc pm an cdv ct) ⟨[], ks.zip ws⟩ = pure (ps.zip (gg ws)))
    (rel : ∀ {zs : List V} {ws : List Value}, Vals zs ws → Vals (gg zs) (gg ws)) : KBn K fd ps 0 ks (fun _ ws => gg ws) (fun _ zs => gg zs) := by
  obtain ⟨oc, od, kV, doc, pm, an, cdv, ct, osl, rfl, lk, hcd⟩ := F.ex
  refine ⟨fun s us ws _ n1 n2 => ?_, fun _ r => rel r⟩
  cases us with
  | nil => exact .of_eq (bind kV doc pm an cdv ct ws n2)
  | cons u us => cases n1
/-! ### the law's def, run where nothing is around it -/
theorem run_law {P : Program} {w : World} {K : PySem.W.Frag} {mg mb : Str → Option Value} {fa a : Addr} {fd : FuncData} {st : Stmt} {N : List Str} {k : Nat} {t : Shared} {us : List Value} {ns : List Int}
    (F : Fun K "law" "law" st fa fd) (S : FnScope N ["script"] (defScope st)) (bnd : ∀ (s : Shared) (u : Value), BindsTo s fd ⟨[u], []⟩ [("script", u)])
    (kin : K.In t.heap) (glob : t.heap.Ns mainGlobals mg) (blt : t.heap.Ns builtinsNs mb) (bbb : ∀ x : Str, x ≠ "__name__" → mb x = bootBuiltins x) (lim : t.heap.NoLimit) (gens : t.gens = #[])
    (arg : t.heap.get? a = some { cls := .type "list", data := .seq us.toArray }) (nums : IntsAre us ns) (len : ns.length ≤ sizeLine) (room : Room (k + 1) callerA)
    (body : ∀ (base : Heap) (cdv : Value) (H : Hp), K.In base → base.Ns mainGlobals mg → SqL K H a (ns.map V.int) → Room k (callerA.deeper (envOfC "law" (defScope st) t.heap.objs.size fa cdv)) →
      ∃ r, PSs (cxOf CX0 P w K mg base N "law" (defScope st) fa cdv callerA [] t H E0).nox (defBody st) r ∧ r { nx := fun _ _ => False, rt := fun v _ => v = .bl true } (start N [.ref a]) H) :
    codeAny (model P w) callerA (.call (.ref fa) ⟨[.ref a], []⟩) (fun r s' => r = .ok (.ret (.bool true)) ∧ OldK t.heap s'.heap ∧ s'.os = t.os ∧ AllBare s'.gens) t := by
  have rv := vals_ints nums
  obtain ⟨oc, od, kV, doc, pm, an, cdv, ct, osl, rfl, lk, hcd⟩ := F.ex
  have go : ∀ H : Hp, (∀ b, H b = none ∨ (b = a ∧ ∃ o xs, H b = some (.frz o (.lst xs)))) → SqL K H a (ns.map V.int) → HOk P w H t.heap → (H a ≠ none → K.lookup a = none) →
      codeAny (model P w) callerA (.call (.ref fa) ⟨[.ref a], []⟩) (fun r s' => r = .ok (.ret (.bool true)) ∧ OldK t.heap s'.heap ∧ s'.os = t.os ∧ AllBare s'.gens) t := by
    intro H only sq hok apart
    have hid : ∀ {b : Addr} {o : Obj}, t.heap.get? b = some o → H b = none → (hidT t.heap H).get? b = some o := fun e n => hidT_get e n
    have free : ∀ {b : Addr} {o : Obj} {es : Array DictEntry} {ep : Nat}, t.heap.get? b = some o → o.data = .dict es ep → H b = none := by
      intro b o es ep e d
      rcases only b with z | ⟨rfl, _⟩
      · exact z
      · rw [arg] at e
        cases e
        exact nomatch (show Data.seq us.toArray _ = Data.dict es ep from d)
    have space : ∀ {b : Addr} {m : Str → Option Value}, t.heap.Ns b m → (hidT t.heap H).Ns b m := by
      rintro b m ⟨o, es, ep, e, d, r⟩
      exact ⟨o, es, ep, hid e (free e d), d, r⟩
    have kb : K.In (hidT t.heap H) := by
      intro b o e
      refine hid (kin b o e) ?_
      rcases only b with z | ⟨rfl, z⟩
      · exact z
      · obtain ⟨_, _, z⟩ := z
        rw [apart (by rw [z]; exact fun q => nomatch q)] at e
        cases e
    have md : Mod K mg (hidT t.heap H) := by
      refine ⟨kb, space glob, ⟨mb, space blt, bbb⟩, ?_⟩
      obtain ⟨mc, e1, e2⟩ := lim
      exact ⟨mc, space e1, e2⟩
    have env : Env0 P w K mg (hidT t.heap H) callerA [] t H :=
      { frames := rfl, mod := md, bs := fun b o e => of_hidT e, bsz := Nat.le_of_eq (hidT_size _ _), funs := trivial, frf := fun b hb => (nomatch (show b ∈ ([] : List Addr) from hb)), hok := hok, bare := .of_eq gens }
    refine codeAny_mono (LamX.run_ofS (CX := CX0) (Q := fun v _ => v = .bl true) (E := E0) (vs := [.ref a]) (us := [.ref a]) lk hcd S room env (bnd t (.ref a)) (.cons rfl .nil) rfl fun hr => ?_) ?_
    · obtain ⟨r, h1, h2⟩ := body _ cdv H kb (space glob) sq hr
      refine ⟨r, h1.nox, ?_⟩
      have e : (fun (_ : L2.St) (H' : Hp) => (V.non : V) = .bl true) = fun _ _ => False := by
        funext _ _
        exact propext ⟨(fun z => nomatch z), False.elim⟩
      show r { nx := fun (_ : L2.St) (H' : Hp) => (V.non : V) = .bl true, rt := fun v _ => v = .bl true } _ _
      rw [e]
      exact h2
    · intro r s' z
      cases r with
      | error e => exact (show False from z).elim
      | ok fl =>
        cases fl with
        | ret u =>
          obtain ⟨v, H', os, bare, un, hok', rl, q⟩ := z
          cases (show v = .bl true from q)
          cases (show u = Value.bool true from rl)
          refine ⟨rfl, OldK.of_keep fun b o e => ?_, os, bare⟩
          rcases only b with n | ⟨_, ob, xs, n⟩
          · exact un.keep b o e n (fun z => (nomatch (show b ∈ ([] : List Addr) from z))) (fun z => nomatch z)
          · obtain ⟨e1, _⟩ := hok b _ n
            obtain ⟨e2, _⟩ := hok' b _ (un.frzs b ob _ n)
            rw [e] at e1
            cases e1
            exact e2
        | next => exact (show False from z).elim
        | brk => exact (show False from z).elim
        | cont => exact (show False from z).elim
  cases hk : K.lookup a with
  | some o =>
    have e := kin a o hk
    rw [arg] at e
    cases e
    refine go (fun _ => none) (fun _ => .inl rfl) (.inr ⟨_, us.toArray, _, hk, rfl, rfl, rfl, by rw [List.size_toArray, nums.length]; exact len, by simpa using rv⟩) (fun b u z => nomatch (show (none : Option HO) = some u from z)) (fun z => (z rfl).elim)
  | none =>
    refine go (fun b => if b = a then some (.frz { cls := .type "list", data := .seq us.toArray } (.lst (ns.map V.int))) else none) (fun b => ?_) (.inl (.inr ⟨_, if_pos rfl⟩)) (fun b u z => ?_) fun _ => hk
    · by_cases c : b = a
      · exact .inr ⟨c, _, _, if_pos c⟩
      · exact .inl (if_neg c)
    · by_cases c : b = a
      · cases (if_pos c).symm.trans z
        subst c
        exact ⟨arg, by rw [List.length_map]; exact len, us, _, rv, arg⟩
      · cases (if_neg c).symm.trans z
/-- the goal that k_head leaves -/
theorem walk_law {l : PySem.W.OpenLaw} {n k : Nat} {q : Program} {loose : List Str} {XP : (Str → Option Value) → Heap → Prop} {YP : World → Heap → Prop} {d : DefRec} {K : Params → PySem.W.Frag} {st : Stmt} {N : List Str}
    (most : l.most = some n) (small : n ≤ sizeLine) (nodef : d.params.defaults = []) (room : Room (k + 1) callerA) (S : FnScope N ["script"] (defScope st)) (ky : ∀ (w : World) (h : Heap), YP w h → (K w.params).In h)
    (F : ∀ (w : World) (mg : Str → Option Value) (fa : Addr) (h : Heap), (K w.params).In h → h.Ns mainGlobals mg → mg d.name = some (.ref fa) →
      ∃ fd : FuncData, Fun (K w.params) "law" "law" st fa fd ∧ (∀ (s : Shared) (u : Value), BindsTo s fd ⟨[u], []⟩ [("script", u)]) ∧
        ∀ (t : Shared) (base : Heap) (cdv : Value) (H : Hp) (a : Addr) (ns : List Int), (K w.params).In base → base.Ns mainGlobals mg → ns.length ≤ n → SqL (K w.params) H a (ns.map V.int) → Room k (callerA.deeper (envOfC "law" (defScope st) t.heap.objs.size fa cdv)) →
          ∃ r, PSs (cxOf CX0 l.prog w (K w.params) mg base N "law" (defScope st) fa cdv callerA [] t H E0).nox (defBody st) r ∧ r { nx := fun _ _ => False, rt := fun v _ => v = .bl true } (start N [.ref a]) H) :
    PySem.W.WalkO q loose XP YP l.row.toRowW d [] (fun f vs => PySem.call f vs) := by
  refine Att.attach_call most nodef ?_
  intro w s₀ t mg mb fa o pm cd doc a vs ns G Y ho hd hcd hmg hobj hints hlen hg
  obtain ⟨fd, h1, h2, h3⟩ := F w mg fa _ (ky w _ Y) G.T.g hmg
  exact run_law h1 S h2 (ky w _ Y) G.T.g G.T.b G.T.builtins G.T.nolimit hg hobj hints (Nat.le_trans hlen small) room fun base cdv H kb nb sq hr => h3 t base cdv H a ns kb nb hlen sq hr
end Bay
set_option Elab.async false
set_option linter.all false
set_option maxRecDepth 100000
set_option maxHeartbeats 2000000
namespace Bay
open PySem PySem.Spec PyProof.Rows L2
def top (i : Nat) : Stmt := PySem.Challenge.pw_baysout_k02_integers_and_points.main.body.getD i (.Pass ⟨0, 0, 0, 0⟩)
/-! ### the dune: the script's first numbers, how many draws there were, what is left of a great number -/
structure Dn (H : Hp) (D C : Addr) (ms : List Int) (t l : Int) : Prop where
  d : H D = some (.lst [.ref C, .int t, .int l])
  c : H C = some (.lst (ms.map V.int))
  ne : C ≠ D
  n : ms.length ≤ 60
  t0 : 0 ≤ t
  l0 : 0 ≤ l
/-- all that stood stands, but for the object at D -/
def Kp (D : Addr) (H H' : Hp) : Prop := ∀ b o, H b = some o → b ≠ D → H' b = some o
theorem Kp.refl (D : Addr) (H : Hp) : Kp D H H := fun _ _ e _ => e
theorem Kp.trans {D : Addr} {H G F : Hp} (a : Kp D H G) (b : Kp D G F) : Kp D H F := fun c o e n => b c o (a c o e n) n
theorem Kp.same {D : Addr} {H G : Hp} (a : Same H G) : Kp D H G := fun c o e _ => a c o e
theorem Same.new {H : Hp} {p : Addr} {o : HO} (n : H p = none) : Same H (upd H p o) := fun b u e => by
  rw [upd_ne (ne_of_none e n)]
  exact e
theorem Dn.same {H G : Hp} {D C : Addr} {ms : List Int} {t l : Int} (a : Dn H D C ms t l) (s : Same H G) : Dn G D C ms t l := ⟨s _ _ a.d, s _ _ a.c, a.ne, a.n, a.t0, a.l0⟩
/-- the dune's own list is written -/
theorem Dn.put {H : Hp} {D C : Addr} {ms : List Int} {t l t' l' : Int} (a : Dn H D C ms t l) (h1 : 0 ≤ t') (h2 : 0 ≤ l') : Dn (upd H D (.lst [.ref C, .int t', .int l'])) D C ms t' l' :=
  ⟨upd_same, by rw [upd_ne a.ne]; exact a.c, a.ne, a.n, h1, h2⟩
theorem Kp.put {D : Addr} {H : Hp} {o : HO} : Kp D H (upd H D o) := fun b u e n => by
  rw [upd_ne n]
  exact e
theorem at0 {x y z : V} : atI [x, y, z] 0 = some x := rfl
theorem at1 {x y z : V} : atI [x, y, z] 1 = some y := rfl
theorem at2 {x y z : V} : atI [x, y, z] 2 = some z := rfl
theorem shaped_ints (ms : List Int) : SeqAt.shaped (.list (ms.map PyData.int)) = true := by
  have a : PyData.canLayAll0 (ms.map PyData.int) = true := by
    induction ms with
    | nil => rfl
    | cons m r ih =>
      show (PyData.canLay0 (.int m) && PyData.canLayAll0 (r.map PyData.int)) = true
      rw [ih]
      rfl
  have b : PyData.depthAll (ms.map PyData.int) ≤ 1 := by
    clear a
    induction ms with
    | nil => simp [PyData.depthAll]
    | cons m r ih =>
      have e : PyData.depthAll ((m :: r).map PyData.int) = max (PyData.depth (.int m)) (PyData.depthAll (r.map PyData.int)) := rfl
      have e2 : PyData.depth (.int m) ≤ 1 := by simp [PyData.depth]
      omega
  unfold SeqAt.shaped
  have c : PyData.canLay0 (.list (ms.map PyData.int)) = true := a
  rw [c]
  have d : PyData.depth (.list (ms.map PyData.int)) ≤ 64 := by
    simp only [PyData.depth]
    omega
  simpa using d
theorem dp_ints {K : PySem.W.Frag} {H : Hp} : ∀ ms : List Int, DpAll K H (ms.map V.int) (ms.map PyData.int)
  | [] => .nil
  | m :: r => .cons (.int m) (dp_ints r)
theorem eqv_nil (ms : List Int) : PyData.eqv (.list (ms.map PyData.int)) (.list []) = decide (ms = []) := by
  cases ms with
  | nil => rfl
  | cons m r => rfl
theorem in_list {ms : List Int} {t : Int} (h : ms ≠ []) (t0 : 0 ≤ t) : ∃ c, c ∈ ms ∧ atI (ms.map V.int) (t.fmod ((ms.map V.int).length : Int)) = some (.int c) := by
  have hl : 0 < ms.length := List.length_pos_iff.mpr h
  rw [List.length_map]
  have e : t.fmod (ms.length : Int) = ((t.toNat % ms.length : Nat) : Int) := by
    rw [Int.fmod_eq_emod_of_nonneg t (by omega), Int.natCast_emod, Int.toNat_of_nonneg t0]
  have lt : t.toNat % ms.length < ms.length := Nat.mod_lt _ hl
  refine ⟨ms[t.toNat % ms.length], List.getElem_mem lt, ?_⟩
  rw [e]
  refine atI_nat ?_
  rw [List.getElem?_map, List.getElem?_eq_getElem lt]
  rfl
theorem fmod_pos (x : Int) {y : Int} (h : 0 < y) : 0 ≤ x.fmod y ∧ x.fmod y < y := by
  rw [Int.fmod_eq_emod_of_nonneg x (by omega)]
  exact ⟨Int.emod_nonneg x (by omega), Int.emod_lt_of_pos x h⟩
theorem fdiv_pos {x y : Int} (h0 : 0 ≤ x) (h : 0 < y) : 0 ≤ x.fdiv y := by
  rw [Int.fdiv_eq_ediv_of_nonneg x (by omega)]
  exact Int.ediv_nonneg h0 (by omega)
theorem mul_in {x y X Y : Int} (a : 0 ≤ x) (b : x ≤ X) (c : 0 ≤ y) (d : y ≤ Y) : 0 ≤ x * y ∧ x * y ≤ X * Y :=
  ⟨Int.mul_nonneg a c, Int.mul_le_mul b d c (Int.le_trans a b)⟩
/-! ### a draw -/
/-- _law_drift(dune, many): a number below many; one draw more at most -/
def spDrift : Sp := fun vs H Q _ => ∃ (D C : Addr) (ms : List Int) (t l many : Int), vs = [.ref D, .int many] ∧ Dn H D C ms t l ∧ t ≤ 1000000 ∧ 0 < many ∧ many < 1073741824 ∧
  ∀ (H' : Hp) (t' l' r : Int), Dn H' D C ms t' l' → t' ≤ t + 1 → Kp D H H' → 0 ≤ r → r < many → Q (.int r) H'
abbrev sDrift : Stmt := top 6
theorem scDrift : FnScope ["dune", "many", "left", "turn", "cell", "mixed"] ["dune", "many"] (defScope sDrift) := ⟨rfl, rfl, rfl, by decide +kernel, rfl, by decide +kernel, by decide +kernel⟩
/-- the built-ins that the law's helpers use -/
structure Blt (mg : Str → Option Value) : Prop where
  int : mg "int" = none
  len : mg "len" = none
  abs : mg "abs" = none
section
variable {P : Program} {w : World} {K : PySem.W.Frag} {mg : Str → Option Value} {base : Heap}
theorem ok_drift {f : Addr} {fd : FuncData} (F : Fun K "_law_drift" "_law_drift" sDrift f fd) (T : Blt mg) : FnOk P w K mg base CX0 1 f fd ["dune", "many"] spDrift := by
  refine F.ok scDrift (fun vs H Q E h => ?_) (fun cdv A outer s H vs Q E hr h => ?_)
  · obtain ⟨D, C, ms, t, l, many, rfl, _⟩ := h
    rfl
  · obtain ⟨D, C, ms, t, l, many, rfl, dn, tb, m0, m1, q⟩ := h
    have nd := scDrift.nd
    refine ⟨_, pss_cons (ps_if (pt_cmpR op_gt (pe_ix ix_list (pv 0) pe_int (fun _ _ => rfl)) pe_int (nomark _))
        (pss_cons (ps_set (i := 2) nd rfl (.inl rfl) (pe_callTy call_int1 (by rfl) T.int (by decide +kernel) (pa_cons (pe_ix ix_list (pv 0) pe_int (fun _ _ => rfl)) pa_nil)))
          (pss_cons (ps_asg (pe_op op_fdivN (pv 2) (pv 1)) (pg_sub (pv 0) pe_int set_list))
            (pss_one (ps_ret (pe_op op_modN (pe_callTy call_int1 (by rfl) T.int (by decide +kernel) (pa_cons (pv 2) pa_nil)) (pv 1)))))) pss_nil)
      (pss_cons (ps_set (i := 3) nd rfl (.inl rfl) (pe_ix ix_list (pv 0) pe_int (fun _ _ => rfl)))
      (pss_cons (ps_asg (pe_op op_add (pv 3) pe_int) (pg_sub (pv 0) pe_int set_list))
      (pss_cons (ps_set (i := 4) nd rfl (.inl rfl) (pe_op op_add (pe_op op_mul pe_int (pv 3)) pe_int))
      (C8.pss_cut (ps_if (pt_cmpR (op_neD hr.units) (pe_ix ix_list (pv 0) pe_int (fun _ _ => rfl)) (pe_lst pa_nil) (nomark _))
        (pss_one (ps_set (i := 4) nd rfl (.inl rfl) (pe_ix ix_list (pe_ix ix_list (pv 0) pe_int (fun _ _ => rfl)) (pe_op op_modN (pe_callTy call_int1 (by rfl) T.int (by decide +kernel) (pa_cons (pv 3) pa_nil))
          (pe_callB call_len_seq (by rfl) T.len PySem.boot_len (pa_cons (pe_ix ix_list (pv 0) pe_int (fun _ _ => rfl)) pa_nil))) (fun _ _ => rfl)))) pss_nil)
      (C8.pss_cut (ps_if (PW.pt (pw_and (pt_cmpR op_lt (pv 3) (pe_callB call_len_seq (by rfl) T.len PySem.boot_len (pa_cons (pe_ix ix_list (pv 0) pe_int (fun _ _ => rfl)) pa_nil)) (nomark _))
            (pw_and1 (pt_cmpR op_ge (pe_callB call_abs (by rfl) T.abs (by decide +kernel) (pa_cons (pv 4) pa_nil)) (pe_op op_pow pe_int pe_int) (nomark _)))))
        (pss_cons (ps_set (i := 2) nd rfl (.inl rfl) (pe_op op_add (pe_op op_mul pe_int (pe_op op_sub (pe_callB call_abs (by rfl) T.abs (by decide +kernel) (pa_cons (pe_callTy call_int1 (by rfl) T.int (by decide +kernel) (pa_cons (pv 4) pa_nil)) pa_nil)) (pe_op op_pow pe_int pe_int)))
            (pe_callTy call_int1 (by rfl) T.int (by decide +kernel) (pa_cons (pe_cmpR op_lt (pv 4) pe_int (nomark _)) pa_nil))))
          (pss_cons (ps_asg (pe_op op_fdivN (pv 2) (pv 1)) (pg_sub (pv 0) pe_int set_list))
            (pss_one (ps_ret (pe_op op_modN (pe_callTy call_int1 (by rfl) T.int (by decide +kernel) (pa_cons (pv 2) pa_nil)) (pv 1)))))) pss_nil)
      (pss_cons (ps_set (i := 5) nd rfl (.inl rfl) (pe_op op_modN (pe_callTy call_int1 (by rfl) T.int (by decide +kernel) (pa_cons (pe_op op_pow (pe_op op_add (pe_op op_add (pe_op op_modN (pe_callTy call_int1 (by rfl) T.int (by decide +kernel) (pa_cons (pv 4) pa_nil)) pe_int) (pe_op op_mul pe_int (pv 3))) pe_int) pe_int) pa_nil)) pe_int))
      (pss_cons (ps_set (i := 5) nd rfl (.inl rfl) (pe_op op_modN (pe_callTy call_int1 (by rfl) T.int (by decide +kernel) (pa_cons (pe_op op_pow (pe_op op_add (pe_op op_add (pe_op op_mul (pv 5) (pe_op op_add (pe_op op_mul pe_int (pv 3)) pe_int)) (pe_op op_mul (pe_op op_mul pe_int (pv 3)) (pv 3))) pe_int) pe_int) pa_nil)) pe_int))
      (pss_one (ps_ret (pe_op op_modN (pe_callTy call_int1 (by rfl) T.int (by decide +kernel) (pa_cons (pe_op op_fdivN (pv 5) pe_int) pa_nil)) (pv 1))))))))))), ?_⟩
    -- if dune[2] > 0
    refine ⟨.ref D, rfl, D, _, _, .int l, rfl, rfl, SqL.of dn.d, at2, l, 0, rfl, rfl, _, rfl, ite2 (fun _ => ?_) (fun _ => ?_)⟩
    · refine ⟨.ref D, rfl, D, _, _, .int l, rfl, rfl, SqL.of dn.d, at2, .inl ⟨l, rfl, ?_⟩⟩
      refine ⟨.int l, rfl, .int many, rfl, l, many, rfl, rfl, ⟨by omega, by omega⟩, .ref D, rfl, D, _, _, 2, rfl, rfl, dn.d, rfl, ?_⟩
      refine ⟨.int l, rfl, .inl ⟨l, rfl, .int many, rfl, l, many, rfl, rfl, by omega, ?_⟩⟩
      have b := fmod_pos l m0
      exact q _ t _ _ (dn.put dn.t0 (fdiv_pos dn.l0 m0)) (by omega) Kp.put b.1 b.2
    · -- turn = dune[1]; dune[1] = turn + 1
      refine ⟨.ref D, rfl, D, _, _, .int t, rfl, rfl, SqL.of dn.d, at1, ?_⟩
      refine ⟨.int t, rfl, t, 1, rfl, rfl, .ref D, rfl, D, _, _, 1, rfl, rfl, dn.d, rfl, ?_⟩
      have dn1 : Dn (upd H D (.lst [.ref C, .int (t + 1), .int l])) D C ms (t + 1) l := dn.put (by have := dn.t0; omega) dn.l0
      have kp1 : Kp D H (upd H D (.lst [.ref C, .int (t + 1), .int l])) := Kp.put
      show tSeq _ _ _ _ (upd H D (.lst [.ref C, .int (t + 1), .int l]))
      generalize upd H D (.lst [.ref C, .int (t + 1), .int l]) = G at dn1 kp1
      have t0 : 0 ≤ t := dn.t0
      clear dn
      -- cell = a * turn + b
      refine ⟨.int t, rfl, _, t, rfl, rfl, .inl ⟨by decide, by decide⟩, _, _, rfl, rfl, ?_⟩
      -- if dune[0] != []: cell = dune[0][turn % len(dune[0])]
      refine ⟨fun σ J => ∃ c : Int, σ = [some (.ref D), some (.int many), none, some (.int t), some (.int c), none] ∧ Same G J, ?_, ?_⟩
      · refine ⟨.ref D, rfl, D, _, _, .ref C, rfl, rfl, SqL.of dn1.d, at0, Nat.zero_le _, fun p np => ?_⟩
        have dn2 := dn1.same (Same.new (o := .lst []) np)
        refine ⟨_, _, Dp.lst (SqL.of dn2.c) (dp_ints ms), Dp.lst (SqL.of upd_same) .nil, shaped_ints ms, rfl, _, rfl, ?_⟩
        rw [eqv_nil]
        by_cases e : ms = []
        · rw [decide_eq_true e]
          refine iteF ?_
          exact ⟨_, rfl, Same.new np⟩
        · rw [decide_eq_false e]
          refine iteT ?_
          obtain ⟨c, _, hc⟩ := in_list e t0
          refine ⟨.ref D, rfl, D, _, _, .ref C, rfl, rfl, SqL.of dn2.d, at0, .int t, rfl, .inl ⟨t, rfl, .ref D, rfl, D, _, _, .ref C, rfl, rfl, SqL.of dn2.d, at0, C, _, rfl, .inl (SqL.of dn2.c), t, _, rfl, rfl, ?_, C, _, _, .int c, rfl, rfl, SqL.of dn2.c, hc, ?_⟩⟩
          · rw [List.length_map]
            have := List.length_pos_iff.mpr e
            omega
          · exact ⟨c, rfl, Same.new np⟩
      · rintro σ J ⟨c, rfl, sm⟩
        have dn3 := dn1.same sm
        have kp3 : Kp D H J := kp1.trans (.same sm)
        clear dn1 kp1 sm
        have le : t + 1 ≤ t + 1 := Int.le_refl _
        -- if turn < len(dune[0]) and abs(cell) >= 10 ** 18
        refine ⟨fun σ J' => σ = [some (.ref D), some (.int many), none, some (.int t), some (.int c), none] ∧ J' = J, ?_, ?_⟩
        · refine ⟨.int t, rfl, .ref D, rfl, D, _, _, .ref C, rfl, rfl, SqL.of dn3.d, at0, C, _, rfl, .inl (SqL.of dn3.c), t, _, rfl, rfl, _, rfl, ?_⟩
          refine ite2 (fun _ => ?_) (fun _ => iteF ⟨rfl, rfl⟩)
          refine ⟨.int c, rfl, c, rfl, 10, 18, rfl, rfl, ⟨by decide, by decide, by decide⟩, _, _, rfl, rfl, _, rfl, ite2 (fun big => ?_) (fun _ => ⟨rfl, rfl⟩)⟩
          have big' := of_decide_eq_true big
          refine ⟨.int c, rfl, .inl ⟨c, rfl, c, rfl, 10, 18, rfl, rfl, ⟨by decide, by decide, by decide⟩, _, _, rfl, rfl, _, _, rfl, rfl, .inl ⟨by decide, by decide⟩, .int c, rfl, c, 0, rfl, rfl, .inr ⟨_, rfl, _, _, rfl, rfl, ?_⟩⟩⟩
          have g0 : (0 : Int) ≤ 2 * ((if c < 0 then -c else c) - 10 ^ (18 : Int).toNat) + (if decide (c < 0) = true then 1 else 0) := by
            have h1 : (0 : Int) ≤ (if c < 0 then -c else c) - 10 ^ (18 : Int).toNat := by omega
            have h2 : (0 : Int) ≤ (if decide (c < 0) = true then 1 else 0) := by split <;> omega
            omega
          show tSeq _ _ _ (List.set _ _ (some (.int (2 * ((if c < 0 then -c else c) - 10 ^ (18 : Int).toNat) + (if decide (c < 0) = true then 1 else 0))))) J
          generalize 2 * ((if c < 0 then -c else c) - 10 ^ (18 : Int).toNat) + (if decide (c < 0) = true then 1 else 0) = g at g0
          refine ⟨.int g, rfl, .int many, rfl, g, many, rfl, rfl, ⟨by omega, by omega⟩, .ref D, rfl, D, _, _, 2, rfl, rfl, dn3.d, rfl, ?_⟩
          refine ⟨.int g, rfl, .inl ⟨g, rfl, .int many, rfl, g, many, rfl, rfl, by omega, ?_⟩⟩
          have b := fmod_pos g m0
          exact q _ (t + 1) _ _ (dn3.put dn3.t0 (fdiv_pos g0 m0)) le (kp3.trans Kp.put) b.1 b.2
        · rintro σ J' ⟨rfl, rfl⟩
          refine ⟨.int c, rfl, .inl ⟨c, rfl, c, _, rfl, rfl, by (dsimp only; decide), .int t, rfl, _, t, rfl, rfl, .inl ⟨by decide, by decide⟩, _, _, rfl, rfl, _, _, rfl, rfl, _, 5, rfl, rfl, ⟨by decide, by decide, ?_⟩, .inl ⟨_, rfl, _, _, rfl, rfl, by (dsimp only; decide), ?_⟩⟩⟩
          · have b := fmod_pos c (show (0 : Int) < 2147483563 by decide)
            omega
          · have b := fmod_pos ((c.fmod 2147483563 + 86117 * t + 8821) ^ Int.toNat 5) (show (0 : Int) < 2147483587 by decide)
            show tSeq _ _ _ (List.set _ _ (some (.int (((c.fmod 2147483563 + 86117 * t + 8821) ^ Int.toNat 5).fmod 2147483587)))) J'
            generalize ((c.fmod 2147483563 + 86117 * t + 8821) ^ Int.toNat 5).fmod 2147483587 = y at b
            have n1 := mul_in b.1 (show y ≤ 2147483587 by omega) (show 0 ≤ 2 * t + 8821 by omega) (show 2 * t + 8821 ≤ 3000000 by omega)
            have n2 := mul_in (show 0 ≤ 112139 * t by omega) (show 112139 * t ≤ 112139000000 by omega) t0 tb
            refine ⟨.int y, rfl, .int t, rfl, _, t, rfl, rfl, .inl ⟨by decide, by decide⟩, _, _, rfl, rfl, y, _, rfl, rfl, .inl ⟨by omega, by omega⟩, .int t, rfl, _, t, rfl, rfl, .inl ⟨by decide, by decide⟩, .int t, rfl, _, t, rfl, rfl, .inr ⟨by omega, by omega⟩, _, _, rfl, rfl, _, _, rfl, rfl, _, 3, rfl, rfl, ⟨by decide, by decide, ?_⟩, .inl ⟨_, rfl, _, _, rfl, rfl, by (dsimp only; decide), ?_⟩⟩
            · omega
            · refine ⟨.int _, rfl, _, 64, rfl, rfl, ⟨by decide, by decide⟩, .inl ⟨_, rfl, .int many, rfl, _, many, rfl, rfl, by (dsimp only; omega), ?_⟩⟩
              have b2 := fmod_pos (((y * (2 * t + 8821) + 112139 * t * t + 86117) ^ Int.toNat 3).fmod 2147483549 |>.fdiv 64) m0
              exact q _ (t + 1) _ _ dn3 le kp3 b2.1 b2.2
end
end Bay
set_option Elab.async false
set_option linter.all false
set_option maxRecDepth 100000
set_option maxHeartbeats 2000000
namespace Bay
open PySem PySem.Spec PyProof.Rows L2
theorem Dn.apart {H : Hp} {D C p : Addr} {ms : List Int} {t l : Int} (a : Dn H D C ms t l) (np : H p = none) : p ≠ D := fun e => by
  rw [e, a.d] at np
  cases np
section
variable {P : Program} {w : World} {K : PySem.W.Frag} {mg : Str → Option Value} {base : Heap}
/-! ### a pick -/
def spPick : Sp := fun vs H Q _ => ∃ (D C p : Addr) (ms : List Int) (t l : Int) (xs : List V), vs = [.ref D, .ref p] ∧ Dn H D C ms t l ∧ t ≤ 1000000 ∧ H p = some (.lst xs) ∧ p ≠ D ∧ 0 < xs.length ∧ xs.length ≤ 1000 ∧
  ∀ (H' : Hp) (t' l' : Int) (x : V), Dn H' D C ms t' l' → t' ≤ t + 1 → Kp D H H' → x ∈ xs → Q x H'
abbrev sPick : Stmt := top 7
theorem scPick : FnScope ["dune", "some"] ["dune", "some"] (defScope sPick) := ⟨rfl, rfl, rfl, by decide +kernel, rfl, by decide +kernel, by decide +kernel⟩
theorem ok_pick {f fD : Addr} {fd fdD : FuncData} (F : Fun K "_law_pick" "_law_pick" sPick f fd) (FD : Fun K "_law_drift" "_law_drift" sDrift fD fdD) (T : Blt mg) (gD : mg "_law_drift" = some (.ref fD)) (bD : Binds K fdD ["dune", "many"] []) :
    FnOk P w K mg base CX0 2 f fd ["dune", "some"] spPick := by
  have GD : FnOk P w K mg base CX0 1 fD fdD ["dune", "many"] spDrift := ok_drift FD T
  refine F.ok scPick (fun vs H Q E h => ?_) (fun cdv A outer s H vs Q E hr h => ?_)
  · obtain ⟨D, C, p, ms, t, l, xs, rfl, _⟩ := h
    rfl
  · obtain ⟨D, C, p, ms, t, l, xs, rfl, dn, tb, hp, pD, n0, n1, q⟩ := h
    refine ⟨_, pss_one (ps_ret (pe_ix ix_list (pv 1) (pe_call GD hr (by rfl) gD FD.kp bD .nil pass0 (pa_cons (pv 0) (pa_cons (pe_callB call_len_seq (by rfl) T.len PySem.boot_len (pa_cons (pv 1) pa_nil)) pa_nil))) (fun _ _ => rfl))), ?_⟩
    refine ⟨.ref p, rfl, .ref D, rfl, .ref p, rfl, p, xs, rfl, .inl (SqL.of hp), D, C, ms, t, l, _, rfl, dn, tb, by omega, by omega, fun H' t' l' r dn' tt kp r0 r1 => ?_⟩
    have lt : r.toNat < xs.length := by omega
    refine ⟨p, xs, r, xs[r.toNat], rfl, rfl, SqL.of (kp _ _ hp pD), at_of (j := r.toNat) (by omega) (List.getElem?_eq_getElem lt), ?_⟩
    exact q H' t' l' _ dn' tt kp (List.getElem_mem lt)
/-! ### the dune is made -/
def spDune (K : PySem.W.Frag) : Sp := fun vs H Q _ => ∃ (a : Addr) (ns : List Int), vs = [.ref a] ∧ SqL K H a (ns.map V.int) ∧ ns.length ≤ 63 ∧
  ∀ (H' : Hp) (D C : Addr) (ms : List Int), Same H H' → H D = none → Dn H' D C ms 0 0 → Q (.ref D) H'
abbrev sDune : Stmt := top 5
theorem scDune : FnScope ["script", "cell"] ["script"] (defScope sDune) := ⟨rfl, rfl, rfl, by decide +kernel, rfl, by decide +kernel, by decide +kernel⟩
theorem cut60 (ns : List Int) : cutV (ns.map V.int) none (some 60) = (ns.take 60).map V.int := by
  unfold cutV
  rw [show HT.sIx (ns.map V.int).length (ns.map V.int).length (some 60) = min 60 (ns.map V.int).length from HT.sIx_nat _ _ 60, HT.sIx_none, List.length_map]
  rw [List.drop_zero, Nat.sub_zero, ← List.map_take]
  congr 1
  rcases Nat.le_total 60 ns.length with h | h
  · rw [Nat.min_eq_left h]
  · rw [Nat.min_eq_right h, List.take_of_length_le h, List.take_of_length_le (Nat.le_refl _)]
theorem ok_dune {f : Addr} {fd : FuncData} (F : Fun K "_law_dune" "_law_dune" sDune f fd) (T : Blt mg) : FnOk P w K mg base CX0 1 f fd ["script"] (spDune K) := by
  refine F.ok scDune (fun vs H Q E h => ?_) (fun cdv A outer s H vs Q E hr h => ?_)
  · obtain ⟨a, ns, rfl, _⟩ := h
    rfl
  · obtain ⟨a, ns, rfl, hS, hn, q⟩ := h
    have nd := scDune.nd
    refine ⟨_, pss_one (ps_ret (pe_lst (pa_cons (pe_lc (own := [("cell", 1)]) (g := gName 1) (tt := tYes) rfl nd (pi_list (pe_slice sl_list (pv 0) po_none (po_some pe_int))) (blkOk_by (N := ["script", "cell"]) (sc := defScope sDune) (by decide +kernel))
      (fun _ _ _ _ _ => pg_name (i := 1) nd rfl (Or.inl rfl)) (fun _ _ _ _ _ => pts_nil) (fun _ _ _ _ _ => pe_callTy call_int1 (by rfl) T.int (by decide +kernel) (pa_cons (pv 1) pa_nil))) (pa_cons pe_int (pa_cons pe_int pa_nil))))), ?_⟩
    refine ⟨.ref a, rfl, 60, rfl, a, ns.map V.int, rfl, hS, fun c nc => ?_⟩
    rw [cut60]
    have s1 : Same H (upd H c (.lst ((ns.take 60).map V.int))) := Same.new nc
    have e1 : (upd H c (.lst ((ns.take 60).map V.int))) c = some (.lst ((ns.take 60).map V.int)) := upd_same
    generalize upd H c (.lst ((ns.take 60).map V.int)) = G at s1 e1
    generalize hms : ns.take 60 = ms at e1
    have hl : ms.length ≤ 60 := by
      rw [← hms, List.length_take]
      omega
    refine ⟨c, rfl, ⟨_, SqL.of e1⟩, fun L nL => ?_⟩
    have cL : c ≠ L := ne_of_none e1 nL
    refine lc_list (K := K) (a := c) (xs := ms.map V.int) (fun i H' => Same G H' ∧ H' L = some (.lst ((ms.take i).map V.int))) ⟨Same.new nL, upd_same⟩ (fun i H' _ z => SqL.of (z.1 _ _ e1)) ?_ ?_
    · rintro i x H' hx ⟨sm, hL⟩
      rw [List.getElem?_map] at hx
      cases e : ms[i]? with
      | none =>
        rw [e] at hx
        cases hx
      | some z =>
        rw [e] at hx
        obtain rfl : V.int z = x := Option.some.inj hx
        refine ⟨rfl, .int z, rfl, .inl ⟨z, rfl, _, hL, ?_, ?_, ?_⟩⟩
        · rw [List.length_map, List.length_take]
          exact small1000 (by omega)
        · intro b o eb
          have eb' := sm b o eb
          by_cases hb : b = L
          · subst hb
            rw [nL] at eb
            cases eb
          · rw [upd_ne hb]
            exact eb'
        · rw [upd_same, List.take_add_one, e, List.map_append]
          rfl
    · rintro H' ⟨sm, hL⟩
      rw [List.length_map, List.take_length] at hL
      refine ⟨(by show 3 ≤ sizeLine; decide), fun D nD => ?_⟩
      have LD : L ≠ D := ne_of_none hL nD
      refine q _ D L ms ((s1.trans sm).trans (Same.new nD)) ?_ ⟨upd_same, by rw [upd_ne LD]; exact hL, LD, hl, by omega, by omega⟩
      exact (s1.trans sm).free nD
/-! ### an integer -/
def spInteger : Sp := fun vs H Q _ => ∃ (D C : Addr) (ms : List Int) (t l : Int), vs = [.ref D] ∧ Dn H D C ms t l ∧ t + 4 ≤ 1000000 ∧
  ∀ (H' : Hp) (t' l' i : Int), Dn H' D C ms t' l' → t' ≤ t + 4 → Kp D H H' → Q (.int i) H'
abbrev sInteger : Stmt := top 8
theorem scInteger : FnScope ["dune"] ["dune"] (defScope sInteger) := ⟨rfl, rfl, rfl, by decide +kernel, rfl, by decide +kernel, by decide +kernel⟩
theorem ok_integer {f fD fP : Addr} {fd fdD fdP : FuncData} (F : Fun K "_law_integer" "_law_integer" sInteger f fd) (FD : Fun K "_law_drift" "_law_drift" sDrift fD fdD) (FP : Fun K "_law_pick" "_law_pick" sPick fP fdP) (T : Blt mg)
    (gD : mg "_law_drift" = some (.ref fD)) (bD : Binds K fdD ["dune", "many"] []) (gP : mg "_law_pick" = some (.ref fP)) (bP : Binds K fdP ["dune", "some"] []) : FnOk P w K mg base CX0 3 f fd ["dune"] spInteger := by
  have GD : FnOk P w K mg base CX0 1 fD fdD ["dune", "many"] spDrift := ok_drift FD T
  have GP : FnOk P w K mg base CX0 2 fP fdP ["dune", "some"] spPick := ok_pick FP FD T gD bD
  refine F.ok scInteger (fun vs H Q E h => ?_) (fun cdv A outer s H vs Q E hr h => ?_)
  · obtain ⟨D, C, ms, t, l, rfl, _⟩ := h
    rfl
  · obtain ⟨D, C, ms, t, l, rfl, dn, tb, q⟩ := h
    have hr1 : Room 1 _ := hr.mono (by decide)
    refine ⟨_, pss_one (ps_ret (pe_call GP hr (by rfl) gP FP.kp bP .nil pass0 (pa_cons (pv 0) (pa_cons (pe_lst (pa_cons pe_int (pa_cons pe_int (pa_cons (pe_un un_neg pe_int) (pa_cons pe_int
      (pa_cons (pe_call GD hr1 (by rfl) gD FD.kp bD .nil pass0 (pa_cons (pv 0) (pa_cons pe_int pa_nil)))
      (pa_cons (pe_un un_neg (pe_call GD hr1 (by rfl) gD FD.kp bD .nil pass0 (pa_cons (pv 0) (pa_cons (pe_op op_pow pe_int pe_int) pa_nil))))
      (pa_cons (pe_op op_add (pe_op op_pow pe_int pe_int) (pe_call GD hr1 (by rfl) gD FD.kp bD .nil pass0 (pa_cons (pv 0) (pa_cons pe_int pa_nil))))
      (pa_cons (pe_un un_neg (pe_op op_pow pe_int pe_int)) pa_nil))))))))) pa_nil)))), ?_⟩
    refine ⟨.ref D, rfl, 1, rfl, .ref D, rfl, D, C, ms, t, l, 100, rfl, dn, by omega, by omega, by omega, fun H1 t1 l1 r1 dn1 tt1 kp1 _ _ => ?_⟩
    refine ⟨.ref D, rfl, 10, 9, rfl, rfl, ⟨by decide, by decide, by decide⟩, D, C, ms, t1, l1, _, rfl, dn1, by omega, by decide, by decide, fun H2 t2 l2 r2 dn2 tt2 kp2 _ _ => ⟨r2, rfl, ?_⟩⟩
    refine ⟨10, 25, rfl, rfl, ⟨by decide, by decide, by decide⟩, .ref D, rfl, D, C, ms, t2, l2, 9, rfl, dn2, by omega, by omega, by omega, fun H3 t3 l3 r3 dn3 tt3 kp3 _ _ => ⟨_, _, rfl, rfl, ?_⟩⟩
    refine ⟨10, 25, rfl, rfl, ⟨by decide, by decide, by decide⟩, _, rfl, (by show 8 ≤ sizeLine; decide), fun p np => ?_⟩
    refine ⟨D, C, p, ms, t3, l3, _, rfl, dn3.same (Same.new np), by omega, upd_same, dn3.apart np, (by show 0 < 8; decide), (by show 8 ≤ 1000; decide), fun H4 t4 l4 x dn4 tt4 kp4 hx => ?_⟩
    have kp : Kp D H H4 := ((kp1.trans kp2).trans kp3).trans ((Kp.same (Same.new np)).trans kp4)
    have : ∃ i, x = V.int i := by
      simp only [List.mem_cons, List.not_mem_nil, or_false] at hx
      rcases hx with e | e | e | e | e | e | e | e <;> exact ⟨_, e⟩
    obtain ⟨i, rfl⟩ := this
    exact q H4 t4 l4 i dn4 (by omega) kp
end
end Bay
set_option Elab.async false
set_option linter.all false
set_option maxRecDepth 100000
set_option maxHeartbeats 2000000
namespace Bay
open PySem PySem.Spec PyProof.Rows L2
/-! ### the values that are drawn: none of them is the dune -/
inductive Gd (N : Addr → Prop) (H : Hp) : V → Prop
  | non : Gd N H .non
  | bl (b : Bool) : Gd N H (.bl b)
  | int (i : Int) : Gd N H (.int i)
  | str (x : Str) : Gd N H (.str x)
  | lst {a : Addr} {xs : List V} : N a → H a = some (.lst xs) → (∀ x ∈ xs, Gd N H x) → Gd N H (.ref a)
  | tup {a : Addr} {xs : List V} : N a → H a = some (.tup xs) → (∀ x ∈ xs, Gd N H x) → Gd N H (.ref a)
  | dct {a : Addr} {kvs : List (Key × V)} : N a → H a = some (.dK kvs) → Gd N H (.ref a)
theorem Gd.imp {N M : Addr → Prop} {H H' : Hp} {v : V} (g : Gd N H v) (w : ∀ b, N b → M b) (k : ∀ b o, H b = some o → N b → H' b = some o) : Gd M H' v := by
  induction g with
  | non => exact .non
  | bl b => exact .bl b
  | int i => exact .int i
  | str x => exact .str x
  | lst n e _ ih => exact .lst (w _ n) (k _ _ e n) ih
  | tup n e _ ih => exact .tup (w _ n) (k _ _ e n) ih
  | dct n e => exact .dct (w _ n) (k _ _ e n)
theorem Kp.free {D a : Addr} {H H' : Hp} (k : Kp D H H') (n : a ≠ D) (e : H' a = none) : H a = none := by
  cases q : H a with
  | none => rfl
  | some o =>
    rw [k a o q n] at e
    cases e
section
variable {P : Program} {w : World} {K : PySem.W.Frag} {mg : Str → Option Value} {base : Heap}
/-- draws for a value of a depth -/
def cost : Nat → Int
  | 0 => 5
  | d + 1 => 2 + 3 * cost d
def spValue (d : Nat) : Sp := fun vs H Q _ => ∃ (D C : Addr) (ms : List Int) (t l : Int), vs = [.ref D, .int d] ∧ Dn H D C ms t l ∧ t + cost d ≤ 1000000 ∧
  ∀ (H' : Hp) (t' l' : Int) (v : V), Dn H' D C ms t' l' → t' ≤ t + cost d → Kp D H H' → Gd (fun a => H a = none) H' v → Q v H'
/-- the promise of the def's own calls -/
def spInner : Nat → Sp
  | 0 => fun _ _ _ _ => False
  | d + 1 => spValue d
theorem cost_pos : ∀ d, 5 ≤ cost d
  | 0 => by decide
  | d + 1 => by
    have := cost_pos d
    show 5 ≤ 2 + 3 * cost d
    omega
abbrev sValue : Stmt := top 9
theorem scValue : FnScope ["dune", "deep", "way", "some", "turn"] ["dune", "deep"] (defScope sValue) := ⟨rfl, rfl, rfl, by decide +kernel, rfl, by decide +kernel, by decide +kernel⟩
structure Blt2 (mg : Str → Option Value) : Prop extends Blt mg where
  range : mg "range" = none
  tuple : mg "tuple" = none
theorem value_step {f fD fP fI : Addr} {fd fdD fdP fdI : FuncData} {k d : Nat} (k3 : 3 ≤ k) (F : Fun K "_law_value" "_law_value" sValue f fd) (FD : Fun K "_law_drift" "_law_drift" sDrift fD fdD) (FP : Fun K "_law_pick" "_law_pick" sPick fP fdP)
    (FI : Fun K "_law_integer" "_law_integer" sInteger fI fdI) (T : Blt2 mg)
    (gD : mg "_law_drift" = some (.ref fD)) (bD : Binds K fdD ["dune", "many"] []) (gP : mg "_law_pick" = some (.ref fP)) (bP : Binds K fdP ["dune", "some"] []) (gI : mg "_law_integer" = some (.ref fI)) (bI : Binds K fdI ["dune"] [])
    (gV : mg "_law_value" = some (.ref f)) (bV : Binds K fd ["dune", "deep"] []) (R : FnOk P w K mg base CX0 k f fd ["dune", "deep"] (spInner d)) : FnOk P w K mg base CX0 (k + 1) f fd ["dune", "deep"] (spValue d) := by
  have GD : FnOk P w K mg base CX0 1 fD fdD ["dune", "many"] spDrift := ok_drift FD T.toBlt
  have GP : FnOk P w K mg base CX0 2 fP fdP ["dune", "some"] spPick := ok_pick FP FD T.toBlt gD bD
  have GI : FnOk P w K mg base CX0 3 fI fdI ["dune"] spInteger := ok_integer FI FD FP T.toBlt gD bD gP bP
  refine F.ok scValue (fun vs H Q E h => ?_) (fun cdv A outer s H vs Q E hr h => ?_)
  · obtain ⟨D, C, ms, t, l, rfl, _⟩ := h
    rfl
  · obtain ⟨D, C, ms, t, l, rfl, dn, tb, q⟩ := h
    have hr1 : Room 1 _ := hr.mono (by omega)
    have hr2 : Room 2 _ := hr.mono (by omega)
    have hr3 : Room 3 _ := hr.mono (by omega)
    have nd := scValue.nd
    have cp := cost_pos d
    refine ⟨_, pss_cons (ps_set (i := 2) nd rfl (.inl rfl) (pe_call GD hr1 (by rfl) gD FD.kp bD .nil pass0 (pa_cons (pv 0) (pa_cons pe_int pa_nil))))
      (pss_cons (ps_if (PW.pt (pw_or (pt_cmpR op_lt (pv 2) pe_int (nomark _)) (pw_or1 (pt_cmpR op_eq (pv 1) pe_int (nomark _))))) (pss_one (ps_ret (pe_call GI hr3 (by rfl) gI FI.kp bI .nil pass0 (pa_cons (pv 0) pa_nil)))) pss_nil)
      (pss_cons (ps_if (pt_cmpR op_eq (pv 2) pe_int (nomark _)) (pss_one (ps_ret (pe_call GP hr2 (by rfl) gP FP.kp bP .nil pass0 (pa_cons (pv 0) (pa_cons (pe_lst
          (pa_cons pe_non (pa_cons pe_bl (pa_cons pe_bl (pa_cons pe_str (pa_cons pe_str (pa_cons pe_str (pa_cons pe_dnewK (pa_cons (pe_tup pa_nil) (pa_cons (pe_lst pa_nil)
          (pa_cons (pe_disp (pps_cons pe_int pe_int pps_nil) (by rfl) (by rfl) (fun z => by cases z) (by decide)) (pa_cons (pe_tup (pa_cons pe_int (pa_cons pe_int (pa_cons pe_int pa_nil)))) pa_nil)))))))))))) pa_nil))))) pss_nil)
      (pss_cons (ps_setLc (i := 3) (own := [("turn", 4)]) (g := gName 4) (tt := tYes) rfl nd rfl rfl (sw_true rfl rfl rfl (by decide +kernel))
          (pi_range1 (by rfl) T.range (pa_cons (pe_call GP hr2 (by rfl) gP FP.kp bP .nil pass0 (pa_cons (pv 0) (pa_cons (pe_lst (pa_cons pe_int (pa_cons pe_int (pa_cons pe_int (pa_cons pe_int (pa_cons pe_int pa_nil)))))) pa_nil))) pa_nil))
          (blkOk_by (N := ["dune", "deep", "way", "some", "turn"]) (sc := defScope sValue) (by decide +kernel)) (fun _ _ _ _ _ => pg_name (i := 4) nd rfl (Or.inl rfl)) (fun _ _ _ _ _ => pts_nil)
          (fun _ _ _ _ _ => pe_call R (hr.mono (Nat.le_refl _)) (by rfl) gV F.kp bV .nil pass0 (pa_cons (pv 0) (pa_cons (pe_op op_sub (pv 1) pe_int) pa_nil))))
      (pss_one (ps_ret (pe_ifExp (pt_cmpR op_lt (pv 2) pe_int (nomark _)) (pv 3) (pe_callTy call_tuple_of (by rfl) T.tuple (by decide +kernel) (pa_cons (pv 3) pa_nil)))))))), ?_⟩
    -- way = a draw
    refine ⟨.ref D, rfl, D, C, ms, t, l, 8, rfl, dn, by omega, by omega, by omega, fun H1 t1 l1 y dn1 tt1 kp1 y0 y1 => ?_⟩
    -- way < 4 or deep == 0
    refine ⟨.int y, rfl, y, 4, rfl, rfl, _, rfl, ?_⟩
    have direct : ∀ G : Hp, G = H1 → tRet (tCall spInteger [] E0 (tCons (tVar 0) tNil)) { nx := fun _ H' => Q .non H', rt := Q } [some (.ref D), some (.int d), some (.int y), none, none] G := by
      rintro G rfl
      refine ⟨.ref D, rfl, D, C, ms, t1, l1, rfl, dn1, by omega, fun H2 t2 l2 i dn2 tt2 kp2 => ?_⟩
      exact q H2 t2 l2 _ dn2 (by omega) (kp1.trans kp2) (.int i)
    refine ite2 (fun _ => direct _ rfl) (fun _ => ?_)
    refine ⟨.int d, rfl, rfl, _, rfl, ite2 (fun _ => direct _ rfl) (fun d0 => ?_)⟩
    -- way == 4
    refine ⟨.int y, rfl, rfl, _, rfl, ite2 (fun _ => ?_) (fun _ => ?_)⟩
    · refine ⟨.ref D, rfl, fun p1 np1 => ?_⟩
      refine ⟨Nat.zero_le _, fun p2 np2 => ⟨Nat.zero_le _, fun p3 np3 => ?_⟩⟩
      intro p4 np4
      refine ⟨upd_same, [(.inl 0, .int 1)], rfl, by decide, ?_⟩
      have e4 : (upd (upd (upd (upd (upd H1 p1 (.dK [])) p2 (.tup [])) p3 (.lst [])) p4 (.dK [])) p4 (.dK (mergeK [] [(.inl 0, .int 1)]))) p4 = some (.dK (mergeK [] [(.inl 0, .int 1)])) := upd_same
      have s1 : Same H1 (upd H1 p1 (.dK [])) := Same.new np1
      have s2 : Same (upd H1 p1 (.dK [])) (upd (upd H1 p1 (.dK [])) p2 (.tup [])) := Same.new np2
      have s3 : Same (upd (upd H1 p1 (.dK [])) p2 (.tup [])) (upd (upd (upd H1 p1 (.dK [])) p2 (.tup [])) p3 (.lst [])) := Same.new np3
      have s4 : Same (upd (upd (upd H1 p1 (.dK [])) p2 (.tup [])) p3 (.lst [])) (upd (upd (upd (upd (upd H1 p1 (.dK [])) p2 (.tup [])) p3 (.lst [])) p4 (.dK [])) p4 (.dK (mergeK [] [(.inl 0, .int 1)]))) := by
        rw [upd_upd]
        exact Same.new np4
      generalize upd (upd (upd (upd (upd H1 p1 (.dK [])) p2 (.tup [])) p3 (.lst [])) p4 (.dK [])) p4 (.dK (mergeK [] [(.inl 0, .int 1)])) = G4 at e4 s4
      have sm : Same H1 G4 := ((s1.trans s2).trans s3).trans s4
      have e1 : G4 p1 = some (.dK []) := ((s2.trans s3).trans s4) _ _ upd_same
      have e2 : G4 p2 = some (.tup []) := (s3.trans s4) _ _ upd_same
      have e3 : G4 p3 = some (.lst []) := s4 _ _ upd_same
      have a1 := dn1.apart np1
      have a2 := (dn1.same s1).apart np2
      have a3 := (dn1.same (s1.trans s2)).apart np3
      have a4 := (dn1.same ((s1.trans s2).trans s3)).apart np4
      refine ⟨(by show 3 ≤ sizeLine; decide), fun p5 np5 => ?_⟩
      have a5 := (dn1.same sm).apart np5
      have e5 : (upd G4 p5 (.tup [.int 1, .int 2, .int 3])) p5 = some (.tup [.int 1, .int 2, .int 3]) := upd_same
      have s5 : Same G4 (upd G4 p5 (.tup [.int 1, .int 2, .int 3])) := Same.new np5
      generalize upd G4 p5 (.tup [.int 1, .int 2, .int 3]) = G5 at e5 s5
      refine ⟨(by show 11 ≤ sizeLine; decide), fun p6 np6 => ?_⟩
      have s6 : Same G5 (upd G5 p6 _) := Same.new (o := .lst [.non, .bl true, .bl false, .str "1", .str "", .str "12", .ref p1, .ref p2, .ref p3, .ref p4, .ref p5]) np6
      have sa : Same H1 _ := (sm.trans s5).trans s6
      refine ⟨D, C, p6, ms, t1, l1, _, rfl, dn1.same sa, by omega, upd_same, (dn1.same (sm.trans s5)).apart np6, (by show 0 < 11; decide), (by show 11 ≤ 1000; decide), fun H2 t2 l2 x dn2 tt2 kp2 hx => ?_⟩
      refine q H2 t2 l2 x dn2 (by omega) (kp1.trans ((Kp.same sa).trans kp2)) ?_
      have k6 : Kp D G5 H2 := (Kp.same s6).trans kp2
      have k4 : Kp D G4 H2 := (Kp.same s5).trans k6
      simp only [List.mem_cons, List.not_mem_nil, or_false] at hx
      rcases hx with e | e | e | e | e | e | e | e | e | e | e
      · rw [e]; exact .non
      · rw [e]; exact .bl _
      · rw [e]; exact .bl _
      · rw [e]; exact .str _
      · rw [e]; exact .str _
      · rw [e]; exact .str _
      · rw [e]; exact .dct (kp1.free a1 np1) (k4 _ _ e1 a1)
      · rw [e]; exact .tup (kp1.free a2 (s1.free np2)) (k4 _ _ e2 a2) (fun x hx => nomatch hx)
      · rw [e]; exact .lst (kp1.free a3 ((s1.trans s2).free np3)) (k4 _ _ e3 a3) (fun x hx => nomatch hx)
      · rw [e]; exact .dct (kp1.free a4 (((s1.trans s2).trans s3).free np4)) (k4 _ _ e4 a4)
      · rw [e]
        refine .tup (kp1.free a5 (sm.free np5)) (k6 _ _ e5 a5) (fun x hx => ?_)
        simp only [List.mem_cons, List.not_mem_nil, or_false] at hx
        rcases hx with e | e | e <;> (rw [e]; exact .int _)
    · -- some = [_law_value(dune, deep - 1) for turn in range(a pick)]
      cases d with
      | zero => exact absurd (decide_eq_true rfl) d0
      | succ d =>
        have cp' := cost_pos d
        have ce : cost (d + 1) = 2 + 3 * cost d := rfl
        refine ⟨.ref D, rfl, (by show 5 ≤ sizeLine; decide), fun p np => ?_⟩
        refine ⟨D, C, p, ms, t1, l1, _, rfl, dn1.same (Same.new np), by omega, upd_same, dn1.apart np, (by show 0 < 5; decide), (by show 5 ≤ 1000; decide), fun H2 t2 l2 x dn2 tt2 kp2 hx => ?_⟩
        have kq : Kp D H H2 := kp1.trans ((Kp.same (Same.new np)).trans kp2)
        have hn : ∃ n : Nat, x = V.int n ∧ n ≤ 3 := by
          simp only [List.mem_cons, List.not_mem_nil, or_false] at hx
          rcases hx with e | e | e | e | e
          · exact ⟨2, e, by decide⟩
          · exact ⟨2, e, by decide⟩
          · exact ⟨2, e, by decide⟩
          · exact ⟨1, e, by decide⟩
          · exact ⟨3, e, by decide⟩
        obtain ⟨n, rfl, n3⟩ := hn
        refine ⟨n, rfl, by omega, by omega, fun L nL => ?_⟩
        have aL := dn2.apart nL
        have tr : ((n : Int)).toNat = n := by omega
        refine lc_range (lo := 0) (n := (n : Int).toNat) (fun i J => ∃ (t3 l3 : Int) (xs : List V), Dn J D C ms t3 l3 ∧ t3 ≤ t2 + i * cost d ∧ Kp D H2 J ∧ J L = some (.lst xs) ∧ xs.length = i ∧ ∀ x ∈ xs, Gd (fun a => H a = none ∧ a ≠ L ∧ a ≠ D) J x)
          ⟨t2, l2, [], dn2.same (Same.new nL), by omega, .same (Same.new nL), upd_same, rfl, fun x hx => nomatch hx⟩ ?_ ?_
        · rintro i J hi ⟨t3, l3, xs, dn3, tt3, kp3, eL, hl, hg⟩
          rw [tr] at hi
          have ib : (i : Int) * cost d ≤ 2 * cost d := Int.mul_le_mul_of_nonneg_right (by omega) (by omega)
          refine ⟨rfl, .ref D, rfl, .int (d + 1 : Nat), rfl, ((d + 1 : Nat) : Int), 1, rfl, rfl, D, C, ms, t3, l3, ?_, dn3, by omega, fun H4 t4 l4 v dn4 tt4 kp4 g4 => ?_⟩
          · show [V.ref D, V.int (((d + 1 : Nat) : Int) - 1)] = [V.ref D, V.int (d : Nat)]
            rw [show ((d + 1 : Nat) : Int) - 1 = (d : Nat) by omega]
          · have eL4 : H4 L = some (.lst xs) := kp4 _ _ eL aL
            have sk : ∀ b o, H4 b = some o → b ≠ L → (upd H4 L (.lst (xs ++ [v]))) b = some o := fun b o e n => by
              rw [upd_ne n]
              exact e
            refine ⟨xs, eL4, ?_, t4, l4, xs ++ [v], ⟨sk _ _ dn4.d aL.symm, ?_, dn4.ne, dn4.n, dn4.t0, dn4.l0⟩, ?_, ?_, upd_same, by rw [List.length_append, hl]; rfl, ?_⟩
            · exact small1000 (by omega)
            · exact sk _ _ dn4.c (ne_of_none dn2.c nL)
            · have : ((i + 1 : Nat) : Int) * cost d = i * cost d + cost d := by
                rw [Int.natCast_add, Int.add_mul, Int.natCast_one, Int.one_mul]
              omega
            · intro b o e n
              exact sk _ _ (kp4 _ _ (kp3 _ _ e n) n) (ne_of_none e nL)
            · intro x hx
              rcases List.mem_append.mp hx with hx | hx
              · exact (hg x hx).imp (fun _ n => n) fun b o e n => sk _ _ (kp4 _ _ e n.2.2) n.2.1
              · cases List.mem_singleton.mp hx
                refine g4.imp (fun b n => ?_) fun b o e n => sk _ _ e (fun z => ?_)
                · have bD : b ≠ D := fun z => by
                    rw [z, dn3.d] at n
                    cases n
                  refine ⟨kq.free bD (kp3.free bD n), fun z => ?_, bD⟩
                  rw [z, eL] at n
                  cases n
                · rw [z, eL] at n
                  cases n
        · rintro J ⟨t3, l3, xs, dn3, tt3, kp3, eL, hl, hg⟩
          rw [tr] at tt3
          have ib : (n : Int) * cost d ≤ 3 * cost d := Int.mul_le_mul_of_nonneg_right (by omega) (by omega)
          have fL : H L = none := kq.free aL nL
          -- return some if way < 7 else tuple(some)
          refine ⟨.int y, rfl, y, 7, rfl, rfl, _, rfl, ite2 (fun _ => ?_) (fun _ => ?_)⟩
          · refine ⟨.ref L, rfl, ?_⟩
            exact q J t3 l3 _ dn3 (by omega) (kq.trans kp3) (.lst fL eL fun x hx => (hg x hx).imp (fun _ n => n.1) fun _ _ e _ => e)
          · refine ⟨.ref L, rfl, L, xs, rfl, .inl ⟨SqL.of eL, fun M nM => ?_⟩⟩
            have aM := dn3.apart nM
            refine q _ t3 l3 _ (dn3.same (Same.new nM)) (by omega) ((kq.trans kp3).trans (.same (Same.new nM))) (.tup ((kq.trans kp3).free aM nM) upd_same fun x hx => (hg x hx).imp (fun _ n => n.1) fun _ _ e _ => Same.new nM _ _ e)
/-- a value of a depth up to two, by as many levels -/
theorem ok_value {f fD fP fI : Addr} {fd fdD fdP fdI : FuncData} (F : Fun K "_law_value" "_law_value" sValue f fd) (FD : Fun K "_law_drift" "_law_drift" sDrift fD fdD) (FP : Fun K "_law_pick" "_law_pick" sPick fP fdP)
    (FI : Fun K "_law_integer" "_law_integer" sInteger fI fdI) (T : Blt2 mg)
    (gD : mg "_law_drift" = some (.ref fD)) (bD : Binds K fdD ["dune", "many"] []) (gP : mg "_law_pick" = some (.ref fP)) (bP : Binds K fdP ["dune", "some"] []) (gI : mg "_law_integer" = some (.ref fI)) (bI : Binds K fdI ["dune"] [])
    (gV : mg "_law_value" = some (.ref f)) (bV : Binds K fd ["dune", "deep"] []) : ∀ d : Nat, FnOk P w K mg base CX0 (4 + d) f fd ["dune", "deep"] (spValue d)
  | 0 => value_step (k := 3) (by decide) F FD FP FI T gD bD gP bP gI bI gV bV ⟨fun _ _ _ _ h => h.elim, fun _ _ _ _ _ _ _ _ _ _ _ _ _ h => h.elim⟩
  | d + 1 => value_step (k := 4 + d) (by omega) F FD FP FI T gD bD gP bP gI bI gV bV (ok_value F FD FP FI T gD bD gP bP gI bI gV bV d)
end
end Bay
set_option Elab.async false
set_option linter.all false
set_option maxRecDepth 100000
set_option maxHeartbeats 2000000
namespace Bay
open PySem PySem.Spec PyProof.Rows L2
/-! ### kinds of values -/
def isI : V → Bool
  | .int _ => true
  | _ => false
def isB : V → Bool
  | .bl _ => true
  | _ => false
def isS (H : Hp) : V → Bool
  | .ref a => match H a with
    | some (.lst _) => true
    | some (.tup _) => true
    | _ => false
  | _ => false
theorem isS_lst {H : Hp} {a : Addr} {xs : List V} (e : H a = some (.lst xs)) : isS H (.ref a) = true := by simp only [isS, e]
theorem isS_tup {H : Hp} {a : Addr} {xs : List V} (e : H a = some (.tup xs)) : isS H (.ref a) = true := by simp only [isS, e]
theorem isS_dct {H : Hp} {a : Addr} {kvs : List (Key × V)} (e : H a = some (.dK kvs)) : isS H (.ref a) = false := by simp only [isS, e]
/-- what isinstance tells of a value -/
structure Kd (K : PySem.W.Frag) (H : Hp) (v : V) (t : String) : Prop where
  ty : TyX K H v (.type t)
  int : PySem.W.kitOne K (.type t) (.type "int") = some (isI v || isB v)
  bool : PySem.W.kitOne K (.type t) (.type "bool") = some (isB v)
  seq : PySem.W.kitAny K (.type t) [.type "list", .type "tuple"] = some (isS H v)
theorem seq_of {K : PySem.W.Frag} {t : String} {a b : Bool} (h1 : kitB t "list" = some a) (h2 : kitB t "tuple" = some b) : PySem.W.kitAny K (.type t) [.type "list", .type "tuple"] = some (a || b) := by
  refine kitAny_cons (kit_ty h1) (fun e => ?_) (fun e => by rw [e]; rfl)
  rw [e, Bool.false_or]
  refine kitAny_cons (kit_ty h2) (fun e => ?_) (fun e => e)
  rw [e]
  exact kitAny_nil
theorem Gd.kd {K : PySem.W.Frag} {N : Addr → Prop} {H : Hp} {v : V} (g : Gd N H v) : ∃ t, Kd K H v t := by
  cases g with
  | non => exact ⟨"NoneType", .base .non, kit_ty (r := false) (by decide +kernel), kit_ty (r := false) (by decide +kernel), seq_of (a := false) (b := false) (by decide +kernel) (by decide +kernel)⟩
  | bl b => exact ⟨"bool", .base (.bl b), kit_ty (r := true) (by decide +kernel), kit_ty (r := true) (by decide +kernel), seq_of (a := false) (b := false) (by decide +kernel) (by decide +kernel)⟩
  | int i => exact ⟨"int", .base (.int i), kit_ty (r := true) (by decide +kernel), kit_ty (r := false) (by decide +kernel), seq_of (a := false) (b := false) (by decide +kernel) (by decide +kernel)⟩
  | str x => exact ⟨"str", .base (.str x), kit_ty (r := false) (by decide +kernel), kit_ty (r := false) (by decide +kernel), seq_of (a := false) (b := false) (by decide +kernel) (by decide +kernel)⟩
  | lst n e _ =>
    refine ⟨"list", .base (.lst e), kit_ty (r := false) (by decide +kernel), kit_ty (r := false) (by decide +kernel), ?_⟩
    rw [isS_lst e]
    exact seq_of (a := true) (b := false) (by decide +kernel) (by decide +kernel)
  | tup n e _ =>
    refine ⟨"tuple", .base (.tup e), kit_ty (r := false) (by decide +kernel), kit_ty (r := false) (by decide +kernel), ?_⟩
    rw [isS_tup e]
    exact seq_of (a := false) (b := true) (by decide +kernel) (by decide +kernel)
  | dct n e =>
    refine ⟨"dict", .base (.dK e), kit_ty (r := false) (by decide +kernel), kit_ty (r := false) (by decide +kernel), ?_⟩
    rw [isS_dct e]
    exact seq_of (a := false) (b := false) (by decide +kernel) (by decide +kernel)
structure Blt3 (mg : Str → Option Value) : Prop extends Blt2 mg where
  isi : mg "isinstance" = none
  bool : mg "bool" = none
  list : mg "list" = none
def spInt (K : PySem.W.Frag) : Sp := fun vs H Q _ => ∃ (v : V) (t : String), vs = [v] ∧ Kd K H v t ∧ Q (.bl (isI v)) H
/-- a point: a list or tuple of two integers -/
def isP (H : Hp) : V → Bool
  | .ref a => match H a with
    | some (.lst [x, y]) => isI x && isI y
    | some (.tup [x, y]) => isI x && isI y
    | _ => false
  | _ => false
def spPoint : Sp := fun vs H Q _ => ∃ (N : Addr → Prop) (v : V), vs = [v] ∧ Gd N H v ∧ ∀ H', Same H H' → Q (.bl (isP H v)) H'
theorem isP_dct {H : Hp} {a : Addr} {kvs : List (Key × V)} (e : H a = some (.dK kvs)) : isP H (.ref a) = false := by simp only [isP, e]
def oV : Option Int → V
  | none => .non
  | some i => .int i
def inB (v : V) (lo hi : Option Int) : Bool := match v with
  | .int i => lo.all (fun z => decide (z ≤ i)) && hi.all (fun z => decide (i ≤ z))
  | _ => false
def spWithin (K : PySem.W.Frag) : Sp := fun vs H Q _ => ∃ (v : V) (t : String) (lo hi : Option Int), vs = [v, oV lo, oV hi] ∧ Kd K H v t ∧ Q (.bl (inB v lo hi)) H
theorem ix_seq {X : Cx} : IxR X (fun x y H Q => rIxL X.K x y H Q ∨ rIxT X.K x y H Q) := by
  intro e1 e2 pins s σ H x y v u Q I rx ry h z
  rcases h with h | h
  · exact ix_list e1 e2 pins s σ H x y v u Q I rx ry h z
  · exact ix_tup e1 e2 pins s σ H x y v u Q I rx ry h z
theorem isI_of {v : V} {a : Bool} (h : (isI v || isB v) = a) : (if a = true then !isB v else false) = isI v := by
  subst h
  cases v <;> rfl
section
variable {P : Program} {w : World} {K : PySem.W.Frag} {mg : Str → Option Value} {base : Heap}
abbrev sInt : Stmt := top 1
theorem scInt : FnScope ["value"] ["value"] (defScope sInt) := ⟨rfl, rfl, rfl, by decide +kernel, rfl, by decide +kernel, by decide +kernel⟩
theorem ok_int {f : Addr} {fd : FuncData} (F : Fun K "is_integer" "is_integer" sInt f fd) (T : Blt3 mg) : FnOk P w K mg base CX0 1 f fd ["value"] (spInt K) := by
  refine F.ok scInt (fun vs H Q E h => ?_) (fun cdv A outer s H vs Q E hr h => ?_)
  · obtain ⟨v, t, rfl, _⟩ := h
    rfl
  · obtain ⟨v, t, rfl, kd, q⟩ := h
    refine ⟨_, pss_one (ps_ret (pe_and (pe_callB call_isi (by rfl) T.isi (by decide +kernel) (pa_cons (pv 0) (pa_cons (pe_bltn (v := .ty "int") (u := .type "int") (by rfl) T.int (by decide +kernel) rfl) pa_nil)))
      (pe_one (pe_not (pe_callB call_isi (by rfl) T.isi (by decide +kernel) (pa_cons (pv 0) (pa_cons (pe_bltn (v := .ty "bool") (u := .type "bool") (by rfl) T.bool (by decide +kernel) rfl) pa_nil))))))), ?_⟩
    refine ⟨v, rfl, v, .ty "int", _, _, _, rfl, .ty "int", kd.ty, kd.int, _, rfl, ?_⟩
    have e := isI_of (v := v) rfl
    split
    · rename_i c
      rw [if_pos c] at e
      refine ⟨v, rfl, v, .ty "bool", _, _, _, rfl, .ty "bool", kd.ty, kd.bool, _, rfl, ?_⟩
      show Q (.bl (!isB v)) H
      rw [e]
      exact q
    · rename_i c
      rw [if_neg c] at e
      show Q (.bl false) H
      rw [e]
      exact q
abbrev sLInt : Stmt := top 10
theorem scLInt : FnScope ["value"] ["value"] (defScope sLInt) := ⟨rfl, rfl, rfl, by decide +kernel, rfl, by decide +kernel, by decide +kernel⟩
theorem ok_lint {f : Addr} {fd : FuncData} (F : Fun K "_law_is_integer" "_law_is_integer" sLInt f fd) (T : Blt3 mg) : FnOk P w K mg base CX0 1 f fd ["value"] (spInt K) := by
  refine F.ok scLInt (fun vs H Q E h => ?_) (fun cdv A outer s H vs Q E hr h => ?_)
  · obtain ⟨v, t, rfl, _⟩ := h
    rfl
  · obtain ⟨v, t, rfl, kd, q⟩ := h
    refine ⟨_, pss_one (ps_ret (pe_and (pe_callB call_isi (by rfl) T.isi (by decide +kernel) (pa_cons (pv 0) (pa_cons (pe_bltn (v := .ty "int") (u := .type "int") (by rfl) T.int (by decide +kernel) rfl) pa_nil)))
      (pe_one (pe_not (pe_callB call_isi (by rfl) T.isi (by decide +kernel) (pa_cons (pv 0) (pa_cons (pe_bltn (v := .ty "bool") (u := .type "bool") (by rfl) T.bool (by decide +kernel) rfl) pa_nil))))))), ?_⟩
    refine ⟨v, rfl, v, .ty "int", _, _, _, rfl, .ty "int", kd.ty, kd.int, _, rfl, ?_⟩
    have e := isI_of (v := v) rfl
    split
    · rename_i c
      rw [if_pos c] at e
      refine ⟨v, rfl, v, .ty "bool", _, _, _, rfl, .ty "bool", kd.ty, kd.bool, _, rfl, ?_⟩
      show Q (.bl (!isB v)) H
      rw [e]
      exact q
    · rename_i c
      rw [if_neg c] at e
      show Q (.bl false) H
      rw [e]
      exact q
abbrev sPoint : Stmt := top 3
theorem scPoint : FnScope ["value"] ["value"] (defScope sPoint) := ⟨rfl, rfl, rfl, by decide +kernel, rfl, by decide +kernel, by decide +kernel⟩
theorem ok_point {f fI : Addr} {fd fdI : FuncData} (F : Fun K "is_point" "is_point" sPoint f fd) (FI : Fun K "is_integer" "is_integer" sInt fI fdI) (T : Blt3 mg) (gI : mg "is_integer" = some (.ref fI)) (bI : Binds K fdI ["value"] []) : FnOk P w K mg base CX0 2 f fd ["value"] spPoint := by
  have GI : FnOk P w K mg base CX0 1 fI fdI ["value"] (spInt K) := ok_int FI T
  refine F.ok scPoint (fun vs H Q E h => ?_) (fun cdv A outer s H vs Q E hr h => ?_)
  · obtain ⟨N, v, rfl, _⟩ := h
    rfl
  · obtain ⟨N, v, rfl, g, q⟩ := h
    refine ⟨_, pss_cons (ps_if (PW.pt (pw_or (pt_not (pt_val (pe_callB call_isiT (by rfl) T.isi (by decide +kernel) (pa_cons (pv 0) (pa_cons (pe_tup (pa_cons (pe_bltn (v := .ty "list") (u := .type "list") (by rfl) T.list (by decide +kernel) rfl) (pa_cons (pe_bltn (v := .ty "tuple") (u := .type "tuple") (by rfl) T.tuple (by decide +kernel) rfl) pa_nil))) pa_nil)))))
        (pw_or1 (pt_cmpR op_ne (pe_callB call_len_seq (by rfl) T.len PySem.boot_len (pa_cons (pv 0) pa_nil)) pe_int (nomark _))))) (pss_one (ps_ret pe_bl)) pss_nil)
      (pss_one (ps_ret (pe_and (pe_call GI hr (by rfl) gI FI.kp bI .nil pass0 (pa_cons (pe_ix ix_seq (pv 0) pe_int (fun _ _ => rfl)) pa_nil))
        (pe_one (pe_call GI hr (by rfl) gI FI.kp bI .nil pass0 (pa_cons (pe_ix ix_seq (pv 0) pe_int (fun _ _ => rfl)) pa_nil)))))), ?_⟩
    refine ⟨v, rfl, (by show 2 ≤ sizeLine; decide), fun p np => ?_⟩
    have sm : Same H (upd H p (.tup [.ty "list", .ty "tuple"])) := Same.new np
    have ep : (upd H p (.tup [.ty "list", .ty "tuple"])) p = some (.tup [.ty "list", .ty "tuple"]) := upd_same
    have g' : Gd N (upd H p (.tup [.ty "list", .ty "tuple"])) v := g.imp (fun _ n => n) fun _ _ e _ => sm _ _ e
    have q' := q _ sm
    have es : isS (upd H p (.tup [.ty "list", .ty "tuple"])) v = isS H v := by
      cases g with
      | lst n e _ =>
        simp only [isS, sm _ _ e, e]
      | tup n e _ =>
        simp only [isS, sm _ _ e, e]
      | dct n e =>
        simp only [isS, sm _ _ e, e]
      | _ => rfl
    generalize upd H p (.tup [.ty "list", .ty "tuple"]) = G at sm ep g' q' es
    obtain ⟨t, kd⟩ := g'.kd (K := K)
    refine ⟨v, p, _, _, _, _, rfl, ep, .cons (.ty "list") (.cons (.ty "tuple") .nil), kd.ty, kd.seq, _, rfl, ?_⟩
    rw [es]
    cases g with
    | non => exact q'
    | bl b => exact q'
    | int i => exact q'
    | str x => exact q'
    | dct n e =>
      rw [isS_dct e]
      rw [isP_dct e] at q'
      exact q'
    | lst n e hs =>
      rename_i a xs
      have z : isS H (.ref a) = true := by
        simp only [isS, e]
      rw [z]
      have ga := SqL.of (K := K) (sm _ _ e)
      refine iteF ⟨.ref a, rfl, a, xs, rfl, .inl ga, rfl, _, rfl, ?_⟩
      match xs, e, hs, ga with
      | [x, y], e, hs, ga =>
        have z2 : isP H (.ref a) = (isI x && isI y) := by
          simp only [isP, e]
        rw [z2] at q'
        have gx := (hs x (by simp)).imp (fun _ n => n) fun _ _ e _ => sm _ _ e
        have gy := (hs y (by simp)).imp (fun _ n => n) fun _ _ e _ => sm _ _ e
        obtain ⟨tx, kx⟩ := gx.kd (K := K)
        obtain ⟨ty, ky⟩ := gy.kd (K := K)
        refine iteF ⟨.ref a, rfl, .inl ⟨a, _, 0, x, rfl, rfl, ga, rfl, x, tx, rfl, kx, _, rfl, ?_⟩⟩
        cases c : isI x with
        | true =>
          rw [c] at q'
          exact ⟨.ref a, rfl, .inl ⟨a, _, 1, y, rfl, rfl, ga, rfl, y, ty, rfl, ky, q'⟩⟩
        | false =>
          rw [c] at q'
          exact q'
      | [], e, hs, ga =>
        have z2 : isP H (.ref a) = false := by
          simp only [isP, e]
        rw [z2] at q'
        exact q'
      | [x], e, hs, ga =>
        have z2 : isP H (.ref a) = false := by
          simp only [isP, e]
        rw [z2] at q'
        exact q'
      | x :: y :: u :: r, e, hs, ga =>
        have z2 : isP H (.ref a) = false := by
          simp only [isP, e]
        rw [z2] at q'
        have ne : (V.int ((x :: y :: u :: r).length : Nat)) ≠ .int 2 := fun z => by
          have z := V.int.inj z
          simp only [List.length_cons] at z
          omega
        rw [decide_eq_false ne]
        exact q'
    | tup n e hs =>
      rename_i a xs
      have z : isS H (.ref a) = true := by
        simp only [isS, e]
      rw [z]
      have ga := SqT.of (K := K) (sm _ _ e)
      refine iteF ⟨.ref a, rfl, a, xs, rfl, .inr ga, rfl, _, rfl, ?_⟩
      match xs, e, hs, ga with
      | [x, y], e, hs, ga =>
        have z2 : isP H (.ref a) = (isI x && isI y) := by
          simp only [isP, e]
        rw [z2] at q'
        have gx := (hs x (by simp)).imp (fun _ n => n) fun _ _ e _ => sm _ _ e
        have gy := (hs y (by simp)).imp (fun _ n => n) fun _ _ e _ => sm _ _ e
        obtain ⟨tx, kx⟩ := gx.kd (K := K)
        obtain ⟨ty, ky⟩ := gy.kd (K := K)
        refine iteF ⟨.ref a, rfl, .inr ⟨a, _, 0, x, rfl, rfl, ga, rfl, x, tx, rfl, kx, _, rfl, ?_⟩⟩
        cases c : isI x with
        | true =>
          rw [c] at q'
          exact ⟨.ref a, rfl, .inr ⟨a, _, 1, y, rfl, rfl, ga, rfl, y, ty, rfl, ky, q'⟩⟩
        | false =>
          rw [c] at q'
          exact q'
      | [], e, hs, ga =>
        have z2 : isP H (.ref a) = false := by
          simp only [isP, e]
        rw [z2] at q'
        exact q'
      | [x], e, hs, ga =>
        have z2 : isP H (.ref a) = false := by
          simp only [isP, e]
        rw [z2] at q'
        exact q'
      | x :: y :: u :: r, e, hs, ga =>
        have z2 : isP H (.ref a) = false := by
          simp only [isP, e]
        rw [z2] at q'
        have ne : (V.int ((x :: y :: u :: r).length : Nat)) ≠ .int 2 := fun z => by
          have z := V.int.inj z
          simp only [List.length_cons] at z
          omega
        rw [decide_eq_false ne]
        exact q'
abbrev sLPoint : Stmt := top 11
theorem scLPoint : FnScope ["value"] ["value"] (defScope sLPoint) := ⟨rfl, rfl, rfl, by decide +kernel, rfl, by decide +kernel, by decide +kernel⟩
theorem ok_lpoint {f fI : Addr} {fd fdI : FuncData} (F : Fun K "_law_is_point" "_law_is_point" sLPoint f fd) (FI : Fun K "_law_is_integer" "_law_is_integer" sLInt fI fdI) (T : Blt3 mg) (gI : mg "_law_is_integer" = some (.ref fI)) (bI : Binds K fdI ["value"] []) : FnOk P w K mg base CX0 2 f fd ["value"] spPoint := by
  have GI : FnOk P w K mg base CX0 1 fI fdI ["value"] (spInt K) := ok_lint FI T
  refine F.ok scLPoint (fun vs H Q E h => ?_) (fun cdv A outer s H vs Q E hr h => ?_)
  · obtain ⟨N, v, rfl, _⟩ := h
    rfl
  · obtain ⟨N, v, rfl, g, q⟩ := h
    refine ⟨_, pss_cons (ps_if (PW.pt (pw_or (pt_not (pt_val (pe_callB call_isiT (by rfl) T.isi (by decide +kernel) (pa_cons (pv 0) (pa_cons (pe_tup (pa_cons (pe_bltn (v := .ty "list") (u := .type "list") (by rfl) T.list (by decide +kernel) rfl) (pa_cons (pe_bltn (v := .ty "tuple") (u := .type "tuple") (by rfl) T.tuple (by decide +kernel) rfl) pa_nil))) pa_nil)))))
        (pw_or1 (pt_cmpR op_ne (pe_callB call_len_seq (by rfl) T.len PySem.boot_len (pa_cons (pv 0) pa_nil)) pe_int (nomark _))))) (pss_one (ps_ret pe_bl)) pss_nil)
      (pss_one (ps_ret (pe_and (pe_call GI hr (by rfl) gI FI.kp bI .nil pass0 (pa_cons (pe_ix ix_seq (pv 0) pe_int (fun _ _ => rfl)) pa_nil))
        (pe_one (pe_call GI hr (by rfl) gI FI.kp bI .nil pass0 (pa_cons (pe_ix ix_seq (pv 0) pe_int (fun _ _ => rfl)) pa_nil)))))), ?_⟩
    refine ⟨v, rfl, (by show 2 ≤ sizeLine; decide), fun p np => ?_⟩
    have sm : Same H (upd H p (.tup [.ty "list", .ty "tuple"])) := Same.new np
    have ep : (upd H p (.tup [.ty "list", .ty "tuple"])) p = some (.tup [.ty "list", .ty "tuple"]) := upd_same
    have g' : Gd N (upd H p (.tup [.ty "list", .ty "tuple"])) v := g.imp (fun _ n => n) fun _ _ e _ => sm _ _ e
    have q' := q _ sm
    have es : isS (upd H p (.tup [.ty "list", .ty "tuple"])) v = isS H v := by
      cases g with
      | lst n e _ =>
        simp only [isS, sm _ _ e, e]
      | tup n e _ =>
        simp only [isS, sm _ _ e, e]
      | dct n e =>
        simp only [isS, sm _ _ e, e]
      | _ => rfl
    generalize upd H p (.tup [.ty "list", .ty "tuple"]) = G at sm ep g' q' es
    obtain ⟨t, kd⟩ := g'.kd (K := K)
    refine ⟨v, p, _, _, _, _, rfl, ep, .cons (.ty "list") (.cons (.ty "tuple") .nil), kd.ty, kd.seq, _, rfl, ?_⟩
    rw [es]
    cases g with
    | non => exact q'
    | bl b => exact q'
    | int i => exact q'
    | str x => exact q'
    | dct n e =>
      rw [isS_dct e]
      rw [isP_dct e] at q'
      exact q'
    | lst n e hs =>
      rename_i a xs
      have z : isS H (.ref a) = true := by
        simp only [isS, e]
      rw [z]
      have ga := SqL.of (K := K) (sm _ _ e)
      refine iteF ⟨.ref a, rfl, a, xs, rfl, .inl ga, rfl, _, rfl, ?_⟩
      match xs, e, hs, ga with
      | [x, y], e, hs, ga =>
        have z2 : isP H (.ref a) = (isI x && isI y) := by
          simp only [isP, e]
        rw [z2] at q'
        have gx := (hs x (by simp)).imp (fun _ n => n) fun _ _ e _ => sm _ _ e
        have gy := (hs y (by simp)).imp (fun _ n => n) fun _ _ e _ => sm _ _ e
        obtain ⟨tx, kx⟩ := gx.kd (K := K)
        obtain ⟨ty, ky⟩ := gy.kd (K := K)
        refine iteF ⟨.ref a, rfl, .inl ⟨a, _, 0, x, rfl, rfl, ga, rfl, x, tx, rfl, kx, _, rfl, ?_⟩⟩
        cases c : isI x with
        | true =>
          rw [c] at q'
          exact ⟨.ref a, rfl, .inl ⟨a, _, 1, y, rfl, rfl, ga, rfl, y, ty, rfl, ky, q'⟩⟩
        | false =>
          rw [c] at q'
          exact q'
      | [], e, hs, ga =>
        have z2 : isP H (.ref a) = false := by
          simp only [isP, e]
        rw [z2] at q'
        exact q'
      | [x], e, hs, ga =>
        have z2 : isP H (.ref a) = false := by
          simp only [isP, e]
        rw [z2] at q'
        exact q'
      | x :: y :: u :: r, e, hs, ga =>
        have z2 : isP H (.ref a) = false := by
          simp only [isP, e]
        rw [z2] at q'
        have ne : (V.int ((x :: y :: u :: r).length : Nat)) ≠ .int 2 := fun z => by
          have z := V.int.inj z
          simp only [List.length_cons] at z
          omega
        rw [decide_eq_false ne]
        exact q'
    | tup n e hs =>
      rename_i a xs
      have z : isS H (.ref a) = true := by
        simp only [isS, e]
      rw [z]
      have ga := SqT.of (K := K) (sm _ _ e)
      refine iteF ⟨.ref a, rfl, a, xs, rfl, .inr ga, rfl, _, rfl, ?_⟩
      match xs, e, hs, ga with
      | [x, y], e, hs, ga =>
        have z2 : isP H (.ref a) = (isI x && isI y) := by
          simp only [isP, e]
        rw [z2] at q'
        have gx := (hs x (by simp)).imp (fun _ n => n) fun _ _ e _ => sm _ _ e
        have gy := (hs y (by simp)).imp (fun _ n => n) fun _ _ e _ => sm _ _ e
        obtain ⟨tx, kx⟩ := gx.kd (K := K)
        obtain ⟨ty, ky⟩ := gy.kd (K := K)
        refine iteF ⟨.ref a, rfl, .inr ⟨a, _, 0, x, rfl, rfl, ga, rfl, x, tx, rfl, kx, _, rfl, ?_⟩⟩
        cases c : isI x with
        | true =>
          rw [c] at q'
          exact ⟨.ref a, rfl, .inr ⟨a, _, 1, y, rfl, rfl, ga, rfl, y, ty, rfl, ky, q'⟩⟩
        | false =>
          rw [c] at q'
          exact q'
      | [], e, hs, ga =>
        have z2 : isP H (.ref a) = false := by
          simp only [isP, e]
        rw [z2] at q'
        exact q'
      | [x], e, hs, ga =>
        have z2 : isP H (.ref a) = false := by
          simp only [isP, e]
        rw [z2] at q'
        exact q'
      | x :: y :: u :: r, e, hs, ga =>
        have z2 : isP H (.ref a) = false := by
          simp only [isP, e]
        rw [z2] at q'
        have ne : (V.int ((x :: y :: u :: r).length : Nat)) ≠ .int 2 := fun z => by
          have z := V.int.inj z
          simp only [List.length_cons] at z
          omega
        rw [decide_eq_false ne]
        exact q'
abbrev sWithin : Stmt := top 2
theorem scWithin : FnScope ["value", "least", "most"] ["value", "least", "most"] (defScope sWithin) := ⟨rfl, rfl, rfl, by decide +kernel, rfl, by decide +kernel, by decide +kernel⟩
theorem ok_within {f fI : Addr} {fd fdI : FuncData} (F : Fun K "is_within" "is_within" sWithin f fd) (FI : Fun K "is_integer" "is_integer" sInt fI fdI) (T : Blt3 mg) (gI : mg "is_integer" = some (.ref fI)) (bI : Binds K fdI ["value"] []) :
    FnOk P w K mg base CX0 2 f fd ["value", "least", "most"] (spWithin K) := by
  have GI : FnOk P w K mg base CX0 1 fI fdI ["value"] (spInt K) := ok_int FI T
  refine F.ok scWithin (fun vs H Q E h => ?_) (fun cdv A outer s H vs Q E hr h => ?_)
  · obtain ⟨v, t, lo, hi, rfl, _⟩ := h
    rfl
  · obtain ⟨v, t, lo, hi, rfl, kd, q⟩ := h
    refine ⟨_, pss_cons (ps_if (pt_not (pt_val (pe_call GI hr (by rfl) gI FI.kp bI .nil pass0 (pa_cons (pv 0) pa_nil)))) (pss_one (ps_ret pe_bl)) pss_nil)
      (pss_one (ps_ret (pe_and (pe_or (pe_cmp (pc_isN (pv 1))) (pe_one (pe_cmpR op_ge (pv 0) (pv 1) (nomark _)))) (pe_one (pe_or (pe_cmp (pc_isN (pv 2))) (pe_one (pe_cmpR op_le (pv 0) (pv 2) (nomark _)))))))), ?_⟩
    refine ⟨v, rfl, v, t, rfl, kd, _, rfl, ?_⟩
    match v, kd, q with
    | .int i, kd, q =>
      refine iteF ⟨oV lo, rfl, _, rfl, ?_⟩
      have second : ∀ b : Bool, (lo.all fun z => decide (z ≤ i)) = b → (if b = true then tOrV (tIsN (tVar 2)) (tOp (rI0 fun i j => .bl (decide (i ≤ j))) (tVar 0) (tVar 2)) [some (V.int i), some (oV lo), some (oV hi)] H Q else Q (.bl false) H) := by
        intro b e
        have q : Q (.bl ((lo.all fun z => decide (z ≤ i)) && hi.all fun z => decide (i ≤ z))) H := q
        rw [e] at q
        cases b with
        | false => exact q
        | true =>
          refine ⟨oV hi, rfl, _, rfl, ?_⟩
          cases hi with
          | none => exact q
          | some z => exact ⟨.int i, rfl, .int z, rfl, i, z, rfl, rfl, q⟩
      cases lo with
      | none => exact ⟨true, rfl, second true rfl⟩
      | some z => exact ⟨.int i, rfl, .int z, rfl, i, z, rfl, rfl, _, rfl, second _ rfl⟩
    | .non, kd, q => exact q
    | .bl _, kd, q => exact q
    | .str _, kd, q => exact q
    | .byt _, kd, q => exact q
    | .flt _, kd, q => exact q
    | .ref _, kd, q => exact q
    | .ty _, kd, q => exact q
end
end Bay
set_option Elab.async false
set_option linter.all false
set_option maxRecDepth 100000
set_option maxHeartbeats 4000000
namespace Bay
open PySem PySem.Spec PyProof.Rows L2
theorem sh2 (a b : Bool) : (PyData.list [.bool a, .bool b]).showable = true := by cases a <;> cases b <;> rfl
theorem nd2 (a b : Bool) : (PyData.list [.bool a, .bool b]).hasDict = false := by cases a <;> cases b <;> rfl
theorem dp2 (a b : Bool) : (PyData.list [.bool a, .bool b]).depth ≤ 60 := by cases a <;> cases b <;> decide
theorem sz2 (a b : Bool) : (PyData.shown (.list [.bool a, .bool b])).length ≤ sizeLine := by cases a <;> cases b <;> decide +kernel
theorem two {K : PySem.W.Frag} {H : Hp} {p : Addr} {a b : Bool} (e : H p = some (.lst [.bl a, .bl b])) : Dp K H (.ref p) (.list [.bool a, .bool b]) := Dp.lst (SqL.of e) (.cons (.bl a) (.cons (.bl b) .nil))
abbrev sLaw : Stmt := top 12
abbrev nLaw : List Str := ["script", "dune", "turn", "value", "least", "most", "due", "side"]
theorem scLaw : FnScope nLaw ["script"] (defScope sLaw) := ⟨rfl, rfl, rfl, by decide +kernel, rfl, by decide +kernel, by decide +kernel⟩
structure Blt4 (mg : Str → Option Value) : Prop extends Blt3 mg where
  repr : mg "repr" = none
/-- where the defs stand -/
structure Defs (K : PySem.W.Frag) (mg : Str → Option Value) (f1 f2 f3 f5 f6 f7 f8 f9 f10 f11 : Addr) (d1 d2 d3 d5 d6 d7 d8 d9 d10 d11 : FuncData) : Prop where
  F1 : Fun K "is_integer" "is_integer" sInt f1 d1
  F2 : Fun K "is_within" "is_within" sWithin f2 d2
  F3 : Fun K "is_point" "is_point" sPoint f3 d3
  F5 : Fun K "_law_dune" "_law_dune" sDune f5 d5
  F6 : Fun K "_law_drift" "_law_drift" sDrift f6 d6
  F7 : Fun K "_law_pick" "_law_pick" sPick f7 d7
  F8 : Fun K "_law_integer" "_law_integer" sInteger f8 d8
  F9 : Fun K "_law_value" "_law_value" sValue f9 d9
  F10 : Fun K "_law_is_integer" "_law_is_integer" sLInt f10 d10
  F11 : Fun K "_law_is_point" "_law_is_point" sLPoint f11 d11
  g1 : mg "is_integer" = some (.ref f1)
  g2 : mg "is_within" = some (.ref f2)
  g3 : mg "is_point" = some (.ref f3)
  g5 : mg "_law_dune" = some (.ref f5)
  g6 : mg "_law_drift" = some (.ref f6)
  g7 : mg "_law_pick" = some (.ref f7)
  g8 : mg "_law_integer" = some (.ref f8)
  g9 : mg "_law_value" = some (.ref f9)
  g10 : mg "_law_is_integer" = some (.ref f10)
  g11 : mg "_law_is_point" = some (.ref f11)
  b1 : Binds K d1 ["value"] []
  b3 : Binds K d3 ["value"] []
  b2 : Binds K d2 ["value", "least", "most"] []
  b5 : Binds K d5 ["script"] []
  b6 : Binds K d6 ["dune", "many"] []
  b7 : Binds K d7 ["dune", "some"] []
  b8 : Binds K d8 ["dune"] []
  b9 : Binds K d9 ["dune", "deep"] []
  b10 : Binds K d10 ["value"] []
  b11 : Binds K d11 ["value"] []
  n1 : KBn K d1 ["value"] 0 ["value"] (fun _ ws => ws) (fun _ zs => zs)
  n3 : KBn K d3 ["value"] 0 ["value"] (fun _ ws => ws) (fun _ zs => zs)
  n2 : KBn K d2 ["value", "least", "most"] 0 ["most", "value", "least"] (fun _ ws => ws.drop 1 ++ ws.take 1) (fun _ zs => zs.drop 1 ++ zs.take 1)
theorem isP_same {N : Addr → Prop} {H G : Hp} {v : V} (g : Gd N H v) (s : Same H G) : isP G v = isP H v := by
  cases g with
  | lst n e _ => simp only [isP, e, s _ _ e]
  | tup n e _ => simp only [isP, e, s _ _ e]
  | dct n e => simp only [isP, e, s _ _ e]
  | _ => rfl
theorem Gd.imp2 {N M : Addr → Prop} {H H' : Hp} {v : V} (g : Gd N H v) (k : ∀ b o, H b = some o → N b → M b ∧ H' b = some o) : Gd M H' v := by
  induction g with
  | non => exact .non
  | bl b => exact .bl b
  | int i => exact .int i
  | str x => exact .str x
  | lst n e _ ih => exact .lst (k _ _ e n).1 (k _ _ e n).2 ih
  | tup n e _ ih => exact .tup (k _ _ e n).1 (k _ _ e n).2 ih
  | dct n e => exact .dct (k _ _ e n).1 (k _ _ e n).2
theorem Gd.same {N : Addr → Prop} {H G : Hp} {v : V} (g : Gd N H v) (s : Same H G) : Gd N G v := g.imp (fun _ n => n) fun _ _ e _ => s _ _ e
/-- between the statements of a turn: a value is drawn -/
def M1 (a D C : Addr) (ms : List Int) (B : Int) : L2.St → Hp → Prop := fun σ J => ∃ (t l : Int) (v : V) (y2 y4 y5 y6 y7 : Option V),
  σ = [some (.ref a), some (.ref D), y2, some v, y4, y5, y6, y7] ∧ Dn J D C ms t l ∧ t ≤ B ∧ Gd (fun b => b ≠ D) J v
/-- .. and bounds -/
def M2 (a D C : Addr) (ms : List Int) (B : Int) : L2.St → Hp → Prop := fun σ J => ∃ (t l : Int) (v : V) (lo hi : Option Int) (y2 y6 y7 : Option V),
  σ = [some (.ref a), some (.ref D), y2, some v, some (oV lo), some (oV hi), y6, y7] ∧ Dn J D C ms t l ∧ t ≤ B ∧ Gd (fun b => b ≠ D) J v
/-- .. and what is due -/
def M3 (a D C : Addr) (ms : List Int) (B : Int) : L2.St → Hp → Prop := fun σ J => ∃ (t l : Int) (v : V) (lo hi : Option Int) (y2 y7 : Option V),
  σ = [some (.ref a), some (.ref D), y2, some v, some (oV lo), some (oV hi), some (.bl (inB v lo hi)), y7] ∧ Dn J D C ms t l ∧ t ≤ B ∧ Gd (fun b => b ≠ D) J v
section
variable {P : Program} {w : World} {K : PySem.W.Frag} {mg : Str → Option Value} {base : Heap} {f1 f2 f3 f5 f6 f7 f8 f9 f10 f11 : Addr} {d1 d2 d3 d5 d6 d7 d8 d9 d10 d11 : FuncData}
theorem law_body (L : Defs K mg f1 f2 f3 f5 f6 f7 f8 f9 f10 f11 d1 d2 d3 d5 d6 d7 d8 d9 d10 d11) (T : Blt4 mg) {t : Shared} {cdv : Value} {H : Hp} {a fa : Addr} {ns : List Int} (len : ns.length ≤ 63) (hS : SqL K H a (ns.map V.int))
    (hr : Room 6 (callerA.deeper (envOfC "law" (defScope sLaw) t.heap.objs.size fa cdv))) :
    ∃ r, PSs (cxOf CX0 P w K mg base nLaw "law" (defScope sLaw) fa cdv callerA [] t H E0).nox (defBody sLaw) r ∧ r { nx := fun _ _ => False, rt := fun v _ => v = .bl true } (start nLaw [.ref a]) H := by
  have G5 : FnOk P w K mg base CX0 1 f5 d5 ["script"] (spDune K) := ok_dune L.F5 T.toBlt
  have G9 : FnOk P w K mg base CX0 6 f9 d9 ["dune", "deep"] (spValue 2) := ok_value L.F9 L.F6 L.F7 L.F8 T.toBlt2 L.g6 L.b6 L.g7 L.b7 L.g8 L.b8 L.g9 L.b9 2
  have G1 : FnOk P w K mg base CX0 1 f1 d1 ["value"] (spInt K) := ok_int L.F1 T.toBlt3
  have G10 : FnOk P w K mg base CX0 1 f10 d10 ["value"] (spInt K) := ok_lint L.F10 T.toBlt3
  have G3 : FnOk P w K mg base CX0 2 f3 d3 ["value"] spPoint := ok_point L.F3 L.F1 T.toBlt3 L.g1 L.b1
  have G11 : FnOk P w K mg base CX0 2 f11 d11 ["value"] spPoint := ok_lpoint L.F11 L.F10 T.toBlt3 L.g10 L.b10
  have G7 : FnOk P w K mg base CX0 2 f7 d7 ["dune", "some"] spPick := ok_pick L.F7 L.F6 T.toBlt L.g6 L.b6
  have G8 : FnOk P w K mg base CX0 3 f8 d8 ["dune"] spInteger := ok_integer L.F8 L.F6 L.F7 T.toBlt L.g6 L.b6 L.g7 L.b7
  have G2 : FnOk P w K mg base CX0 2 f2 d2 ["value", "least", "most"] (spWithin K) := ok_within L.F2 L.F1 T.toBlt3 L.g1 L.b1
  have hr1 : Room 1 _ := hr.mono (by decide)
  have hr2 : Room 2 _ := hr.mono (by decide)
  have hr3 : Room 3 _ := hr.mono (by decide)
  have nd := scLaw.nd
  have un := hr.units
  refine ⟨_, pss_cons (ps_set (i := 1) nd rfl (Or.inr rfl) (pe_call G5 hr1 (by rfl) L.g5 L.F5.kp L.b5 .nil pass0 (pa_cons (pv 0) pa_nil)))
    (pss_cons (ps_for PassesOwn.never rfl (pi_range1 rfl T.range (pa_cons pe_int pa_nil)) (pg_name (i := 2) nd rfl (Or.inl rfl))
      (C8.pss_cut (ps_set (i := 3) nd rfl (Or.inr rfl) (pe_call G9 hr (by rfl) L.g9 L.F9.kp L.b9 .nil pass0 (pa_cons (pv 1) (pa_cons pe_int pa_nil))))
      (C8.pss_cut (ps_if (pt_cmpR op_ne (pe_callB (call_show rfl un) (by rfl) T.repr (by decide +kernel) (pa_cons (pe_lst (pa_cons (pe_call G1 hr1 (by rfl) L.g1 L.F1.kp L.b1 .nil pass0 (pa_cons (pv 3) pa_nil)) (pa_cons (pe_callN0 G1 hr1 (by rfl) L.g1 L.F1.kp L.n1 pass0 (pk_cons (pv 3) pk_nil)) pa_nil))) pa_nil))
          (pe_callB (call_show rfl un) (by rfl) T.repr (by decide +kernel) (pa_cons (pe_op op_rep (pe_lst (pa_cons (pe_call G10 hr1 (by rfl) L.g10 L.F10.kp L.b10 .nil pass0 (pa_cons (pv 3) pa_nil)) pa_nil)) pe_int) pa_nil)) (nomark _)) (pss_one (ps_ret pe_bl)) pss_nil)
      (C8.pss_cut (ps_if (pt_cmpR op_ne (pe_callB (call_show rfl un) (by rfl) T.repr (by decide +kernel) (pa_cons (pe_lst (pa_cons (pe_call G3 hr2 (by rfl) L.g3 L.F3.kp L.b3 .nil pass0 (pa_cons (pv 3) pa_nil)) (pa_cons (pe_callN0 G3 hr2 (by rfl) L.g3 L.F3.kp L.n3 pass0 (pk_cons (pv 3) pk_nil)) pa_nil))) pa_nil))
          (pe_callB (call_show rfl un) (by rfl) T.repr (by decide +kernel) (pa_cons (pe_op op_rep (pe_lst (pa_cons (pe_call G11 hr2 (by rfl) L.g11 L.F11.kp L.b11 .nil pass0 (pa_cons (pv 3) pa_nil)) pa_nil)) pe_int) pa_nil)) (nomark _)) (pss_one (ps_ret pe_bl)) pss_nil)
      (C8.pss_cut (ps_asg (pe_lc (own := [("side", 7)]) (g := gName 7) (tt := tYes) rfl nd (pi_tup (pe_tup (pa_cons pe_int (pa_cons pe_int pa_nil)))) (blkOk_by (N := nLaw) (sc := defScope sLaw) (by decide +kernel)) (fun _ _ _ _ _ => pg_name (i := 7) nd rfl (Or.inl rfl)) (fun _ _ _ _ _ => pts_nil)
          (fun _ _ _ _ _ => pe_call G7 hr2 (by rfl) L.g7 L.F7.kp L.b7 .nil pass0 (pa_cons (pv 1) (pa_cons (pe_lst (pa_cons pe_non (pa_cons (pe_call G8 hr3 (by rfl) L.g8 L.F8.kp L.b8 .nil pass0 (pa_cons (pv 1) pa_nil)) (pa_cons (pe_ifExp (pt_val (pe_call G10 hr1 (by rfl) L.g10 L.F10.kp L.b10 .nil pass0 (pa_cons (pv 3) pa_nil))) (pv 3) pe_int) pa_nil)))) pa_nil))))
          (pg_unl rfl (pgs_cons (pg_name (i := 4) nd rfl (Or.inl rfl)) (pgs_cons (pg_name (i := 5) nd rfl (Or.inl rfl)) pgs_nil))))
      (C8.pss_cut (ps_set (i := 6) nd rfl (Or.inl rfl) (pe_and (pe_call G10 hr1 (by rfl) L.g10 L.F10.kp L.b10 .nil pass0 (pa_cons (pv 3) pa_nil)) (pe_and (pe_or (pe_cmp (pc_isN (pv 4))) (pe_one (pe_cmpR op_le (pv 4) (pv 3) (nomark _)))) (pe_one (pe_or (pe_cmp (pc_isN (pv 5))) (pe_one (pe_cmpR op_le (pv 3) (pv 5) (nomark _))))))))
      (pss_one (ps_if (pt_cmpR op_ne (pe_callB (call_show rfl un) (by rfl) T.repr (by decide +kernel) (pa_cons (pe_lst (pa_cons (pe_call G2 hr2 (by rfl) L.g2 L.F2.kp L.b2 .nil pass0 (pa_cons (pv 3) (pa_cons (pv 4) (pa_cons (pv 5) pa_nil)))) (pa_cons (pe_callN0 G2 hr2 (by rfl) L.g2 L.F2.kp L.n2 pass0 (pk_cons (pv 5) (pk_cons (pv 3) (pk_cons (pv 4) pk_nil)))) pa_nil))) pa_nil))
          (pe_callB (call_show rfl un) (by rfl) T.repr (by decide +kernel) (pa_cons (pe_lst (pa_cons (pv 6) (pa_cons (pv 6) pa_nil))) pa_nil)) (nomark _)) (pss_one (ps_ret pe_bl)) pss_nil))))))))
    (pss_one (ps_ret pe_bl))), ?_⟩
  refine ⟨.ref a, rfl, a, ns, rfl, hS, len, fun H1 D C ms sm nD dn0 => ?_⟩
  refine ⟨8, rfl, by decide, by decide, for_range (lo := 0) (n := 8) (fun i σ J => ∃ (t l : Int) (y2 y3 y4 y5 y6 y7 : Option V), σ = [some (.ref a), some (.ref D), y2, y3, y4, y5, y6, y7] ∧ Dn J D C ms t l ∧ t ≤ i * 63)
    ⟨0, 0, none, none, none, none, none, none, rfl, dn0, by omega⟩ ?_ (fun σ J _ => rfl)⟩
  rintro i σ J hi ⟨t, l, y2, y3, y4, y5, y6, y7, rfl, dn, tb⟩
  clear dn0 sm nD hS
  have c2 : cost 2 = 53 := rfl
  -- value = a value
  refine ⟨M1 a D C ms (i * 63 + 53), ?_, ?_⟩
  · refine ⟨.ref D, rfl, D, C, ms, t, l, rfl, dn, by omega, fun J1 t1 l1 v dn1 tt1 kp1 gd => ?_⟩
    refine ⟨t1, l1, v, _, _, _, _, _, rfl, dn1, by omega, gd.imp (fun b n z => ?_) fun _ _ e _ => e⟩
    rw [z, dn.d] at n
    cases n
  clear tb dn
  rintro σ J ⟨t, l, v, y2, y4, y5, y6, y7, rfl, dn, tb, gd⟩
  -- integers
  refine ⟨M1 a D C ms (i * 63 + 53), ?_, ?_⟩
  · obtain ⟨ty, kd⟩ := gd.kd (K := K)
    refine ⟨v, rfl, v, ty, rfl, kd, v, rfl, rfl, rfl, v, ty, rfl, kd, (by show 2 ≤ sizeLine; decide), fun p np => ⟨p, _, rfl, two upd_same, sh2 _ _, nd2 _ _, dp2 _ _, sz2 _ _, ?_⟩⟩
    have s1 := Same.new (o := .lst [.bl (isI v), .bl (isI v)]) np
    obtain ⟨ty2, kd2⟩ := (gd.same s1).kd (K := K)
    refine ⟨v, rfl, v, ty2, rfl, kd2, (by show 1 ≤ sizeLine; decide), fun p2 np2 => ⟨p2, 2, [.bl (isI v)], rfl, rfl, upd_same, by decide, by decide, (by show 1 * 2 ≤ sizeLine; decide), fun p3 np3 => ⟨p3, _, rfl, two (a := isI v) (b := isI v) upd_same, sh2 _ _, nd2 _ _, dp2 _ _, sz2 _ _, ?_⟩⟩⟩
    have s2 := s1.trans ((Same.new (o := .lst [.bl (isI v)]) np2).trans (Same.new (o := .lst (List.replicate (2 : Int).toNat [V.bl (isI v)]).flatten) np3))
    refine ⟨rfl, _, rfl, iteNS rfl ?_⟩
    exact ⟨t, l, v, _, _, _, _, _, rfl, dn.same s2, tb, gd.same s2⟩
  clear tb dn gd
  rintro σ J ⟨t, l, v, y2, y4, y5, y6, y7, rfl, dn, tb, gd⟩
  -- points
  refine ⟨M1 a D C ms (i * 63 + 53), ?_, ?_⟩
  · refine ⟨v, rfl, _, v, rfl, gd, fun G1 s1 => ?_⟩
    refine ⟨v, rfl, rfl, rfl, _, v, rfl, gd.same s1, fun G2 s2 => ?_⟩
    rw [isP_same gd s1]
    have sa := s1.trans s2
    refine ⟨(by show 2 ≤ sizeLine; decide), fun p np => ⟨p, _, rfl, two upd_same, sh2 _ _, nd2 _ _, dp2 _ _, sz2 _ _, ?_⟩⟩
    have sb := sa.trans (Same.new (o := .lst [.bl (isP J v), .bl (isP J v)]) np)
    refine ⟨v, rfl, _, v, rfl, gd.same sb, fun G3 s3 => ?_⟩
    rw [isP_same gd sb]
    have sc := sb.trans s3
    refine ⟨(by show 1 ≤ sizeLine; decide), fun p2 np2 => ⟨p2, 2, [.bl (isP J v)], rfl, rfl, upd_same, by decide, by decide, (by show 1 * 2 ≤ sizeLine; decide), fun p3 np3 => ⟨p3, _, rfl, two (a := isP J v) (b := isP J v) upd_same, sh2 _ _, nd2 _ _, dp2 _ _, sz2 _ _, ?_⟩⟩⟩
    have sd := sc.trans ((Same.new (o := .lst [.bl (isP J v)]) np2).trans (Same.new (o := .lst (List.replicate (2 : Int).toNat [V.bl (isP J v)]).flatten) np3))
    refine ⟨rfl, _, rfl, iteNS rfl ?_⟩
    exact ⟨t, l, v, _, _, _, _, _, rfl, dn.same sd, tb, gd.same sd⟩
  clear tb dn gd
  rintro σ J ⟨t, l, v, y2, y4, y5, y6, y7, rfl, dn, tb, gd⟩
  -- bounds
  refine ⟨M2 a D C ms (i * 63 + 63), ?_, ?_⟩
  · refine ⟨(by show 2 ≤ sizeLine; decide), fun p np => ⟨p, rfl, ⟨_, SqT.of upd_same⟩, fun L0 nL => ?_⟩⟩
    have s1 := Same.new (o := .tup [.int 0, .int 1]) np
    have pL : p ≠ L0 := ne_of_none upd_same nL
    have dn1 := dn.same s1
    have LD : L0 ≠ D := dn1.apart nL
    have pD : p ≠ D := dn.apart np
    refine lc_tup (K := K) (a := p) (xs := [.int 0, .int 1]) (fun j G => ∃ (t1 l1 : Int) (os : List (Option Int)), Dn G D C ms t1 l1 ∧ t1 ≤ i * 63 + 53 + j * 5 ∧ G L0 = some (.lst (os.map oV)) ∧ os.length = j ∧ Gd (fun b => b ≠ D ∧ b ≠ L0) G v ∧ G p = some (.tup [.int 0, .int 1]))
      ⟨t, l, [], dn1.same (Same.new nL), by omega, upd_same, rfl, ?_, (by rw [upd_ne pL]; exact upd_same)⟩ (fun j G _ z => ?_) ?_ ?_
    · exact gd.imp2 fun b o e n => ⟨⟨n, ne_of_none (s1 _ _ e) nL⟩, Same.new nL _ _ (s1 _ _ e)⟩
    · obtain ⟨_, _, _, _, _, _, _, _, e⟩ := z
      exact SqT.of e
    · rintro j x G hx ⟨t1, l1, os, dn2, tt, eL, ol, g2, ep⟩
      have j2 : j < 2 := (List.getElem?_eq_some_iff.mp hx).1
      obtain ⟨ty, kd⟩ := g2.kd (K := K)
      refine ⟨rfl, .ref D, rfl, .ref D, rfl, D, C, ms, t1, l1, rfl, dn2, by omega, fun G2 t2 l2 z dn3 tt2 kp2 => ?_⟩
      have g3 := g2.imp (fun _ n => n) fun _ _ e n => kp2 _ _ e n.1
      obtain ⟨ty2, kd2⟩ := g3.kd (K := K)
      refine ⟨v, rfl, v, ty2, rfl, kd2, _, rfl, ?_⟩
      have two_ways : ∃ u : Int, isI v = true → v = .int u := by
        cases v with
        | int u => exact ⟨u, fun _ => rfl⟩
        | _ => exact ⟨0, fun z => nomatch z⟩
      obtain ⟨u0, hu0⟩ := two_ways
      refine ite2 (fun c => ?_) (fun c => ?_)
      case' refine_1 => refine ⟨.int u0, by rw [hu0 c]; rfl, ?_⟩
      all_goals (
        refine ⟨(by show 3 ≤ sizeLine; decide), fun q nq => ?_⟩
        refine ⟨D, C, q, ms, t2, l2, _, rfl, dn3.same (Same.new nq), by omega, upd_same, dn3.apart nq, (by show 0 < 3; decide), (by show 3 ≤ 1000; decide), fun G3 t3 l3 x3 dn4 tt3 kp3 hx3 => ?_⟩
        have ho : ∃ o, x3 = oV o := by
          simp only [List.mem_cons, List.not_mem_nil, or_false] at hx3
          rcases hx3 with e | e | e
          · exact ⟨none, e⟩
          · exact ⟨some _, e⟩
          · exact ⟨some _, e⟩
        obtain ⟨o, rfl⟩ := ho
        have kk : Kp D G G3 := kp2.trans ((Kp.same (Same.new nq)).trans kp3)
        have sk : ∀ b u, G3 b = some u → b ≠ L0 → (upd G3 L0 (.lst (os.map oV ++ [oV o]))) b = some u := fun b u e n => by
          rw [upd_ne n]
          exact e
        refine ⟨os.map oV, kk _ _ eL LD, ?_, t3, l3, os ++ [o], ⟨sk _ _ dn4.d LD.symm, sk _ _ dn4.c (ne_of_none dn1.c nL), dn4.ne, dn4.n, dn4.t0, dn4.l0⟩, by omega, ?_, by rw [List.length_append, ol]; rfl, g2.imp (fun _ n => n) fun b u e n => sk _ _ (kk _ _ e n.1) n.2, sk _ _ (kk _ _ ep pD) pL⟩
        · rw [List.length_map]
          exact small1000 (by omega)
        · rw [List.map_append]
          exact upd_same)
    · rintro G ⟨t1, l1, os, dn2, tt, eL, ol, g2, ep⟩
      match os, ol, eL with
      | [lo, hi'], ol, eL =>
        refine ⟨L0, [oV lo, oV hi'], rfl, SqL.of eL, rfl, _, _, rfl, _, _, rfl, rfl, ?_⟩
        exact ⟨t1, l1, v, lo, hi', _, _, _, rfl, dn2, (by have e : (([V.int 0, V.int 1].length : Nat) : Int) = 2 := rfl; omega), g2.imp (fun _ n => n.1) fun _ _ e _ => e⟩
  clear tb dn gd
  rintro σ J ⟨t, l, v, lo, hi', y2, y6, y7, rfl, dn, tb, gd⟩
  -- what is due
  refine ⟨M3 a D C ms (i * 63 + 63), ?_, ?_⟩
  · obtain ⟨ty, kd⟩ := gd.kd (K := K)
    refine ⟨v, rfl, v, ty, rfl, kd, _, rfl, ?_⟩
    have fin : ∀ b : Bool, b = inB v lo hi' → M3 a D C ms (i * 63 + 63) [some (.ref a), some (.ref D), y2, some v, some (oV lo), some (oV hi'), some (.bl b), y7] J := fun b e => by
      subst e
      exact ⟨t, l, v, lo, hi', _, _, rfl, dn, tb, gd⟩
    cases v with
    | int u =>
      refine iteT ⟨oV lo, rfl, _, rfl, ?_⟩
      have second : ∀ b : Bool, (lo.all fun z => decide (z ≤ u)) = b → (if b = true then tOrV (tIsN (tVar 5)) (tOp (rI0 fun i j => .bl (decide (i ≤ j))) (tVar 3) (tVar 5)) [some (.ref a), some (.ref D), y2, some (.int u), some (oV lo), some (oV hi'), y6, y7] J
            (fun x G => M3 a D C ms (i * 63 + 63) [some (.ref a), some (.ref D), y2, some (.int u), some (oV lo), some (oV hi'), some x, y7] G)
          else M3 a D C ms (i * 63 + 63) [some (.ref a), some (.ref D), y2, some (.int u), some (oV lo), some (oV hi'), some (.bl false), y7] J) := by
        intro b e
        cases b with
        | false =>
          refine iteF (fin false ?_)
          show false = ((lo.all fun z => decide (z ≤ u)) && hi'.all fun z => decide (u ≤ z))
          rw [e]
          rfl
        | true =>
          refine iteT ⟨oV hi', rfl, _, rfl, ?_⟩
          have q : ∀ c, c = (hi'.all fun z => decide (u ≤ z)) → M3 a D C ms (i * 63 + 63) [some (.ref a), some (.ref D), y2, some (.int u), some (oV lo), some (oV hi'), some (.bl c), y7] J := fun c ec => by
            refine fin c ?_
            show c = ((lo.all fun z => decide (z ≤ u)) && hi'.all fun z => decide (u ≤ z))
            rw [e, ec]
            rfl
          cases hi' with
          | none => exact q true rfl
          | some z => exact ⟨.int u, rfl, .int z, rfl, u, z, rfl, rfl, q _ rfl⟩
      cases lo with
      | none => exact ⟨true, rfl, second true rfl⟩
      | some z => exact ⟨.int z, rfl, .int u, rfl, z, u, rfl, rfl, _, rfl, second _ rfl⟩
    | _ => exact iteF (fin false rfl)
  clear tb dn gd
  rintro σ J ⟨t, l, v, lo, hi', y2, y7, rfl, dn, tb, gd⟩
  obtain ⟨ty, kd⟩ := gd.kd (K := K)
  refine ⟨v, rfl, oV lo, rfl, oV hi', rfl, v, ty, lo, hi', rfl, kd, ?_⟩
  refine ⟨oV hi', rfl, v, rfl, oV lo, rfl, rfl, rfl, v, ty, lo, hi', rfl, kd, ?_⟩
  refine ⟨(by show 2 ≤ sizeLine; decide), fun p np => ⟨p, _, rfl, two upd_same, sh2 _ _, nd2 _ _, dp2 _ _, sz2 _ _, ?_⟩⟩
  refine ⟨_, rfl, _, rfl, (by show 2 ≤ sizeLine; decide), fun p2 np2 => ⟨p2, _, rfl, two upd_same, sh2 _ _, nd2 _ _, dp2 _ _, sz2 _ _, ?_⟩⟩
  refine ⟨rfl, _, rfl, iteNS rfl ?_⟩
  exact ⟨t, l, _, _, _, _, _, _, rfl, dn.same ((Same.new np).trans (Same.new np2)), by omega⟩
end
end Bay
set_option Elab.async false
set_option linter.all false
set_option maxRecDepth 100000
set_option maxHeartbeats 4000000
namespace Bay
open PySem PySem.Spec PyProof.Rows L2
theorem all_mk {l : PySem.W.OpenLaw} {w : World} {K : PySem.W.Frag} {h : Heap} {mg : Str → Option Value} {fa f1 f2 f3 f5 f6 f7 f8 f9 f10 f11 f12 : Addr} (X : K.In h) (G : h.Ns mainGlobals mg) (hfa : mg "law" = some (.ref fa))
    {od1 an1 od2 an2 od3 an3 od5 an5 od6 an6 od7 an7 od8 an8 od9 an9 od10 an10 od11 an11 od12 an12 : Option Addr} {sl1 sl2 sl3 sl5 sl6 sl7 sl8 sl9 sl10 sl11 sl12 : Array (Option Value)} {oc1 kV1 dc1 pm1 cd1 ct1 oc2 kV2 dc2 pm2 cd2 ct2 oc3 kV3 dc3 pm3 cd3 ct3 oc5 kV5 dc5 pm5 cd5 ct5 oc6 kV6 dc6 pm6 cd6 ct6 oc7 kV7 dc7 pm7 cd7 ct7 oc8 kV8 dc8 pm8 cd8 ct8 oc9 kV9 dc9 pm9 cd9 ct9 oc10 kV10 dc10 pm10 cd10 ct10 oc11 kV11 dc11 pm11 cd11 ct11 oc12 kV12 dc12 pm12 cd12 ct12 : Value}
    (a1 : PySem.W.nsIn K mainGlobals "is_integer" = some (some (.ref f1))) (l1 : K.lookup f1 = some ⟨oc1, od1, .func (PySem.W.fnOf "is_integer" "is_integer" (defArgs sInt) (defBody sInt) (defScope sInt) .none kV1 dc1 pm1 an1 cd1 ct1), sl1⟩) (c1 : PySem.W.codeIn K cd1 "is_integer" = true) (k1 : PySem.W.keepIn K (.ref f1) = true)
    (a2 : PySem.W.nsIn K mainGlobals "is_within" = some (some (.ref f2))) (l2 : K.lookup f2 = some ⟨oc2, od2, .func (PySem.W.fnOf "is_within" "is_within" (defArgs sWithin) (defBody sWithin) (defScope sWithin) .none kV2 dc2 pm2 an2 cd2 ct2), sl2⟩) (c2 : PySem.W.codeIn K cd2 "is_within" = true) (k2 : PySem.W.keepIn K (.ref f2) = true)
    (a3 : PySem.W.nsIn K mainGlobals "is_point" = some (some (.ref f3))) (l3 : K.lookup f3 = some ⟨oc3, od3, .func (PySem.W.fnOf "is_point" "is_point" (defArgs sPoint) (defBody sPoint) (defScope sPoint) .none kV3 dc3 pm3 an3 cd3 ct3), sl3⟩) (c3 : PySem.W.codeIn K cd3 "is_point" = true) (k3 : PySem.W.keepIn K (.ref f3) = true)
    (a5 : PySem.W.nsIn K mainGlobals "_law_dune" = some (some (.ref f5))) (l5 : K.lookup f5 = some ⟨oc5, od5, .func (PySem.W.fnOf "_law_dune" "_law_dune" (defArgs sDune) (defBody sDune) (defScope sDune) .none kV5 dc5 pm5 an5 cd5 ct5), sl5⟩) (c5 : PySem.W.codeIn K cd5 "_law_dune" = true) (k5 : PySem.W.keepIn K (.ref f5) = true)
    (a6 : PySem.W.nsIn K mainGlobals "_law_drift" = some (some (.ref f6))) (l6 : K.lookup f6 = some ⟨oc6, od6, .func (PySem.W.fnOf "_law_drift" "_law_drift" (defArgs sDrift) (defBody sDrift) (defScope sDrift) .none kV6 dc6 pm6 an6 cd6 ct6), sl6⟩) (c6 : PySem.W.codeIn K cd6 "_law_drift" = true) (k6 : PySem.W.keepIn K (.ref f6) = true)
    (a7 : PySem.W.nsIn K mainGlobals "_law_pick" = some (some (.ref f7))) (l7 : K.lookup f7 = some ⟨oc7, od7, .func (PySem.W.fnOf "_law_pick" "_law_pick" (defArgs sPick) (defBody sPick) (defScope sPick) .none kV7 dc7 pm7 an7 cd7 ct7), sl7⟩) (c7 : PySem.W.codeIn K cd7 "_law_pick" = true) (k7 : PySem.W.keepIn K (.ref f7) = true)
    (a8 : PySem.W.nsIn K mainGlobals "_law_integer" = some (some (.ref f8))) (l8 : K.lookup f8 = some ⟨oc8, od8, .func (PySem.W.fnOf "_law_integer" "_law_integer" (defArgs sInteger) (defBody sInteger) (defScope sInteger) .none kV8 dc8 pm8 an8 cd8 ct8), sl8⟩) (c8 : PySem.W.codeIn K cd8 "_law_integer" = true) (k8 : PySem.W.keepIn K (.ref f8) = true)
    (a9 : PySem.W.nsIn K mainGlobals "_law_value" = some (some (.ref f9))) (l9 : K.lookup f9 = some ⟨oc9, od9, .func (PySem.W.fnOf "_law_value" "_law_value" (defArgs sValue) (defBody sValue) (defScope sValue) .none kV9 dc9 pm9 an9 cd9 ct9), sl9⟩) (c9 : PySem.W.codeIn K cd9 "_law_value" = true) (k9 : PySem.W.keepIn K (.ref f9) = true)
    (a10 : PySem.W.nsIn K mainGlobals "_law_is_integer" = some (some (.ref f10))) (l10 : K.lookup f10 = some ⟨oc10, od10, .func (PySem.W.fnOf "_law_is_integer" "_law_is_integer" (defArgs sLInt) (defBody sLInt) (defScope sLInt) .none kV10 dc10 pm10 an10 cd10 ct10), sl10⟩) (c10 : PySem.W.codeIn K cd10 "_law_is_integer" = true) (k10 : PySem.W.keepIn K (.ref f10) = true)
    (a11 : PySem.W.nsIn K mainGlobals "_law_is_point" = some (some (.ref f11))) (l11 : K.lookup f11 = some ⟨oc11, od11, .func (PySem.W.fnOf "_law_is_point" "_law_is_point" (defArgs sLPoint) (defBody sLPoint) (defScope sLPoint) .none kV11 dc11 pm11 an11 cd11 ct11), sl11⟩) (c11 : PySem.W.codeIn K cd11 "_law_is_point" = true) (k11 : PySem.W.keepIn K (.ref f11) = true)
    (a12 : PySem.W.nsIn K mainGlobals "law" = some (some (.ref f12))) (l12 : K.lookup f12 = some ⟨oc12, od12, .func (PySem.W.fnOf "law" "law" (defArgs sLaw) (defBody sLaw) (defScope sLaw) .none kV12 dc12 pm12 an12 cd12 ct12), sl12⟩) (c12 : PySem.W.codeIn K cd12 "law" = true) (k12 : PySem.W.keepIn K (.ref f12) = true)
    (zint : PySem.W.nsIn K mainGlobals "int" = some none) (zlen : PySem.W.nsIn K mainGlobals "len" = some none) (zabs : PySem.W.nsIn K mainGlobals "abs" = some none) (zrange : PySem.W.nsIn K mainGlobals "range" = some none) (ztuple : PySem.W.nsIn K mainGlobals "tuple" = some none) (zisinstance : PySem.W.nsIn K mainGlobals "isinstance" = some none) (zbool : PySem.W.nsIn K mainGlobals "bool" = some none) (zlist : PySem.W.nsIn K mainGlobals "list" = some none) (zrepr : PySem.W.nsIn K mainGlobals "repr" = some none) :
    ∃ fd : FuncData, Fun K "law" "law" sLaw fa fd ∧ (∀ (s : Shared) (u : Value), BindsTo s fd ⟨[u], []⟩ [("script", u)]) ∧
      ∀ (t : Shared) (base : Heap) (cdv : Value) (H : Hp) (a : Addr) (ns : List Int), K.In base → base.Ns mainGlobals mg → ns.length ≤ 63 → SqL K H a (ns.map V.int) → Room 6 (callerA.deeper (envOfC "law" (defScope sLaw) t.heap.objs.size fa cdv)) →
        ∃ r, PSs (cxOf CX0 l.prog w K mg base nLaw "law" (defScope sLaw) fa cdv callerA [] t H E0).nox (defBody sLaw) r ∧ r { nx := fun _ _ => False, rt := fun v _ => v = .bl true } (start nLaw [.ref a]) H := by
  have e := hfa.symm.trans (PySem.W.mg_of X G a12)
  cases e
  have F1 := fun_mk (st := sInt) l1 c1 k1
  have F2 := fun_mk (st := sWithin) l2 c2 k2
  have F3 := fun_mk (st := sPoint) l3 c3 k3
  have F5 := fun_mk (st := sDune) l5 c5 k5
  have F6 := fun_mk (st := sDrift) l6 c6 k6
  have F7 := fun_mk (st := sPick) l7 c7 k7
  have F8 := fun_mk (st := sInteger) l8 c8 k8
  have F9 := fun_mk (st := sValue) l9 c9 k9
  have F10 := fun_mk (st := sLInt) l10 c10 k10
  have F11 := fun_mk (st := sLPoint) l11 c11 k11
  have F12 := fun_mk (st := sLaw) l12 c12 k12
  have T : Blt4 mg := { int := PySem.W.mg_none_of X G zint, len := PySem.W.mg_none_of X G zlen, abs := PySem.W.mg_none_of X G zabs, range := PySem.W.mg_none_of X G zrange, tuple := PySem.W.mg_none_of X G ztuple, isi := PySem.W.mg_none_of X G zisinstance, bool := PySem.W.mg_none_of X G zbool, list := PySem.W.mg_none_of X G zlist, repr := PySem.W.mg_none_of X G zrepr }
  have L : Defs K mg f1 f2 f3 f5 f6 f7 f8 f9 f10 f11 _ _ _ _ _ _ _ _ _ _ :=
    { F1 := F1, g1 := PySem.W.mg_of X G a1, F2 := F2, g2 := PySem.W.mg_of X G a2, F3 := F3, g3 := PySem.W.mg_of X G a3, F5 := F5, g5 := PySem.W.mg_of X G a5, F6 := F6, g6 := PySem.W.mg_of X G a6, F7 := F7, g7 := PySem.W.mg_of X G a7, F8 := F8, g8 := PySem.W.mg_of X G a8, F9 := F9, g9 := PySem.W.mg_of X G a9, F10 := F10, g10 := PySem.W.mg_of X G a10, F11 := F11, g11 := PySem.W.mg_of X G a11,
      b1 := F1.binds (ps := ["value"]) fun _ _ _ _ _ _ us hl => match us, hl with | [_], _ => rfl,
      b2 := F2.binds (ps := ["value", "least", "most"]) fun _ _ _ _ _ _ us hl => match us, hl with | [_, _, _], _ => rfl,
      b3 := F3.binds (ps := ["value"]) fun _ _ _ _ _ _ us hl => match us, hl with | [_], _ => rfl,
      b5 := F5.binds (ps := ["script"]) fun _ _ _ _ _ _ us hl => match us, hl with | [_], _ => rfl,
      b6 := F6.binds (ps := ["dune", "many"]) fun _ _ _ _ _ _ us hl => match us, hl with | [_, _], _ => rfl,
      b7 := F7.binds (ps := ["dune", "some"]) fun _ _ _ _ _ _ us hl => match us, hl with | [_, _], _ => rfl,
      b8 := F8.binds (ps := ["dune"]) fun _ _ _ _ _ _ us hl => match us, hl with | [_], _ => rfl,
      b9 := F9.binds (ps := ["dune", "deep"]) fun _ _ _ _ _ _ us hl => match us, hl with | [_, _], _ => rfl,
      b10 := F10.binds (ps := ["value"]) fun _ _ _ _ _ _ us hl => match us, hl with | [_], _ => rfl,
      b11 := F11.binds (ps := ["value"]) fun _ _ _ _ _ _ us hl => match us, hl with | [_], _ => rfl,
      n1 := kbn_of F1 (gg := fun ws => ws) (fun _ _ _ _ _ _ ws hl => match ws, hl with | [_], _ => rfl) (fun r => r),
      n3 := kbn_of F3 (gg := fun ws => ws) (fun _ _ _ _ _ _ ws hl => match ws, hl with | [_], _ => rfl) (fun r => r),
      n2 := kbn_of F2 (gg := fun ws => ws.drop 1 ++ ws.take 1) (fun _ _ _ _ _ _ ws hl => match ws, hl with | [_, _, _], _ => rfl) (fun r => (r.drop 1).append (r.take 1)) }
  exact ⟨_, F12, fun s u => .of_eq rfl, fun t base cdv H a ns _ _ hl hS hr => law_body L T hl hS hr⟩
end Bay
open PySem PySem.W PyProof.Rows
set_option maxRecDepth 100000 in
set_option maxHeartbeats 0 in
theorem PySem.Challenge.cw_baysout_k02_integers_and_points_holds : PySem.Challenge.rw_baysout_k02_integers_and_points.Holds := by
  w_on; o_law; k_head; (case hw => w_witness2)
  k_fill
  refine Bay.walk_law (l := PySem.Challenge.rw_baysout_k02_integers_and_points) (n := 63) (k := 6) (st := Bay.sLaw) (N := Bay.nLaw) rfl (by decide) rfl ⟨rfl, by decide, by decide⟩ Bay.scLaw (fun w h Y => PySem.W.kIn_of Y) ?F
  case F =>
    intro w mg fa h KX G hmg
    refine' Bay.all_mk KX G hmg ?a1 ?l1 ?c1 ?k1 ?a2 ?l2 ?c2 ?k2 ?a3 ?l3 ?c3 ?k3 ?a5 ?l5 ?c5 ?k5 ?a6 ?l6 ?c6 ?k6 ?a7 ?l7 ?c7 ?k7 ?a8 ?l8 ?c8 ?k8 ?a9 ?l9 ?c9 ?k9 ?a10 ?l10 ?c10 ?k10 ?a11 ?l11 ?c11 ?k11 ?a12 ?l12 ?c12 ?k12 ?zint ?zlen ?zabs ?zrange ?ztuple ?zisinstance ?zbool ?zlist ?zrepr
    (case a1 => k_is); (case l1 => k_is); (case c1 => k_is); (case k1 => k_is)
    (case a2 => k_is); (case l2 => k_is); (case c2 => k_is); (case k2 => k_is)
    (case a3 => k_is); (case l3 => k_is); (case c3 => k_is); (case k3 => k_is)
    (case a5 => k_is); (case l5 => k_is); (case c5 => k_is); (case k5 => k_is)
    (case a6 => k_is); (case l6 => k_is); (case c6 => k_is); (case k6 => k_is)
    (case a7 => k_is); (case l7 => k_is); (case c7 => k_is); (case k7 => k_is)
    (case a8 => k_is); (case l8 => k_is); (case c8 => k_is); (case k8 => k_is)
    (case a9 => k_is); (case l9 => k_is); (case c9 => k_is); (case k9 => k_is)
    (case a10 => k_is); (case l10 => k_is); (case c10 => k_is); (case k10 => k_is)
    (case a11 => k_is); (case l11 => k_is); (case c11 => k_is); (case k11 => k_is)
    (case a12 => k_is); (case l12 => k_is); (case c12 => k_is); (case k12 => k_is)
    (case zint => k_is); (case zlen => k_is); (case zabs => k_is); (case zrange => k_is); (case ztuple => k_is); (case zisinstance => k_is); (case zbool => k_is); (case zlist => k_is); (case zrepr => k_is)
#print axioms PySem.Challenge.cw_baysout_k02_integers_and_points_holds
