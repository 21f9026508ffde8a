import PyProof.Rows.All
import Wide.All
import OpenK.AllK
import Wide.FinOn
import HandS.ForMost
import PySem.Challenge.RW_namelessly_k41_tables_made_from_tables
import HandS.ExcInit
import HandS.ExcField
import HandS.FStr
import KE.KExcSuper
import HandS.Evl
import HandS.Style
import HandS.StrMore
import HandS.Sort
import HandS.SortRule
import HandS.Walk
import HandS.Conv
import HandS.Zip
import HandS.Star
import KE.KDictZip
import PyProof.ListNew
import PyProof.TupleCall
import PyProof.TupleOfSeq
import HandS.Zip0
import HandS.Gcd
import HandS.DeepEq
import HandS.DictComp
import KE.KEqDict
import PyProof.CallFns
import PyProof.NeKinds
import HandS.IsInst
import HandS.Dict
import HandS.EndTab
import HandS.EndOwn
import HandS.Lambda
import HandS.RaiseMore
import HandS.TupMul
set_option Elab.async false
set_option maxRecDepth 100000
set_option maxHeartbeats 4000000
/-! The text by places -/
namespace Nm
open PySem L2
def top (i : Nat) : Stmt := PySem.Challenge.pw_namelessly_k41_tables_made_from_tables.main.body.getD i (.Pass ⟨0, 0, 0, 0⟩)
abbrev sKept : Stmt := top 2
abbrev sBadNumberInit : Stmt := inClass (top 5) 0
abbrev sWeightsBehind : Stmt := top 7
abbrev sTurned : Stmt := top 8
abbrev sAdded : Stmt := top 9
abbrev sLessened : Stmt := top 10
abbrev sOpenCells : Stmt := top 12
abbrev sPick : Stmt := top 13
abbrev sAnyOrder : Stmt := top 14
abbrev sChoiceOf : Stmt := top 15
abbrev sShapePairs : Stmt := top 16
abbrev sDrawWorld : Stmt := top 17
abbrev sParts : Stmt := top 18
abbrev sSeated : Stmt := top 19
abbrev sOver : Stmt := top 20
abbrev sTimes : Stmt := top 21
abbrev sBehind : Stmt := top 22
abbrev sTurnedLaw : Stmt := top 23
abbrev sBoundOver : Stmt := top 24
abbrev sBase : Stmt := top 25
abbrev sByBase : Stmt := top 26
abbrev sCaught : Stmt := top 27
abbrev sDivisor : Stmt := top 28
abbrev sSum : Stmt := top 29
abbrev sDrawnTable : Stmt := top 30
abbrev sLaw : Stmt := top 31
end Nm
set_option maxRecDepth 100000
set_option maxHeartbeats 4000000
/-! super().__init__(e) in the __init__ of an own exception over ValueError -/
namespace Nm
open PySem PySem.Spec PyProof.Rows L2
section
variable {X : Cx} {pins : List (Addr × Obj)} {σ : L2.St} {H : Hp} {s : Shared} {a C dx u : Addr} {fs : List (Str × V)} {E : Value → Shared → Prop} {A : Around}
/-- super().__init__, bound at u, called: nothing of it is told -/
theorem mw_call {us : List Value} {Q : Value → Shared → Prop} (T : OexC X.K C) (I : Inv X pins σ H s) (hu : s.heap.get? u = some (PySem.W.kxs_mw "ValueError.__init__" a)) (e : H a = some (exo a C (some dx))) (hl : us.length ≤ sizeLine)
    (h : ∀ s', Inv X pins σ H s' → Q .none s') : wpAny (model X.prog X.w) A (call (.ref u) us) Q E s := by
  obtain ⟨nm, q, N, bs, bm, sn, sub, ab, col, dd, k0, k1, k2, k3, k5, hC, hbm⟩ := T.cls
  obtain ⟨t1, ho⟩ := exo_at I.hok e
  have fin : ∀ h', (∀ b o, b ≠ a → s.heap.get? b = some o → h'.get? b = some o) → h'.get? a = some ({ cls := .ref C, dict := some dx, data := .fields #[.ref s.heap.objs.size, .none, .none, .none, .bool false, .none] } : Obj) → Inv X pins σ H { s with heap := h', toks := s.toks } := fun h' k e' => by
    have J := I.write (t' := s.toks) (x := a) (e := a) (o := exo a C (some dx)) (by rw [e]; exact True.intro) (.inl rfl) k ⟨_, e'⟩ (exo_ok e')
    have eu : upd H a (exo a C (some dx)) = H := by
      funext b
      by_cases hb : b = a
      · rw [hb, upd_same, e]
      · rw [upd_ne hb]
    rw [eu] at J
    exact J
  have hCC := I.kIn _ _ hC
  obtain ⟨hp, g, d, t, os⟩ := s
  refine wpAny_call (codeAny_of_tree ?_)
  show wpAny _ A.in1 (callAny (.ref u) ⟨us, []⟩) _ _ _
  simp only [callAny]
  refine wpAny_bind (wpAny_load hu ?_)
  simp only [PySem.W.kxs_mw, show (Value.type "method-wrapper" == Value.type "method" || Value.type "method-wrapper" == Value.type "builtin_function_or_method" || Value.type "method-wrapper" == Value.type "method-wrapper") = true by decide, if_true]
  refine PySem.W.KFB.if_so (by decide) ?_
  refine wpAny_bind (PySem.W.check_bound_init F.excBase_ValueError.toExcCallFacts hCC ho rfl ?_)
  refine wpAny_bind (wpAny_pure (wpAny_pure ?_))
  refine ⟨plainId_quiet F.excBase_ValueError.init.plain _, codeAny_builtin F.excBase_ValueError.initEntry ?_⟩
  exact PySem.W.exc_init_tree (cls := .ref C) (t0 := t1) (dv := some dx) (c2 := .none) (c3 := .none) (b4 := .bool false) ho hl fun h' k e' _ => h _ (fin h' k e')
end
/-- what the written part says of the class at C, its __init__ at f, the code at cda, the cell __class__ at cc -/
structure SupF (P : Program) (K : PySem.W.Frag) (C f cda cc : Addr) (fd : FuncData) (qual : Str) (st : Stmt) (a0 : Str) : Prop where
  oex : OexC K C
  lk : ∃ oc od kV doc pm an ct osl, fd = PySem.W.ksFn "__init__" qual (defArgs st) (defBody st) (defScope st) .none kV doc pm an (.ref cda) ct cc ∧ K.lookup f = some ⟨oc, od, .func fd, osl⟩
  hd : ∃ ar, ((defArgs st).posonlyargs ++ (defArgs st).args).head? = some ar ∧ ar.arg = a0
  code : ∃ ccl cdd vs ccs file tf, K.lookup cda = some ⟨ccl, cdd, .fields vs, ccs⟩ ∧ vs[2]? = some (.str file tf) ∧ ((P.main.file : Str) == file) = true
  recd : PySem.W.codeIn K (.ref cda) qual = true
  cell : ∃ cl cld csl, K.lookup cc = some ⟨cl, cld, .cell (some (.ref C)), csl⟩
  cd : ∃ cd, PySem.W.clsIn K C = some cd
  sub : PySem.W.mroIn K C (.ref C) = some true
  subV : PySem.W.subIn K (.ref C) (.type "ValueError") = some true
  sup : PySem.W.ks_superIn K C C "__init__" = some (some (.builtin "ValueError.__init__"))
  opq : PySem.W.nsIn K cStatics "thirdparty.any" = some none
  top : (P.main.scope.names.lookup ("super" : Str)).isSome = false
section
variable {X : Cx} {pins : List (Addr × Obj)} {σ : L2.St} {H : Hp} {s : Shared} {a C dx f cda cc L : Addr} {fd : FuncData} {qual a0 : Str} {st : Stmt}
/-- super().__init__(e ..), the code known -/
theorem sup_expr {body : List Stmt} {e : Expr} {es : List Expr} {ta : TA} {i : Nat} {p0 p1 p2 pos : Pos} {Q : Value → Shared → Prop} {pl : Sem Bool} (F : SupF X.prog X.K C f cda cc fd qual st a0)
    (hX : X.env = PySem.W.ksEnv qual (defScope st) L f (.ref cda) cc) (hms : X.mg "super" = none)
    (hks : (defScope st).names.lookup ("super" : Str) = some .globalImplicit) (hkc : (defScope st).names.lookup ("__class__" : Str) = some .free) (hN : X.N[i]? = some a0) (hka : (defScope st).names.lookup a0 = some .local) (ha : PA X (e :: es) ta)
    (I : Inv X pins σ H s) (hσ : σ[i]? = some (some (.ref a))) (hH : H a = some (exo a C (some dx)))
    (q : ta σ H fun vs H1 => vs.length ≤ 1000 ∧ H1 a = some (exo a C (some dx)) ∧ ∀ s', Inv X pins σ H1 s' → Q .none s')
    (he : starEach (e :: es) X.env = (false, eval e X.env) :: starEach es X.env := by rfl) (hpl : (backTo pos (starEach es X.env)).any (·.1) = false := by rfl)
    (hc : eval (.Call (.Attribute (.Call (.Name "super" p0) [] [] p1) "__init__" p2) (e :: es) [] pos) X.env = (do
      let ov ← attributeBase (.Call (.Name "super" p0) [] [] p1) "__init__" X.env (eval (.Call (.Name "super" p0) [] [] p1) X.env)
      standAt p2.atName
      let (f, first) ← holding [ov] (getMethod ov "__init__" pl)
      callWith pos f first (backTo pos (starEach (e :: es) X.env)) []) := by rfl) :
    _root_.PySem.wpAt (model X.prog X.w) X.A (.func body X.env) (eval (.Call (.Attribute (.Call (.Name "super" p0) [] [] p1) "__init__" p2) (e :: es) [] pos) X.env) Q X.xe s := by
  have KX := I.kIn
  obtain ⟨oc, od, kV, doc, pm, an, ct, osl, rfl, lk⟩ := F.lk
  obtain ⟨ar, har, hara⟩ := F.hd
  obtain ⟨ccl, cdd, vs, ccs, file, tf, hcode, hvs, hfile⟩ := F.code
  obtain ⟨cl, cld, csl, hcell⟩ := F.cell
  obtain ⟨cd, hcd⟩ := F.cd
  obtain ⟨oD, hD1, hD2⟩ : ∃ oD, s.heap.get? C = some oD ∧ oD.data = .cls cd := by
    unfold PySem.W.clsIn at hcd
    split at hcd
    · rename_i c d cd' sl ho
      cases hcd
      exact ⟨_, KX _ _ ho, rfl⟩
    · cases hcd
  obtain ⟨t1, ho⟩ := exo_at I.hok hH
  obtain ⟨mb, hmb, hmv⟩ := I.mod.blt
  have naC : a ≠ C := fun z => by
    rw [z, hD1] at ho
    cases ho
    cases hD2
  refine PySem.ks_wpAt_MethodCall (pl := pl) ?_ hc
  rw [hX]
  obtain ⟨hp, g, d, t, os⟩ := s
  refine PySem.ks_wpAt_super_base (env := PySem.W.ksEnv qual (defScope st) L f (.ref cda) cc) hks hkc (by decide) rfl (KX _ _ lk) rfl har rfl (KX _ _ hcode) rfl hvs hfile F.top ?_
  have hk : (defScope st).kind = .function := by
    have z := I.ok.kind
    rw [hX] at z
    exact z
  refine PySem.W.ks_loadName_global (env := PySem.W.ksEnv qual (defScope st) L f (.ref cda) cc) hk hks (PySem.Calls.loadGlobal_builtin (env := PySem.W.ksEnv qual (defScope st) L f (.ref cda) cc) (I.mod.glob.keeps I.bk) hms (hmb.keeps I.bk) ((hmv _ (by decide)).trans PyProof.Rows.Boot.«super») ⟨rfl, ?_⟩)
  refine wpAny_loadName_free (env := PySem.W.ksEnv qual (defScope st) L f (.ref cda) cc) hk hkc rfl ⟨_, KX _ _ hcell, rfl⟩ ?_
  obtain ⟨m, hn, hl⟩ := I.loc
  obtain ⟨u0, r0, l0⟩ := hl i a0 (.ref a) hN hσ (by rw [hX]; exact .inl hka)
  obtain rfl : u0 = Value.ref a := r0
  rw [hX] at l0 hn
  have hm0 : m a0 = some (.ref a) := by
    rcases l0 with ⟨_, z⟩ | ⟨z, _⟩
    · exact z
    · have z' : (defScope st).names.lookup a0 = some .cell ∨ (defScope st).names.lookup a0 = some .free := z
      rw [hka] at z'
      rcases z' with z' | z' <;> cases z'
  rw [hara]
  refine wpAny_loadName_local (env := PySem.W.ksEnv qual (defScope st) L f (.ref cda) cc) hk hka hn hm0 ?_
  refine PySem.ks_wpAny_isType_cls hD1 hD2 ⟨rfl, ?_⟩
  refine PySem.ks_wpAny_call_super hD1 hD2 ho rfl (fun c z => by cases z) (PySem.W.looks_mroIn KX F.sub) (fun h' e' k => ?_)
  have I1 : Inv X pins σ H ⟨h', g, d, t, os⟩ := I.kept (t' := t) k
  have KX1 := I1.kIn
  have ho1 := k _ _ ho
  have LT : PySem.W.Looks (model X.prog X.w) h' (typeOf (.ref a)) (.ref C) := fun A Q E s k q => wpAny_typeOf_ref (k _ _ ho1) q
  have hfs := F.sup
  unfold PySem.W.ks_superIn at hfs
  rw [hcd] at hfs
  refine PySem.W.kxs_getMethod PySem.W.kxs_ValueError e' (PySem.W.looks_opaque KX1 F.opq) (l₀ := cd.mro) (fun A Q E s k q => wpAny_bind ((PySem.W.looks_clsIn KX1 hcd) A _ E s k (wpAny_pure q))) rfl KX1 hfs (LT.andThen (PySem.W.looks_subIn KX1 F.subV)) naC (by decide) ?_
  have I2 : Inv X pins σ H ⟨h'.push (PySem.W.kxs_mw "ValueError.__init__" a), g, d, t + 1, os⟩ := I1.kept (t' := t + 1) fun b o z => Heap.get?_push_of_some _ z
  have I3 : Inv X ((h'.objs.size, PySem.W.kxs_mw "ValueError.__init__" a) :: pins) σ H ⟨h'.push (PySem.W.kxs_mw "ValueError.__init__" a), g, d, t + 1, os⟩ := I2.pins_of fun p hp => by
    rcases List.mem_cons.mp hp with z | z
    · subst z
      exact ⟨Heap.get?_push_at rfl rfl, I1.hok.fresh (Nat.le_refl _), Nat.ne_of_gt I1.lt, I1.nofs (Nat.le_refl _), fun v z => by cases z⟩
    · exact I2.pin p (List.mem_append_right _ z)
  show wpAny _ _ (callWith pos (.ref h'.objs.size) [] (backTo pos (starEach (e :: es) (PySem.W.ksEnv qual (defScope st) L f (.ref cda) cc))) []) _ _ _
  rw [← hX]
  have HA : wpAny (model X.prog X.w) X.A (spliced (backTo pos (starEach (e :: es) X.env))) (fun us s1 => PySem.W.KxsAt "ValueError.__init__" h'.objs.size a s1.heap ∧ wpAny (model X.prog X.w) X.A (call (.ref h'.objs.size) us) Q X.xe s1) X.xe ⟨h'.push (PySem.W.kxs_mw "ValueError.__init__" a), g, d, t + 1, os⟩ := by
    refine thn (ha.run pos _ _ σ H _ I3 q) fun us s1 hs1 => ?_
    obtain ⟨vs, H1, I4, r, hl1, hH1, kq⟩ := hs1
    have pu := (I4.pin (h'.objs.size, PySem.W.kxs_mw "ValueError.__init__" a) (List.mem_append_right _ List.mem_cons_self)).1
    exact ⟨pu, mw_call F.oex I4 pu hH1 (by rw [← Paired.length r, sizeLine_eq]; omega) fun s' J => kq s' (J.pins_of fun p hp => J.pin p (List.mem_append_right _ (List.mem_cons_of_mem _ hp)))⟩
  rw [he] at HA ⊢
  refine PySem.W.kxs_callWith (i := "ValueError.__init__") (x := a) (by show (false || (backTo pos (starEach es X.env)).any (·.1)) = false; rw [hpl]; rfl) ?_
  exact PySem.Calls.evalArgs_plain HA
end
/-- the context of such an __init__ -/
def supCx (P : Program) (w : World) (K : PySem.W.Frag) (mg : Str → Option Value) (base : Heap) (N : List Str) (qual : Str) (scope : Scope) (f cda cc : Addr) (A : Around) (outer : List Env) (s : Shared) (H : Hp) (E : XK) : Cx where
  prog := P
  w := w
  K := K
  mg := mg
  base := base
  A := A.deeper (PySem.W.ksEnv qual scope s.heap.objs.size f (.ref cda) cc)
  N := N
  s_0 := s
  H_0 := H
  env := PySem.W.ksEnv qual scope s.heap.objs.size f (.ref cda) cc
  outer := outer
  stack := PySem.W.ksEnv qual scope s.heap.objs.size f (.ref cda) cc :: outer
  ex := []
  fn := fun _ => false
  calm := true
  pn := []
  xe := fun e s' => wpAny (model P w) (A.deeper (PySem.W.ksEnv qual scope s.heap.objs.size f (.ref cda) cc)) (leaving (PySem.W.ksEnv qual scope s.heap.objs.size f (.ref cda) cc) e) (fun _ s'' => CX0 outer H s E e s'') (fun e' s'' => CX0 outer H s E e' s'') s'
/-- what such an __init__'s scope must be -/
structure SupS (p0 p1 : Str) (sc : Scope) : Prop where
  kind : sc.kind = .function
  co : sc.isCoroutine = false
  gen : sc.isGenerator = false
  ne : p0 ≠ p1
  l0 : sc.names.lookup p0 = some .local
  l1 : sc.names.lookup p1 = some .local
  nocell : ∀ x ∈ sc.names, x.2 ≠ .cell
  free : ∀ x ∈ sc.names, x.2 = .free → x.1 = ("__class__" : Str)
  sup : sc.names.lookup ("super" : Str) = some .globalImplicit
  cls : sc.names.lookup ("__class__" : Str) = some .free
section
variable {P : Program} {w : World} {K : PySem.W.Frag} {mg : Str → Option Value} {base : Heap} {A : Around} {outer : List Env} {s : Shared} {H : Hp} {E : XK} {C f cda cc : Addr} {fd : FuncData} {qual p0 p1 : Str} {st : Stmt}
theorem sup_start {h₁ : Heap} {tk : Nat} {x0 x1 : V} {u0 u1 : Value} (S : SupS p0 p1 (defScope st)) (hd : A.handled = none) (e0 : Env0 P w K mg base A outer s H) (hc : ∃ cl cld csl, K.lookup cc = some ⟨cl, cld, .cell (some (.ref C)), csl⟩) (r0 : RelV x0 u0) (r1 : RelV x1 u1)
    (hns : h₁.Ns s.heap.objs.size fun x => [(p0, u0), (p1, u1)].reverse.lookup x) (hk : ∀ b o, s.heap.get? b = some o → h₁.get? b = some o) :
    Inv (supCx P w K mg base [p0, p1] qual (defScope st) f cda cc A outer s H E) [] (start [p0, p1] [x0, x1]) H { s with heap := h₁, toks := tk } := by
  obtain ⟨cl, cld, csl, hcell⟩ := hc
  have hbc := e0.bs _ _ (e0.mod.kin _ _ hcell)
  have noA : ∀ b : Addr, b ∉ (supCx P w K mg base [p0, p1] qual (defScope st) f cda cc A outer s H E).ex := fun b z => absurd (show b ∈ ([] : List Addr) from z) (by simp)
  have cl1 : ∀ {y : Str} {c : Addr}, List.lookup y [(("__class__" : Str), cc)] = some c → y = "__class__" ∧ c = cc := fun {y c} e => by
    have hm := PySem.mem_of_lookup e
    rw [List.mem_singleton] at hm
    cases hm
    exact ⟨rfl, rfl⟩
  refine ⟨⟨e0.mod, S.kind, rfl, rfl, Nat.le_refl _, fun y z c h1 h2 => ?_, fun y hy => ?_, fun y c z _ => (Bool.false_ne_true z).elim, fun _ => hd, Around.frames_deeper e0.frames, .inr ⟨rfl, rfl⟩, fun b z => absurd z (noA b), e0.bs, e0.bsz, fun b _ _ => noA b, fun b z => absurd z (noA b), e0.funs, e0.frf⟩,
    rfl, e0.bare, Un.kept hk, ⟨_, hns, fun i y v h1 h2 h3 => ?_⟩, fun y c h => ?_, e0.hok.fresh (Nat.le_refl _), fun y c h => ?_, fun p hp => absurd (show p ∈ ([] : List (Addr × Obj)) from hp) (by simp), e0.hok.kept hk, rfl⟩
  · exact (cl1 h1).1.trans (cl1 h2).1.symm
  · have hy : (defScope st).names.lookup y = some .cell ∨ (defScope st).names.lookup y = some .free := hy
    rcases hy with hy | hy
    · exact absurd rfl (S.nocell _ (PySem.mem_of_lookup hy))
    · have := S.free _ (PySem.mem_of_lookup hy) rfl
      obtain rfl : y = "__class__" := this
      exact ⟨cc, rfl⟩
  · have h1 : ([p0, p1] : List Str)[i]? = some y := h1
    have h2 : ([some x0, some x1] : List (Option V))[i]? = some (some v) := h2
    have n01 := S.ne
    match i, h1, h2 with
    | 0, h1, h2 =>
      cases h1
      cases h2
      exact ⟨u0, r0, .inl ⟨S.l0, by simp [List.lookup, (show (p0 == p1) = false from by simpa using n01)]⟩⟩
    | 1, h1, h2 =>
      cases h1
      cases h2
      exact ⟨u1, r1, .inl ⟨S.l1, by simp [List.lookup]⟩⟩
    | (n + 2), h1, h2 => simp at h1
  · obtain ⟨_, rfl⟩ := cl1 h
    exact ⟨_, _, hk _ _ hbc.1, rfl⟩
  · obtain ⟨_, rfl⟩ := cl1 h
    exact hbc.2
/-- THE RULE: def __init__(p0, p1): one statement; super().__init__(e ..) -/
theorem sup_def {sp : Sp} {k : Nat} {s1 : Stmt} {e : Expr} {es : List Expr} {q0 q1 q2 q3 q4 : Pos} (F : SupF P K C f cda cc fd qual st p0) (S : SupS p0 p1 (defScope st)) (hms : mg "super" = none)
    (hb : defBody st = [s1, .Expr (.Call (.Attribute (.Call (.Name "super" q0) [] [] q1) "__init__" q2) (e :: es) [] q3) q4]) (len : ∀ vs H Q E, sp vs H Q E → vs.length = 2)
    (hbody : ∀ (A : Around) (outer : List Env) (s : Shared) (H : Hp) (vs : List V) (Q : VK) (E : XK), Room k (A.deeper (PySem.W.ksEnv qual (defScope st) s.heap.objs.size f (.ref cda) cc)) → sp vs H Q E →
      ∃ (a : Addr) (t : TS) (ta : TA), PS (supCx P w K mg base [p0, p1] qual (defScope st) f cda cc A outer s H E) s1 t ∧ PA (supCx P w K mg base [p0, p1] qual (defScope st) f cda cc A outer s H E) (e :: es) ta ∧
        t { nx := fun σ H' => σ[0]? = some (some (.ref a)) ∧ ∃ dx, H' a = some (exo a C (some dx)) ∧ ∀ R : List V → Hp → Prop, (∀ vs H1, vs.length ≤ 1000 → H1 a = some (exo a C (some dx)) → Q .non H1 → R vs H1) → ta σ H' R, rt := fun _ _ => False } (start [p0, p1] vs) H)
    (hsw : ∀ env : Env, swapsWith (.Call (.Attribute (.Call (.Name "super" q0) [] [] q1) "__init__" q2) (e :: es) [] q3) none q4.line env = pure false := by intro env; rfl)
    {pl : Sem Bool} (he : ∀ env : Env, starEach (e :: es) env = (false, eval e env) :: starEach es env := by intro env; rfl) (hpl : ∀ env : Env, (backTo q3 (starEach es env)).any (·.1) = false := by intro env; rfl)
    (hc : ∀ env : Env, eval (.Call (.Attribute (.Call (.Name "super" q0) [] [] q1) "__init__" q2) (e :: es) [] q3) env = (do
      let ov ← attributeBase (.Call (.Name "super" q0) [] [] q1) "__init__" env (eval (.Call (.Name "super" q0) [] [] q1) env)
      standAt q2.atName
      let (f, first) ← holding [ov] (getMethod ov "__init__" pl)
      callWith q3 f first (backTo q3 (starEach (e :: es) env)) []) := by intro env; rfl) : FnOk P w K mg base CX0 (k + 1) f fd [p0, p1] sp := by
  refine ⟨len, fun A outer s H args us vs Q E hr e0 hbd r hsp => ?_⟩
  have F' := F
  obtain ⟨oc, od, kV, doc, pm, an, ct, osl, rfl, lk⟩ := F'.lk
  have KX : K.In s.heap := e0.mod.kin.keeps fun b o e => (e0.bs b o e).1
  have lim : s.heap.NoLimit := e0.mod.nolimit.keeps fun b o e => (e0.bs b o e).1
  have hl2 := len _ _ _ _ hsp
  obtain ⟨a, t, ta, h1, h2, hq⟩ := hbody A outer s H vs Q E (hr.deeper _) hsp
  match vs, us, r, hl2 with
  | [x0, x1], [u0, u1], .cons r0 (.cons r1 .nil), _ =>
    refine PySem.ks_codeAny_call_defAt (binds := [(p0, u0), (p1, u1)]) hr.depth (KX _ _ lk) rfl lim (PySem.W.codeRec_of KX F.recd) rfl hbd S.nocell (fun x hx => ?_) (fun h₁ hns hk₁ => ?_) S.co S.gen S.kind
    · rcases List.mem_cons.mp hx with z | z
      · subst z
        exact S.l0
      · rw [List.mem_singleton] at z
        subst z
        exact S.l1
    · have I := sup_start (qual := qual) (f := f) (cda := cda) (E := E) (tk := s.toks + 2) S hr.hd e0 F.cell r0 r1 hns hk₁
      have hrun := h1.run [] _ _ H _ I hq
      show _root_.PySem.wpAt (model P w) (A.deeper (PySem.W.ksEnv qual (defScope st) s.heap.objs.size f (.ref cda) cc)) (.func (defBody st) (PySem.W.ksEnv qual (defScope st) s.heap.objs.size f (.ref cda) cc)) (execs (defBody st) (PySem.W.ksEnv qual (defScope st) s.heap.objs.size f (.ref cda) cc)) _ _ _
      generalize defBody st = bd at hb ⊢
      rw [show execs bd (PySem.W.ksEnv qual (defScope st) s.heap.objs.size f (.ref cda) cc) = execs [s1, .Expr (.Call (.Attribute (.Call (.Name "super" q0) [] [] q1) "__init__" q2) (e :: es) [] q3) q4] (PySem.W.ksEnv qual (defScope st) s.heap.objs.size f (.ref cda) cc) from by rw [hb]]
      refine PySem.ks_wpAt_execs_cons (PySem.wpAt_of_wpAny (wpAny_mono hrun (fun fl s' hs => ?_) fun e s' hs => hs))
      cases fl with
      | next =>
        obtain ⟨σ', H', J, hσ, dx, hH, hta⟩ := hs
        refine PySem.ks_wpAt_execs_cons (PySem.ks_wpAt_Expr_any (sup_expr (pl := pl) F rfl hms S.sup S.cls (i := 0) rfl S.l0 h2 J hσ hH (hta _ fun vs H1 hl hH1 q => ⟨hl, hH1, fun s2 J2 => ?_⟩) (he _) (hpl _) (hc _)) (hi := J.quiet) (hs := hsw _))
        exact PySem.wpAt_of_wpAny (wpAny_execs_nil ⟨.non, H1, J2.os, J2.bare, J2.base, J2.hok, rfl, q⟩)
      | brk =>
        obtain ⟨_, _, _, z⟩ := hs
        exact False.elim z
      | cont =>
        obtain ⟨_, _, _, z⟩ := hs
        exact False.elim z
      | ret u =>
        obtain ⟨_, _, _, _, _, z⟩ := hs
        exact False.elim z
end
end Nm
set_option maxRecDepth 100000
set_option maxHeartbeats 4000000
namespace Nm
open PySem L2
/-! ### the source of draws -/
def srcD (c : Addr) (left mixed turn : Int) : List (Key × V) :=
  [(Sum.inr "cells", V.ref c), (Sum.inr "left", V.int left), (Sum.inr "mixed", V.int mixed), (Sum.inr "turn", V.int turn)]
structure SrcOk (H : Hp) (s c : Addr) (cs : List Int) (left mixed turn : Int) : Prop where
  ds : H s = some (.dK (srcD c left mixed turn))
  dc : H c = some (.lst (cs.map V.int))
  nn : ∀ x ∈ cs, 0 ≤ x
  len : cs.length ≤ 63
  l0 : 0 ≤ left
  m0 : 0 ≤ mixed
  m1 : mixed < 2147483629
  t0 : 0 ≤ turn
def Src (H : Hp) (s c : Addr) : Prop := ∃ cs left mixed turn, SrcOk H s c cs left mixed turn
/-- all but the source stays -/
def Kp (s c : Addr) (H H' : Hp) : Prop := ∀ b o, H b = some o → b ≠ s → b ≠ c → H' b = some o
theorem Kp.refl {s c : Addr} (H : Hp) : Kp s c H H := fun _ _ h _ _ => h
theorem Kp.trans {s c : Addr} {H H1 H2 : Hp} (a : Kp s c H H1) (b : Kp s c H1 H2) : Kp s c H H2 := fun x o h h1 h2 => b x o (a x o h h1 h2) h1 h2
theorem Kp.same {s c : Addr} {H H1 : Hp} (a : Same H H1) : Kp s c H H1 := fun x o h _ _ => a x o h
theorem Kp.new {s c : Addr} {H H1 : Hp} (a : Kp s c H H1) {p : Addr} {o : HO} (h : H1 p = none) : Kp s c H (upd H1 p o) := fun x u e h1 h2 => by
  have := a x u e h1 h2
  rw [upd_ne (ne_of_none this h)]
  exact this
theorem Src.upd {H : Hp} {s c p : Addr} {o : HO} (S : Src H s c) (h1 : p ≠ s) (h2 : p ≠ c) : Src (upd H p o) s c := by
  obtain ⟨cs, l, m, t, S⟩ := S
  exact ⟨cs, l, m, t, ⟨by rw [upd_ne h1.symm]; exact S.ds, by rw [upd_ne h2.symm]; exact S.dc, S.nn, S.len, S.l0, S.m0, S.m1, S.t0⟩⟩
theorem Src.same {H H' : Hp} {s c : Addr} (S : Src H s c) (e : Same H H') : Src H' s c := by
  obtain ⟨cs, l, m, t, S⟩ := S
  exact ⟨cs, l, m, t, ⟨e _ _ S.ds, e _ _ S.dc, S.nn, S.len, S.l0, S.m0, S.m1, S.t0⟩⟩
theorem Src.ne {H : Hp} {s c p : Addr} (S : Src H s c) (h : H p = none) : p ≠ s ∧ p ≠ c := by
  obtain ⟨cs, l, m, t, S⟩ := S
  exact ⟨(ne_of_none S.ds h).symm, (ne_of_none S.dc h).symm⟩
theorem Src.new {H : Hp} {s c p : Addr} {o : HO} (S : Src H s c) (h : H p = none) : Src (L2.upd H p o) s c := S.upd (S.ne h).1 (S.ne h).2
theorem tyes {σ : St} {H : Hp} {A B : Hp → Prop} (h : A H) : tYes σ H (fun b H3 => if b = true then A H3 else B H3) := by
  show (if true = true then A H else B H)
  rw [if_pos rfl]
  exact h
/-- what is new since H, and stays where only the source changes -/
theorem Kp.off {H H1 : Hp} {s c p : Addr} {o : HO} (a : Kp s c H H1) (h : H p = none) : Kp s c H (L2.upd H1 p o) := fun b u e h1 h2 => by
  rw [upd_ne (ne_of_none e h)]
  exact a b u e h1 h2
theorem Kp.free {H H1 : Hp} {s c p : Addr} (a : Kp s c H H1) (S : Src H1 s c) (h : H1 p = none) : H p = none := by
  cases q : H p with
  | none => rfl
  | some o =>
    obtain ⟨n1, n2⟩ := S.ne h
    rw [a p o q n1 n2] at h
    cases h
theorem same_new {H : Hp} {p : Addr} {o : HO} (h : H p = none) : Same H (upd H p o) := fun x u e => by
  rw [upd_ne (ne_of_none e h)]
  exact e
theorem k1 : ¬ (("cells" : Str) = "left") := by decide +kernel
theorem k2 : ¬ (("cells" : Str) = "mixed") := by decide +kernel
theorem k3 : ¬ (("cells" : Str) = "turn") := by decide +kernel
theorem k4 : ¬ (("left" : Str) = "mixed") := by decide +kernel
theorem k5 : ¬ (("left" : Str) = "turn") := by decide +kernel
theorem k6 : ¬ (("mixed" : Str) = "turn") := by decide +kernel
theorem k4' : ¬ (("mixed" : Str) = "left") := by decide +kernel
theorem k5' : ¬ (("turn" : Str) = "left") := by decide +kernel
section
variable {c : Addr} {l m t : Int}
theorem src_cells : valV (srcD c l m t) (Sum.inr "cells" : Key) = some (.ref c) := valV_pos rfl
theorem inr_ne {x y : Str} (h : ¬ x = y) : ¬ (Sum.inr x : Key) = Sum.inr y := fun e => h (Sum.inr.inj e)
theorem src_left : valV (srcD c l m t) (Sum.inr "left" : Key) = some (.int l) := by
  unfold srcD
  rw [valV_neg (inr_ne k1)]
  exact valV_pos rfl
theorem src_mixed : valV (srcD c l m t) (Sum.inr "mixed" : Key) = some (.int m) := by
  unfold srcD
  rw [valV_neg (inr_ne k2), valV_neg (inr_ne k4)]
  exact valV_pos rfl
theorem src_turn : valV (srcD c l m t) (Sum.inr "turn" : Key) = some (.int t) := by
  unfold srcD
  rw [valV_neg (inr_ne k3), valV_neg (inr_ne k5), valV_neg (inr_ne k6)]
  exact valV_pos rfl
theorem put_left {z : Int} : putK (srcD c l m t) (Sum.inr "left" : Key) (.int z) = srcD c z m t := by
  unfold putK srcD
  simp [k1, k4', k5']
theorem put_turn {z : Int} : putK (srcD c l m t) (Sum.inr "turn" : Key) (.int z) = srcD c l m z := by
  unfold putK srcD
  simp [k3, k5, k6]
theorem src_len : (srcD c l m t).length < sizeLine := by show 4 < sizeLine; decide
end
/-! ### _law_pick -/
def spPick : Sp := fun vs H Q _ => ∃ (s c : Addr) (n : Int), vs = [.ref s, .int n] ∧ Src H s c ∧ 1 ≤ n ∧ n < 1073741824 ∧
  ∀ (k : Int) (H' : Hp), 0 ≤ k → k < n → Src H' s c → Kp s c H H' → Q (.int k) H'
theorem scPick : FnScope ["_law_source", "_law_many", "_law_cells", "_law_left", "_law_turn", "_law_mixed"] ["_law_source", "_law_many"] (defScope sPick) := ⟨rfl, rfl, rfl, by decide +kernel, rfl, by decide +kernel, by decide +kernel⟩
structure TxtA (mg : Str → Option Value) : Prop where
  len : mg "len" = none
  int : mg "int" = none
section
variable {P : Program} {w : World} {K : PySem.W.Frag} {mg : Str → Option Value} {base : Heap}
theorem ok_pick {f : Addr} {fd : FuncData} (F : Fun K "_law_pick" "_law_pick" sPick f fd) (T : TxtA mg) : FnOk P w K mg base CX0 1 f fd ["_law_source", "_law_many"] spPick := by
  refine F.ok scPick (fun vs H Q E h => ?_) (fun cdv A outer s H vs Q E hr h => ?_)
  · obtain ⟨p, dx, n, rfl, _⟩ := h
    rfl
  · obtain ⟨sa, ca, n, rfl, ⟨cs, l, m, t, S⟩, n1, n2, k⟩ := h
    have hu := hu_of hr
    refine ⟨_, pss_cons (ps_if (pt_cmpR op_lt (pv 1) pe_int (nomark _)) (pss_one (ps_ret pe_int)) pss_nil)
      (pss_cons (ps_set (i := 2) scPick.nd rfl (Or.inl rfl) (pe_dget hu (pv 0) pe_str (fun _ _ => rfl)))
      (Evl.pss_cut (ps_while PassesOwn.never (PW.pt (pw_and (pt_cmpR op_lt (pe_dget hu (pv 0) pe_str (fun _ _ => rfl)) pe_int (nomark _)) (pw_and1 (pt_cmpR op_gt (pe_callB call_len_seq (by rfl) T.len PySem.boot_len (pa_cons (pv 2) pa_nil)) pe_int (nomark _)))))
        (pss_one (ps_dput hu (pv 0) pe_str (pe_bm0 PySem.F.plainAttrs_list PySem.F.slot_list_pop PySem.F.type_list_pop mt_pop (pv 2)) rfl)))
      (pss_cons (ps_set (i := 3) scPick.nd rfl (Or.inl rfl) (pe_dget hu (pv 0) pe_str (fun _ _ => rfl)))
      (pss_cons (ps_if (pt_cmpR op_gt (pv 3) pe_int (nomark _))
        (pss_cons (ps_dput hu (pv 0) pe_str (pe_op op_fdiv (pv 3) (pv 1)) rfl) (pss_one (ps_ret (pe_op op_mod (pe_callTy call_int1 (by rfl) T.int (by decide +kernel) (pa_cons (pv 3) pa_nil)) (pv 1))))) pss_nil)
      (pss_cons (ps_dput hu (pv 0) pe_str (pe_op op_add (pe_dget hu (pv 0) pe_str (fun _ _ => rfl)) pe_int) rfl)
      (pss_cons (ps_set (i := 4) scPick.nd rfl (Or.inl rfl) (pe_dget hu (pv 0) pe_str (fun _ _ => rfl)))
      (pss_cons (ps_set (i := 5) scPick.nd rfl (Or.inl rfl) (pe_op op_mod (pe_callTy call_int1 (by rfl) T.int (by decide +kernel) (pa_cons (pe_op op_add (pe_dget hu (pv 0) pe_str (fun _ _ => rfl)) (pe_op op_mul (pv 4) pe_int)) pa_nil)) pe_int))
      (pss_cons (ps_set (i := 5) scPick.nd rfl (Or.inl rfl) (pe_op op_mod (pe_callTy call_int1 (by rfl) T.int (by decide +kernel) (pa_cons (pe_op op_add (pe_op op_mul (pv 5) (pv 5)) (pe_op op_mul (pv 4) pe_int)) pa_nil)) pe_int))
      (pss_one (ps_ret (pe_op op_mod (pe_callTy call_int1 (by rfl) T.int (by decide +kernel) (pa_cons (pe_op op_fdiv (pv 5) pe_int) pa_nil)) (pv 1)))))))))))), ?_⟩
    -- if many < 2: return 0
    refine ⟨_, rfl, _, _, rfl, rfl, _, rfl, ?_⟩
    refine ite2 (fun h1 => k 0 H (by omega) (by omega) ⟨cs, l, m, t, S⟩ (Kp.refl H)) (fun h1 => ?_)
    have hn2 : 2 ≤ n := by
      have := of_decide_eq_false (Bool.eq_false_iff.mpr h1)
      omega
    have hsc : sa ≠ ca := ne_of S.ds S.dc (by intro z; cases z)
    -- cells
    refine ⟨_, rfl, sa, _, rfl, (by rw [← src_cells (l := l) (m := m) (t := t)]; exact DGet.k (k := Sum.inr "cells") S.ds), ?_⟩
    -- while
    refine ⟨fun σ H' => ∃ cs' l', σ = [some (.ref sa), some (.int n), some (.ref ca), none, none, none] ∧ SrcOk H' sa ca cs' l' m t ∧ Kp sa ca H H', ?_, ?_⟩
    · refine ⟨fun mm σ H' => ∃ cs' l', mm = cs'.length ∧ σ = [some (.ref sa), some (.int n), some (.ref ca), none, none, none] ∧ SrcOk H' sa ca cs' l' m t ∧ Kp sa ca H H', ⟨_, cs, l, rfl, rfl, S, Kp.refl H⟩, ?_⟩
      rintro mm σ H1 ⟨cs', l', rfl, rfl, S1, kp⟩
      have dl : DGet H1 sa (V.str "left") (some (.int l')) := by rw [← src_left (c := ca) (m := m) (t := t)]; exact DGet.k (k := Sum.inr "left") S1.ds
      refine ⟨_, rfl, sa, _, rfl, dl, _, _, rfl, rfl, _, rfl, ?_⟩
      refine ite2 (fun hl => ?_) (fun hl => iteF ⟨cs', l', rfl, S1, kp⟩)
      refine ⟨_, rfl, ca, _, rfl, .inl (SqL.of S1.dc), _, _, rfl, rfl, _, rfl, ?_⟩
      refine ite2 (fun hc => ?_) (fun hc => ⟨cs', l', rfl, S1, kp⟩)
      have hc' : 0 < cs'.length := by
        have := of_decide_eq_true hc
        rw [List.length_map] at this
        omega
      obtain ⟨y, hy⟩ : ∃ y, cs'[cs'.length - 1]? = some y := ⟨_, List.getElem?_eq_getElem (by omega)⟩
      have hym : y ∈ cs' := List.mem_of_getElem? hy
      refine ⟨fun σ H' => ∃ cs2 l2, cs2.length < cs'.length ∧ σ = [some (.ref sa), some (.int n), some (.ref ca), none, none, none] ∧ SrcOk H' sa ca cs2 l2 m t ∧ Kp sa ca H H', fun σ' H' ⟨cs2, l2, a1, a2, a3, a4⟩ => ⟨_, a1, cs2, l2, rfl, a2, a3, a4⟩, ?_⟩
      refine ⟨_, rfl, .inl ⟨rfl, _, SqL.of S1.dc⟩, ca, _, .int y, rfl, rfl, S1.dc, (by rw [List.length_map, List.getElem?_map, hy]; rfl), ?_⟩
      have ds2 : (upd H1 ca (.lst (cs'.map V.int).dropLast)) sa = some (.dK (srcD ca l' m t)) := by rw [upd_ne hsc]; exact S1.ds
      refine ⟨_, rfl, sa, _, rfl, DPut.k (k := Sum.inr "left") ds2 src_len, ?_⟩
      refine ⟨cs'.dropLast, y, (by rw [List.length_dropLast]; omega), rfl, ⟨by rw [upd_same, put_left], by rw [upd_ne hsc.symm, upd_same, List.map_dropLast], fun x hx => S1.nn x ((List.dropLast_sublist cs').subset hx), (by rw [List.length_dropLast]; have := S1.len; omega), S1.nn y hym, S1.m0, S1.m1, S1.t0⟩, fun b o e h1 h2 => ?_⟩
      rw [upd_ne h1, upd_ne h2]
      exact kp b o e h1 h2
    rintro σ H1 ⟨cs', l', rfl, S1, kp⟩
    have dl : DGet H1 sa (V.str "left") (some (.int l')) := by rw [← src_left (c := ca) (m := m) (t := t)]; exact DGet.k (k := Sum.inr "left") S1.ds
    refine ⟨_, rfl, sa, _, rfl, dl, ?_⟩
    refine ⟨_, rfl, _, _, rfl, rfl, _, rfl, ?_⟩
    refine ite2 (fun h2 => ?_) (fun h2 => ?_)
    · -- left // many
      have hl2 : 1 < l' := of_decide_eq_true h2
      refine ⟨_, rfl, _, rfl, _, _, rfl, rfl, ⟨by omega, by omega⟩, _, rfl, sa, _, rfl, DPut.k (k := Sum.inr "left") S1.ds src_len, ?_⟩
      refine ⟨_, rfl, .inl ⟨_, rfl, _, rfl, _, _, rfl, rfl, by omega, ?_⟩⟩
      refine k _ _ (Int.emod_nonneg _ (by omega)) (Int.emod_lt_of_pos _ (by omega)) ⟨cs', l' / n, m, t, ⟨by rw [upd_same, put_left], by rw [upd_ne hsc.symm]; exact S1.dc, S1.nn, S1.len, Int.ediv_nonneg (by omega) (by omega), S1.m0, S1.m1, S1.t0⟩⟩ fun b o e h1 h2 => ?_
      rw [upd_ne h1]
      exact kp b o e h1 h2
    · have dt : DGet H1 sa (V.str "turn") (some (.int t)) := by rw [← src_turn (c := ca) (m := m) (l := l')]; exact DGet.k (k := Sum.inr "turn") S1.ds
      refine ⟨_, rfl, sa, _, rfl, dt, _, _, rfl, rfl, _, rfl, sa, _, rfl, DPut.k (k := Sum.inr "turn") S1.ds src_len, ?_⟩
      rw [put_turn]
      have S2 : SrcOk (upd H1 sa (.dK (srcD ca l' m (t + 1)))) sa ca cs' l' m (t + 1) := ⟨upd_same, by rw [upd_ne hsc.symm]; exact S1.dc, S1.nn, S1.len, S1.l0, S1.m0, S1.m1, by have := S1.t0; omega⟩
      have dt2 : DGet (upd H1 sa (.dK (srcD ca l' m (t + 1)))) sa (V.str "turn") (some (.int (t + 1))) := by rw [← src_turn (c := ca) (m := m) (l := l')]; exact DGet.k (k := Sum.inr "turn") S2.ds
      have dm2 : DGet (upd H1 sa (.dK (srcD ca l' m (t + 1)))) sa (V.str "mixed") (some (.int m)) := by rw [← src_mixed (c := ca) (t := t + 1) (l := l')]; exact DGet.k (k := Sum.inr "mixed") S2.ds
      refine ⟨_, rfl, sa, _, rfl, dt2, ?_⟩
      have hm2 : 0 ≤ (m + (t + 1) * 104729) % 998244353 := Int.emod_nonneg _ (by decide)
      have hm3 : (m + (t + 1) * 104729) % 998244353 < 998244353 := Int.emod_lt_of_pos _ (by decide)
      refine ⟨_, rfl, sa, _, rfl, dm2, _, rfl, _, _, rfl, rfl, .inr ⟨by decide, by decide⟩, _, _, rfl, rfl, .inl ⟨_, rfl, _, _, rfl, rfl, (by show (0 : Int) < 998244353; decide), ?_⟩⟩
      refine ⟨_, rfl, _, rfl, _, _, rfl, rfl, .inl ⟨by show -(2 ^ 64 : Int) < _; omega, by show _ < (2 ^ 64 : Int); omega⟩, _, rfl, _, _, rfl, rfl, .inr ⟨by decide, by decide⟩, _, _, rfl, rfl, .inl ⟨_, rfl, _, _, rfl, rfl, (by show (0 : Int) < 2147483647; decide), ?_⟩⟩
      refine ⟨_, rfl, _, _, rfl, rfl, ⟨by decide, by decide⟩, .inl ⟨_, rfl, _, rfl, _, _, rfl, rfl, by show 0 < n; omega, ?_⟩⟩
      refine k _ _ (Int.emod_nonneg _ (by omega)) (Int.emod_lt_of_pos _ (by omega)) ⟨cs', l', m, t + 1, S2⟩ fun b o e h1 h2 => ?_
      rw [upd_ne h1]
      exact kp b o e h1 h2
end
end Nm
set_option maxRecDepth 100000
set_option maxHeartbeats 4000000
namespace Nm
open PySem L2
structure TxtB (mg : Str → Option Value) : Prop extends TxtA mg where
  list : mg "list" = none
  range : mg "range" = none
  abs : mg "abs" = none
/-- a def that stands under a name of the module, with its promise -/
structure Def (P : Program) (w : World) (K : PySem.W.Frag) (mg : Str → Option Value) (base : Heap) (x : Str) (ps : List Str) (k : Nat) (sp : Sp) : Prop where
  ex : ∃ f fd, FnOk P w K mg base CX0 k f fd ps sp ∧ mg x = some (.ref f) ∧ PySem.W.keepIn K (.ref f) = true ∧ Binds K fd ps []
section
variable {P : Program} {w : World} {K : PySem.W.Frag} {mg : Str → Option Value} {base : Heap}
theorem erase_perm {α : Type} {y : α} : ∀ {zs : List α} {i : Nat}, zs[i]? = some y → ([y] ++ zs.eraseIdx i).Perm zs
  | z :: zs, 0, h => by
    simp at h
    subst h
    exact List.Perm.refl _
  | z :: zs, i + 1, h => by
    simp at h
    have := erase_perm (zs := zs) (i := i) h
    show (y :: z :: zs.eraseIdx i).Perm (z :: zs)
    exact (List.Perm.swap z y _).trans (this.cons z)
/-! ### _law_any_order -/
def spAny (K : PySem.W.Frag) : Sp := fun vs H Q _ => ∃ (s c a : Addr) (xs : List V), vs = [.ref s, .ref a] ∧ Src H s c ∧ SqL K H a xs ∧ xs.length ≤ 10000 ∧
  ∀ (p : Addr) (ys : List V) (H' : Hp), H p = none → ys.Perm xs → H' p = some (.lst ys) → Src H' s c → Kp s c H H' → Q (.ref p) H'
theorem scAny : FnScope ["_law_source", "_law_items", "_law_rest", "_law_lap"] ["_law_source", "_law_items"] (defScope sAnyOrder) := ⟨rfl, rfl, rfl, by decide +kernel, rfl, by decide +kernel, by decide +kernel⟩
theorem ok_any {f : Addr} {fd : FuncData} (F : Fun K "_law_any_order" "_law_any_order" sAnyOrder f fd) (T : TxtB mg) (Gp : Def P w K mg base "_law_pick" ["_law_source", "_law_many"] 1 spPick) : FnOk P w K mg base CX0 2 f fd ["_law_source", "_law_items"] (spAny K) := by
  obtain ⟨fp, fdp, Gp, mp, kp, bp⟩ := Gp.ex
  refine F.ok scAny (fun vs H Q E h => ?_) (fun cdv A outer s H vs Q E hr h => ?_)
  · obtain ⟨p, dx, n, xs, rfl, _⟩ := h
    rfl
  · obtain ⟨sa, ca, ia, xs, rfl, S, hx, hl, k⟩ := h
    have hu := hu_of hr
    refine ⟨_, pss_cons (ps_set (i := 2) scAny.nd rfl (Or.inr rfl) (pe_callTy call_list_of (by rfl) T.list (by decide +kernel) (pa_cons (pv 1) pa_nil)))
      (pss_one (ps_ret (pe_lc (own := [("_law_lap", 3)]) (g := gName 3) (tt := tYes) (te := tBM K "list" rPopAt (tVar 2) (tCons (tCall spPick [] E0 (tCons (tVar 0) (tCons (tCB (Evl.rLenS K) (tCons (tVar 2) tNil)) tNil))) tNil)) rfl scAny.nd (pi_range1 (by rfl) T.range (pa_cons (pe_callB call_len_seq (by rfl) T.len PySem.boot_len (pa_cons (pv 2) pa_nil)) pa_nil))
        (blkOk_by (N := ["_law_source", "_law_items", "_law_rest", "_law_lap"]) (sc := defScope sAnyOrder) (by decide +kernel)) (fun _ _ _ _ _ => pg_name (i := 3) scAny.nd rfl (Or.inl rfl)) (fun _ _ _ _ _ => pts_nil)
        (fun _ _ _ _ _ => by exact pe_bm PySem.F.plainAttrs_list PySem.F.slot_list_pop PySem.F.type_list_pop mt_popAt (pv 2) (pa_cons (pe_call Gp hr (by rfl) mp kp bp .nil pass0 (pa_cons (pv 0) (pa_cons (pe_callB call_len_seq (by rfl) T.len PySem.boot_len (pa_cons (pv 2) pa_nil)) pa_nil))) pa_nil))))), ?_⟩
    refine ⟨_, rfl, ia, _, rfl, .inl hx, fun r hr0 => ?_⟩
    refine ⟨_, rfl, r, _, rfl, .inl (SqL.of upd_same), _, rfl, by omega, by omega, fun D hD => ?_⟩
    have hDr : D ≠ r := fun e => by subst e; rw [upd_same] at hD; cases hD
    have hD0 : H D = none := by rw [upd_ne hDr] at hD; exact hD
    obtain ⟨nrs, nrc⟩ := S.ne hr0
    obtain ⟨nDs, nDc⟩ := S.ne hD0
    refine lc_range (lo := 0) (n := xs.length) (fun i H' => ∃ ys zs, (ys ++ zs).Perm xs ∧ ys.length = i ∧ H' D = some (.lst ys) ∧ H' r = some (.lst zs) ∧ Src H' sa ca ∧ Kp sa ca H H') ?_ ?_ ?_
    · exact ⟨[], xs, List.Perm.refl _, rfl, upd_same, by rw [upd_ne hDr.symm, upd_same], (S.new hr0).upd nDs nDc, ((Kp.refl H).off hr0).off hD0⟩
    · rintro i H1 hi ⟨ys, zs, pm, hyl, hy, hz, S1, kp1⟩
      have hlen : ys.length + zs.length = xs.length := by rw [← List.length_append]; exact pm.length_eq
      refine ⟨rfl, tyes ?_⟩
      refine ⟨_, rfl, .inl ⟨rfl, _, SqL.of hz⟩, _, rfl, _, rfl, r, _, rfl, .inl (SqL.of hz), sa, ca, _, rfl, S1, by omega, by omega, fun kk H2 k0 k1 S2 kp2 => ?_⟩
      have hz2 := kp2 _ _ hz nrs nrc
      have hy2 := kp2 _ _ hy nDs nDc
      obtain ⟨y, hyy⟩ : ∃ y, zs[kk.toNat]? = some y := ⟨_, List.getElem?_eq_getElem (by omega)⟩
      refine ⟨r, zs, kk, kk.toNat, y, rfl, rfl, hz2, by omega, by omega, ?_, hyy, ?_⟩
      · exact seqIndex_of k0 k1
      · refine ⟨ys, by rw [upd_ne hDr]; exact hy2, Evl.sz_lt (by omega), ys ++ [y], zs.eraseIdx kk.toNat, ?_, by simp; omega, upd_same, by rw [upd_ne hDr.symm, upd_same], ?_, ?_⟩
        · refine List.Perm.trans ?_ pm
          rw [List.append_assoc]
          refine List.Perm.append_left ys ?_
          exact erase_perm hyy
        · exact (S2.upd nrs nrc).upd nDs nDc
        · exact ((kp1.trans kp2).off hr0).off hD0
    · rintro H1 ⟨ys, zs, pm, hyl, hy, hz, S1, kp1⟩
      have hlen : ys.length + zs.length = xs.length := by rw [← List.length_append]; exact pm.length_eq
      have hz0 : zs = [] := List.length_eq_zero_iff.mp (by omega)
      subst hz0
      rw [List.append_nil] at pm
      exact k D ys H1 hD0 pm hy S1 kp1
end
end Nm
set_option maxRecDepth 100000
set_option maxHeartbeats 4000000
/-! Rules that the layer lacks -/
namespace Nm
open PySem PySem.Spec PyProof.Rows L2
/-- the places that xs[::st] takes -/
def stepIx (st : Int) (n : Nat) : List Nat := sliceRange (sliceBounds none none (some st) n).1 (sliceBounds none none (some st) n).2.1 (sliceBounds none none (some st) n).2.2
def stepV (xs : List V) (st : Int) : List V := (stepIx st xs.length).filterMap (xs[·]?)
theorem stepV_mem {xs : List V} {st : Int} {v : V} (h : v ∈ stepV xs st) : v ∈ xs := by
  obtain ⟨i, _, e⟩ := List.mem_filterMap.mp h
  exact List.mem_of_getElem? e
theorem vals_filter : ∀ (is : List Nat) {xs : List V} {us : List Value}, Vals xs us → Vals (is.filterMap (xs[·]?)) (is.filterMap (us[·]?))
  | [], _, _, _ => .nil
  | i :: is, xs, us, r => by
    rw [List.filterMap_cons, List.filterMap_cons]
    cases e : xs[i]? with
    | none =>
      rw [r.none_of e]
      exact vals_filter is r
    | some x =>
      obtain ⟨u, e2, r2⟩ := r.get e
      rw [e2]
      exact .cons r2 (vals_filter is r)
theorem fm_len {α β : Type} : ∀ (is : List Nat) {xs : List α} {us : List β}, xs.length = us.length → (is.filterMap (xs[·]?)).length = (is.filterMap (us[·]?)).length
  | [], _, _, _ => rfl
  | i :: is, xs, us, h => by
    rw [List.filterMap_cons, List.filterMap_cons]
    have ih := fm_len is h
    by_cases hi : i < xs.length
    · rw [List.getElem?_eq_getElem hi, List.getElem?_eq_getElem (by omega)]
      simp only [List.length_cons]
      omega
    · rw [List.getElem?_eq_none (by omega), List.getElem?_eq_none (by omega)]
      exact ih
theorem stepV_len (xs : List V) (st : Int) : (stepV xs st).length ≤ xs.length := by
  have h := slicePick_size_le (List.replicate xs.length Value.none).toArray none none (some st)
  unfold slicePick at h
  rw [List.size_toArray, List.size_toArray, List.length_replicate] at h
  have e := fm_len (stepIx st xs.length) (xs := xs) (us := List.replicate xs.length Value.none) (by simp)
  unfold stepV
  rw [e]
  have e2 : (stepIx st xs.length).filterMap ((List.replicate xs.length Value.none)[·]?) = (stepIx st xs.length).filterMap ((List.replicate xs.length Value.none).toArray[·]?) := by simp only [List.getElem?_toArray]
  rw [e2]
  exact h
def tStepL (K : PySem.W.Frag) (te ts : TE) : TE := fun σ H Q => te σ H fun x H1 => ts σ H1 fun y H2 => ∃ st, y = .int st ∧ ∃ a xs, x = .ref a ∧ (some st).getD 1 ≠ 0 ∧ (some st).isSome = true ∧ SqL K H2 a xs ∧ ∀ p, H2 p = none → Q (.ref p) (upd H2 p (.lst (stepV xs ((some st).getD 1))))
section
variable {X : Cx}
theorem pe_stepL {e es : PySem.Expr} {te ts : TE} {p3 pos : Pos} (he : PE X e te) (hs : PE X es ts) : PE X (.Subscript e (.Slice none none (some es) p3) pos) (tStepL X.K te ts) := by
  refine ⟨fun pins s σ H Q I h => ?_⟩
  refine Subscript_ (thn (he.run pins s σ H _ I h) fun v s1 ⟨x, H1, I1, r1, q1⟩ => ?_)
  refine wpAny_Slice (thn (po_none.run pins s1 σ H1 (fun o H2 => o = none ∧ H2 = H1) I1 ⟨rfl, rfl⟩) fun vl s2 ⟨l, H2, I2, pl, el, e2⟩ => ?_)
  subst el e2
  refine thn (po_none.run pins s2 σ H2 (fun o H3 => o = none ∧ H3 = H2) I2 ⟨rfl, rfl⟩) fun vu s3 ⟨u, H3, I3, pu, eu, e3⟩ => ?_
  subst eu e3
  refine thn ((po_some hs).run pins s3 σ H3 (fun o H4 => ∃ a xs, x = .ref a ∧ o.getD 1 ≠ 0 ∧ o.isSome = true ∧ SqL X.K H4 a xs ∧ ∀ p, H4 p = none → Q (.ref p) (upd H4 p (.lst (stepV xs (o.getD 1))))) I3 ?_) fun vs s4 ⟨o, H4, I4, ps, a, xs, ex, hst, ho, hx, q⟩ => ?_
  · exact q1
  obtain ⟨st, rfl⟩ := Option.isSome_iff_exists.mp ho
  subst ex
  cases r1
  have I5 : Inv X pins σ H4 { s4 with heap := s4.heap.push { cls := .type "slice", data := .fields #[vl, vu, vs] } } := I4.kept (t' := s4.toks) fun b ob q => Heap.get?_push_of_some _ q
  obtain ⟨its, r, ht, hz⟩ := I5.list hx
  have hlen := r.length
  show wpAny (model X.prog X.w) X.A (subscriptTail e (.Slice none none (some es) p3) (.ref a) (.ref s4.heap.objs.size)) (EP X pins σ Q) X.xe { s4 with heap := s4.heap.push { cls := .type "slice", data := .fields #[vl, vu, vs] } }
  refine tail_any (ops := [.ref a, .ref s4.heap.objs.size]) ht.isList.typeIs (PySem.slot_list_getitem.lookup) ?_ (by with_unfolding_all rfl)
  refine wpAny_getItem_list_slice ht.isList (Heap.IsSliceOf.new _ vl vu vs) pl pu ps (fun z => hst (Option.some.inj z)) ?_ (by rw [List.size_toArray]; omega)
  refine ⟨.ref _, _, I5.laid (t' := s4.toks) (o := .lst (stepV xs st)) (fun b ob q => Heap.get?_push_of_some _ q) (Nat.le_refl _) ?_, rfl, q _ (I5.hok.fresh (Nat.le_refl _))⟩
  have r2 : Vals (stepV xs st) ((stepIx st xs.length).filterMap (its[·]?)) := vals_filter _ r
  refine ⟨?_, _, 0, r2, ?_⟩
  · have h1 := r2.length
    have h2 := slicePick_size_le its.toArray none none (some st)
    have h3 : slicePick its.toArray none none (some st) = ((stepIx st its.length).filterMap (its[·]?)).toArray := by
      unfold slicePick stepIx
      rw [List.size_toArray]
      simp
    rw [h3, List.size_toArray, List.size_toArray] at h2
    rw [hlen] at h1
    show (stepV xs st).length ≤ sizeLine
    omega
  · rw [Heap.get?_push_size _ rfl]
    have h3 : slicePick its.toArray none none (some st) = ((stepIx st its.length).filterMap (its[·]?)).toArray := by
      unfold slicePick stepIx
      rw [List.size_toArray]
      simp
    rw [h3, hlen]
end
end Nm
set_option maxRecDepth 100000
set_option maxHeartbeats 4000000
namespace Nm
open PySem L2
theorem Kp.seq {K : PySem.W.Frag} {s c a : Addr} {H H' : Hp} {xs : List V} (e : Kp s c H H') (h1 : a ≠ s) (h2 : a ≠ c) (h : SqL K H a xs) : SqL K H' a xs := by
  rcases h with (h | ⟨o, h⟩) | h
  · exact .inl (.inl (e _ _ h h1 h2))
  · exact .inl (.inr ⟨o, e _ _ h h1 h2⟩)
  · exact .inr h
theorem merge_src {c : Addr} {l m t : Int} : mergeK [] (srcD c l m t) = srcD c l m t := by
  unfold mergeK srcD
  simp [putK, k1, k2, k3, k4, k5, k6]
section
variable {P : Program} {w : World} {K : PySem.W.Frag} {mg : Str → Option Value} {base : Heap}
/-! ### _law_choice_of -/
def spChoice (K : PySem.W.Frag) : Sp := fun vs H Q _ => ∃ (s c a : Addr) (xs : List V), vs = [.ref s, .ref a] ∧ Src H s c ∧ a ≠ s ∧ a ≠ c ∧ SqL K H a xs ∧ 1 ≤ xs.length ∧ xs.length ≤ 1000 ∧
  ∀ (v : V) (H' : Hp), v ∈ xs → Src H' s c → Kp s c H H' → Q v H'
theorem scChoice : FnScope ["_law_source", "_law_items"] ["_law_source", "_law_items"] (defScope sChoiceOf) := ⟨rfl, rfl, rfl, by decide +kernel, rfl, by decide +kernel, by decide +kernel⟩
theorem ok_choice {f : Addr} {fd : FuncData} (F : Fun K "_law_choice_of" "_law_choice_of" sChoiceOf f fd) (T : TxtB mg) (Gp : Def P w K mg base "_law_pick" ["_law_source", "_law_many"] 1 spPick) : FnOk P w K mg base CX0 2 f fd ["_law_source", "_law_items"] (spChoice K) := by
  obtain ⟨fp, fdp, Gp, mp, kp, bp⟩ := Gp.ex
  refine F.ok scChoice (fun vs H Q E h => ?_) (fun cdv A outer s H vs Q E hr h => ?_)
  · obtain ⟨p, dx, n, xs, rfl, _⟩ := h
    rfl
  · obtain ⟨sa, ca, ia, xs, rfl, S, n1, n2, hx, hl1, hl, k⟩ := h
    refine ⟨_, pss_one (ps_ret (pe_ix ix_list (pv 1) (pe_call Gp hr (by rfl) mp kp bp .nil pass0 (pa_cons (pv 0) (pa_cons (pe_callB call_len_seq (by rfl) T.len PySem.boot_len (pa_cons (pv 1) pa_nil)) pa_nil))) (fun _ _ => rfl))), ?_⟩
    refine ⟨_, rfl, _, rfl, _, rfl, ia, _, rfl, .inl hx, sa, ca, _, rfl, S, by omega, by omega, fun kk H2 k0 k1 S2 kp2 => ?_⟩
    obtain ⟨v, hv⟩ : ∃ v, xs[kk.toNat]? = some v := ⟨_, List.getElem?_eq_getElem (by omega)⟩
    refine ⟨ia, xs, kk, v, rfl, rfl, kp2.seq n1 n2 hx, ?_, k v H2 (List.mem_of_getElem? hv) S2 kp2⟩
    have := atI_nat hv
    rw [Int.toNat_of_nonneg k0] at this
    exact this
/-! ### _law_open_cells -/
def spOpen (K : PySem.W.Frag) : Sp := fun vs H Q _ => ∃ (a : Addr) (ns : List Int), vs = [.ref a] ∧ SqL K H a (ns.map V.int) ∧ ns.length ≤ 63 ∧
  ∀ (s c : Addr) (H' : Hp), H s = none → H c = none → Src H' s c → Same H H' → Q (.ref s) H'
theorem scOpen : FnScope ["_law_script", "_law_mixed", "_law_cell", "_law_cells"] ["_law_script"] (defScope sOpenCells) := ⟨rfl, rfl, rfl, by decide +kernel, rfl, by decide +kernel, by decide +kernel⟩
theorem ok_open {f : Addr} {fd : FuncData} (F : Fun K "_law_open_cells" "_law_open_cells" sOpenCells f fd) (T : TxtB mg) : FnOk P w K mg base CX0 1 f fd ["_law_script"] (spOpen K) := by
  refine F.ok scOpen (fun vs H Q E h => ?_) (fun cdv A outer s H vs Q E hr h => ?_)
  · obtain ⟨p, dx, rfl, _⟩ := h
    rfl
  · obtain ⟨sa, ns, rfl, hx, hl, k⟩ := h
    refine ⟨_, pss_cons (ps_set (i := 1) scOpen.nd rfl (Or.inl rfl) pe_int)
      (pss_cons (ps_for PassesOwn.never rfl (pi_list (pv 0)) (pg_name (i := 2) scOpen.nd rfl (Or.inl rfl))
        (pss_one (ps_set (i := 1) scOpen.nd rfl (Or.inl rfl) (pe_op op_mod (pe_callTy call_int1 (by rfl) T.int (by decide +kernel) (pa_cons (pe_op op_add (pe_op op_add (pe_op op_mul (pv 1) pe_int) (pe_op op_mul (pv 2) pe_int)) pe_int) pa_nil)) pe_int))))
      (pss_cons (ps_setLc (i := 3) (own := [("_law_cell", 2)]) (g := gName 2) (tt := tYes) rfl scOpen.nd rfl rfl (sw_true rfl rfl rfl (by decide +kernel)) (pi_list (pv 0))
        (blkOk_by (N := ["_law_script", "_law_mixed", "_law_cell", "_law_cells"]) (sc := defScope sOpenCells) (by decide +kernel)) (fun _ _ _ _ _ => pg_name (i := 2) scOpen.nd rfl (Or.inl rfl)) (fun _ _ _ _ _ => pts_nil)
        (fun _ _ _ _ _ => pe_callB call_abs (by rfl) T.abs (by decide +kernel) (pa_cons (pv 2) pa_nil)))
      (pss_one (ps_ret (pe_disp (pps_cons pe_str (pe_revL (pv 3)) (pps_cons pe_str pe_int (pps_cons pe_str (pv 1) (pps_cons pe_str pe_int pps_nil)))) (by rfl) (by rfl) (fun z => by cases z) (by decide)))))), ?_⟩
    refine ⟨_, rfl, sa, rfl, ⟨_, hx⟩, ?_⟩
    refine for_list (xs := ns.map V.int) (fun i σ H' => H' = H ∧ ∃ (m : Int) (v : Option V), 0 ≤ m ∧ m < 2147483629 ∧ σ = [some (.ref sa), some (.int m), v, none]) ⟨rfl, 11, none, by decide, by decide, rfl⟩ (fun i σ H' _ h => by rw [h.1]; exact hx) ?_ ?_
    · rintro i x σ H' hi ⟨rfl, m, v, m0, m1, rfl⟩
      rw [List.getElem?_map] at hi
      obtain ⟨y, _, rfl⟩ := Option.map_eq_some_iff.mp hi
      refine ⟨_, rfl, _, _, rfl, rfl, .inr ⟨by decide, by decide⟩, _, rfl, _, _, rfl, rfl, .inr ⟨by decide, by decide⟩, _, _, rfl, rfl, _, _, rfl, rfl, .inl ⟨_, rfl, _, _, rfl, rfl, (by show (0 : Int) < 2147483629; decide), ?_⟩⟩
      exact ⟨rfl, _, some (.int y), Int.emod_nonneg _ (by decide), Int.emod_lt_of_pos _ (by decide), rfl⟩
    · rintro σ H' ⟨rfl, m, v, m0, m1, rfl⟩
      refine ⟨_, rfl, sa, rfl, ⟨_, hx⟩, fun D hD => ?_⟩
      refine lc_list (xs := ns.map V.int) (fun i H1 => Same H' H1 ∧ ∃ cs : List Int, cs.length = i ∧ (∀ x ∈ cs, 0 ≤ x) ∧ H1 D = some (.lst (cs.map V.int))) ⟨same_new hD, [], rfl, by simp, upd_same⟩ (fun i H1 _ h => h.1.seq hx) ?_ ?_
      · rintro i x H1 hi ⟨sm, cs, hcl, hc0, hcD⟩
        have hil := (List.getElem?_eq_some_iff.mp hi).1
        rw [List.length_map] at hil
        rw [List.getElem?_map] at hi
        obtain ⟨y, _, rfl⟩ := Option.map_eq_some_iff.mp hi
        refine ⟨rfl, tyes ?_⟩
        refine ⟨_, rfl, y, rfl, _, hcD, Evl.sz_lt (by rw [List.length_map]; omega), ?_, cs ++ [if y < 0 then -y else y], by simp [hcl], ?_, by rw [upd_same, List.map_append]; rfl⟩
        · intro b o e
          rw [upd_ne (ne_of_none e hD)]
          exact sm b o e
        · intro x hx
          rcases List.mem_append.mp hx with h | h
          · exact hc0 x h
          · rw [List.mem_singleton] at h
            subst h
            split <;> omega
      · rintro H1 ⟨sm, cs, hcl, hc0, hcD⟩
        rw [List.length_map] at hcl
        intro p hp
        have hp0 : H' p = none := sm.free hp
        refine ⟨_, rfl, D, _, rfl, SqL.of (by rw [upd_ne (ne_of_none hcD hp)]; exact hcD), fun q hq => ?_⟩
        have hqp : q ≠ p := fun e => by subst e; rw [upd_same] at hq; cases hq
        have hq1 : H1 q = none := by rw [upd_ne hqp] at hq; exact hq
        have hq0 : H' q = none := sm.free hq1
        refine ⟨_, rfl, by rw [upd_ne hqp.symm, upd_same], srcD q 1 m 0, rfl, (by show 4 ≤ 15; decide), ?_⟩
        rw [merge_src]
        refine k p q _ hp0 hq0 ⟨cs.reverse, 1, m, 0, ⟨upd_same, by rw [upd_ne hqp, upd_same, List.map_reverse], fun x hx => hc0 x (List.mem_reverse.mp hx), by rw [List.length_reverse]; omega, by decide, m0, m1, by decide⟩⟩ fun b o e => ?_
        rw [upd_ne (ne_of_none e hp0), upd_ne (ne_of_none e hq0), upd_ne (ne_of_none e hp0)]
        exact sm b o e
end
end Nm
set_option maxRecDepth 100000
set_option maxHeartbeats 4000000
namespace Nm
open PySem L2
/-- each of xs is a pair of numbers i < j below n -/
def PairsAt (n : Int) (H : Hp) (xs : List V) : Prop := ∀ v ∈ xs, ∃ t i j, v = V.ref t ∧ H t = some (.tup [.int i, .int j]) ∧ 0 ≤ i ∧ i < j ∧ j < n
theorem PairsAt.same {n : Int} {H H' : Hp} {xs : List V} (h : PairsAt n H xs) (e : Same H H') : PairsAt n H' xs := fun v hv => by
  obtain ⟨t, i, j, a, b, c⟩ := h v hv
  exact ⟨t, i, j, a, e _ _ b, c⟩
theorem PairsAt.kp {n : Int} {H H' : Hp} {xs : List V} {s c : Addr} (h : PairsAt n H xs) (S : Src H s c) (e : Kp s c H H') : PairsAt n H' xs := fun v hv => by
  obtain ⟨t, i, j, a, b, r⟩ := h v hv
  obtain ⟨cs, l, m, tt, S⟩ := S
  exact ⟨t, i, j, a, e _ _ b (ne_of b S.ds (by intro z; cases z)) (ne_of b S.dc (by intro z; cases z)), r⟩
theorem PairsAt.snoc {n : Int} {H : Hp} {xs : List V} {t : Addr} {i j : Int} (h : PairsAt n H xs) (e : H t = some (.tup [.int i, .int j])) (h0 : 0 ≤ i) (h1 : i < j) (h2 : j < n) : PairsAt n H (xs ++ [.ref t]) := fun v hv => by
  rcases List.mem_append.mp hv with q | q
  · exact h v q
  · rw [List.mem_singleton] at q
    exact ⟨t, i, j, q, e, h0, h1, h2⟩
theorem PairsAt.sub {n : Int} {H : Hp} {xs ys : List V} (h : PairsAt n H xs) (e : ∀ v ∈ ys, v ∈ xs) : PairsAt n H ys := fun v hv => h v (e v hv)
theorem sq_le {n : Int} (h1 : 1 ≤ n) (h2 : n ≤ 7) : 1 ≤ n * n ∧ n * n ≤ 49 := by
  have h : n = 1 ∨ n = 2 ∨ n = 3 ∨ n = 4 ∨ n = 5 ∨ n = 6 ∨ n = 7 := by omega
  rcases h with rfl | rfl | rfl | rfl | rfl | rfl | rfl <;> decide
section
variable {P : Program} {w : World} {K : PySem.W.Frag} {mg : Str → Option Value} {base : Heap}
/-! ### _law_shape_pairs -/
def spShape : Sp := fun vs H Q _ => ∃ (s c : Addr) (n : Int), vs = [.ref s, .int n] ∧ Src H s c ∧ 1 ≤ n ∧ n ≤ 7 ∧
  ∀ (p : Addr) (xs : List V) (H' : Hp), H p = none → H' p = some (.lst xs) → PairsAt n H' xs → xs.length ≤ 100 → Src H' s c → Kp s c H H' → Q (.ref p) H'
abbrev nShape : List Str := ["_law_source", "_law_count", "_law_every", "_law_road", "_law_rows", "_law_n", "_law_pair", "_law_k"]
theorem scShape : FnScope nShape ["_law_source", "_law_count"] (defScope sShapePairs) := ⟨rfl, rfl, rfl, by decide +kernel, rfl, by decide +kernel, by decide +kernel⟩
theorem ok_shape {f : Addr} {fd : FuncData} (F : Fun K "_law_shape_pairs" "_law_shape_pairs" sShapePairs f fd) (T : TxtB mg) (Gp : Def P w K mg base "_law_pick" ["_law_source", "_law_many"] 1 spPick) : FnOk P w K mg base CX0 2 f fd ["_law_source", "_law_count"] spShape := by
  obtain ⟨fp, fdp, Gp, mp, kp, bp⟩ := Gp.ex
  refine F.ok scShape (fun vs H Q E h => ?_) (fun cdv A outer s H vs Q E hr h => ?_)
  · obtain ⟨p, dx, n, rfl, _⟩ := h
    rfl
  · obtain ⟨sa, ca, n, rfl, S, n1, n2, k⟩ := h
    refine ⟨_, pss_cons (ps_setLc (i := 2) (own := [("_law_n", 5)]) (g := gName 5) rfl scShape.nd rfl rfl (sw_true rfl rfl rfl (by decide +kernel)) (pi_range1 (by rfl) T.range (pa_cons (pe_op op_mul (pv 1) (pv 1)) pa_nil))
        (blkOk_by (N := nShape) (sc := defScope sShapePairs) (by decide +kernel)) (fun _ _ _ _ _ => pg_name (i := 5) scShape.nd rfl (Or.inl rfl))
        (fun _ _ _ _ _ => pts_one (pt_cmpR op_lt (pe_callTy call_int1 (by rfl) T.int (by decide +kernel) (pa_cons (pe_op op_fdiv (pv 5) (pv 1)) pa_nil)) (pe_op op_mod (pe_callTy call_int1 (by rfl) T.int (by decide +kernel) (pa_cons (pv 5) pa_nil)) (pv 1)) (nomark _)))
        (fun _ _ _ _ _ => pe_tup (pa_cons (pe_callTy call_int1 (by rfl) T.int (by decide +kernel) (pa_cons (pe_op op_fdiv (pv 5) (pv 1)) pa_nil)) (pa_cons (pe_op op_mod (pe_callTy call_int1 (by rfl) T.int (by decide +kernel) (pa_cons (pv 5) pa_nil)) (pv 1)) pa_nil))))
      (pss_cons (ps_set (i := 3) scShape.nd rfl (Or.inl rfl) (pe_call Gp hr (by rfl) mp kp bp .nil pass0 (pa_cons (pv 0) (pa_cons pe_int pa_nil))))
      (pss_cons (ps_if (pt_cmpR op_eq (pv 3) pe_int (nomark _)) (pss_one (ps_ret (pe_lc (own := [("_law_pair", 6)]) (g := gName 6) rfl scShape.nd (pi_list (pv 2))
          (blkOk_by (N := nShape) (sc := defScope sShapePairs) (by decide +kernel)) (fun _ _ _ _ _ => pg_name (i := 6) scShape.nd rfl (Or.inl rfl))
          (fun _ _ _ _ _ => pts_one (by exact pt_cmpR op_eq (pe_call Gp hr (by rfl) mp kp bp .nil pass0 (pa_cons (pv 0) (pa_cons pe_int pa_nil))) pe_int (nomark _))) (fun _ _ _ _ _ => pv 6)))) pss_nil)
      (pss_cons (ps_if (pt_cmpR op_eq (pv 3) pe_int (nomark _)) (pss_one (ps_ret (pe_lc (own := [("_law_pair", 6)]) (g := gName 6) rfl scShape.nd (pi_list (pv 2))
          (blkOk_by (N := nShape) (sc := defScope sShapePairs) (by decide +kernel)) (fun _ _ _ _ _ => pg_name (i := 6) scShape.nd rfl (Or.inl rfl))
          (fun _ _ _ _ _ => pts_one (by exact pt_cmpR op_gt (pe_call Gp hr (by rfl) mp kp bp .nil pass0 (pa_cons (pv 0) (pa_cons pe_int pa_nil))) pe_int (nomark _))) (fun _ _ _ _ _ => pv 6)))) pss_nil)
      (pss_cons (ps_if (pt_cmpR op_eq (pv 3) pe_int (nomark _)) (pss_one (ps_ret (pv 2))) pss_nil)
      (pss_cons (ps_setLc (i := 4) (own := [("_law_k", 7)]) (g := gName 7) (tt := tYes) rfl scShape.nd rfl rfl (sw_true rfl rfl rfl (by decide +kernel)) (pi_range1 (by rfl) T.range (pa_cons (pe_op op_sub (pv 1) pe_int) pa_nil))
        (blkOk_by (N := nShape) (sc := defScope sShapePairs) (by decide +kernel)) (fun _ _ _ _ _ => pg_name (i := 7) scShape.nd rfl (Or.inl rfl)) (fun _ _ _ _ _ => pts_nil)
        (fun _ _ _ _ _ => pe_tup (pa_cons (pv 7) (pa_cons (pe_op op_add (pv 7) pe_int) pa_nil))))
      (Evl.pss_cut (ps_if (PW.pt (pw_and (pt_cmpR op_eq (pv 3) pe_int (nomark _)) (pw_and1 (pt_cmpR op_gt (pv 1) pe_int (nomark _))))) (pss_one (ps_ret (pe_op op_cat (pv 4) (pe_lst (pa_cons (pe_tup (pa_cons pe_int (pa_cons (pe_op op_sub (pv 1) pe_int) pa_nil))) pa_nil))))) pss_nil)
      (pss_cons (ps_if (pt_cmpR op_eq (pv 3) pe_int (nomark _)) (pss_one (ps_ret (pe_lc (own := [("_law_k", 7)]) (g := gName 7) (tt := tYes) rfl scShape.nd (pi_range2 (by rfl) T.range (pa_cons pe_int (pa_cons (pv 1) pa_nil)))
          (blkOk_by (N := nShape) (sc := defScope sShapePairs) (by decide +kernel)) (fun _ _ _ _ _ => pg_name (i := 7) scShape.nd rfl (Or.inl rfl)) (fun _ _ _ _ _ => pts_nil)
          (fun _ _ _ _ _ => pe_tup (pa_cons pe_int (pa_cons (pv 7) pa_nil)))))) pss_nil)
      (pss_one (ps_ret (pe_stepL (pv 4) (pe_op op_add pe_int (pe_callTy call_int1 (by rfl) T.int (by decide +kernel) (pa_cons (pe_cmpR op_eq (pv 3) pe_int (nomark _)) pa_nil))))))))))))), ?_⟩
    obtain ⟨q1, q2⟩ := sq_le n1 n2
    refine ⟨_, rfl, _, rfl, _, _, rfl, rfl, .inl ⟨by show -(2 ^ 64 : Int) < _; omega, by show _ < (2 ^ 64 : Int); omega⟩, _, rfl, by omega, by omega, fun D hD => ?_⟩
    refine lc_range (lo := 0) (n := (n * n).toNat) (fun i H' => ∃ xs, H' D = some (.lst xs) ∧ xs.length ≤ i ∧ PairsAt n H' xs ∧ Same H H') ⟨[], upd_same, Nat.le_refl _, (fun v hv => by cases hv), same_new hD⟩ ?_ ?_
    · rintro i H1 hi ⟨xs, hxD, hxl, hxp, sm⟩
      refine ⟨rfl, ?_⟩
      refine ⟨_, rfl, _, rfl, _, _, rfl, rfl, ⟨by omega, by omega⟩, .inl ⟨_, rfl, _, rfl, .inl ⟨_, rfl, _, rfl, _, _, rfl, rfl, by omega, _, _, rfl, rfl, _, rfl, ?_⟩⟩⟩
      refine ite2 (fun hlt => ?_) (fun hlt => ⟨xs, hxD, by omega, hxp, sm⟩)
      refine ⟨_, rfl, _, rfl, _, _, rfl, rfl, ⟨by omega, by omega⟩, .inl ⟨_, rfl, _, rfl, .inl ⟨_, rfl, _, rfl, _, _, rfl, rfl, by omega, (by show 2 ≤ sizeLine; decide), fun t ht => ?_⟩⟩⟩
      have hlt' := of_decide_eq_true hlt
      refine ⟨xs, by rw [upd_ne (ne_of_none hxD ht)]; exact hxD, Evl.sz_lt (by omega), xs ++ [.ref t], upd_same, by simp; omega, ?_, ?_⟩
      · have hDt : t ≠ D := fun e => by subst e; rw [ht] at hxD; cases hxD
        refine PairsAt.snoc (i := (0 + (i : Int)) / n) (j := (0 + (i : Int)) % n) ?_ (by rw [upd_ne hDt, upd_same]) (Int.ediv_nonneg (by omega) (by omega)) hlt' (Int.emod_lt_of_pos _ (by omega))
        refine fun v hv => ?_
        obtain ⟨u, i', j', a, b, r⟩ := hxp v hv
        refine ⟨u, i', j', a, ?_, r⟩
        rw [upd_ne (ne_of b hxD (by intro z; cases z)), upd_ne (ne_of_none b ht)]
        exact b
      · intro b o e
        have := sm b o e
        rw [upd_ne (ne_of_none e hD), upd_ne (ne_of_none this ht)]
        exact this
    rintro H1 ⟨xs, hxD, hxl, hxp, sm⟩
    have S1 := S.same sm
    have hxl' : xs.length ≤ 49 := by omega
    obtain ⟨nDs, nDc⟩ := S.ne hD
    -- road
    refine ⟨_, rfl, sa, ca, 7, rfl, S1, by decide, by decide, fun road H2 r0 r1 S2 kp2 => ?_⟩
    have hxD2 := kp2 _ _ hxD nDs nDc
    have hxp2 := hxp.kp S1 kp2
    have kp02 : Kp sa ca H H2 := (Kp.same sm).trans kp2
    -- a part of every, by draws
    refine ⟨_, rfl, rfl, _, rfl, ?_⟩
    refine ite2 (fun h0 => ?_) (fun h0 => ?_)
    · refine ⟨_, rfl, D, rfl, ⟨xs, SqL.of hxD2⟩, fun E hE => ?_⟩
      obtain ⟨nEs, nEc⟩ := S2.ne hE
      refine lc_list (xs := xs) (fun i H' => ∃ ys, H' E = some (.lst ys) ∧ ys.length ≤ i ∧ (∀ v ∈ ys, v ∈ xs) ∧ H' D = some (.lst xs) ∧ PairsAt n H' xs ∧ Src H' sa ca ∧ Kp sa ca H2 H') ⟨[], upd_same, Nat.le_refl _, (fun v hv => by cases hv), by rw [upd_ne (ne_of_none hxD2 hE)]; exact hxD2, hxp2.same (same_new hE), S2.new hE, (Kp.refl H2).off hE⟩ (fun i H' _ ⟨ys, _, _, _, h, _⟩ => SqL.of h) ?_ ?_
      · rintro i x H3 hi ⟨ys, hyE, hyl, hyx, hxD3, hxp3, S3, kp3⟩
        have hil := (List.getElem?_eq_some_iff.mp hi).1
        refine ⟨rfl, ?_⟩
        refine ⟨_, rfl, sa, ca, 3, rfl, S3, by decide, by decide, fun kk H4 k0 k1 S4 kp4 => ⟨rfl, _, rfl, ?_⟩⟩
        have hyE4 := kp4 _ _ hyE nEs nEc
        have hxD4 := kp4 _ _ hxD3 nDs nDc
        have hxp4 := hxp3.kp S3 kp4
        refine ite2 (fun _ => ?_) (fun _ => ⟨ys, hyE4, by omega, hyx, hxD4, hxp4, S4, kp3.trans kp4⟩)
        have hDE : D ≠ E := ne_of_none hxD2 hE
        refine ⟨_, rfl, ys, hyE4, Evl.sz_lt (by omega), ys ++ [x], upd_same, by simp; omega, ?_, by rw [upd_ne hDE]; exact hxD4, ?_, S4.upd nEs nEc, (kp3.trans kp4).off hE⟩
        · intro v hv
          rcases List.mem_append.mp hv with q | q
          · exact hyx v q
          · rw [List.mem_singleton] at q
            subst q
            exact List.mem_of_getElem? hi
        · refine fun v hv => ?_
          obtain ⟨u, i', j', a, b, r⟩ := hxp4 v hv
          refine ⟨u, i', j', a, ?_, r⟩
          rw [upd_ne (ne_of b hyE4 (by intro z; cases z))]
          exact b
      · rintro H3 ⟨ys, hyE, hyl, hyx, hxD3, hxp3, S3, kp3⟩
        exact k E ys H3 (kp02.free S2 hE) hyE (hxp3.sub hyx) (by omega) S3 (kp02.trans kp3)
    refine ⟨_, rfl, rfl, _, rfl, ?_⟩
    refine ite2 (fun h1 => ?_) (fun h1 => ?_)
    · refine ⟨_, rfl, D, rfl, ⟨xs, SqL.of hxD2⟩, fun E hE => ?_⟩
      obtain ⟨nEs, nEc⟩ := S2.ne hE
      refine lc_list (xs := xs) (fun i H' => ∃ ys, H' E = some (.lst ys) ∧ ys.length ≤ i ∧ (∀ v ∈ ys, v ∈ xs) ∧ H' D = some (.lst xs) ∧ PairsAt n H' xs ∧ Src H' sa ca ∧ Kp sa ca H2 H') ⟨[], upd_same, Nat.le_refl _, (fun v hv => by cases hv), by rw [upd_ne (ne_of_none hxD2 hE)]; exact hxD2, hxp2.same (same_new hE), S2.new hE, (Kp.refl H2).off hE⟩ (fun i H' _ ⟨ys, _, _, _, h, _⟩ => SqL.of h) ?_ ?_
      · rintro i x H3 hi ⟨ys, hyE, hyl, hyx, hxD3, hxp3, S3, kp3⟩
        have hil := (List.getElem?_eq_some_iff.mp hi).1
        refine ⟨rfl, ?_⟩
        refine ⟨_, rfl, sa, ca, 3, rfl, S3, by decide, by decide, fun kk H4 k0 k1 S4 kp4 => ⟨_, _, rfl, rfl, _, rfl, ?_⟩⟩
        have hyE4 := kp4 _ _ hyE nEs nEc
        have hxD4 := kp4 _ _ hxD3 nDs nDc
        have hxp4 := hxp3.kp S3 kp4
        refine ite2 (fun _ => ?_) (fun _ => ⟨ys, hyE4, by omega, hyx, hxD4, hxp4, S4, kp3.trans kp4⟩)
        have hDE : D ≠ E := ne_of_none hxD2 hE
        refine ⟨_, rfl, ys, hyE4, Evl.sz_lt (by omega), ys ++ [x], upd_same, by simp; omega, ?_, by rw [upd_ne hDE]; exact hxD4, ?_, S4.upd nEs nEc, (kp3.trans kp4).off hE⟩
        · intro v hv
          rcases List.mem_append.mp hv with q | q
          · exact hyx v q
          · rw [List.mem_singleton] at q
            subst q
            exact List.mem_of_getElem? hi
        · refine fun v hv => ?_
          obtain ⟨u, i', j', a, b, r⟩ := hxp4 v hv
          refine ⟨u, i', j', a, ?_, r⟩
          rw [upd_ne (ne_of b hyE4 (by intro z; cases z))]
          exact b
      · rintro H3 ⟨ys, hyE, hyl, hyx, hxD3, hxp3, S3, kp3⟩
        exact k E ys H3 (kp02.free S2 hE) hyE (hxp3.sub hyx) (by omega) S3 (kp02.trans kp3)
    refine ⟨_, rfl, rfl, _, rfl, ?_⟩
    refine ite2 (fun h2 => ?_) (fun h2 => ?_)
    · exact ⟨_, rfl, k D xs H2 hD hxD2 hxp2 (by omega) S2 kp02⟩
    -- rows
    refine ⟨_, rfl, _, _, rfl, rfl, _, rfl, by omega, by omega, fun R hR => ?_⟩
    refine lc_range (lo := 0) (n := (n - 1).toNat) (fun i H' => ∃ ys, H' R = some (.lst ys) ∧ ys.length ≤ i ∧ PairsAt n H' ys ∧ Same H2 H') ⟨[], upd_same, Nat.le_refl _, (fun v hv => by cases hv), same_new hR⟩ ?_ ?_
    · rintro i H3 hi ⟨ys, hyR, hyl, hyp, sm3⟩
      refine ⟨rfl, tyes ?_⟩
      refine ⟨_, rfl, _, rfl, _, _, rfl, rfl, (by show 2 ≤ sizeLine; decide), fun t ht => ?_⟩
      refine ⟨ys, by rw [upd_ne (ne_of_none hyR ht)]; exact hyR, Evl.sz_lt (by omega), ys ++ [.ref t], upd_same, by simp; omega, ?_, ?_⟩
      · have hDt : t ≠ R := fun e => by subst e; rw [ht] at hyR; cases hyR
        refine PairsAt.snoc (i := 0 + (i : Int)) (j := 0 + (i : Int) + 1) ?_ (by rw [upd_ne hDt, upd_same]) (by omega) (by omega) (by omega)
        refine fun v hv => ?_
        obtain ⟨u, i', j', a, b, r⟩ := hyp v hv
        refine ⟨u, i', j', a, ?_, r⟩
        rw [upd_ne (ne_of b hyR (by intro z; cases z)), upd_ne (ne_of_none b ht)]
        exact b
      · intro b o e
        have := sm3 b o e
        rw [upd_ne (ne_of_none e hR), upd_ne (ne_of_none this ht)]
        exact this
    rintro H3 ⟨ys, hyR, hyl, hyp, sm3⟩
    have hR0 : H R = none := kp02.free S2 hR
    have S3 := S2.same sm3
    have kp03 : Kp sa ca H H3 := kp02.trans (Kp.same sm3)
    refine ⟨fun σ H' => σ = [some (.ref sa), some (.int n), some (.ref D), some (.int road), some (.ref R), none, none, none] ∧ H' = H3, ?_, ?_⟩
    · refine ⟨_, rfl, rfl, _, rfl, ?_⟩
      refine ite2 (fun h3 => ?_) (fun h3 => iteF ⟨rfl, rfl⟩)
      refine ⟨_, rfl, _, _, rfl, rfl, _, rfl, ?_⟩
      refine ite2 (fun h4 => ?_) (fun h4 => ⟨rfl, rfl⟩)
      have hn2 := of_decide_eq_true h4
      refine ⟨_, rfl, _, rfl, _, _, rfl, rfl, (by show 2 ≤ sizeLine; decide), fun t ht => ?_⟩
      refine ⟨(by show 1 ≤ sizeLine; decide), fun l hl => ?_⟩
      have hlt : l ≠ t := fun e => by subst e; rw [upd_same] at hl; cases hl
      have hRt : R ≠ t := ne_of_none hyR ht
      have hl3 : H3 l = none := by rw [upd_ne hlt] at hl; exact hl
      have hRl : R ≠ l := ne_of_none hyR hl3
      refine ⟨R, l, _, _, rfl, rfl, (by rw [upd_ne hRl, upd_ne hRt]; exact hyR), upd_same, ?_, fun p hp => ?_⟩
      · show ys.length + 1 ≤ sizeLine
        exact Evl.sz_of (by omega)
      · have hpl : p ≠ l := fun e => by subst e; rw [upd_same] at hp; cases hp
        rw [upd_ne hpl] at hp
        have hpt : p ≠ t := fun e => by subst e; rw [upd_same] at hp; cases hp
        rw [upd_ne hpt] at hp
        have sm4 : Same H3 (upd (upd (upd H3 t (.tup [.int 0, .int (n - 1)])) l (.lst [.ref t])) p (.lst (ys ++ [.ref t]))) := fun b o e => by
          rw [upd_ne (ne_of_none e hp), upd_ne (ne_of_none e hl3), upd_ne (ne_of_none e ht)]
          exact e
        refine k p _ _ (kp03.free S3 hp) upd_same ?_ (by simp; omega) (S3.same sm4) (kp03.trans (Kp.same sm4))
        refine PairsAt.snoc (i := 0) (j := n - 1) (hyp.same sm4) (by rw [upd_ne hpt.symm, upd_ne hlt.symm, upd_same]) (by omega) (by omega) (by omega)
    rintro σ H' ⟨rfl, rfl⟩
    refine ⟨_, rfl, rfl, _, rfl, ?_⟩
    refine ite2 (fun h3 => ?_) (fun h3 => ?_)
    · refine ⟨_, rfl, _, _, rfl, by omega, fun E hE => ?_⟩
      refine lc_range (lo := 1) (n := (n - 1).toNat) (fun i H3 => ∃ zs, H3 E = some (.lst zs) ∧ zs.length ≤ i ∧ PairsAt n H3 zs ∧ Same H' H3) ⟨[], upd_same, Nat.le_refl _, (fun v hv => by cases hv), same_new hE⟩ ?_ ?_
      · rintro i H4 hi ⟨zs, hzE, hzl, hzp, sm4⟩
        refine ⟨rfl, tyes ?_⟩
        refine ⟨_, rfl, (by show 2 ≤ sizeLine; decide), fun t ht => ?_⟩
        refine ⟨zs, by rw [upd_ne (ne_of_none hzE ht)]; exact hzE, Evl.sz_lt (by omega), zs ++ [.ref t], upd_same, by simp; omega, ?_, ?_⟩
        · have hDt : t ≠ E := fun e => by subst e; rw [ht] at hzE; cases hzE
          refine PairsAt.snoc (i := 0) (j := 1 + (i : Int)) ?_ (by rw [upd_ne hDt, upd_same]) (by omega) (by omega) (by omega)
          refine fun v hv => ?_
          obtain ⟨u, i', j', a, b, r⟩ := hzp v hv
          refine ⟨u, i', j', a, ?_, r⟩
          rw [upd_ne (ne_of b hzE (by intro z; cases z)), upd_ne (ne_of_none b ht)]
          exact b
        · intro b o e
          have := sm4 b o e
          rw [upd_ne (ne_of_none e hE), upd_ne (ne_of_none this ht)]
          exact this
      · rintro H4 ⟨zs, hzE, hzl, hzp, sm4⟩
        exact k E zs H4 (kp03.free S3 hE) hzE hzp (by omega) (S3.same sm4) (kp03.trans (Kp.same sm4))
    · refine ⟨_, rfl, _, rfl, rfl, .inr ⟨_, rfl, _, _, rfl, rfl, _, rfl, R, ys, rfl, ?_, rfl, SqL.of hyR, fun p hp => ?_⟩⟩
      · show (1 + (if decide (V.int road = V.int 5) = true then (1 : Int) else 0)) ≠ 0
        split <;> decide
      · have sm4 := same_new (o := .lst (stepV ys ((some (1 + (if decide (V.int road = V.int 5) = true then (1 : Int) else 0))).getD 1))) hp
        refine k p _ _ (kp03.free S3 hp) upd_same ((hyp.same sm4).sub fun v hv => stepV_mem hv) ?_ (S3.same sm4) (kp03.trans (Kp.same sm4))
        exact Nat.le_trans (stepV_len _ _) (by omega)
end
end Nm
set_option maxRecDepth 100000
set_option maxHeartbeats 4000000
namespace Nm
open PySem L2
theorem nx {H : Hp} {p q : Addr} {o : HO} (h : upd H p o q = none) : q ≠ p ∧ H q = none := by
  by_cases e : q = p
  · subst e; rw [upd_same] at h; cases h
  · rw [upd_ne e] at h; exact ⟨e, h⟩
def strOf : V → Str
  | .str x => x
  | _ => ""
def intOf : V → Int
  | .int x => x
  | _ => 0
theorem perm_str {ys : List V} {xs : List Str} (h : ys.Perm (xs.map V.str)) : ∃ zs : List Str, ys = zs.map V.str ∧ zs.Perm xs := by
  refine ⟨ys.map strOf, ?_, ?_⟩
  · rw [List.map_map]
    conv => lhs; rw [← List.map_id ys]
    refine List.map_congr_left fun v hv => ?_
    obtain ⟨x, _, rfl⟩ := List.mem_map.mp (h.subset hv)
    rfl
  · have := h.map strOf
    rw [List.map_map] at this
    have e : xs.map (strOf ∘ V.str) = xs := by
      conv => rhs; rw [← List.map_id xs]
      rfl
    rw [e] at this
    exact this
theorem perm_int {ys : List V} {xs : List Int} (h : ys.Perm (xs.map V.int)) : ∃ zs : List Int, ys = zs.map V.int ∧ zs.Perm xs := by
  refine ⟨ys.map intOf, ?_, ?_⟩
  · rw [List.map_map]
    conv => lhs; rw [← List.map_id ys]
    refine List.map_congr_left fun v hv => ?_
    obtain ⟨x, _, rfl⟩ := List.mem_map.mp (h.subset hv)
    rfl
  · have := h.map intOf
    rw [List.map_map] at this
    have e : xs.map (intOf ∘ V.int) = xs := by
      conv => rhs; rw [← List.map_id xs]
      rfl
    rw [e] at this
    exact this
theorem cut_upto (xs : List V) (n : Nat) : cutV xs none (some (n : Int)) = xs.take n := by
  unfold cutV
  have e1 : HT.sIx xs.length 0 none = 0 := rfl
  have e2 : HT.sIx xs.length xs.length (some (n : Int)) = min n xs.length := by
    unfold HT.sIx
    simp
    try omega
  rw [e1, e2]
  simp
section
variable {κ : Type} [DecidableEq κ]
theorem keys_put (kvs : List (κ × V)) (k : κ) (v : V) : (putK kvs k v).map (·.1) = if k ∈ kvs.map (·.1) then kvs.map (·.1) else kvs.map (·.1) ++ [k] := by
  unfold putK
  by_cases h : (kvs.any fun kv => decide (kv.1 = k)) = true
  · have hm : k ∈ kvs.map (·.1) := by
      obtain ⟨kv, h1, h2⟩ := List.any_eq_true.mp h
      exact List.mem_map.mpr ⟨kv, h1, of_decide_eq_true h2⟩
    rw [if_pos h, if_pos hm, List.map_map]
    refine List.map_congr_left fun kv _ => ?_
    show (if kv.1 = k then (kv.1, v) else kv).1 = kv.1
    split <;> rfl
  · have hm : ¬ k ∈ kvs.map (·.1) := fun hm => by
      obtain ⟨kv, h1, h2⟩ := List.mem_map.mp hm
      exact h (List.any_eq_true.mpr ⟨kv, h1, decide_eq_true h2⟩)
    rw [if_neg h, if_neg hm, List.map_append]
    rfl
theorem val_of_mem : ∀ {kvs : List (κ × V)} {k : κ} {v : V}, (kvs.map (·.1)).Nodup → (k, v) ∈ kvs → valV kvs k = some v
  | kv :: r, k, v, nd, h => by
    rw [List.map_cons, List.nodup_cons] at nd
    rcases List.mem_cons.mp h with e | e
    · subst e
      exact valV_pos rfl
    · have hne : ¬ kv.1 = k := fun z => nd.1 (z ▸ List.mem_map.mpr ⟨(k, v), e, rfl⟩)
      rw [valV_neg hne]
      exact val_of_mem nd.2 e
theorem nodup_put {kvs : List (κ × V)} (k : κ) (v : V) (h : (kvs.map (·.1)).Nodup) : ((putK kvs k v).map (·.1)).Nodup := by
  rw [keys_put]
  split
  · exact h
  · rename_i hn
    rw [List.nodup_append]
    refine ⟨h, by simp, fun a ha b hb => ?_⟩
    rw [List.mem_singleton] at hb
    subst hb
    exact fun e => hn (e ▸ ha)
theorem mem_put {kvs : List (κ × V)} {k : κ} {v : V} {p : κ × V} (h : p ∈ putK kvs k v) : p = (k, v) ∨ (p ∈ kvs ∧ p.1 ≠ k) := by
  unfold putK at h
  by_cases h0 : (kvs.any fun kv => decide (kv.1 = k)) = true
  · rw [if_pos h0] at h
    obtain ⟨kv, h1, h2⟩ := List.mem_map.mp h
    by_cases e : kv.1 = k
    · rw [if_pos e] at h2
      left
      rw [← h2, e]
    · rw [if_neg e] at h2
      right
      subst h2
      exact ⟨h1, e⟩
  · rw [if_neg h0] at h
    rcases List.mem_append.mp h with q | q
    · right
      refine ⟨q, fun e => h0 (List.any_eq_true.mpr ⟨p, q, decide_eq_true e⟩)⟩
    · left
      exact List.mem_singleton.mp q
end
end Nm
set_option maxRecDepth 100000
set_option maxHeartbeats 4000000
namespace Nm
open PySem L2
/-! ### words, ties, worlds -/
def letB (z : Str) : Str := Txt.rstripChars z "0123456789"
def isWordB (z : Str) : Bool := decide (z.length ≤ 100) && decide (1 ≤ (letB z).length) && decide ((letB z).length ≤ 8) && decide (z.length ≤ (letB z).length + 4) && (letB z).cps.toList.all (fun c => decide (c ∈ ("abcdefghijklmnopqrstuvwxyz" : Str).cps.toList))
def TieK (n : Nat) (k : List Key) : Prop := ∃ (i j : Nat) (kd : Str), k = [Sum.inl (i : Int), Sum.inl (j : Int), Sum.inr kd] ∧ i < j ∧ j < n ∧ isWordB kd = true
structure Ties (n m : Nat) (kvs : List (List Key × V)) : Prop where
  key : ∀ kv ∈ kvs, TieK n kv.1
  val : ∀ kv ∈ kvs, ∃ x : Nat, kv.2 = V.int (x : Int) ∧ 1 ≤ x ∧ x ≤ m
  nd : (kvs.map (·.1)).Nodup
theorem Ties.nil (n m : Nat) : Ties n m [] := ⟨fun _ h => (List.not_mem_nil h).elim, fun _ h => (List.not_mem_nil h).elim, List.nodup_nil⟩
theorem Ties.put {n m : Nat} {kvs : List (List Key × V)} (h : Ties n m kvs) {k : List Key} {x : Nat} (hk : TieK n k) (h1 : 1 ≤ x) (h2 : x ≤ m) : Ties n m (putK kvs k (V.int (x : Int))) := by
  refine ⟨fun kv hm => ?_, fun kv hm => ?_, nodup_put _ _ h.nd⟩
  · rcases mem_put hm with e | e
    · rw [e]; exact hk
    · exact h.key kv e.1
  · rcases mem_put hm with e | e
    · rw [e]; exact ⟨x, rfl, h1, h2⟩
    · exact h.val kv e.1
/-- all but the source and one thing more stays -/
def Kp3 (s c t : Addr) (H H' : Hp) : Prop := ∀ b o, H b = some o → b ≠ s → b ≠ c → b ≠ t → H' b = some o
theorem Kp3.refl {s c t : Addr} (H : Hp) : Kp3 s c t H H := fun _ _ h _ _ _ => h
theorem Kp3.kp {s c t : Addr} {H H1 H2 : Hp} (a : Kp3 s c t H H1) (b : Kp s c H1 H2) : Kp3 s c t H H2 := fun x o h h1 h2 h3 => b x o (a x o h h1 h2 h3) h1 h2
theorem Kp3.off {s c t : Addr} {H H1 : Hp} {p : Addr} {o : HO} (a : Kp3 s c t H H1) (h : H1 p = none) : Kp3 s c t H (upd H1 p o) := fun x u e h1 h2 h3 => by
  have := a x u e h1 h2 h3
  rw [upd_ne (ne_of_none this h)]
  exact this
theorem Kp3.put {s c t : Addr} {H H1 : Hp} {o : HO} (a : Kp3 s c t H H1) : Kp3 s c t H (upd H1 t o) := fun x u e h1 h2 h3 => by
  rw [upd_ne h3]
  exact a x u e h1 h2 h3
theorem PairsAt.put {n : Int} {H : Hp} {xs : List V} {t : Addr} {o u : HO} (h : PairsAt n H xs) (e : H t = some u) (hu : ∀ ys, u ≠ .tup ys) : PairsAt n (upd H t o) xs := fun v hv => by
  obtain ⟨q, i, j, a, b, r⟩ := h v hv
  refine ⟨q, i, j, a, ?_, r⟩
  rw [upd_ne (ne_of b e (fun z => hu _ z.symm))]
  exact b
/-- a list of one to three words, new since H -/
def WordL (H0 H : Hp) (v : V) : Prop := ∃ e es, v = V.ref e ∧ H0 e = none ∧ H e = some (.lst (List.map V.str es)) ∧ 1 ≤ es.length ∧ es.length ≤ 3 ∧ ∀ x ∈ es, isWordB x = true
theorem WordL.kp {H0 H H' : Hp} {s c : Addr} {v : V} (S : Src H0 s c) (h : WordL H0 H v) (k : Kp s c H H') : WordL H0 H' v := by
  obtain ⟨e, es, a, b, d, r⟩ := h
  obtain ⟨n1, n2⟩ := S.ne b
  exact ⟨e, es, a, b, k _ _ d n1 n2, r⟩
theorem WordL.same {H0 H H' : Hp} {v : V} (h : WordL H0 H v) (k : Same H H') : WordL H0 H' v := by
  obtain ⟨e, es, a, b, d, r⟩ := h
  exact ⟨e, es, a, b, k _ _ d, r⟩
theorem WordL.mk {H0 H : Hp} {l : Addr} (es : List Str) (h0 : Same H0 H) (h : H l = none) (h1 : (decide (1 ≤ es.length) && decide (es.length ≤ 3) && es.all isWordB) = true) : WordL H0 (upd H l (.lst (es.map V.str))) (.ref l) := by
  simp only [Bool.and_eq_true, decide_eq_true_eq, List.all_eq_true] at h1
  exact ⟨l, es, rfl, h0.free h, upd_same, h1.1.1, h1.1.2, h1.2⟩
def seven : List Str := ["a", "b", "c", "d", "e", "p0", "north"]
theorem seven_nd : seven.Nodup := by decide +kernel
theorem seven_w : ∀ x ∈ seven, isWordB x = true := by decide +kernel
def worldD (a b t : Addr) : List (Key × V) := [(Sum.inr "names", V.ref a), (Sum.inr "colours", V.ref b), (Sum.inr "ties", V.ref t)]
structure WorldOk (H : Hp) (s c wd a b t : Addr) (nm cl : List Str) (kvs : List (List Key × V)) : Prop where
  d : H wd = some (.dK (worldD a b t))
  hn : H a = some (.lst (nm.map V.str))
  hc : H b = some (.lst (cl.map V.str))
  ht : H t = some (.dT kvs)
  ds : wd ≠ s ∧ wd ≠ c
  as : a ≠ s ∧ a ≠ c
  bs : b ≠ s ∧ b ≠ c
  ts : t ≠ s ∧ t ≠ c
  nn : nm.Nodup
  nw : ∀ x ∈ nm, isWordB x = true
  cw : ∀ x ∈ cl, isWordB x = true
  cn : cl.length = nm.length
  n1 : 1 ≤ nm.length
theorem WorldOk.kp {H H' : Hp} {s c wd a b t : Addr} {nm cl : List Str} {kvs : List (List Key × V)} (W : WorldOk H s c wd a b t nm cl kvs) (e : Kp s c H H') : WorldOk H' s c wd a b t nm cl kvs :=
  ⟨e _ _ W.d W.ds.1 W.ds.2, e _ _ W.hn W.as.1 W.as.2, e _ _ W.hc W.bs.1 W.bs.2, e _ _ W.ht W.ts.1 W.ts.2, W.ds, W.as, W.bs, W.ts, W.nn, W.nw, W.cw, W.cn, W.n1⟩
theorem WorldOk.same {H H' : Hp} {s c wd a b t : Addr} {nm cl : List Str} {kvs : List (List Key × V)} (W : WorldOk H s c wd a b t nm cl kvs) (e : Same H H') : WorldOk H' s c wd a b t nm cl kvs := W.kp (Kp.same e)
theorem w1 : ¬ (("names" : Str) = "colours") := by decide +kernel
theorem w2 : ¬ (("names" : Str) = "ties") := by decide +kernel
theorem w3 : ¬ (("colours" : Str) = "ties") := by decide +kernel
section
variable {a b t : Addr}
theorem wd_names : valV (worldD a b t) (Sum.inr "names" : Key) = some (.ref a) := valV_pos rfl
theorem wd_colours : valV (worldD a b t) (Sum.inr "colours" : Key) = some (.ref b) := by
  unfold worldD
  rw [valV_neg (inr_ne w1)]
  exact valV_pos rfl
theorem wd_ties : valV (worldD a b t) (Sum.inr "ties" : Key) = some (.ref t) := by
  unfold worldD
  rw [valV_neg (inr_ne w2), valV_neg (inr_ne w3)]
  exact valV_pos rfl
theorem merge_wd : mergeK [] (worldD a b t) = worldD a b t := by
  unfold mergeK worldD
  simp [putK, w1, w2, w3]
theorem dg_names {H : Hp} {wd : Addr} (h : H wd = some (.dK (worldD a b t))) : DGet H wd (V.str "names") (some (.ref a)) := by rw [← wd_names (a := a) (b := b) (t := t)]; exact DGet.k (k := Sum.inr "names") h
theorem dg_colours {H : Hp} {wd : Addr} (h : H wd = some (.dK (worldD a b t))) : DGet H wd (V.str "colours") (some (.ref b)) := by rw [← wd_colours (a := a) (b := b) (t := t)]; exact DGet.k (k := Sum.inr "colours") h
theorem dg_ties {H : Hp} {wd : Addr} (h : H wd = some (.dK (worldD a b t))) : DGet H wd (V.str "ties") (some (.ref t)) := by rw [← wd_ties (a := a) (b := b) (t := t)]; exact DGet.k (k := Sum.inr "ties") h
end
section
variable {P : Program} {w : World} {K : PySem.W.Frag} {mg : Str → Option Value} {base : Heap}
/-! ### _law_draw_world -/
def spDraw : Sp := fun vs H Q _ => ∃ (s c : Addr) (m : Int), vs = [.ref s, .int m] ∧ Src H s c ∧ 1 ≤ m ∧ m ≤ 7 ∧
  ∀ (wd a b t : Addr) (nm cl : List Str) (kvs : List (List Key × V)) (H' : Hp), H wd = none → H a = none → H b = none → H t = none → WorldOk H' s c wd a b t nm cl kvs → (nm.length : Int) ≤ m → Ties nm.length 2 kvs → kvs.length ≤ 300 → Src H' s c → Kp s c H H' → Q (.ref wd) H'
abbrev nDraw : List Str := ["_law_source", "_law_most", "_law_count", "_law_names", "_law_every", "_law_kinds", "_law_ties", "_law_wide", "_law_kind", "_law_one", "_law_other", "_law_name"]
theorem scDraw : FnScope nDraw ["_law_source", "_law_most"] (defScope sDrawWorld) := ⟨rfl, rfl, rfl, by decide +kernel, rfl, by decide +kernel, by decide +kernel⟩
theorem ok_draw {f : Addr} {fd : FuncData} (F : Fun K "_law_draw_world" "_law_draw_world" sDrawWorld f fd) (T : TxtB mg) (Gp : Def P w K mg base "_law_pick" ["_law_source", "_law_many"] 1 spPick)
    (Ga : Def P w K mg base "_law_any_order" ["_law_source", "_law_items"] 2 (spAny K)) (Gs : Def P w K mg base "_law_shape_pairs" ["_law_source", "_law_count"] 2 spShape) (Gc : Def P w K mg base "_law_choice_of" ["_law_source", "_law_items"] 2 (spChoice K)) :
    FnOk P w K mg base CX0 3 f fd ["_law_source", "_law_most"] spDraw := by
  obtain ⟨fp, fdp, Gp, mp, kp, bp⟩ := Gp.ex
  obtain ⟨fa, fda, Ga, ma, ka, ba⟩ := Ga.ex
  obtain ⟨fs, fds, Gs, ms, ks, bs⟩ := Gs.ex
  obtain ⟨fc, fdc, Gc, mc, kc, bc⟩ := Gc.ex
  refine F.ok scDraw (fun vs H Q E h => ?_) (fun cdv A outer s H vs Q E hr h => ?_)
  · obtain ⟨p, dx, n, rfl, _⟩ := h
    rfl
  · obtain ⟨sa, ca, m, rfl, S, n1, n2, k⟩ := h
    have hu := hu_of hr
    have hr1 := hr.mono (by decide : 1 ≤ 2)
    refine ⟨_, Evl.pss_cut (ps_set (i := 2) scDraw.nd rfl (Or.inl rfl) (pe_op op_add pe_int (pe_call Gp hr1 (by rfl) mp kp bp .nil pass0 (pa_cons (pv 0) (pa_cons (pv 1) pa_nil)))))
      (Evl.pss_cut (ps_set (i := 3) scDraw.nd rfl (Or.inl rfl) (pe_slice sl_list (pe_call Ga hr (by rfl) ma ka ba .nil pass0 (pa_cons (pv 0) (pa_cons (pe_lst (pa_cons pe_str (pa_cons pe_str (pa_cons pe_str (pa_cons pe_str (pa_cons pe_str (pa_cons pe_str (pa_cons pe_str pa_nil)))))))) pa_nil))) po_none (po_some (pv 2))))
      (Evl.pss_cut (ps_set (i := 4) scDraw.nd rfl (Or.inr rfl) (pe_ix ix_list (pe_lst (pa_cons (pe_lst (pa_cons pe_str pa_nil)) (pa_cons (pe_lst (pa_cons pe_str pa_nil)) (pa_cons (pe_lst (pa_cons pe_str (pa_cons pe_str pa_nil))) (pa_cons (pe_lst (pa_cons pe_str (pa_cons pe_str (pa_cons pe_str pa_nil)))) (pa_cons (pe_lst (pa_cons pe_str (pa_cons pe_str pa_nil))) pa_nil)))))) (pe_call Gp hr1 (by rfl) mp kp bp .nil pass0 (pa_cons (pv 0) (pa_cons pe_int pa_nil))) (fun _ _ => rfl)))
      (Evl.pss_cut (ps_set (i := 5) scDraw.nd rfl (Or.inl rfl) (pe_ix ix_list (pe_lst (pa_cons (pe_lst (pa_cons pe_str pa_nil)) (pa_cons (pe_lst (pa_cons pe_str pa_nil)) (pa_cons (pe_lst (pa_cons pe_str (pa_cons pe_str pa_nil))) (pa_cons (pe_lst (pa_cons pe_str (pa_cons pe_str pa_nil))) pa_nil))))) (pe_call Gp hr1 (by rfl) mp kp bp .nil pass0 (pa_cons (pv 0) (pa_cons pe_int pa_nil))) (fun _ _ => rfl)))
      (Evl.pss_cut (ps_par (i := 6) (j := 7) (by rfl) scDraw.nd rfl rfl (by decide) rfl rfl (pa_cons pe_dnewT (pa_cons (pe_call Gp hr1 (by rfl) mp kp bp .nil pass0 (pa_cons (pv 0) (pa_cons pe_int pa_nil))) pa_nil)) (by rfl))
      (Evl.pss_cut (ps_for PassesOwn.never rfl (pi_list (pv 5)) (pg_name (i := 8) scDraw.nd rfl (Or.inl rfl))
        (pss_one (ps_for PassesOwn.never rfl (pi_list (pe_call Gs hr (by rfl) ms ks bs .nil pass0 (pa_cons (pv 0) (pa_cons (pv 2) pa_nil)))) (pg_tup rfl (pgs_cons (pg_name (i := 9) scDraw.nd rfl (.inl rfl)) (pgs_cons (pg_name (i := 10) scDraw.nd rfl (.inl rfl)) pgs_nil)))
          (pss_one (ps_dput hu (pv 6) (pe_tup (pa_cons (pv 9) (pa_cons (pv 10) (pa_cons (pv 8) pa_nil)))) (pe_ix ix_list (pe_lst (pa_cons pe_int (pa_cons pe_int (pa_cons (pe_op op_add pe_int (pe_call Gp hr1 (by rfl) mp kp bp .nil pass0 (pa_cons (pv 0) (pa_cons pe_int pa_nil)))) pa_nil)))) (pv 7) (fun _ _ => rfl)) rfl)))))
      (pss_one (ps_ret (pe_disp (pps_cons pe_str (pv 3) (pps_cons pe_str (pe_lc (own := [("_law_name", 11)]) (g := gName 11) (tt := tYes) (te := tCall (spChoice K) [] E0 (tCons (tVar 0) (tCons (tVar 4) tNil))) rfl scDraw.nd (pi_list (pv 3))
          (blkOk_by (N := nDraw) (sc := defScope sDrawWorld) (by decide +kernel)) (fun _ _ _ _ _ => pg_name (i := 11) scDraw.nd rfl (Or.inl rfl)) (fun _ _ _ _ _ => pts_nil)
          (fun _ _ _ _ _ => by exact pe_call Gc hr (by rfl) mc kc bc .nil pass0 (pa_cons (pv 0) (pa_cons (pv 4) pa_nil))))
          (pps_cons pe_str (pv 6) pps_nil))) (by rfl) (by rfl) (fun z => by cases z) (by decide))))))))), ?_⟩
    -- count
    refine ⟨fun σ H1 => ∃ n : Nat, σ = [some (.ref sa), some (.int m), some (.int (n : Int)), none, none, none, none, none, none, none, none, none] ∧ 1 ≤ n ∧ (n : Int) ≤ m ∧ Src H1 sa ca ∧ Kp sa ca H H1, ?_, ?_⟩
    · refine ⟨_, rfl, _, rfl, sa, ca, m, rfl, S, n1, by omega, fun kk H1 k0 k1 S1 kp1 => ⟨_, _, rfl, rfl, ?_⟩⟩
      refine ⟨(1 + kk).toNat, ?_, by omega, by omega, S1, kp1⟩
      rw [Int.toNat_of_nonneg (by omega)]
      rfl
    rintro σ H1 ⟨n, rfl, hn1, hn7, S1, kp1⟩
    -- names
    refine ⟨fun σ H3 => ∃ q nm, σ = [some (.ref sa), some (.int m), some (.int (n : Int)), some (.ref q), none, none, none, none, none, none, none, none] ∧ H q = none ∧ H3 q = some (.lst (List.map V.str nm)) ∧ nm.length = n ∧ nm.Nodup ∧ (∀ x ∈ nm, isWordB x = true) ∧ Src H3 sa ca ∧ Kp sa ca H H3, ?_, ?_⟩
    · refine ⟨_, rfl, (by show 7 ≤ sizeLine; decide), fun l hl => ?_⟩
      refine ⟨sa, ca, l, _, rfl, S1.new hl, SqL.of upd_same, (by show 7 ≤ 10000; decide), fun p ys H2 hp pm hpl S2 kp2 => ?_⟩
      refine ⟨_, rfl, _, rfl, p, ys, rfl, SqL.of hpl, fun q hq => ?_⟩
      obtain ⟨zs, rfl, pz⟩ := perm_str (xs := seven) pm
      have hzl : zs.length = 7 := pz.length_eq
      have kp02 : Kp sa ca H H2 := kp1.trans ((Kp.same (same_new hl)).trans kp2)
      have hq0 : H q = none := kp02.free S2 hq
      refine ⟨q, zs.take n, rfl, hq0, by rw [upd_same, cut_upto, ← List.map_take], by rw [List.length_take]; omega, ((List.take_sublist n zs).nodup (pz.nodup_iff.mpr seven_nd)), fun x hx => seven_w x (pz.subset ((List.take_sublist n zs).subset hx)), S2.new hq, kp02.off hq0⟩
    rintro σ H3 ⟨q, nm, rfl, hq0, hq, hlen, hnd, hwd, S3, kp3⟩
    -- every
    refine ⟨fun σ H4 => ∃ v, σ = [some (.ref sa), some (.int m), some (.int (n : Int)), some (.ref q), some v, none, none, none, none, none, none, none] ∧ WordL H3 H4 v ∧ Src H4 sa ca ∧ Kp sa ca H3 H4, ?_, ?_⟩
    · refine ⟨(by show 1 ≤ sizeLine; decide), fun l1 h1 => ⟨(by show 1 ≤ sizeLine; decide), fun l2 h2 => ⟨(by show 2 ≤ sizeLine; decide), fun l3 h3 => ⟨(by show 3 ≤ sizeLine; decide), fun l4 h4 => ⟨(by show 2 ≤ sizeLine; decide), fun l5 h5 => ⟨(by show 5 ≤ sizeLine; decide), fun l6 h6 => ?_⟩⟩⟩⟩⟩⟩
      have s1 := same_new (o := .lst ((["o"] : List Str).map V.str)) h1
      have s2 := s1.trans (same_new (o := .lst ((["o"] : List Str).map V.str)) h2)
      have s3 := s2.trans (same_new (o := .lst ((["red", "blue"] : List Str).map V.str)) h3)
      have s4 := s3.trans (same_new (o := .lst ((["x", "y", "z"] : List Str).map V.str)) h4)
      have s5 := s4.trans (same_new (o := .lst ((["m10", "m2"] : List Str).map V.str)) h5)
      have s6 := same_new (o := .lst [.ref l1, .ref l2, .ref l3, .ref l4, .ref l5]) h6
      have a5 := (WordL.mk ["m10", "m2"] s4 h5 (by decide +kernel)).same s6
      have a4 := ((WordL.mk ["x", "y", "z"] s3 h4 (by decide +kernel)).same (same_new h5)).same s6
      have a3 := (((WordL.mk ["red", "blue"] s2 h3 (by decide +kernel)).same (same_new h4)).same (same_new h5)).same s6
      have a2 := ((((WordL.mk ["o"] s1 h2 (by decide +kernel)).same (same_new h3)).same (same_new h4)).same (same_new h5)).same s6
      have a1 := (((((WordL.mk ["o"] (Same.refl H3) h1 (by decide +kernel)).same (same_new h2)).same (same_new h3)).same (same_new h4)).same (same_new h5)).same s6
      have all : ∀ v ∈ [V.ref l1, V.ref l2, V.ref l3, V.ref l4, V.ref l5], WordL H3 _ v := fun v hv => by
        rcases List.mem_cons.mp hv with rfl | hv
        · exact a1
        rcases List.mem_cons.mp hv with rfl | hv
        · exact a2
        rcases List.mem_cons.mp hv with rfl | hv
        · exact a3
        rcases List.mem_cons.mp hv with rfl | hv
        · exact a4
        rcases List.mem_cons.mp hv with rfl | hv
        · exact a5
        cases hv
      have s06 := s5.trans s6
      refine ⟨_, rfl, sa, ca, 5, rfl, S3.same s06, by decide, by decide, fun kk H4 k0 k1 S4 kp4 => ?_⟩
      obtain ⟨n6s, n6c⟩ := S3.ne (s5.free h6)
      have hl6 := kp4 _ _ upd_same n6s n6c
      obtain ⟨v, hv⟩ : ∃ v, [V.ref l1, V.ref l2, V.ref l3, V.ref l4, V.ref l5][kk.toNat]? = some v := ⟨_, List.getElem?_eq_getElem (by show kk.toNat < 5; omega)⟩
      refine ⟨l6, _, kk, v, rfl, rfl, SqL.of hl6, ?_, v, rfl, (all v (List.mem_of_getElem? hv)).kp S3 kp4, S4, (Kp.same s06).trans kp4⟩
      have := atI_nat hv
      rw [Int.toNat_of_nonneg k0] at this
      exact this
    rintro σ H4 ⟨ev, rfl, hev, S4, kp4⟩
    -- kinds
    refine ⟨fun σ H5 => ∃ v, σ = [some (.ref sa), some (.int m), some (.int (n : Int)), some (.ref q), some ev, some v, none, none, none, none, none, none] ∧ WordL H4 H5 v ∧ Src H5 sa ca ∧ Kp sa ca H4 H5, ?_, ?_⟩
    · refine ⟨(by show 1 ≤ sizeLine; decide), fun l1 h1 => ⟨(by show 1 ≤ sizeLine; decide), fun l2 h2 => ⟨(by show 2 ≤ sizeLine; decide), fun l3 h3 => ⟨(by show 2 ≤ sizeLine; decide), fun l4 h4 => ⟨(by show 4 ≤ sizeLine; decide), fun l6 h6 => ?_⟩⟩⟩⟩⟩
      have s1 := same_new (o := .lst ((["c"] : List Str).map V.str)) h1
      have s2 := s1.trans (same_new (o := .lst ((["c"] : List Str).map V.str)) h2)
      have s3 := s2.trans (same_new (o := .lst ((["k", "c"] : List Str).map V.str)) h3)
      have s4 := s3.trans (same_new (o := .lst ((["k2", "k10"] : List Str).map V.str)) h4)
      have s6 := same_new (o := .lst [.ref l1, .ref l2, .ref l3, .ref l4]) h6
      have a4 := (WordL.mk ["k2", "k10"] s3 h4 (by decide +kernel)).same s6
      have a3 := ((WordL.mk ["k", "c"] s2 h3 (by decide +kernel)).same (same_new h4)).same s6
      have a2 := (((WordL.mk ["c"] s1 h2 (by decide +kernel)).same (same_new h3)).same (same_new h4)).same s6
      have a1 := ((((WordL.mk ["c"] (Same.refl H4) h1 (by decide +kernel)).same (same_new h2)).same (same_new h3)).same (same_new h4)).same s6
      have all : ∀ v ∈ [V.ref l1, V.ref l2, V.ref l3, V.ref l4], WordL H4 _ v := fun v hv => by
        rcases List.mem_cons.mp hv with rfl | hv
        · exact a1
        rcases List.mem_cons.mp hv with rfl | hv
        · exact a2
        rcases List.mem_cons.mp hv with rfl | hv
        · exact a3
        rcases List.mem_cons.mp hv with rfl | hv
        · exact a4
        cases hv
      have s06 := s4.trans s6
      refine ⟨_, rfl, sa, ca, 4, rfl, S4.same s06, by decide, by decide, fun kk H5 k0 k1 S5 kp5 => ?_⟩
      obtain ⟨n6s, n6c⟩ := S4.ne (s4.free h6)
      have hl6 := kp5 _ _ upd_same n6s n6c
      obtain ⟨v, hv⟩ : ∃ v, [V.ref l1, V.ref l2, V.ref l3, V.ref l4][kk.toNat]? = some v := ⟨_, List.getElem?_eq_getElem (by show kk.toNat < 4; omega)⟩
      refine ⟨l6, _, kk, v, rfl, rfl, SqL.of hl6, ?_, v, rfl, (all v (List.mem_of_getElem? hv)).kp S4 kp5, S5, (Kp.same s06).trans kp5⟩
      have := atI_nat hv
      rw [Int.toNat_of_nonneg k0] at this
      exact this
    rintro σ H5 ⟨kv, rfl, hkv, S5, kp5⟩
    have hev5 := hev.kp S3 kp5
    obtain ⟨ea, es, rfl, ea0, hea, e1, e2, ew⟩ := hev5
    obtain ⟨ka', ks', rfl, ka0, hka, kk1, kk2, kw⟩ := hkv
    have kp05 : Kp sa ca H H5 := (kp3.trans kp4).trans kp5
    obtain ⟨nqs, nqc⟩ := S.ne hq0
    have hq5 : H5 q = some (.lst (List.map V.str nm)) := kp5 _ _ (kp4 _ _ hq nqs nqc) nqs nqc
    obtain ⟨nes, nec⟩ := S3.ne ea0
    obtain ⟨nks, nkc⟩ := S4.ne ka0
    -- ties, wide
    refine ⟨fun σ H6 => ∃ t wi, σ = [some (.ref sa), some (.int m), some (.int (n : Int)), some (.ref q), some (.ref ea), some (.ref ka'), some (.ref t), some (.int wi), none, none, none, none] ∧ H5 t = none ∧ 0 ≤ wi ∧ wi < 3 ∧ H6 t = some (.dT []) ∧ Src H6 sa ca ∧ Kp sa ca H5 H6, ?_, ?_⟩
    · intro t ht
      obtain ⟨nts, ntc⟩ := S5.ne ht
      refine ⟨_, rfl, sa, ca, 3, rfl, S5.new ht, by decide, by decide, fun kk H6 k0 k1 S6 kp6 => ?_⟩
      exact ⟨_, _, rfl, t, kk, rfl, ht, k0, k1, kp6 _ _ upd_same nts ntc, S6, (Kp.same (same_new ht)).trans kp6⟩
    rintro σ H6 ⟨t, wi, rfl, ht0, wi0, wi1, ht, S6, kp6⟩
    obtain ⟨nts, ntc⟩ := S5.ne ht0
    have nkt : ka' ≠ t := ne_of_none hka ht0
    have net : ea ≠ t := ne_of_none hea ht0
    have nqt : q ≠ t := ne_of_none hq5 ht0
    refine ⟨fun σ H7 => ∃ vk v9 v10 kvs, σ = [some (.ref sa), some (.int m), some (.int (n : Int)), some (.ref q), some (.ref ea), some (.ref ka'), some (.ref t), some (.int wi), vk, v9, v10, none] ∧ H7 t = some (.dT kvs) ∧ Ties n 2 kvs ∧ kvs.length ≤ 300 ∧ Src H7 sa ca ∧ Kp3 sa ca t H6 H7, ?_, ?_⟩
    · refine ⟨_, rfl, ka', rfl, ⟨_, SqL.of (kp6 _ _ hka nks nkc)⟩, ?_⟩
      refine for_list (xs := ks'.map V.str) (fun i σ H7 => ∃ vk v9 v10 kvs, σ = [some (.ref sa), some (.int m), some (.int (n : Int)), some (.ref q), some (.ref ea), some (.ref ka'), some (.ref t), some (.int wi), vk, v9, v10, none] ∧ H7 t = some (.dT kvs) ∧ Ties n 2 kvs ∧ kvs.length ≤ 100 * i ∧ Src H7 sa ca ∧ Kp3 sa ca t H6 H7)
        ⟨none, none, none, [], rfl, ht, Ties.nil n 2, by simp, S6, Kp3.refl H6⟩ (fun i σ H7 _ ⟨_, _, _, _, _, _, _, _, _, kp7⟩ => SqL.of (kp7 _ _ (kp6 _ _ hka nks nkc) nks nkc nkt)) ?_ ?_
      · rintro i x σ H7 hi ⟨vk, v9, v10, kvs, rfl, ht7, ti7, hl7, S7, kp7⟩
        have hil := (List.getElem?_eq_some_iff.mp hi).1
        rw [List.length_map] at hil
        rw [List.getElem?_map] at hi
        obtain ⟨kd, hkd, rfl⟩ := Option.map_eq_some_iff.mp hi
        have kdw := kw kd (List.mem_of_getElem? hkd)
        refine ⟨_, rfl, _, rfl, sa, ca, n, rfl, S7, by omega, by omega, fun p xs H8 hp hpl hpr hxl S8 kp8 => ?_⟩
        have ht8 := kp8 _ _ ht7 nts ntc
        have npt : p ≠ t := fun e => by subst e; rw [hp] at ht7; cases ht7
        obtain ⟨nps, npc⟩ := S7.ne hp
        refine ⟨p, rfl, ⟨_, SqL.of hpl⟩, ?_⟩
        refine for_list (xs := xs) (fun j σ H9 => ∃ v9 v10 kvs', σ = [some (.ref sa), some (.int m), some (.int (n : Int)), some (.ref q), some (.ref ea), some (.ref ka'), some (.ref t), some (.int wi), some (.str kd), v9, v10, none] ∧ H9 t = some (.dT kvs') ∧ Ties n 2 kvs' ∧ kvs'.length ≤ kvs.length + j ∧ H9 p = some (.lst xs) ∧ PairsAt n H9 xs ∧ Src H9 sa ca ∧ Kp3 sa ca t H6 H9)
          ⟨v9, v10, kvs, rfl, ht8, ti7, by omega, hpl, hpr, S8, kp7.kp kp8⟩ (fun j σ H9 _ ⟨_, _, _, _, _, _, _, h, _⟩ => SqL.of h) ?_ ?_
        · rintro j x σ H9 hj ⟨v9, v10, kvs', rfl, ht9, ti9, hl9, hp9, hpr9, S9, kp9⟩
          have hjl := (List.getElem?_eq_some_iff.mp hj).1
          obtain ⟨tt, i1, j1, rfl, htt, hi0, hij, hjn⟩ := hpr9 x (List.mem_of_getElem? hj)
          refine ⟨tt, _, rfl, SqT.of htt, rfl, _, _, rfl, _, _, rfl, rfl, ?_⟩
          refine ⟨_, rfl, sa, ca, 2, rfl, S9, by decide, by decide, fun kk H10 k0 k1 S10 kp10 => ⟨_, _, rfl, rfl, (by show 3 ≤ sizeLine; decide), fun l hl => ?_⟩⟩
          have ht10 := kp10 _ _ ht9 nts ntc
          have hp10 := kp10 _ _ hp9 nps npc
          have hpr10 := hpr9.kp S9 kp10
          obtain ⟨x, hx, hx1, hx2⟩ : ∃ x : Nat, atI [V.int 1, V.int 2, V.int (1 + kk)] wi = some (V.int (x : Int)) ∧ 1 ≤ x ∧ x ≤ 2 := by
            have hw : wi = 0 ∨ wi = 1 ∨ wi = 2 := by omega
            rcases hw with rfl | rfl | rfl
            · exact ⟨1, atI_nat (j := 0) rfl, by decide, by decide⟩
            · exact ⟨2, atI_nat (j := 1) rfl, by decide, by decide⟩
            · refine ⟨(1 + kk).toNat, ?_, by omega, by omega⟩
              rw [Int.toNat_of_nonneg (by omega)]
              exact atI_nat (j := 2) rfl
          refine ⟨_, rfl, l, _, wi, _, rfl, rfl, SqL.of upd_same, hx, ?_⟩
          have ht11 : (upd H10 l (.lst [V.int 1, V.int 2, V.int (1 + kk)])) t = some (.dT kvs') := by rw [upd_ne (ne_of_none ht10 hl)]; exact ht10
          refine ⟨_, rfl, _, rfl, _, rfl, _, rfl, (by show 3 ≤ sizeLine; decide), fun u hu => ?_⟩
          have ht12 : (upd (upd H10 l (.lst [V.int 1, V.int 2, V.int (1 + kk)])) u (.tup [.int i1, .int j1, .str kd])) t = some (.dT kvs') := by rw [upd_ne (ne_of_none ht11 hu)]; exact ht11
          have sm12 : Same H10 (upd (upd H10 l (.lst [V.int 1, V.int 2, V.int (1 + kk)])) u (.tup [.int i1, .int j1, .str kd])) := (same_new hl).trans (same_new hu)
          refine ⟨t, _, rfl, DPut.t (k := [Sum.inl i1, Sum.inl j1, Sum.inr kd]) ht12 upd_same (Evl.sz_lt (by omega)), ?_⟩
          refine ⟨some (.int i1), some (.int j1), _, rfl, upd_same, ti9.put ⟨i1.toNat, j1.toNat, kd, by rw [Int.toNat_of_nonneg hi0, Int.toNat_of_nonneg (by omega)], by omega, by omega, kdw⟩ hx1 hx2, by have := length_putK kvs' [Sum.inl i1, Sum.inl j1, Sum.inr kd] (V.int (x : Int)); omega, ?_, ?_, (S10.same sm12).upd nts.symm.symm ntc, ((kp9.kp kp10).kp (Kp.same sm12)).put⟩
          · rw [upd_ne npt]
            exact sm12 _ _ hp10
          · exact (hpr10.same sm12).put ht12 (by intro ys z; cases z)
        · rintro σ H9 ⟨v9, v10, kvs', rfl, ht9, ti9, hl9, hp9, hpr9, S9, kp9⟩
          exact ⟨some (.str kd), v9, v10, kvs', rfl, ht9, ti9, by omega, S9, kp9⟩
      · rintro σ H7 ⟨vk, v9, v10, kvs, rfl, ht7, ti7, hl7, S7, kp7⟩
        rw [List.length_map] at hl7
        exact ⟨vk, v9, v10, kvs, rfl, ht7, ti7, by omega, S7, kp7⟩
    rintro σ H7 ⟨vk, v9, v10, kvs, rfl, ht7, ti7, hl7, S7, kp7⟩
    have hq7 := kp7 _ _ (kp6 _ _ hq5 nqs nqc) nqs nqc nqt
    have hea7 := kp7 _ _ (kp6 _ _ hea nes nec) nes nec net
    have kp07 : Kp sa ca H H7 := fun b o e h1 h2 => kp7 b o (kp6 b o (kp05 b o e h1 h2) h1 h2) h1 h2 (ne_of_none (kp05 b o e h1 h2) ht0)
    have ht00 : H t = none := kp05.free S5 ht0
    intro p hp
    have hp0 : H p = none := kp07.free S7 hp
    obtain ⟨nps, npc⟩ := S7.ne hp
    have npq : p ≠ q := fun e => by subst e; rw [hq7] at hp; cases hp
    have npe : p ≠ ea := fun e => by subst e; rw [hea7] at hp; cases hp
    have npt : p ≠ t := fun e => by subst e; rw [ht7] at hp; cases hp
    have sp := same_new (o := .dK []) hp
    refine ⟨_, rfl, _, rfl, q, rfl, ⟨_, SqL.of (sp _ _ hq7)⟩, fun D hD => ?_⟩
    obtain ⟨nDp, hD7⟩ := nx hD
    have hD0 : H D = none := kp07.free S7 hD7
    obtain ⟨nDs, nDc⟩ := S7.ne hD7
    have sD := same_new (o := .lst []) hD
    have sDp := sp.trans sD
    refine lc_list (xs := nm.map V.str) (fun i H8 => ∃ cl, H8 D = some (.lst (List.map V.str cl)) ∧ cl.length = i ∧ (∀ x ∈ cl, isWordB x = true) ∧ H8 p = some (.dK []) ∧ Src H8 sa ca ∧ Kp sa ca H7 H8)
      ⟨[], upd_same, rfl, (fun x hx => (List.not_mem_nil hx).elim), sD _ _ upd_same, S7.same sDp, Kp.same sDp⟩ (fun i H8 _ ⟨_, _, _, _, _, _, k8⟩ => SqL.of (k8 _ _ hq7 nqs nqc)) ?_ ?_
    · rintro i x H8 hi ⟨cl, hcD, hcl, hcw, hp8, S8, kp8⟩
      have hil := (List.getElem?_eq_some_iff.mp hi).1
      rw [List.length_map] at hil
      refine ⟨rfl, tyes ?_⟩
      refine ⟨_, rfl, _, rfl, sa, ca, ea, _, rfl, S8, nes, nec, SqL.of (kp8 _ _ hea7 nes nec), by rw [List.length_map]; exact e1, by rw [List.length_map]; omega, fun v H9 hv S9 kp9 => ?_⟩
      obtain ⟨x, hx, rfl⟩ := List.mem_map.mp hv
      refine ⟨_, kp9 _ _ hcD nDs nDc, Evl.sz_lt (by rw [List.length_map]; omega), cl ++ [x], by rw [upd_same, List.map_append]; rfl, by simp [hcl], ?_, ?_, S9.upd nDs nDc, ?_⟩
      · intro y hy
        rcases List.mem_append.mp hy with z | z
        · exact hcw y z
        · rw [List.mem_singleton] at z
          subst z
          exact ew y hx
      · rw [upd_ne nDp.symm]
        exact kp9 _ _ hp8 nps npc
      · exact (kp8.trans kp9).off hD7
    · rintro H8 ⟨cl, hcD, hcl, hcw, hp8, S8, kp8⟩
      rw [List.length_map] at hcl
      refine ⟨_, rfl, hp8, worldD q D t, rfl, (by show 3 ≤ 15; decide), ?_⟩
      rw [merge_wd]
      have nDt : D ≠ t := fun e => by subst e; rw [ht7] at hD7; cases hD7
      refine k p q D t nm cl kvs _ hp0 hq0 hD0 ht00 ⟨upd_same, ?_, ?_, ?_, ⟨nps, npc⟩, ⟨nqs, nqc⟩, ⟨nDs, nDc⟩, ⟨nts, ntc⟩, hnd, hwd, hcw, hcl, by omega⟩ (by omega) (by rw [hlen]; exact ti7) hl7 (S8.upd nps npc) ((kp07.trans kp8).off hp0)
      · rw [upd_ne npq.symm]; exact kp8 _ _ hq7 nqs nqc
      · rw [upd_ne nDp]; exact hcD
      · rw [upd_ne npt.symm]; exact kp8 _ _ ht7 nts ntc
end
end Nm
set_option maxRecDepth 100000
set_option maxHeartbeats 4000000
/-! sorted of a list of tuples of ints and texts, the first of each an int: a rearrangement -/
namespace Nm
open PySem PySem.Spec PyProof.Rows L2
/-- two rows of keys that are of one kind place by place -/
inductive SameK : List Key → List Key → Prop
  | nil : SameK [] []
  | int {i j : Int} {r q : List Key} : SameK r q → SameK (Sum.inl i :: r) (Sum.inl j :: q)
  | str {x y : Str} {r q : List Key} : SameK r q → SameK (Sum.inr x :: r) (Sum.inr y :: q)
def IsRow (h : Heap) (v : Value) (ks : List Key) : Prop := ∃ a o its n, v = .ref a ∧ h.get? a = some o ∧ o.cls = .type "tuple" ∧ o.data = .seq (List.toArray its) n ∧ Vals (ks.map kV) its
theorem IsRow.keeps {h h' : Heap} {v : Value} {ks : List Key} (p : IsRow h v ks) (k : ∀ b o, h.get? b = some o → o.cls = .type "tuple" → h'.get? b = some o) : IsRow h' v ks := by
  obtain ⟨a, o, its, n, e, ho, hc, hd⟩ := p
  exact ⟨a, o, its, n, e, k _ _ ho hc, hc, hd⟩
section
variable {prog : Program} {w : World} {A : Around} {E : Value → Shared → Prop} {s : Shared}
theorem lex_tot {fin : Bool} : ∀ {ks qs : List Key} {its jts : List Value} (i : Nat), SameK ks qs → Vals (ks.map kV) its → Vals (qs.map kV) jts → 0 < i → ∃ b : Bool, PySem.W.KatLex prog w A true fin (fun r s' => s' = s ∧ r = b) (its.zip jts) i s
  | _, _, _, _, i, .nil, .nil, .nil, _ => ⟨fin, PySem.W.kat_nil ⟨rfl, rfl⟩⟩
  | _, _, _, _, i, .int (i := x) (j := y) sk, .cons (a := _) r1 t1, .cons r2 t2, hi => by
    obtain ⟨t, rfl⟩ := r1
    obtain ⟨u, rfl⟩ := r2
    obtain ⟨b, hb⟩ := lex_tot (i + 1) sk t1 t2 (Nat.succ_pos _)
    by_cases e : x = y
    · refine ⟨b, PySem.W.kat_cons (SeqAt.EqAt.int_int x t y u prog w _ _ ?_)⟩
      refine PySem.W.kat_go (fun _ => PySem.W.kat_yes hb) (fun e1 => absurd e (by simpa using e1))
    · refine ⟨decide (x < y), PySem.W.kat_cons (SeqAt.EqAt.int_int x t y u prog w _ _ ?_)⟩
      refine PySem.W.kat_go (fun e1 => absurd (by simpa using e1) e) (fun _ => PySem.W.kat_no (TS.oneLt_ints _ ⟨rfl, rfl⟩))
  | _, _, _, _, i, .str (x := x) (y := y) sk, .cons r1 t1, .cons r2 t2, hi => by
    obtain ⟨t, rfl⟩ := r1
    obtain ⟨u, rfl⟩ := r2
    obtain ⟨b, hb⟩ := lex_tot (i + 1) sk t1 t2 (Nat.succ_pos _)
    by_cases e : x = y
    · refine ⟨b, PySem.W.kat_cons (SeqAt.EqAt.str_str x t y u prog w _ _ ?_)⟩
      refine PySem.W.kat_go (fun _ => PySem.W.kat_yes hb) (fun e1 => absurd e (by simpa using e1))
    · refine ⟨decide (x.cps.toList < y.cps.toList), PySem.W.kat_cons (SeqAt.EqAt.str_str x t y u prog w _ _ ?_)⟩
      refine PySem.W.kat_go (fun e1 => absurd (by simpa using e1) e) (fun _ => PySem.W.kat_no ?_)
      have hi0 : (true && i == 0) = false := by simp; omega
      rw [hi0]
      exact PySem.W.kat_one _ _ (PyProof.Rows.lt_str (Q := PySem.W.BoolBack (fun r s' => s' = s ∧ r = decide (x.cps.toList < y.cps.toList))) (show s = s ∧ decide (x.cps.toList < y.cps.toList) = decide (x.cps.toList < y.cps.toList) from ⟨rfl, rfl⟩))
theorem row_tot {vs : List Value} {k : Value → Int × List Key} (hp : ∀ v ∈ vs, IsRow s.heap v (Sum.inl (k v).1 :: (k v).2)) (hs : ∀ v ∈ vs, ∀ u ∈ vs, SameK (k v).2 (k u).2) : Srt.Tot prog w A s (tuples' true) (fun p => p.1 ∈ vs) := by
  intro p q hm hm'
  obtain ⟨a, o, its, n, e, ho, hc, hd, hv⟩ := hp _ hm
  obtain ⟨a', o', jts, n', e', ho', hc', hd', hv'⟩ := hp _ hm'
  have sk := hs _ hm _ hm'
  rw [e, e']
  generalize k p.1 = kp at *
  generalize k q.1 = kq at *
  obtain ⟨x, ks⟩ := kp
  obtain ⟨y, qs⟩ := kq
  cases hv with
  | cons r1 t1 =>
    cases hv' with
    | cons r2 t2 =>
      obtain ⟨t, rfl⟩ := r1
      obtain ⟨u, rfl⟩ := r2
      rename_i it jt
      obtain ⟨b, hb⟩ := lex_tot (prog := prog) (w := w) (A := A) (s := s) (fin := decide ((List.toArray (Value.int x t :: it)).size < (List.toArray (Value.int y u :: jt)).size)) 1 sk t1 t2 (by decide)
      by_cases e : x = y
      · refine ⟨b, PySem.W.kat_lt ho hd ho' hd' (PySem.W.kat_cons (SeqAt.EqAt.int_int x t y u prog w _ _ ?_))⟩
        refine PySem.W.kat_go (fun _ => PySem.W.kat_yes hb) (fun e1 => absurd e (by simpa using e1))
      · refine ⟨decide (x < y), PySem.W.kat_lt ho hd ho' hd' (PySem.W.kat_cons (SeqAt.EqAt.int_int x t y u prog w _ _ ?_))⟩
        refine PySem.W.kat_go (fun e1 => absurd (by simpa using e1) e) (fun _ => PySem.W.kat_no (TS.oneLt_ints _ ⟨rfl, rfl⟩))
theorem firsts_row {h : Heap} {k : Value → Int × List Key} : ∀ {vs : List Value}, (∀ v ∈ vs, IsRow h v (Sum.inl (k v).1 :: (k v).2)) → ∃ fs : List Value, PySem.W.KatTups h vs fs ∧ fs.length = vs.length ∧ ∀ f ∈ fs, ∃ x t, f = Value.int x t
  | [], _ => ⟨[], PySem.W.KatTups.nil, rfl, fun _ hm => by simp at hm⟩
  | v :: vs, hp => by
    obtain ⟨fs, h1, h2, h3⟩ := firsts_row (vs := vs) fun v' hm => hp v' (List.mem_cons_of_mem _ hm)
    obtain ⟨a, o, its, n, e, ho, hc, hd, hv⟩ := hp v (List.mem_cons_self ..)
    subst e
    cases hv with
    | cons r1 t1 =>
      obtain ⟨t, rfl⟩ := r1
      refine ⟨.int (k (.ref a)).1 t :: fs, PySem.W.KatTups.cons ho hc hd rfl h1, by rw [List.length_cons, List.length_cons, h2], fun f hm => ?_⟩
      rcases List.mem_cons.mp hm with rfl | hm
      · exact ⟨_, t, rfl⟩
      · exact h3 f hm
theorem rows_sortable {a : Addr} {vs : List Value} {k : Value → Int × List Key} (h0 : 0 < vs.length) (hp : ∀ v ∈ vs, IsRow s.heap v (Sum.inl (k v).1 :: (k v).2)) (hs : ∀ v ∈ vs, ∀ u ∈ vs, SameK (k v).2 (k u).2) (ha : ∀ o, s.heap.get? a = some o → o.cls ≠ .type "tuple") : Srt.Sortable prog w A s a vs := by
  intro h' keep
  have hp' : ∀ v ∈ vs, IsRow h' v (Sum.inl (k v).1 :: (k v).2) := fun v hm => (hp v hm).keeps fun b o e c => keep b o (fun z => by subst z; exact ha o e c) e
  obtain ⟨fs, h1, h2, h3⟩ := firsts_row hp'
  refine ⟨tuples' true, fun Q E hq => ?_, row_tot (s := { s with heap := h' }) hp' hs⟩
  refine PySem.W.kat_kind (T := .type "int") h1 (by omega) (fun f hm => ?_) (by rfl) ?_
  · obtain ⟨x, t, rfl⟩ := h3 f hm
    exact PySem.W.Looks.now
  · have e : (Value.type "int" != Value.type "tuple") = true := by decide +kernel
    rw [e]
    exact hq
theorem sorted_rows {l : Addr} {vs : List Value} {k : Value → Int × List Key} {Q : Value → Shared → Prop} (hl : s.heap.IsList l vs.toArray) (hz : vs.length ≤ sizeLine) (hp : ∀ v ∈ vs, IsRow s.heap v (Sum.inl (k v).1 :: (k v).2)) (hs : ∀ v ∈ vs, ∀ u ∈ vs, SameK (k v).2 (k u).2)
    (h : ∀ (h' : Heap) (d : Addr) (out : List Value), out.Perm vs → (∀ b o, s.heap.get? b = some o → h'.get? b = some o) → s.heap.objs.size ≤ d → (∃ n, h'.get? d = some (seqObj "list" out.toArray n)) → Q (.ref d) { s with heap := h' }) :
    wpAny (model prog w) A (call (.builtin "sorted") [.ref l]) Q E s := by
  refine Srt.sorted_any hl hz (fun h2 h₁ a ha kk => ?_) fun out ho => ?_
  · refine rows_sortable (s := { s with heap := h₁ }) (by omega) (fun v hm => (hp v hm).keeps fun b o e _ => (kk b o e).2) hs fun o e => ?_
    have e' : some o = some (seqObj "list" vs.toArray 0) := e.symm.trans ha
    cases e'
    intro c
    exact absurd (Value.type.inj c) (by decide)
  · exact h _ _ out ho (fun b o e => sortedAll_old e) (Nat.le_succ _) (sortedAll_at s.heap vs out.toArray)
end
/-- sorted(xs): a new list of the same tuples, in some order -/
def rSortedR (K : PySem.W.Frag) : List V → Hp → VK → Prop := fun vs H Q => ∃ a xs, ∃ k : V → Int × List Key, vs = [V.ref a] ∧ SqL K H a xs ∧ (∀ x ∈ xs, ∃ t, x = V.ref t ∧ H t = some (.tup (V.int (k x).1 :: (k x).2.map kV))) ∧ (∀ x ∈ xs, ∀ y ∈ xs, SameK (k x).2 (k y).2) ∧
  ∀ ys p, ys.Perm xs → H p = none → Q (.ref p) (upd H p (.lst ys))
section
variable {X : Cx}
theorem cr_sortedR : CallR X (.builtin "sorted") (rSortedR X.K) := by
  intro pins s σ H vs us Q I r h
  obtain ⟨a, xs, k, rfl, hs, hx, hk, q⟩ := h
  obtain ⟨its, rv, hl, hz⟩ := I.list hs
  obtain ⟨u, rfl, ru⟩ := vals1 r
  obtain rfl : u = Value.ref a := ru
  obtain ⟨e1, e2⟩ := refs_back rv fun x m => by
    obtain ⟨t, e, _⟩ := hx x m
    exact ⟨t, e⟩
  have inx : ∀ v ∈ its, backV v ∈ xs := fun v hv => by rw [e1]; exact List.mem_map.mpr ⟨_, hv, rfl⟩
  refine sorted_rows (k := fun u => k (backV u)) hl.isList (by rw [← rv.length]; exact hz) (fun v hv => ?_) (fun v hv u hu => hk _ (inx v hv) _ (inx u hu)) fun h' d out hp k' hd hn => ?_
  · obtain ⟨t, rfl⟩ := e2 v hv
    obtain ⟨t', e, ht⟩ := hx _ (inx _ hv)
    cases e
    obtain ⟨_, its2, r2, o, ho, hc, n, hd⟩ := I.hok _ _ ht
    exact ⟨t, o, its2, n, rfl, ho, hc, hd, r2⟩
  · have h3 : ∀ u ∈ out, ∃ a, u = Value.ref a := fun u hu => e2 u (hp.mem_iff.mp hu)
    obtain ⟨n, hn⟩ := hn
    refine ⟨.ref d, upd H d (.lst (out.map backV)), I.laid (t' := s.toks) k' hd ⟨?_, out, n, vals_back h3, hn⟩, rfl, q _ d ?_ (I.hok.fresh hd)⟩
    · rw [List.length_map, hp.length_eq, ← rv.length]; exact hz
    · rw [e1]; exact hp.map backV
end
end Nm
set_option maxRecDepth 100000
set_option maxHeartbeats 4000000
/-! sorted of a list of tuples of ints and texts, the first of each an int: in order -/
namespace Nm
open PySem PySem.Spec PyProof.Rows L2
def keyLt : Key → Key → Bool
  | .inl a, .inl b => decide (a < b)
  | .inr x, .inr y => decide (x.cps.toList < y.cps.toList)
  | .inl _, .inr _ => true
  | .inr _, .inl _ => false
def lexK : List Key → List Key → Bool
  | [], [] => false
  | [], _ :: _ => true
  | _ :: _, [] => false
  | a :: r, b :: q => if a = b then lexK r q else keyLt a b
theorem lexK_eq {a b : Key} {r q : List Key} (h : a = b) : lexK (a :: r) (b :: q) = lexK r q := by
  rw [lexK, if_pos h]
theorem lexK_ne {a b : Key} {r q : List Key} (h : ¬ a = b) : lexK (a :: r) (b :: q) = keyLt a b := by
  rw [lexK, if_neg h]
theorem str_eq {x y : Str} (h : x.cps.toList = y.cps.toList) : x = y := by
  cases x
  cases y
  simp at h
  simp [h]
theorem keyLt_anti : ∀ {a b : Key}, keyLt a b = false → keyLt b a = false → a = b
  | .inl a, .inl b, h1, h2 => by
    have h1 := of_decide_eq_false h1
    have h2 := of_decide_eq_false h2
    congr 1
    omega
  | .inr x, .inr y, h1, h2 => by
    have h1 := of_decide_eq_false h1
    have h2 := of_decide_eq_false h2
    rw [List.not_lt] at h1 h2
    rw [str_eq (List.le_antisymm h2 h1)]
  | .inl _, .inr _, h1, _ => by cases h1
  | .inr _, .inl _, _, h2 => by cases h2
theorem keyLt_asym : ∀ {a b : Key}, keyLt a b = true → keyLt b a = false
  | .inl a, .inl b, h => by
    have h := of_decide_eq_true h
    exact decide_eq_false (by omega)
  | .inr x, .inr y, h => by
    have h := of_decide_eq_true h
    exact decide_eq_false (List.lt_asymm h)
  | .inl _, .inr _, _ => rfl
  | .inr _, .inl _, h => by cases h
theorem keyLt_tr : ∀ {a b c : Key}, keyLt b a = false → keyLt c b = false → keyLt c a = false
  | .inl a, .inl b, .inl c, h1, h2 => by
    have h1 := of_decide_eq_false h1
    have h2 := of_decide_eq_false h2
    exact decide_eq_false (by omega)
  | .inr x, .inr y, .inr z, h1, h2 => by
    have h1 := of_decide_eq_false h1
    have h2 := of_decide_eq_false h2
    refine decide_eq_false ?_
    rw [List.not_lt] at *
    exact List.le_trans h1 h2
  | .inl _, .inl _, .inr _, _, _ => rfl
  | .inl _, .inr _, .inr _, _, _ => rfl
  | .inl _, .inr _, .inl _, _, h2 => by cases h2
  | .inr _, .inl _, _, h1, _ => by cases h1
  | .inr _, .inr _, .inl _, _, h2 => by cases h2
theorem lexK_asym : ∀ {x y : List Key}, lexK x y = true → lexK y x = false
  | [], [], h => by cases h
  | [], _ :: _, _ => rfl
  | _ :: _, [], h => by cases h
  | a :: r, b :: q, h => by
    unfold lexK at h ⊢
    by_cases e : a = b
    · rw [if_pos e] at h
      rw [if_pos e.symm]
      exact lexK_asym h
    · rw [if_neg e] at h
      rw [if_neg (fun z => e z.symm)]
      exact keyLt_asym h
theorem lexK_anti : ∀ {x y : List Key}, lexK x y = false → lexK y x = false → x = y
  | [], [], _, _ => rfl
  | [], _ :: _, h, _ => by cases h
  | _ :: _, [], _, h => by cases h
  | a :: r, b :: q, h1, h2 => by
    unfold lexK at h1 h2
    by_cases e : a = b
    · rw [if_pos e] at h1
      rw [if_pos e.symm] at h2
      rw [e, lexK_anti h1 h2]
    · rw [if_neg e] at h1
      rw [if_neg (fun z => e z.symm)] at h2
      exact absurd (keyLt_anti h1 h2) e
theorem lexK_tr : ∀ {x y z : List Key}, lexK y x = false → lexK z y = false → lexK z x = false
  | [], _, [], _, _ => rfl
  | [], _, _ :: _, _, _ => rfl
  | _ :: _, [], _, h, _ => by cases h
  | _ :: _, _ :: _, [], _, h => by cases h
  | a :: r, b :: q, c :: p, h1, h2 => by
    unfold lexK at h1 h2 ⊢
    by_cases e1 : b = a
    · subst e1
      rw [if_pos rfl] at h1
      by_cases e2 : c = b
      · rw [if_pos e2] at h2 ⊢
        exact lexK_tr h1 h2
      · rw [if_neg e2] at h2 ⊢
        exact h2
    · rw [if_neg e1] at h1
      by_cases e2 : c = b
      · subst e2
        rw [if_neg e1]
        exact h1
      · rw [if_neg e2] at h2
        by_cases e3 : c = a
        · subst e3
          exact absurd (keyLt_anti h1 h2) e1
        · rw [if_neg e3]
          exact keyLt_tr h1 h2
theorem swo_lexK {α : Type} (k : α → List Key) : SrtO.Swo fun v u => lexK (k v) (k u) := ⟨fun _ _ h => lexK_asym h, fun _ _ _ h1 h2 => lexK_tr h1 h2⟩
/-- two sorted lists of the same keys are one -/
theorem sorted_one : ∀ {l m : List (List Key)}, l.Pairwise (fun x y => lexK y x = false) → m.Pairwise (fun x y => lexK y x = false) → l.Perm m → l = m
  | [], m, _, _, h => (List.Perm.eq_nil h.symm).symm
  | x :: l, [], _, _, h => absurd h.length_eq (by simp)
  | x :: l, y :: m, hl, hm, h => by
    have h1 : lexK x y = false := by
      rcases List.mem_cons.mp (h.mem_iff.mp (List.mem_cons_self (a := x) (l := l))) with e | hx
      · rw [e]; exact (swo_lexK (fun z => z)).refl y
      · exact (List.pairwise_cons.mp hm).1 x hx
    have h2 : lexK y x = false := by
      rcases List.mem_cons.mp (h.mem_iff.mpr (List.mem_cons_self (a := y) (l := m))) with e | hy
      · rw [e]; exact (swo_lexK (fun z => z)).refl x
      · exact (List.pairwise_cons.mp hl).1 y hy
    have e := lexK_anti h1 h2
    subst e
    rw [sorted_one (List.pairwise_cons.mp hl).2 (List.pairwise_cons.mp hm).2 h.cons_inv]
section
variable {prog : Program} {w : World} {A : Around} {E : Value → Shared → Prop} {s : Shared}
theorem lex_cmp : ∀ {ks qs : List Key} {its jts : List Value} (i : Nat), SameK ks qs → Vals (ks.map kV) its → Vals (qs.map kV) jts → 0 < i → PySem.W.KatLex prog w A true false (fun r s' => s' = s ∧ r = lexK ks qs) (its.zip jts) i s
  | _, _, _, _, i, .nil, .nil, .nil, _ => PySem.W.kat_nil ⟨rfl, rfl⟩
  | _, _, _, _, i, .int (i := x) (j := y) (r := r) (q := q) sk, .cons r1 t1, .cons r2 t2, hi => by
    obtain ⟨t, rfl⟩ := r1
    obtain ⟨u, rfl⟩ := r2
    have ih := lex_cmp (i + 1) sk t1 t2 (Nat.succ_pos _)
    by_cases e : x = y
    · have el : lexK (Sum.inl x :: r) (Sum.inl y :: q) = lexK r q := lexK_eq (by rw [e])
      rw [el]
      refine PySem.W.kat_cons (SeqAt.EqAt.int_int x t y u prog w _ _ ?_)
      exact PySem.W.kat_go (fun _ => PySem.W.kat_yes ih) (fun e1 => absurd e (by simpa using e1))
    · have el : lexK (Sum.inl x :: r) (Sum.inl y :: q) = decide (x < y) := lexK_ne (fun z => e (Sum.inl.inj z))
      rw [el]
      refine PySem.W.kat_cons (SeqAt.EqAt.int_int x t y u prog w _ _ ?_)
      exact PySem.W.kat_go (fun e1 => absurd (by simpa using e1) e) (fun _ => PySem.W.kat_no (TS.oneLt_ints _ ⟨rfl, rfl⟩))
  | _, _, _, _, i, .str (x := x) (y := y) (r := r) (q := q) sk, .cons r1 t1, .cons r2 t2, hi => by
    obtain ⟨t, rfl⟩ := r1
    obtain ⟨u, rfl⟩ := r2
    have ih := lex_cmp (i + 1) sk t1 t2 (Nat.succ_pos _)
    by_cases e : x = y
    · have el : lexK (Sum.inr x :: r) (Sum.inr y :: q) = lexK r q := lexK_eq (by rw [e])
      rw [el]
      refine PySem.W.kat_cons (SeqAt.EqAt.str_str x t y u prog w _ _ ?_)
      exact PySem.W.kat_go (fun _ => PySem.W.kat_yes ih) (fun e1 => absurd e (by simpa using e1))
    · have el : lexK (Sum.inr x :: r) (Sum.inr y :: q) = decide (x.cps.toList < y.cps.toList) := lexK_ne (fun z => e (Sum.inr.inj z))
      rw [el]
      refine PySem.W.kat_cons (SeqAt.EqAt.str_str x t y u prog w _ _ ?_)
      refine PySem.W.kat_go (fun e1 => absurd (by simpa using e1) e) (fun _ => PySem.W.kat_no ?_)
      have hi0 : (true && i == 0) = false := by simp; omega
      rw [hi0]
      exact PySem.W.kat_one _ _ (PyProof.Rows.lt_str (Q := PySem.W.BoolBack (fun r s' => s' = s ∧ r = decide (x.cps.toList < y.cps.toList))) (show s = s ∧ decide (x.cps.toList < y.cps.toList) = decide (x.cps.toList < y.cps.toList) from ⟨rfl, rfl⟩))
theorem same_len : ∀ {ks qs : List Key}, SameK ks qs → ks.length = qs.length
  | _, _, .nil => rfl
  | _, _, .int h => by simp [same_len h]
  | _, _, .str h => by simp [same_len h]
/-- the whole row -/
def rowK (k : Int × List Key) : List Key := Sum.inl k.1 :: k.2
theorem row_cmp {vs : List Value} {k : Value → Int × List Key} (hp : ∀ v ∈ vs, IsRow s.heap v (rowK (k v))) (hs : ∀ v ∈ vs, ∀ u ∈ vs, SameK (k v).2 (k u).2) : SrtO.Cmp prog w A s (tuples' true) (fun p => p.1 ∈ vs) (SrtO.lt2 fun v u => lexK (rowK (k v)) (rowK (k u))) := by
  intro p q hm hm'
  obtain ⟨a, o, its, n, e, ho, hc, hd, hv⟩ := hp _ hm
  obtain ⟨a', o', jts, n', e', ho', hc', hd', hv'⟩ := hp _ hm'
  have sk := hs _ hm _ hm'
  show wpAny (model prog w) A (keyLt' (tuples' true) p.1 q.1) (fun r s' => s' = s ∧ r = lexK (rowK (k p.1)) (rowK (k q.1))) (fun _ _ => False) s
  generalize hkp : k p.1 = kp at *
  generalize hkq : k q.1 = kq at *
  rw [e, e']
  obtain ⟨x, ks⟩ := kp
  obtain ⟨y, qs⟩ := kq
  have hlen : its.length = jts.length := by
    rw [← hv.length, ← hv'.length]
    have := same_len sk
    simp [rowK, this]
  refine PySem.W.kat_lt ho hd ho' hd' ?_
  have hf : decide ((List.toArray its).size < (List.toArray jts).size) = false := by simp [hlen]
  rw [hf]
  cases hv with
  | cons r1 t1 =>
    cases hv' with
    | cons r2 t2 =>
      obtain ⟨t, rfl⟩ := r1
      obtain ⟨u, rfl⟩ := r2
      have ih := lex_cmp (prog := prog) (w := w) (A := A) (s := s) 1 sk t1 t2 (by decide)
      by_cases e : x = y
      · have el : lexK (rowK (x, ks)) (rowK (y, qs)) = lexK ks qs := lexK_eq (by rw [e])
        rw [el]
        refine PySem.W.kat_cons (SeqAt.EqAt.int_int x t y u prog w _ _ ?_)
        exact PySem.W.kat_go (fun _ => PySem.W.kat_yes ih) (fun e1 => absurd e (by simpa using e1))
      · have el : lexK (rowK (x, ks)) (rowK (y, qs)) = decide (x < y) := lexK_ne (fun z => e (Sum.inl.inj z))
        rw [el]
        refine PySem.W.kat_cons (SeqAt.EqAt.int_int x t y u prog w _ _ ?_)
        exact PySem.W.kat_go (fun e1 => absurd (by simpa using e1) e) (fun _ => PySem.W.kat_no (TS.oneLt_ints _ ⟨rfl, rfl⟩))
theorem rows_sortableO {a : Addr} {vs : List Value} {k : Value → Int × List Key} (h0 : 0 < vs.length) (hp : ∀ v ∈ vs, IsRow s.heap v (rowK (k v))) (hs : ∀ v ∈ vs, ∀ u ∈ vs, SameK (k v).2 (k u).2) (ha : ∀ o, s.heap.get? a = some o → o.cls ≠ .type "tuple") : SrtO.SortableO prog w A s a vs fun v u => lexK (rowK (k v)) (rowK (k u)) := by
  intro h' keep
  have hp' : ∀ v ∈ vs, IsRow h' v (rowK (k v)) := fun v hm => (hp v hm).keeps fun b o e c => keep b o (fun z => by subst z; exact ha o e c) e
  obtain ⟨fs, h1, h2, h3⟩ := firsts_row hp'
  refine ⟨tuples' true, fun Q E hq => ?_, row_cmp (s := { s with heap := h' }) hp' hs⟩
  refine PySem.W.kat_kind (T := .type "int") h1 (by omega) (fun f hm => ?_) (by rfl) ?_
  · obtain ⟨x, t, rfl⟩ := h3 f hm
    exact PySem.W.Looks.now
  · have e : (Value.type "int" != Value.type "tuple") = true := by decide +kernel
    rw [e]
    exact hq
theorem sorted_rowsO {l : Addr} {vs : List Value} {k : Value → Int × List Key} {Q : Value → Shared → Prop} (hl : s.heap.IsList l vs.toArray) (hz : vs.length ≤ sizeLine) (hp : ∀ v ∈ vs, IsRow s.heap v (rowK (k v))) (hs : ∀ v ∈ vs, ∀ u ∈ vs, SameK (k v).2 (k u).2)
    (h : ∀ (h' : Heap) (d : Addr) (out : List Value), SrtO.Srtd (fun v u => lexK (rowK (k v)) (rowK (k u))) out → out.Perm vs → (∀ b o, s.heap.get? b = some o → h'.get? b = some o) → s.heap.objs.size ≤ d → (∃ n, h'.get? d = some (seqObj "list" out.toArray n)) → Q (.ref d) { s with heap := h' }) :
    wpAny (model prog w) A (call (.builtin "sorted") [.ref l]) Q E s := by
  refine SrtO.sorted_ord (swo_lexK fun v => rowK (k v)) hl hz (fun h2 h₁ a ha kk => ?_) fun out hs' hb => ?_
  · refine rows_sortableO (s := { s with heap := h₁ }) (by omega) (fun v hm => (hp v hm).keeps fun b o e _ => (kk b o e).2) hs fun o e => ?_
    have e' : some o = some (seqObj "list" vs.toArray 0) := e.symm.trans ha
    cases e'
    intro c
    exact absurd (Value.type.inj c) (by decide)
  · exact h _ _ out hs' hb.perm (fun b o e => sortedAll_old e) (Nat.le_succ _) (sortedAll_at s.heap vs out.toArray)
end
/-- sorted(xs): a new list of the same tuples, in order -/
def rSortedO (K : PySem.W.Frag) : List V → Hp → VK → Prop := fun vs H Q => ∃ a xs, ∃ k : V → Int × List Key, vs = [V.ref a] ∧ SqL K H a xs ∧ (∀ x ∈ xs, ∃ t, x = V.ref t ∧ H t = some (.tup ((rowK (k x)).map kV))) ∧ (∀ x ∈ xs, ∀ y ∈ xs, SameK (k x).2 (k y).2) ∧
  ∀ ys p, ys.Pairwise (fun x y => lexK (rowK (k y)) (rowK (k x)) = false) → ys.Perm xs → H p = none → Q (.ref p) (upd H p (.lst ys))
section
variable {X : Cx}
theorem cr_sortedO : CallR X (.builtin "sorted") (rSortedO X.K) := by
  intro pins s σ H vs us Q I r h
  obtain ⟨a, xs, k, rfl, hs, hx, hk, q⟩ := h
  obtain ⟨its, rv, hl, hz⟩ := I.list hs
  obtain ⟨u, rfl, ru⟩ := vals1 r
  obtain rfl : u = Value.ref a := ru
  obtain ⟨e1, e2⟩ := refs_back rv fun x m => by
    obtain ⟨t, e, _⟩ := hx x m
    exact ⟨t, e⟩
  have inx : ∀ v ∈ its, backV v ∈ xs := fun v hv => by rw [e1]; exact List.mem_map.mpr ⟨_, hv, rfl⟩
  refine sorted_rowsO (k := fun u => k (backV u)) hl.isList (by rw [← rv.length]; exact hz) (fun v hv => ?_) (fun v hv u hu => hk _ (inx v hv) _ (inx u hu)) fun h' d out hsr hp k' hd hn => ?_
  · obtain ⟨t, rfl⟩ := e2 v hv
    obtain ⟨t', e, ht⟩ := hx _ (inx _ hv)
    cases e
    obtain ⟨_, its2, r2, o, ho, hc, n, hd⟩ := I.hok _ _ ht
    exact ⟨t, o, its2, n, rfl, ho, hc, hd, r2⟩
  · have h3 : ∀ u ∈ out, ∃ a, u = Value.ref a := fun u hu => e2 u (hp.mem_iff.mp hu)
    obtain ⟨n, hn⟩ := hn
    refine ⟨.ref d, upd H d (.lst (out.map backV)), I.laid (t' := s.toks) k' hd ⟨?_, out, n, vals_back h3, hn⟩, rfl, q _ d ?_ ?_ (I.hok.fresh hd)⟩
    · rw [List.length_map, hp.length_eq, ← rv.length]; exact hz
    · exact List.pairwise_map.mpr hsr
    · rw [e1]; exact hp.map backV
end
end Nm
set_option maxRecDepth 100000
set_option maxHeartbeats 4000000
namespace Nm
open PySem L2
/-- ints that are places -/
abbrev natV (l : List Nat) : List V := l.map fun (i : Nat) => V.int (i : Int)
/-- the keys of a dict of ties, each by its own tuple -/
def KeyL (H : Hp) (kvs : List (List Key × V)) (ys : List V) : Prop := ∀ y ∈ ys, ∃ b k v, y = V.ref b ∧ H b = some (.tup (List.map kV k)) ∧ (k, v) ∈ kvs
theorem KeyL.same {H H' : Hp} {kvs : List (List Key × V)} {ys : List V} (h : KeyL H kvs ys) (e : Same H H') : KeyL H' kvs ys := fun y hy => by
  obtain ⟨b, k, v, a1, a2, a3⟩ := h y hy
  exact ⟨b, k, v, a1, e _ _ a2, a3⟩
theorem KeyL.kp {H H' : Hp} {kvs : List (List Key × V)} {ys : List V} {s c : Addr} (h : KeyL H kvs ys) (S : Src H s c) (e : Kp s c H H') : KeyL H' kvs ys := fun y hy => by
  obtain ⟨b, k, v, a1, a2, a3⟩ := h y hy
  obtain ⟨cs, l, m, tt, S⟩ := S
  exact ⟨b, k, v, a1, e _ _ a2 (ne_of a2 S.ds (by intro z; cases z)) (ne_of a2 S.dc (by intro z; cases z)), a3⟩
theorem KeyL.put {H : Hp} {kvs : List (List Key × V)} {ys : List V} {t : Addr} {o u : HO} (h : KeyL H kvs ys) (e : H t = some u) (hu : ∀ zs, u ≠ .tup zs) : KeyL (upd H t o) kvs ys := fun y hy => by
  obtain ⟨b, k, v, a1, a2, a3⟩ := h y hy
  refine ⟨b, k, v, a1, ?_, a3⟩
  rw [upd_ne (ne_of a2 e (fun z => hu _ z.symm))]
  exact a2
theorem keyL_of {H : Hp} : ∀ {kvs : List (List Key × V)} {bs : List Addr}, IsKeys H kvs bs → KeyL H kvs (bs.map V.ref) ∧ bs.length = kvs.length
  | _, _, .nil => ⟨fun y hy => (List.not_mem_nil hy).elim, rfl⟩
  | _, _, .cons (a := kv) (b := b) h t => by
    obtain ⟨i1, i2⟩ := keyL_of t
    refine ⟨fun y hy => ?_, by simp [i2]⟩
    rcases List.mem_cons.mp hy with e | e
    · exact ⟨b, kv.1, kv.2, e, h, List.mem_cons_self⟩
    · obtain ⟨b', k, v, a1, a2, a3⟩ := i1 y e
      exact ⟨b', k, v, a1, a2, List.mem_cons_of_mem _ a3⟩
theorem keyL_all {H : Hp} : ∀ {kvs : List (List Key × V)} {bs : List Addr}, IsKeys H kvs bs → ∀ kv ∈ kvs, ∃ b ∈ bs, H b = some (.tup (List.map kV kv.1))
  | _, _, .nil => fun kv h => (List.not_mem_nil h).elim
  | _, _, .cons (b := b) h t => fun kv hm => by
    rcases List.mem_cons.mp hm with e | e
    · subst e
      exact ⟨b, List.mem_cons_self, h⟩
    · obtain ⟨b', h1, h2⟩ := keyL_all t kv e
      exact ⟨b', List.mem_cons_of_mem _ h1, h2⟩
/-- what the tuple at a reference holds, as a row -/
def rowAt (H : Hp) : V → Int × List Key
  | .ref b => (match H b with
    | some (.tup [.int i, .int j, .str kd]) => (i, [Sum.inl j, Sum.inr kd])
    | _ => (0, []))
  | _ => (0, [])
theorem rowAt_of {H : Hp} {b : Addr} {i j : Int} {kd : Str} (h : H b = some (.tup [.int i, .int j, .str kd])) : rowAt H (.ref b) = (i, [Sum.inl j, Sum.inr kd]) := by
  show (match H b with
    | some (.tup [.int i, .int j, .str kd]) => (i, [Sum.inl j, Sum.inr kd])
    | _ => (0, [])) = _
  rw [h]
theorem KeyL.tie {H : Hp} {n m : Nat} {kvs : List (List Key × V)} {ys : List V} (h : KeyL H kvs ys) (T : Ties n m kvs) {y : V} (hy : y ∈ ys) : ∃ (b : Addr) (i j x : Nat) (kd : Str), y = V.ref b ∧ H b = some (.tup [.int (i : Int), .int (j : Int), .str kd]) ∧ ([Sum.inl (i : Int), Sum.inl (j : Int), Sum.inr kd], V.int (x : Int)) ∈ kvs ∧ i < j ∧ j < n ∧ isWordB kd = true ∧ 1 ≤ x ∧ x ≤ m := by
  obtain ⟨b, k, v, a1, a2, a3⟩ := h y hy
  obtain ⟨i, j, kd, e, h1, h2, h3⟩ := T.key _ a3
  obtain ⟨x, e2, h4, h5⟩ := T.val _ a3
  have e' : k = [Sum.inl (i : Int), Sum.inl (j : Int), Sum.inr kd] := e
  have e2' : v = V.int (x : Int) := e2
  subst e' e2'
  exact ⟨b, i, j, x, kd, a1, a2, a3, h1, h2, h3, h4, h5⟩
theorem sort_ties {H : Hp} {n m : Nat} {kvs : List (List Key × V)} {ys : List V} (h : KeyL H kvs ys) (T : Ties n m kvs) : (∀ x ∈ ys, ∃ t, x = V.ref t ∧ H t = some (.tup (V.int (rowAt H x).1 :: (rowAt H x).2.map kV))) ∧ (∀ x ∈ ys, ∀ y ∈ ys, SameK (rowAt H x).2 (rowAt H y).2) := by
  constructor
  · intro y hy
    obtain ⟨b, i, j, x, kd, e, hb, _⟩ := h.tie T hy
    subst e
    refine ⟨b, rfl, ?_⟩
    rw [rowAt_of hb]
    exact hb
  · intro y hy z hz
    obtain ⟨b, i, j, x, kd, e, hb, _⟩ := h.tie T hy
    obtain ⟨b', i', j', x', kd', e', hb', _⟩ := h.tie T hz
    subst e e'
    rw [rowAt_of hb, rowAt_of hb']
    exact .int (.str .nil)
theorem row_key {H : Hp} {n m : Nat} : ∀ {kvs : List (List Key × V)} {bs : List Addr}, IsKeys H kvs bs → (∀ kv ∈ kvs, TieK n kv.1) → (bs.map V.ref).map (fun y => rowK (rowAt H y)) = kvs.map (·.1)
  | _, _, .nil, _ => rfl
  | _, _, .cons (a := kv) (b := b) h t, hk => by
    rw [List.map_cons, List.map_cons, List.map_cons, row_key (n := n) (m := m) t fun kv hm => hk kv (List.mem_cons_of_mem _ hm)]
    obtain ⟨i, j, kd, e, _⟩ := hk kv List.mem_cons_self
    rw [e] at h
    congr 1
    rw [rowAt_of h, e]
    rfl
theorem isKeys_same {H H' : Hp} {kvs : List (List Key × V)} {bs : List Addr} (h : IsKeys H kvs bs) (e : Same H H') : IsKeys H' kvs bs := Paired.mapP h fun _ _ z => e _ _ z
/-- one tie of the parts: what has the number of its far end gets that of its near end -/
def stepP (ps : List Nat) (k : List Key) : List Nat := match k with
  | [Sum.inl i, Sum.inl j, Sum.inr _] => ps.map fun z => if z = (ps[j.toNat]?).getD 0 then (ps[i.toNat]?).getD 0 else z
  | _ => ps
def PartsRel (n : Nat) (kvs : List (List Key × V)) (ps : List Nat) : Prop := ∃ ks : List (List Key), ks.Pairwise (fun x y => lexK y x = false) ∧ ks.Perm (kvs.map (·.1)) ∧ ps = ks.foldl stepP (List.range n)
theorem PartsRel.one {n : Nat} {kvs : List (List Key × V)} {ps qs : List Nat} (h1 : PartsRel n kvs ps) (h2 : PartsRel n kvs qs) : ps = qs := by
  obtain ⟨ks, a1, a2, a3⟩ := h1
  obtain ⟨ks', b1, b2, b3⟩ := h2
  rw [a3, b3, sorted_one a1 b1 (a2.trans b2.symm)]
theorem rgV_nat (n : Nat) : rgV 0 (n : Int) = natV (List.range n) := by
  unfold rgV natV
  have e : ((n : Int) - 0).toNat = n := by omega
  rw [e]
  refine List.map_congr_left fun i _ => ?_
  rw [Int.zero_add]
structure TxtC (mg : Str → Option Value) : Prop extends TxtB mg where
  sorted : mg "sorted" = none
section
variable {P : Program} {w : World} {K : PySem.W.Frag} {mg : Str → Option Value} {base : Heap}
/-! ### _law_parts -/
def spParts : Sp := fun vs H Q _ => ∃ (wd a b t : Addr) (xs : List V) (m : Nat) (kvs : List (List Key × V)), vs = [.ref wd] ∧ H wd = some (.dK (worldD a b t)) ∧ H a = some (.lst xs) ∧ H t = some (.dT kvs) ∧ xs.length ≤ 1000 ∧ kvs.length ≤ 10000 ∧ Ties xs.length m kvs ∧
  ∀ (p : Addr) (ps : List Nat) (H' : Hp), H p = none → H' p = some (.lst (natV ps)) → ps.length = xs.length → (∀ x ∈ ps, x < xs.length) → (∀ (i j : Nat) (kd : Str) (v : V), ([Sum.inl (i : Int), Sum.inl (j : Int), Sum.inr kd], v) ∈ kvs → ps[i]? = ps[j]?) → PartsRel xs.length kvs ps → Same H H' → Q (.ref p) H'
abbrev nParts : List Str := ["_law_world", "_law_found", "_law_one", "_law_other", "_law_kind", "_law_kept", "_law_gone", "_law_number"]
theorem scParts : FnScope nParts ["_law_world"] (defScope sParts) := ⟨rfl, rfl, rfl, by decide +kernel, rfl, by decide +kernel, by decide +kernel⟩
theorem ok_parts {f : Addr} {fd : FuncData} (F : Fun K "_law_parts" "_law_parts" sParts f fd) (T : TxtC mg) : FnOk P w K mg base CX0 1 f fd ["_law_world"] spParts := by
  refine F.ok scParts (fun vs H Q E h => ?_) (fun cdv A outer s H vs Q E hr h => ?_)
  · obtain ⟨wd, a, b, t, xs, m, kvs, rfl, _⟩ := h
    rfl
  · obtain ⟨wd, a, b, t, xs, m, kvs, rfl, hwd, ha, ht, hxl, hkl, ti, k⟩ := h
    have hu := hu_of hr
    refine ⟨_, Evl.pss_cut (ps_set (i := 1) scParts.nd rfl (Or.inl rfl) (pe_listRg rfl (by rfl) T.list (prg_1 (by rfl) T.range (pe_callB call_len_seq (by rfl) T.len PySem.boot_len (pa_cons (pe_dget hu (pv 0) pe_str (fun _ _ => rfl)) pa_nil)))))
      (pss_cons (ps_for PassesOwn.never rfl (pi_list (pe_callB cr_sortedO (by rfl) T.sorted (by decide +kernel) (pa_cons (pe_callTy (call_list_dT rfl) (by rfl) T.list (by decide +kernel) (pa_cons (pe_dget hu (pv 0) pe_str (fun _ _ => rfl)) pa_nil)) pa_nil)))
          (pg_tup rfl (pgs_cons (pg_name (i := 2) scParts.nd rfl (.inl rfl)) (pgs_cons (pg_name (i := 3) scParts.nd rfl (.inl rfl)) (pgs_cons (pg_name (i := 4) scParts.nd rfl (.inl rfl)) pgs_nil))))
        (pss_cons (ps_asg (pe_tup (pa_cons (pe_ix ix_list (pv 1) (pv 2) (fun _ _ => rfl)) (pa_cons (pe_ix ix_list (pv 1) (pv 3) (fun _ _ => rfl)) pa_nil))) (pg_tup rfl (pgs_cons (pg_name (i := 5) scParts.nd rfl (.inr rfl)) (pgs_cons (pg_name (i := 6) scParts.nd rfl (.inr rfl)) pgs_nil))))
        (pss_one (ps_setLc (i := 1) (own := [("_law_number", 7)]) (g := gName 7) (tt := tYes) rfl scParts.nd rfl rfl (sw_true rfl rfl rfl (by decide +kernel)) (pi_list (pv 1))
          (blkOk_by (N := nParts) (sc := defScope sParts) (by decide +kernel)) (fun _ _ _ _ _ => pg_name (i := 7) scParts.nd rfl (Or.inl rfl)) (fun _ _ _ _ _ => pts_nil)
          (fun _ _ _ _ _ => pe_ifExp (pt_cmpR op_eq (pv 7) (pv 6) (nomark _)) (pv 5) (pv 7))))))
      (pss_one (ps_ret (pv 1)))), ?_⟩
    refine ⟨fun σ H1 => ∃ q, σ = [some (.ref wd), some (.ref q), none, none, none, none, none, none] ∧ H q = none ∧ H1 q = some (.lst (natV (List.range xs.length))) ∧ Same H H1, ?_, ?_⟩
    · refine ⟨_, rfl, wd, _, rfl, dg_names hwd, a, _, rfl, .inl (SqL.of ha), _, rfl, ?_⟩
      refine ⟨RgOk.of_le (by omega) (by omega) (by omega) (by omega), fun q hq => ⟨q, rfl, hq, by rw [upd_same, rgV_nat], same_new hq⟩⟩
    rintro σ H1 ⟨q, rfl, hq0, hq, s1⟩
    refine ⟨_, rfl, wd, _, rfl, dg_ties (s1 _ _ hwd), t, kvs, rfl, .inl (s1 _ _ ht), fun l bs hl hk => ?_⟩
    obtain ⟨kl, hbl⟩ := keyL_of hk
    have kl2 := kl.same (same_new (o := .lst (bs.map V.ref)) hl)
    obtain ⟨so1, so2⟩ := sort_ties kl2 ti
    refine ⟨l, _, _, rfl, SqL.of upd_same, so1, so2, fun ys p srt pm hp => ?_⟩
    have pk : (ys.map fun y => rowK (rowAt (upd H1 l (.lst (bs.map V.ref))) y)).Perm (kvs.map (·.1)) := by
      rw [← row_key (m := m) (isKeys_same hk (same_new (o := .lst (bs.map V.ref)) hl)) ti.key]
      exact pm.map _
    have sk : (ys.map fun y => rowK (rowAt (upd H1 l (.lst (bs.map V.ref))) y)).Pairwise (fun x y => lexK y x = false) := List.pairwise_map.mpr srt
    have rows : ∀ (b : Addr) (i j : Nat) (kd : Str), (upd H1 l (.lst (bs.map V.ref))) b = some (.tup [.int (i : Int), .int (j : Int), .str kd]) → rowK (rowAt (upd H1 l (.lst (bs.map V.ref))) (.ref b)) = [Sum.inl (i : Int), Sum.inl (j : Int), Sum.inr kd] := fun b i j kd h => by
      rw [rowAt_of h]
      rfl
    have rows2 : ∀ y ∈ ys, ∃ (b : Addr) (i j x : Nat) (kd : Str), y = V.ref b ∧ (upd H1 l (.lst (bs.map V.ref))) b = some (.tup [.int (i : Int), .int (j : Int), .str kd]) ∧ ([Sum.inl (i : Int), Sum.inl (j : Int), Sum.inr kd], V.int (x : Int)) ∈ kvs ∧ i < j ∧ j < xs.length := fun y hy => by
      obtain ⟨b, i, j, x, kd, e, hb, hm, h1, h2, _⟩ := kl2.tie ti (pm.subset hy)
      exact ⟨b, i, j, x, kd, e, hb, hm, h1, h2⟩
    generalize hks : (ys.map fun y => rowK (rowAt (upd H1 l (.lst (bs.map V.ref))) y)) = ks at *
    have hkat : ∀ (i : Nat) (b : Addr) (i1 j1 : Nat) (kd : Str), ys[i]? = some (.ref b) → (upd H1 l (.lst (bs.map V.ref))) b = some (.tup [.int (i1 : Int), .int (j1 : Int), .str kd]) → ks[i]? = some [Sum.inl (i1 : Int), Sum.inl (j1 : Int), Sum.inr kd] := fun i b i1 j1 kd h1 h2 => by
      rw [← hks, List.getElem?_map, h1]
      exact congrArg some (rows b i1 j1 kd h2)
    have hkl2 : ks.length = ys.length := by rw [← hks, List.length_map]
    have sHs := same_new (o := .lst ys) hp
    have s2 := (same_new (o := .lst (bs.map V.ref)) hl).trans (same_new (o := .lst ys) hp)
    have kly : KeyL (upd (upd H1 l (.lst (bs.map V.ref))) p (.lst ys)) kvs ys := fun y hy => (kl.same s2) y (pm.subset hy)
    have hpp : (upd (upd H1 l (.lst (bs.map V.ref))) p (.lst ys)) p = some (.lst ys) := upd_same
    have hq2 := s2 _ _ hq
    have s02 := s1.trans s2
    have hyl : ys.length ≤ 10000 := by rw [pm.length_eq, List.length_map]; omega
    have hks2 := hkat
    refine ⟨p, rfl, ⟨_, SqL.of hpp⟩, ?_⟩
    generalize hH2 : upd (upd H1 l (.lst (bs.map V.ref))) p (.lst ys) = H2 at *
    refine for_list (xs := ys) (fun i σ H3 => ∃ q ps v2 v3 v4 v5 v6, σ = [some (.ref wd), some (.ref q), v2, v3, v4, v5, v6, none] ∧ H q = none ∧ H3 q = some (.lst (natV ps)) ∧ ps.length = xs.length ∧ (∀ x ∈ ps, x < xs.length) ∧ ps = (ks.take i).foldl stepP (List.range xs.length) ∧ Same H2 H3 ∧
        (∀ y ∈ ys.take i, ∀ (b : Addr) (i1 j1 : Nat) (kd : Str), y = .ref b → H2 b = some (.tup [.int (i1 : Int), .int (j1 : Int), .str kd]) → ps[i1]? = ps[j1]?))
      ⟨q, List.range xs.length, none, none, none, none, none, rfl, hq0, hq2, by simp, fun x hx => List.mem_range.mp hx, rfl, Same.refl _, fun y hy => by simp at hy⟩ (fun i σ H3 _ ⟨_, _, _, _, _, _, _, _, _, _, _, _, _, sm, _⟩ => SqL.of (sm _ _ hpp)) ?_ ?_
    · rintro i y σ H3 hi ⟨q, ps, v2, v3, v4, v5, v6, rfl, hq0, hq3, hpl, hpn, hpf, s3, hdone⟩
      obtain ⟨b1, i1, j1, x1, kd1, rfl, hb1, hmem, hij, hjn, _, _, _⟩ := kly.tie ti (List.mem_of_getElem? hi)
      have hb3 := s3 _ _ hb1
      have hbs1 : (upd H1 l (.lst (bs.map V.ref))) b1 = some (.tup [.int (i1 : Int), .int (j1 : Int), .str kd1]) := by
        obtain ⟨b', i', j', x', kd', e', hb', _⟩ := rows2 _ (List.mem_of_getElem? hi)
        cases e'
        have := sHs _ _ hb'
        rw [hb1] at this
        rw [hb', ← Option.some.inj this]
      obtain ⟨u, hu1⟩ : ∃ u, ps[i1]? = some u := ⟨_, List.getElem?_eq_getElem (by omega)⟩
      obtain ⟨v, hv1⟩ : ∃ v, ps[j1]? = some v := ⟨_, List.getElem?_eq_getElem (by omega)⟩
      refine ⟨b1, _, rfl, SqT.of hb3, rfl, _, _, rfl, _, _, rfl, _, _, rfl, rfl, ?_⟩
      refine ⟨_, rfl, _, rfl, q, _, _, V.int (u : Int), rfl, rfl, SqL.of hq3, atI_nat (by rw [List.getElem?_map, hu1]; rfl), _, rfl, _, rfl, q, _, _, V.int (v : Int), rfl, rfl, SqL.of hq3, atI_nat (by rw [List.getElem?_map, hv1]; rfl), (by show 2 ≤ sizeLine; decide), fun tt htt => ?_⟩
      refine ⟨tt, _, rfl, SqT.of upd_same, rfl, _, _, rfl, _, _, rfl, rfl, ?_⟩
      have s4 := same_new (o := .tup [V.int (u : Int), V.int (v : Int)]) htt
      refine ⟨_, rfl, q, rfl, ⟨_, SqL.of (s4 _ _ hq3)⟩, fun D hD => ?_⟩
      have hD3 : H3 D = none := s4.free hD
      have hD0 : H D = none := (s02.trans s3).free hD3
      refine lc_list (xs := natV ps) (fun j H4 => H4 D = some (.lst (natV ((ps.map fun z => if z = v then u else z).take j))) ∧ Same H3 H4) ⟨upd_same, s4.trans (same_new hD)⟩ (fun j H4 _ h => SqL.of (h.2 _ _ hq3)) ?_ ?_
      · rintro j z H4 hj ⟨hD4, s5⟩
        have hjl := (List.getElem?_eq_some_iff.mp hj).1
        rw [List.length_map] at hjl
        rw [List.getElem?_map] at hj
        obtain ⟨z0, hz0, rfl⟩ := Option.map_eq_some_iff.mp hj
        refine ⟨rfl, tyes ?_⟩
        have tk : natV ((ps.map fun z => if z = v then u else z).take (j + 1)) = natV ((ps.map fun z => if z = v then u else z).take j) ++ [V.int ((if z0 = v then u else z0 : Nat) : Int)] := by
          have e : (ps.map fun z => if z = v then u else z)[j]? = some (if z0 = v then u else z0) := by rw [List.getElem?_map, hz0]; rfl
          rw [List.take_add_one, e]
          unfold natV
          rw [List.map_append]
          rfl
        have fin : ∀ y, y = V.int ((if z0 = v then u else z0 : Nat) : Int) → ∃ acc, H4 D = some (.lst acc) ∧ acc.length < sizeLine ∧ (upd H4 D (.lst (acc ++ [y]))) D = some (.lst (natV ((ps.map fun z => if z = v then u else z).take (j + 1)))) ∧ Same H3 (upd H4 D (.lst (acc ++ [y]))) := fun y hy => by
          refine ⟨_, hD4, Evl.sz_lt (by rw [List.length_map, List.length_take, List.length_map]; omega), by rw [upd_same, tk, hy], fun b o e => ?_⟩
          rw [upd_ne (ne_of_none e hD3)]
          exact s5 b o e
        refine ⟨_, rfl, _, rfl, rfl, _, rfl, ?_⟩
        refine ite2 (fun h => ?_) (fun h => ?_)
        · refine ⟨_, rfl, fin _ ?_⟩
          have : (V.int (z0 : Int)) = V.int (v : Int) := of_decide_eq_true h
          injection this with this
          rw [if_pos (by omega)]
        · refine ⟨_, rfl, fin _ ?_⟩
          have : ¬ (V.int (z0 : Int)) = V.int (v : Int) := of_decide_eq_false (Bool.eq_false_iff.mpr h)
          rw [if_neg (fun e => this (by rw [e]))]
      · rintro H4 ⟨hD4, s5⟩
        rw [List.length_map] at hD4
        rw [List.take_of_length_le (by simp)] at hD4
        refine ⟨D, ps.map fun z => if z = v then u else z, _, _, _, _, _, rfl, hD0, hD4, by simp [hpl], ?_, ?_, s3.trans s5, ?_⟩
        · intro x hx
          obtain ⟨z, hz, rfl⟩ := List.mem_map.mp hx
          split
          · exact hpn u (List.mem_of_getElem? hu1)
          · exact hpn z hz
        · rw [List.take_add_one, hkat i b1 i1 j1 kd1 hi hbs1, List.foldl_append, ← hpf]
          show _ = ps.map fun z => if z = (ps[(j1 : Int).toNat]?).getD 0 then (ps[(i1 : Int).toNat]?).getD 0 else z
          rw [Int.toNat_natCast, Int.toNat_natCast, hu1, hv1]
          rfl
        · intro y hy b i2 j2 kd2 e hb2
          rw [List.getElem?_map, List.getElem?_map]
          rw [List.take_add_one, hi] at hy
          rcases List.mem_append.mp hy with z | z
          · rw [hdone y z b i2 j2 kd2 e hb2]
          · have z' : y = V.ref b1 := by simpa using z
            rw [z'] at e
            cases e
            rw [hb1] at hb2
            injection hb2 with hb2
            injection hb2 with hb2
            simp at hb2
            obtain ⟨e1, e2, _⟩ := hb2
            have e1' : i1 = i2 := by omega
            have e2' : j1 = j2 := by omega
            subst e1' e2'
            rw [hu1, hv1]
            show some (if u = v then u else u) = some (if v = v then u else v)
            simp
    · rintro σ H3 ⟨q, ps, v2, v3, v4, v5, v6, rfl, hq0, hq3, hpl, hpn, hpf, s3, hdone⟩
      refine ⟨_, rfl, k q ps H3 hq0 hq3 hpl hpn ?_ ⟨ks, sk, pk, by rw [hpf, List.take_of_length_le (by omega)]⟩ (s02.trans s3)⟩
      intro i j kd v hm
      rw [List.take_of_length_le (Nat.le_refl _)] at hdone
      have hex : ∃ b, V.ref b ∈ ys ∧ H2 b = some (.tup [.int (i : Int), .int (j : Int), .str kd]) := by
        obtain ⟨b, hb, hb1⟩ := keyL_all hk _ hm
        exact ⟨b, pm.mem_iff.mpr (List.mem_map.mpr ⟨b, hb, rfl⟩), s2 _ _ hb1⟩
      obtain ⟨b, hb, hb2⟩ := hex
      exact hdone _ hb b i j kd rfl hb2
end
end Nm
set_option maxRecDepth 100000
set_option maxHeartbeats 4000000
/-! zip of many tuples: its making -/
namespace Nm
open PySem PySem.Spec PyProof.Rows L2
theorem zipN_type (as : List Value) : checkTypeCall "zip" ⟨as, []⟩ = pure () := by kernel_rfl
theorem zipN_new : ∀ (as : List Value), 1 ≤ as.length → as.length ≤ 8 → checkBuiltinCall "zip.__new__" ⟨.type "zip" :: as, []⟩ = pure ()
  | [_], _, _ => by kernel_rfl
  | [_, _], _, _ => by kernel_rfl
  | [_, _, _], _, _ => by kernel_rfl
  | [_, _, _, _], _, _ => by kernel_rfl
  | [_, _, _, _, _], _, _ => by kernel_rfl
  | [_, _, _, _, _, _], _, _ => by kernel_rfl
  | [_, _, _, _, _, _, _], _, _ => by kernel_rfl
  | [_, _, _, _, _, _, _, _], _, _ => by kernel_rfl
  | _ :: _ :: _ :: _ :: _ :: _ :: _ :: _ :: _ :: _, _, h => by simp only [List.length_cons] at h; omega
local macro_rules | `(tactic| trivial) => `(tactic| (unfold argsOk; rw [signature?_of (id := "object.__init__") (n := ['_', '_', 't', 'i', 'n', 'i', '_', '_']) (o := ['t', 'c', 'e', 'j', 'b', 'o']) (by kernel_rfl) F.owner_object]; kernel_rfl))
theorem zipN_init : ∀ (a : Value) (as : List Value), as.length ≤ 8 → argsOk "object.__init__" ⟨a :: as, []⟩
  | _, [], _ => by trivial
  | _, [_], _ => by trivial
  | _, [_, _], _ => by trivial
  | _, [_, _, _], _ => by trivial
  | _, [_, _, _, _], _ => by trivial
  | _, [_, _, _, _, _], _ => by trivial
  | _, [_, _, _, _, _, _], _ => by trivial
  | _, [_, _, _, _, _, _, _], _ => by trivial
  | _, [_, _, _, _, _, _, _, _], _ => by trivial
  | _, _ :: _ :: _ :: _ :: _ :: _ :: _ :: _ :: _ :: _, h => by simp only [List.length_cons] at h; omega
section
variable {prog : Program} {w : World} {A : Around} {E : Value → Shared → Prop} {s : Shared}
/-- the iterators' places -/
abbrev itsAt (z n : Nat) : List Addr := (List.range n).map (z + ·)
theorem its_get {z n k : Nat} (h : k < n) : (itsAt z n)[k]? = some (z + k) := by
  rw [List.getElem?_map, List.getElem?_range h]
  rfl
theorem wpAny_iterAllT {ls : List Addr} {Q : List Value → Shared → Prop} (hl : ∀ l ∈ ls, ∃ xs, s.heap.IsTuple l xs)
    (hQ : ∀ h', h'.objs.size = s.heap.objs.size + ls.length → (∀ c o, s.heap.get? c = some o → h'.get? c = some o) → (∀ k l, ls[k]? = some l → h'.IsTupleIter (s.heap.objs.size + k) l 0) → Q ((itsAt s.heap.objs.size ls.length).map Value.ref) { s with heap := h' }) :
    wpAny (model prog w) A (Builtin.SmallTypes.iterAll (ls.map Value.ref)) Q E s := by
  unfold Builtin.SmallTypes.iterAll
  refine wpAny_bind ?_
  refine wpAny_forIn_list _ (fun rest b s' => ∃ k h', k ≤ ls.length ∧ rest = (ls.drop k).map Value.ref ∧ b = ((itsAt s.heap.objs.size k).map Value.ref).toArray ∧ s' = { s with heap := h' } ∧ h'.objs.size = s.heap.objs.size + k ∧ (∀ c o, s.heap.get? c = some o → h'.get? c = some o) ∧ ∀ j l, j < k → ls[j]? = some l → h'.IsTupleIter (s.heap.objs.size + j) l 0) _ ?_ ?_ _ _ ⟨0, s.heap, Nat.zero_le _, by simp, by simp [itsAt], rfl, rfl, fun _ _ e => e, fun j l h => absurd h (Nat.not_lt_zero j)⟩
  · rintro x rest b s1 ⟨k, h1, kl, er, rfl, rfl, sz, kp, its⟩
    cases hd : ls.drop k with
    | nil => rw [hd] at er; cases er
    | cons l more =>
      rw [hd] at er
      cases er
      have lk : ls[k]? = some l := by
        have := congrArg (fun (z : List Addr) => z[0]?) hd
        rw [List.getElem?_drop] at this
        simpa using this
      have klt := (List.getElem?_eq_some_iff.mp lk).1
      have hd1 : ls.drop (k + 1) = more := by
        rw [← List.tail_drop, hd]
        rfl
      obtain ⟨xs, hxs⟩ := hl l (List.mem_of_getElem? lk)
      have hxs1 : (Shared.heap { s with heap := h1 }).IsTuple l xs := hxs.at fun o e => kp _ o e
      refine wpAny_bind (wpAny_holding (wpAny_pyIter_tuple hxs1 (wpAny_pure ?_)))
      refine ⟨k + 1, _, klt, by rw [hd1], ?_, rfl, by rw [Heap.size_push, sz]; rfl, fun c o e => Heap.get?_push_of_some _ (kp c o e), fun j l' hj hl' => ?_⟩
      · rw [sz]
        simp [itsAt, List.range_succ]
      · by_cases e : j = k
        · subst e
          rw [lk] at hl'
          cases hl'
          rw [← sz]
          exact ⟨_, Heap.get?_push_size _ rfl, rfl, rfl⟩
        · exact (its j l' (by omega) hl').at fun o e => Heap.get?_push_of_some _ e
  · rintro b s1 ⟨k, h1, kl, er, rfl, rfl, sz, kp, its⟩
    have ek : k = ls.length := by
      have := congrArg List.length er
      simp at this
      omega
    subst ek
    refine wpAny_pure ?_
    have := hQ h1 sz kp fun j l h => its j l (List.getElem?_eq_some_iff.mp h).1 h
    simpa using this
end
end Nm
set_option maxRecDepth 100000
set_option maxHeartbeats 4000000
/-! zip of many tuples: the next item -/
namespace Nm
open PySem PySem.Spec PyProof.Rows L2
abbrev tupN (vs : List Value) : Obj := { cls := .type "tuple", data := .seq vs.toArray }
/-- the iterators, and what they go over: the first n at b, the tuple of them behind, a tuple of its own, the zip -/
structure ZN (h : Heap) (b : Nat) (ls : List Addr) (rows : List (List Value)) (i : Nat) : Prop where
  ti : h.get? (b + ls.length) = some (tupN ((itsAt b ls.length).map Value.ref))
  its : ∀ (k : Nat) (l : Addr), ls[k]? = some l → h.IsTupleIter (b + k) l i
  row : ∀ (k : Nat) (l : Addr), ls[k]? = some l → ∃ r : List Value, rows[k]? = some r ∧ h.IsTuple l r.toArray
  lt : ∀ l ∈ ls, l < b
theorem neA {a b : Nat} (h : a ≠ b) : @Ne Addr a b := h
/-- what the zip itself does not touch -/
abbrev FrN (b n : Nat) (h h' : Heap) : Prop := ∀ c o, (c < b ∨ b + n + 2 < c ∨ c = b + n) → h.get? c = some o → h'.get? c = some o
section
variable {prog : Program} {w : World} {A : Around} {E : Value → Shared → Prop} {s : Shared} {b i : Nat} {ls : List Addr} {rows : List (List Value)}
theorem zipN_item {vs xs : List Value} {Q : Value → Shared → Prop} (Z : ZN s.heap b ls rows i) (n1 : 1 ≤ ls.length) (n8 : ls.length ≤ 8)
    (hz : IsZip s.heap (b + ls.length + 2) (b + ls.length) (b + ls.length + 1) .none) (hTO : s.heap.get? (b + ls.length + 1) = some (tupN vs)) (vl : vs.length = ls.length) (xl : xs.length = ls.length) (hx : ∀ (k : Nat) r, rows[k]? = some r → r[i]? = xs[k]?)
    (hQ : ∀ h', IsZipHeld h' (b + ls.length + 2) (b + ls.length) (b + ls.length + 1) s.heap.objs.size false → h'.get? (b + ls.length + 1) = some (tupN xs) → (∀ (k : Nat) (l : Addr), ls[k]? = some l → h'.IsTupleIter (b + k) l (i + 1)) → h'.get? s.heap.objs.size = some (tupN xs) → h'.objs.size = s.heap.objs.size + 1 →
      FrN b ls.length s.heap h' → Q (.ref s.heap.objs.size) { s with heap := h' }) :
    wpAny (model prog w) A (Builtin.«zip.__next__» ⟨[.ref (b + ls.length + 2)], []⟩) (fun fin s' => ∃ v, fin = .done (.ret v) ∧ Q v s') E s := by
  have zlt : b + ls.length + 2 < s.heap.objs.size := Heap.lt_size hz
  show wpAny _ _ (field (.ref _) 2 >>= _) _ _ _
  refine wpAny_bind (wpAny_field hz rfl (x := .bool false) rfl ?_)
  show wpAny _ _ (field (.ref _) 3 >>= _) _ _ _
  refine wpAny_bind (wpAny_field hz rfl (x := .ref (b + ls.length)) rfl ?_)
  refine wpAny_bind (wpAny_seqItems Z.ti rfl ?_)
  have ne0 : (((itsAt b ls.length).map Value.ref).toArray).isEmpty = false := by
    rw [← Bool.not_eq_true, Array.isEmpty_iff]
    intro h
    have := congrArg Array.size h
    simp at this
    subst this
    simp at n1
  simp only [ne0, Bool.false_eq_true, if_false]
  show wpAny _ _ (Builtin.SmallTypes.ownedTupleIsFree (.ref _) >>= _) _ _ _
  refine wpAny_bind ?_
  unfold Builtin.SmallTypes.ownedTupleIsFree
  refine wpAny_bind (wpAny_field hz rfl (x := .none) rfl (wpAny_pure ?_))
  simp only [if_true]
  refine wpAny_bind (wpAny_rule ?_)
  refine wpAny_bind (wpAny_field hz rfl (x := .ref (b + ls.length + 1)) rfl ?_)
  refine wpAny_bind (wpAny_setField_rec hz (by simp) fun h₁ hz₁ hs₁ => ?_)
  replace hz₁ : IsZip h₁ (b + ls.length + 2) (b + ls.length) (b + ls.length + 1) .ellipsis := hz₁
  refine wpAny_bind ?_
  refine wpAny_forIn_list _ (fun rest st s' => ∃ k h', k ≤ ls.length ∧ rest = (((itsAt b ls.length).map Value.ref).zipIdx).drop k ∧ st = ⟨none, ⟨⟩⟩ ∧ s' = { s with heap := h' } ∧ h'.objs.size = s.heap.objs.size ∧ IsZip h' (b + ls.length + 2) (b + ls.length) (b + ls.length + 1) .ellipsis ∧
      h'.get? (b + ls.length + 1) = some (tupN (xs.take k ++ vs.drop k)) ∧ (∀ (j : Nat) (l : Addr), ls[j]? = some l → h'.IsTupleIter (b + j) l (if j < k then i + 1 else i)) ∧ FrN b ls.length s.heap h') _ ?_ ?_ _ _ ?_
  · rintro x rest st s1 ⟨k, h1, kl, er, rfl, rfl, sz, hz1, to1, it1, fr1⟩
    cases hd : (((itsAt b ls.length).map Value.ref).zipIdx).drop k with
    | nil => rw [hd] at er; cases er
    | cons p more =>
      rw [hd] at er
      cases er
      have pk : (((itsAt b ls.length).map Value.ref).zipIdx)[k]? = some x := by
        have := congrArg (fun (z : List (Value × Nat)) => z[0]?) hd
        rw [List.getElem?_drop] at this
        simpa using this
      have klt : k < ls.length := by
        have := (List.getElem?_eq_some_iff.mp pk).1
        simpa using this
      have hd1 : (((itsAt b ls.length).map Value.ref).zipIdx).drop (k + 1) = rest := by
        rw [← List.tail_drop, hd]
        rfl
      have ep : x = (Value.ref (b + k), k) := by
        rw [List.getElem?_zipIdx, List.getElem?_map, its_get klt] at pk
        simpa using pk.symm
      subst ep
      obtain ⟨l, hl⟩ : ∃ l, ls[k]? = some l := ⟨_, List.getElem?_eq_getElem klt⟩
      obtain ⟨r, hr, hrow⟩ := Z.row k l hl
      have llt := Z.lt l (List.mem_of_getElem? hl)
      obtain ⟨v, hv⟩ : ∃ v, xs[k]? = some v := ⟨_, List.getElem?_eq_getElem (by omega)⟩
      have hri : r.toArray[i]? = some v := by
        rw [List.getElem?_toArray, hx k r hr, hv]
      have itk := it1 k l hl
      rw [if_neg (Nat.lt_irrefl k)] at itk
      have hrow1 : h1.IsTuple l r.toArray := hrow.at fun o e => fr1 l o (.inl llt) e
      show wpAny _ _ (_ >>= _) _ _ _
      refine wpAny_bind (wpAny_onRaise ?_)
      show wpAny _ _ (Builtin.SmallTypes.nextOf (.ref (b + k)) >>= _) _ _ _
      refine wpAny_bind (RZ.nextOf_tuple_item (s := { s with heap := h1 }) itk hrow1 hri fun h2 it2 hs2 => wpAny_pure ?_)
      have to2 : h2.get? (b + ls.length + 1) = some (tupN (xs.take k ++ vs.drop k)) := hs2.extBut _ _ (neA (by omega)) to1
      show wpAny _ _ (seqItems? _ >>= _) _ _ _
      refine wpAny_bind (wpAny_seqItems to2 rfl ?_)
      have lim : (xs.take k ++ vs.drop k).length ≤ 8 := by rw [List.length_append, List.length_take, List.length_drop]; omega
      have at3 := Heap.get?_update_self (Obj.mapSeq (·.setIfInBounds k v)) to2 rfl
      refine wpAny_bind (wpAny_updateSeq to2 rfl ?_ (by rw [List.size_toArray, sizeLine_eq]; omega) (by rw [Array.size_setIfInBounds, List.size_toArray, sizeLine_eq]; omega))
      refine wpAny_bind (wpAny_letGo (wpAny_pure ?_))
      have oth : ∀ c o, c ≠ b + ls.length + 1 → h2.get? c = some o → (h2.update (b + ls.length + 1) (Obj.mapSeq (·.setIfInBounds k v))).get? c = some o := fun c o n e => (Heap.get?_update_other _ _ n.symm).trans e
      refine ⟨k + 1, h2.update (b + ls.length + 1) (Obj.mapSeq (·.setIfInBounds k v)), klt, hd1.symm, rfl, rfl, by rw [Heap.size_update, hs2.1, sz], oth _ _ (neA (by omega)) (hs2.extBut _ _ (neA (by omega)) hz1), ?_, fun j l' hj => ?_, fun c o hc e => oth _ _ (neA (by omega)) (hs2.extBut _ _ (neA (by omega)) (fr1 c o hc e))⟩
      · rw [at3]
        have e1 : (xs.take k ++ vs.drop k).set k v = xs.take (k + 1) ++ vs.drop (k + 1) := by
          rw [List.take_add_one, hv]
          have e2 : vs.drop k = vs[k]'(by omega) :: vs.drop (k + 1) := (List.getElem_cons_drop (by omega)).symm
          rw [e2, List.set_append_right _ _ (by rw [List.length_take]; omega)]
          have e3 : k - (xs.take k).length = 0 := by rw [List.length_take]; omega
          rw [e3, ← e2]
          rw [e2, List.set_cons_zero]
          simp
        simp only [Obj.mapSeq, tupN]
        rw [← e1]
        simp
      · have jl : j < ls.length := (List.getElem?_eq_some_iff.mp hj).1
        by_cases e : j = k
        · subst e
          rw [hl] at hj
          cases hj
          rw [if_pos (Nat.lt_succ_self _)]
          exact it2.at fun o e => oth _ o (neA (by omega)) e
        · have := it1 j l' hj
          have e1 : (j < k + 1) = (j < k) := by
            apply propext
            omega
          rw [show (if j < k + 1 then i + 1 else i) = (if j < k then i + 1 else i) from by simp only [e1]]
          exact this.at fun o e' => oth _ o (neA (by omega)) (hs2.extBut _ _ (neA (by omega)) e')
  · rintro st s1 ⟨k, h1, kl, er, rfl, rfl, sz, hz1, to1, it1, fr1⟩
    have ek : k = ls.length := by
      have := congrArg List.length er
      simp at this
      omega
    subst ek
    rw [List.take_of_length_le (by omega), List.drop_of_length_le (by omega), List.append_nil] at to1
    have it2 : ∀ (j : Nat) (l : Addr), ls[j]? = some l → h1.IsTupleIter (b + j) l (i + 1) := fun j l hj => by
      have := it1 j l hj
      rwa [if_pos (List.getElem?_eq_some_iff.mp hj).1] at this
    show wpAny _ _ (seqItems? _ >>= _) _ _ _
    refine wpAny_bind (wpAny_seqItems to1 rfl ?_)
    have tl : xs.toArray.toList = xs := rfl
    refine wpAny_bind (wpAny_newTuple ?_ (by show xs.length ≤ sizeLine; rw [sizeLine_eq]; omega))
    show wpAny _ _ (Builtin.SmallTypes.ownedTupleHandOut (.ref _) (.ref h1.objs.size) >>= _) _ _ _
    refine wpAny_bind ?_
    unfold Builtin.SmallTypes.ownedTupleHandOut
    have hz6 : IsZip (h1.push (tupN xs)) (b + ls.length + 2) (b + ls.length) (b + ls.length + 1) .ellipsis := Heap.get?_push_of_some _ hz1
    refine wpAny_bind (wpAny_setField_rec hz6 (by simp) fun h7 hz7 hs7 => ?_)
    replace hz7 : IsZip h7 (b + ls.length + 2) (b + ls.length) (b + ls.length + 1) (rawInt h1.objs.size) := hz7
    refine wpAny_setField_rec hz7 (by simp) fun h8 hz8 hs8 => ?_
    replace hz8 : IsZipHeld h8 (b + ls.length + 2) (b + ls.length) (b + ls.length + 1) h1.objs.size false := hz8
    have up : ∀ (c : Nat) o, c ≠ b + ls.length + 2 → h1.get? c = some o → h8.get? c = some o := fun c o c1 e => hs8.extBut _ _ (neA c1) (hs7.extBut _ _ (neA c1) (Heap.get?_push_of_some _ e))
    have t8 : h8.get? h1.objs.size = some (tupN xs) := hs8.extBut _ _ (neA (by omega)) (hs7.extBut _ _ (neA (by omega)) (Heap.get?_push_size _ rfl))
    have sz8 : h8.objs.size = h1.objs.size + 1 := by rw [hs8.1, hs7.1, Heap.size_push]
    rw [sz] at hz8 t8 sz8
    refine wpAny_pure ⟨_, rfl, ?_⟩
    show Q (.ref h1.objs.size) _
    rw [sz]
    refine hQ h8 hz8 (up _ _ (by omega) to1) (fun k l hk => (it2 k l hk).at fun o e => up _ o ?_ e) t8 sz8 fun c o hc e => up c o (by omega) (fr1 c o hc e)
    have := (List.getElem?_eq_some_iff.mp hk).1
    omega
  · refine ⟨0, h₁, Nat.zero_le _, by simp, rfl, rfl, by rw [hs₁.1], hz₁, ?_, fun j l hj => ?_, fun c o hc e => hs₁.extBut _ _ (neA (by omega)) e⟩
    · have := hs₁.extBut _ _ (show b + ls.length + 1 ≠ b + ls.length + 2 by omega) hTO
      simpa using this
    · have jl : j < ls.length := (List.getElem?_eq_some_iff.mp hj).1
      rw [if_neg (Nat.not_lt_zero j)]
      exact (Z.its j l hj).extBut hs₁.extBut (neA (by omega))
end
end Nm
set_option maxRecDepth 100000
set_option maxHeartbeats 4000000
/-! zip of many tuples: the next item while the one before is still there; the end -/
namespace Nm
open PySem PySem.Spec PyProof.Rows L2
section
variable {prog : Program} {w : World} {A : Around} {E : Value → Shared → Prop} {s : Shared} {b i : Nat} {ls : List Addr} {rows : List (List Value)}
theorem zipN_item_held {xs : List Value} {T : Addr} {f : Bool} {oT : Obj} {Q : Value → Shared → Prop} (Z : ZN s.heap b ls rows i) (n1 : 1 ≤ ls.length) (n8 : ls.length ≤ 8)
    (hz : IsZipHeld s.heap (b + ls.length + 2) (b + ls.length) (b + ls.length + 1) T f) (hT : s.heap.get? T = some oT) (xl : xs.length = ls.length) (hx : ∀ (k : Nat) r, rows[k]? = some r → r[i]? = xs[k]?)
    (hQ : ∀ h', IsZipHeld h' (b + ls.length + 2) (b + ls.length) (b + ls.length + 1) T true → (∀ (k : Nat) (l : Addr), ls[k]? = some l → h'.IsTupleIter (b + k) l (i + 1)) → h'.get? s.heap.objs.size = some (tupN xs) → h'.objs.size = s.heap.objs.size + 1 →
      FrN b ls.length s.heap h' → (∀ o, s.heap.get? (b + ls.length + 1) = some o → h'.get? (b + ls.length + 1) = some o) → Q (.ref s.heap.objs.size) { s with heap := h' }) :
    wpAny (model prog w) A (Builtin.«zip.__next__» ⟨[.ref (b + ls.length + 2)], []⟩) (fun fin s' => ∃ v, fin = .done (.ret v) ∧ Q v s') E s := by
  have zlt : b + ls.length + 2 < s.heap.objs.size := Heap.lt_size hz
  show wpAny _ _ (field (.ref _) 2 >>= _) _ _ _
  refine wpAny_bind (wpAny_field hz rfl (x := .bool false) rfl ?_)
  show wpAny _ _ (field (.ref _) 3 >>= _) _ _ _
  refine wpAny_bind (wpAny_field hz rfl (x := .ref (b + ls.length)) rfl ?_)
  refine wpAny_bind (wpAny_seqItems Z.ti rfl ?_)
  have ne0 : (((itsAt b ls.length).map Value.ref).toArray).isEmpty = false := by
    rw [← Bool.not_eq_true, Array.isEmpty_iff]
    intro h
    have := congrArg Array.size h
    simp at this
    subst this
    simp at n1
  simp only [ne0, Bool.false_eq_true, if_false]
  show wpAny _ _ (Builtin.SmallTypes.ownedTupleIsFree (.ref _) >>= _) _ _ _
  refine wpAny_bind (wpAny_tupleHeld_zip hz hT fun h₁ hz₁ hs₁ => ?_)
  simp only [Bool.false_eq_true, if_false]
  refine wpAny_bind ?_
  rw [← Array.forIn_toList]
  refine wpAny_forIn_list _ (fun rest st s' => ∃ k h', k ≤ ls.length ∧ rest = ((itsAt b ls.length).map Value.ref).drop k ∧ st = ⟨none, (xs.take k).toArray⟩ ∧ s' = { s with heap := h' } ∧ h'.objs.size = s.heap.objs.size ∧ IsZipHeld h' (b + ls.length + 2) (b + ls.length) (b + ls.length + 1) T true ∧
      (∀ (j : Nat) (l : Addr), ls[j]? = some l → h'.IsTupleIter (b + j) l (if j < k then i + 1 else i)) ∧ FrN b ls.length s.heap h' ∧ (∀ o, s.heap.get? (b + ls.length + 1) = some o → h'.get? (b + ls.length + 1) = some o)) _ ?_ ?_ _ _ ?_
  · rintro x rest st s1 ⟨k, h1, kl, er, rfl, rfl, sz, hz1, it1, fr1, to1⟩
    cases hd : ((itsAt b ls.length).map Value.ref).drop k with
    | nil => rw [hd] at er; cases er
    | cons p more =>
      rw [hd] at er
      cases er
      have pk : ((itsAt b ls.length).map Value.ref)[k]? = some x := by
        have := congrArg (fun (z : List Value) => z[0]?) hd
        rw [List.getElem?_drop] at this
        simpa using this
      have klt : k < ls.length := by
        have := (List.getElem?_eq_some_iff.mp pk).1
        simpa using this
      have hd1 : ((itsAt b ls.length).map Value.ref).drop (k + 1) = rest := by
        rw [← List.tail_drop, hd]
        rfl
      have ep : x = Value.ref (b + k) := by
        rw [List.getElem?_map, its_get klt] at pk
        simpa using pk.symm
      subst ep
      obtain ⟨l, hl⟩ : ∃ l, ls[k]? = some l := ⟨_, List.getElem?_eq_getElem klt⟩
      obtain ⟨r, hr, hrow⟩ := Z.row k l hl
      have llt := Z.lt l (List.mem_of_getElem? hl)
      obtain ⟨v, hv⟩ : ∃ v, xs[k]? = some v := ⟨_, List.getElem?_eq_getElem (by omega)⟩
      have hri : r.toArray[i]? = some v := by
        rw [List.getElem?_toArray, hx k r hr, hv]
      have itk := it1 k l hl
      rw [if_neg (Nat.lt_irrefl k)] at itk
      have hrow1 : h1.IsTuple l r.toArray := hrow.at fun o e => fr1 l o (.inl llt) e
      refine wpAny_bind (wpAny_holding ?_)
      show wpAny _ _ (Builtin.SmallTypes.nextOf (.ref (b + k)) >>= _) _ _ _
      refine wpAny_bind (RZ.nextOf_tuple_item (s := { s with heap := h1 }) itk hrow1 hri fun h2 it2 hs2 => wpAny_pure (wpAny_pure ?_))
      refine ⟨k + 1, h2, klt, hd1.symm, ?_, rfl, by rw [hs2.1, sz], hs2.extBut _ _ (neA (by omega)) hz1, fun j l' hj => ?_, fun c o hc e => hs2.extBut _ _ (neA (by omega)) (fr1 c o hc e), fun o e => hs2.extBut _ _ (neA (by omega)) (to1 o e)⟩
      · rw [List.take_add_one, hv]
        simp
      · have jl : j < ls.length := (List.getElem?_eq_some_iff.mp hj).1
        by_cases e : j = k
        · subst e
          rw [hl] at hj
          cases hj
          rw [if_pos (Nat.lt_succ_self _)]
          exact it2
        · have := it1 j l' hj
          have e1 : (j < k + 1) = (j < k) := by
            apply propext
            omega
          rw [show (if j < k + 1 then i + 1 else i) = (if j < k then i + 1 else i) from by simp only [e1]]
          exact this.at fun o e' => hs2.extBut _ _ (neA (by omega)) e'
  · rintro st s1 ⟨k, h1, kl, er, rfl, rfl, sz, hz1, it1, fr1, to1⟩
    have ek : k = ls.length := by
      have := congrArg List.length er
      simp at this
      omega
    subst ek
    rw [List.take_of_length_le (by omega)]
    have it2 : ∀ (j : Nat) (l : Addr), ls[j]? = some l → h1.IsTupleIter (b + j) l (i + 1) := fun j l hj => by
      have := it1 j l hj
      rwa [if_pos (List.getElem?_eq_some_iff.mp hj).1] at this
    show wpAny _ _ (newTuple xs >>= _) _ _ _
    refine wpAny_bind (wpAny_newTuple ?_ (by rw [sizeLine_eq]; omega))
    refine wpAny_pure ⟨_, rfl, ?_⟩
    show Q (.ref h1.objs.size) _
    have up : ∀ (c : Nat) o, h1.get? c = some o → (h1.push (tupN xs)).get? c = some o := fun c o e => Heap.get?_push_of_some _ e
    have t8 : (h1.push (tupN xs)).get? h1.objs.size = some (tupN xs) := Heap.get?_push_size _ rfl
    have sz8 : (h1.push (tupN xs)).objs.size = h1.objs.size + 1 := Heap.size_push ..
    rw [sz] at t8 sz8 ⊢
    exact hQ _ (up _ _ hz1) (fun k l hk => (it2 k l hk).at fun o e => up _ o e) t8 sz8 (fun c o hc e => up c o (fr1 c o hc e)) fun o e => up _ o (to1 o e)
  · refine ⟨0, h₁, Nat.zero_le _, rfl, rfl, rfl, by rw [hs₁.1], hz₁, fun j l hj => ?_, fun c o hc e => hs₁.extBut _ _ (neA (by omega)) e, fun o e => hs₁.extBut _ _ (neA (by omega)) e⟩
    have jl : j < ls.length := (List.getElem?_eq_some_iff.mp hj).1
    rw [if_neg (Nat.not_lt_zero j)]
    exact (Z.its j l hj).extBut hs₁.extBut (neA (by omega))
end
end Nm
set_option maxRecDepth 100000
set_option maxHeartbeats 4000000
/-! zip of many tuples: its end; next -/
namespace Nm
open PySem PySem.Spec PyProof.Rows L2
section
variable {prog : Program} {w : World} {A : Around} {E : Value → Shared → Prop} {s : Shared} {b i : Nat} {ls : List Addr} {rows : List (List Value)}
theorem ZN.first {h : Heap} (Z : ZN h b ls rows i) (n1 : 1 ≤ ls.length) : ∃ (l : Addr) (r : List Value), ls[0]? = some l ∧ rows[0]? = some r ∧ h.IsTuple l r.toArray ∧ h.IsTupleIter b l i ∧ l < b := by
  obtain ⟨l, hl⟩ : ∃ l, ls[0]? = some l := ⟨_, List.getElem?_eq_getElem n1⟩
  obtain ⟨r, hr, hrow⟩ := Z.row 0 l hl
  exact ⟨l, r, hl, hr, hrow, Z.its 0 l hl, Z.lt l (List.mem_of_getElem? hl)⟩
theorem ne_empty (n1 : 1 ≤ ls.length) : (((itsAt b ls.length).map Value.ref).toArray).isEmpty = false := by
  rw [← Bool.not_eq_true, Array.isEmpty_iff]
  intro h
  have := congrArg Array.size h
  simp at this
  subst this
  simp at n1
theorem its_cons (n1 : 1 ≤ ls.length) : ∃ more, (itsAt b ls.length).map Value.ref = Value.ref b :: more := by
  cases e : (itsAt b ls.length).map Value.ref with
  | nil =>
    have := congrArg List.length e
    simp at this
    subst this
    simp at n1
  | cons x more =>
    have h0 : ((itsAt b ls.length).map Value.ref)[0]? = some (Value.ref (b + 0)) := by
      rw [List.getElem?_map, its_get (by omega)]
      rfl
    rw [e] at h0
    cases h0
    exact ⟨more, rfl⟩
theorem zipN_end {Q : Fin → Shared → Prop} (hh : A.handled = none) (Z : ZN s.heap b ls rows i) (n1 : 1 ≤ ls.length) (hend : ∀ r : List Value, rows[0]? = some r → r.length ≤ i)
    (hz : IsZip s.heap (b + ls.length + 2) (b + ls.length) (b + ls.length + 1) .none) {vs : List Value} (hTO : s.heap.get? (b + ls.length + 1) = some (tupN vs))
    (hE : ∀ h' e, FrN b ls.length s.heap h' → (∃ o, h'.get? e = some o ∧ o.cls = .type "StopIteration") → E (.ref e) { s with heap := h' }) :
    wpAny (model prog w) A (Builtin.«zip.__next__» ⟨[.ref (b + ls.length + 2)], []⟩) Q E s := by
  show wpAny _ _ (field (.ref _) 2 >>= _) _ _ _
  refine wpAny_bind (wpAny_field hz rfl (x := .bool false) rfl ?_)
  show wpAny _ _ (field (.ref _) 3 >>= _) _ _ _
  refine wpAny_bind (wpAny_field hz rfl (x := .ref (b + ls.length)) rfl ?_)
  refine wpAny_bind (wpAny_seqItems Z.ti rfl ?_)
  simp only [ne_empty n1, Bool.false_eq_true, if_false]
  show wpAny _ _ (Builtin.SmallTypes.ownedTupleIsFree (.ref _) >>= _) _ _ _
  refine wpAny_bind ?_
  unfold Builtin.SmallTypes.ownedTupleIsFree
  refine wpAny_bind (wpAny_field hz rfl (x := .none) rfl (wpAny_pure ?_))
  simp only [if_true]
  refine wpAny_bind (wpAny_rule ?_)
  refine wpAny_bind (wpAny_field hz rfl (x := .ref (b + ls.length + 1)) rfl ?_)
  refine wpAny_bind (wpAny_setField_rec hz (by simp) fun h₁ hz₁ hs₁ => ?_)
  replace hz₁ : IsZip h₁ (b + ls.length + 2) (b + ls.length) (b + ls.length + 1) .ellipsis := hz₁
  refine wpAny_bind ?_
  obtain ⟨more, em⟩ := its_cons (b := b) n1
  obtain ⟨l, r, hl, hr, hrow, hit, llt0⟩ := Z.first n1
  have llt := @id (@LT.lt Nat _ l b) llt0
  refine wpAny_forIn_list _ (fun rest st s' => rest = ((itsAt b ls.length).map Value.ref).zipIdx ∧ s' = { s with heap := h₁ }) _ ?_ ?_ _ _ ⟨rfl, rfl⟩
  · rintro x rest st s1 ⟨er, rfl⟩
    rw [em, List.zipIdx_cons] at er
    cases er
    show wpAny _ _ (_ >>= _) _ _ _
    refine wpAny_bind (wpAny_onRaise ?_)
    show wpAny _ _ (Builtin.SmallTypes.nextOf (.ref b) >>= _) _ _ _
    refine wpAny_bind (RZ.nextOf_tuple_end (s := { s with heap := h₁ }) hh (hit.extBut hs₁.extBut (neA (by omega))) (hrow.at fun o e => hs₁.extBut _ _ (neA (by omega)) e) (by rw [List.getElem?_toArray]; exact List.getElem?_eq_none (hend r hr)) fun h₂ e hs₂ he => ?_)
    obtain ⟨oe, hoe, hce⟩ := he
    have hz₂ : IsZip h₂ (b + ls.length + 2) (b + ls.length) (b + ls.length + 1) .ellipsis := hs₂ _ _ (neA (by omega)) hz₁
    have hez : e ≠ b + ls.length + 2 := fun x => by subst x; rw [hz₂] at hoe; cases hoe; simp at hce
    refine wpAny_setField_rec hz₂ (by simp) fun h₃ _ hs₃ => hE h₃ e (fun c o hc x => hs₃.extBut _ _ (neA (by omega)) (hs₂ _ _ (neA (by omega)) (hs₁.extBut _ _ (neA (by omega)) x))) ⟨oe, hs₃.extBut _ _ hez hoe, hce⟩
  · rintro st s1 ⟨er, rfl⟩
    rw [em, List.zipIdx_cons] at er
    cases er
theorem zipN_end_held {T : Addr} {f : Bool} {oT : Obj} {Q : Fin → Shared → Prop} (hh : A.handled = none) (Z : ZN s.heap b ls rows i) (n1 : 1 ≤ ls.length) (hend : ∀ r : List Value, rows[0]? = some r → r.length ≤ i)
    (hz : IsZipHeld s.heap (b + ls.length + 2) (b + ls.length) (b + ls.length + 1) T f) (hT : s.heap.get? T = some oT)
    (hE : ∀ h' e, FrN b ls.length s.heap h' → (∃ o, h'.get? e = some o ∧ o.cls = .type "StopIteration") → E (.ref e) { s with heap := h' }) :
    wpAny (model prog w) A (Builtin.«zip.__next__» ⟨[.ref (b + ls.length + 2)], []⟩) Q E s := by
  show wpAny _ _ (field (.ref _) 2 >>= _) _ _ _
  refine wpAny_bind (wpAny_field hz rfl (x := .bool false) rfl ?_)
  show wpAny _ _ (field (.ref _) 3 >>= _) _ _ _
  refine wpAny_bind (wpAny_field hz rfl (x := .ref (b + ls.length)) rfl ?_)
  refine wpAny_bind (wpAny_seqItems Z.ti rfl ?_)
  simp only [ne_empty n1, Bool.false_eq_true, if_false]
  show wpAny _ _ (Builtin.SmallTypes.ownedTupleIsFree (.ref _) >>= _) _ _ _
  refine wpAny_bind (wpAny_tupleHeld_zip hz hT fun h₁ hz₁ hs₁ => ?_)
  simp only [Bool.false_eq_true, if_false]
  refine wpAny_bind ?_
  rw [← Array.forIn_toList]
  obtain ⟨more, em⟩ := its_cons (b := b) n1
  obtain ⟨l, r, hl, hr, hrow, hit, llt0⟩ := Z.first n1
  have llt := @id (@LT.lt Nat _ l b) llt0
  refine wpAny_forIn_list _ (fun rest st s' => rest = (itsAt b ls.length).map Value.ref ∧ s' = { s with heap := h₁ }) _ ?_ ?_ _ _ ⟨rfl, rfl⟩
  · rintro x rest st s1 ⟨er, rfl⟩
    rw [em] at er
    cases er
    refine wpAny_bind (wpAny_holding ?_)
    show wpAny _ _ (Builtin.SmallTypes.nextOf (.ref b) >>= _) _ _ _
    refine wpAny_bind (RZ.nextOf_tuple_end (s := { s with heap := h₁ }) hh (hit.extBut hs₁.extBut (neA (by omega))) (hrow.at fun o e => hs₁.extBut _ _ (neA (by omega)) e) (by rw [List.getElem?_toArray]; exact List.getElem?_eq_none (hend r hr)) fun h₂ e hs₂ he => ?_)
    exact hE h₂ e (fun c o hc x => hs₂ _ _ (neA (by omega)) (hs₁.extBut _ _ (neA (by omega)) x)) he
  · rintro st s1 ⟨er, rfl⟩
    rw [em] at er
    cases er
/-! ### next -/
/-- how the zip stands between two items -/
def ZSt (h : Heap) (b n S : Nat) : Prop := (IsZip h (b + n + 2) (b + n) (b + n + 1) .none ∨ ∃ T f oT, IsZipHeld h (b + n + 2) (b + n) (b + n + 1) T f ∧ h.get? T = some oT ∧ (T < b ∨ b + n + 2 < T) ∧ T ≠ S) ∧ ∃ vs : List Value, vs.length = n ∧ h.get? (b + n + 1) = some (tupN vs)
theorem ZSt.ty {n S : Nat} (h : ZSt s.heap b n S) : s.TypeIs (.ref (b + n + 2)) "zip" := by
  rcases h.1 with a | ⟨T, f, oT, a, _⟩
  · exact ⟨_, a, rfl⟩
  · exact ⟨_, a, rfl⟩
theorem ZSt.lt {h : Heap} {n S : Nat} (z : ZSt h b n S) : b + n + 2 < h.objs.size := by
  rcases z.1 with a | ⟨T, f, oT, a, _⟩
  · exact Heap.lt_size a
  · exact Heap.lt_size a
theorem nextN_item {S : Nat} {xs : List Value} {Q : Option Value → Shared → Prop} (Z : ZN s.heap b ls rows i) (n1 : 1 ≤ ls.length) (n8 : ls.length ≤ 8) (st : ZSt s.heap b ls.length S) (hS : S < s.heap.objs.size) (xl : xs.length = ls.length) (hx : ∀ (k : Nat) r, rows[k]? = some r → r[i]? = xs[k]?)
    (hQ : ∀ h', ZSt h' b ls.length S → ZN h' b ls rows (i + 1) → h'.get? s.heap.objs.size = some (tupN xs) → h'.objs.size = s.heap.objs.size + 1 → FrN b ls.length s.heap h' → Q (some (.ref s.heap.objs.size)) { s with heap := h' }) :
    wpAny (model prog w) A (pyNext (.ref (b + ls.length + 2))) Q E s := by
  have hTy := st.ty
  have lt := st.lt
  obtain ⟨st1, vs, vl, hTO⟩ := st
  have next : ∀ {h' : Heap}, FrN b ls.length s.heap h' → (∀ (k : Nat) (l : Addr), ls[k]? = some l → h'.IsTupleIter (b + k) l (i + 1)) → ZN h' b ls rows (i + 1) := fun {h'} fr its => ⟨fr _ _ (.inr (.inr rfl)) Z.ti, its, fun k l hk => by
    obtain ⟨r, hr, hrow⟩ := Z.row k l hk
    exact ⟨r, hr, hrow.at fun o e => fr _ o (.inl (Z.lt l (List.mem_of_getElem? hk))) e⟩, Z.lt⟩
  unfold pyNext
  refine wpAny_bind (wpAny_attempt (wpAny_callSpecial?_slot (name := Str.ofString "__next__") hTy F.slot_zip_next
    (wpAny_call_entry F.slot_zip_next hTy F.entry_zip_next ?_ (F.args_zip_next_1 _))))
  rcases st1 with hz | ⟨T, f, oT, hz, hT, hTn⟩
  · exact zipN_item Z n1 n8 hz hTO vl xl hx fun h' a1 a2 a3 a4 a5 a6 => wpAny_pure (hQ h' ⟨.inr ⟨_, _, _, a1, a4, .inr lt, neA (by omega)⟩, xs, xl, a2⟩ (next a6 a3) a4 a5 a6)
  · exact zipN_item_held Z n1 n8 hz hT xl hx fun h' a1 a3 a4 a5 a6 a7 => wpAny_pure (hQ h' ⟨.inr ⟨_, _, _, a1, a6 T oT (hTn.1.imp id .inl) hT, hTn⟩, vs, vl, a7 _ hTO⟩ (next a6 a3) a4 a5 a6)
theorem nextN_end {S : Nat} {Q : Option Value → Shared → Prop} (hh : A.handled = none) (Z : ZN s.heap b ls rows i) (n1 : 1 ≤ ls.length) (st : ZSt s.heap b ls.length S) (hend : ∀ r : List Value, rows[0]? = some r → r.length ≤ i)
    (hQ : ∀ h', FrN b ls.length s.heap h' → Q none { s with heap := h' }) : wpAny (model prog w) A (pyNext (.ref (b + ls.length + 2))) Q E s := by
  have hTy := st.ty
  obtain ⟨st1, vs, vl, hTO⟩ := st
  unfold pyNext
  refine wpAny_bind (wpAny_attempt (wpAny_callSpecial?_slot (name := Str.ofString "__next__") hTy F.slot_zip_next
    (wpAny_call_entry F.slot_zip_next hTy F.entry_zip_next ?_ (F.args_zip_next_1 _))))
  rcases st1 with hz | ⟨T, f, oT, hz, hT, hTn⟩
  · refine zipN_end hh Z n1 hend hz hTO fun h' e hk he => ?_
    obtain ⟨o, ho, hc⟩ := he
    refine wpAny_bind (wpAny_isInstance (T := "StopIteration") (b := true) ⟨o, ho, hc⟩ isSubtype_stop ?_)
    exact wpAny_pure (hQ _ hk)
  · refine zipN_end_held hh Z n1 hend hz hT fun h' e hk he => ?_
    obtain ⟨o, ho, hc⟩ := he
    refine wpAny_bind (wpAny_isInstance (T := "StopIteration") (b := true) ⟨o, ho, hc⟩ isSubtype_stop ?_)
    exact wpAny_pure (hQ _ hk)
end
end Nm
set_option maxRecDepth 100000
set_option maxHeartbeats 4000000
/-! tuple(zip(..)): the loop -/
namespace Nm
open PySem PySem.Spec PyProof.Rows L2
theorem zipN_lenless : typeLookup (.type "zip") "__len__" = pure none := am_miss_of_fast (by decide +kernel)
theorem zipN_hintless : typeLookup (.type "zip") "__length_hint__" = pure none := am_miss_of_fast (by decide +kernel)
/-- a list of references as it stands -/
abbrev refsL (ts : List Addr) (c : Nat) : Obj := { cls := .type "list", dict := none, data := .seq (ts.map Value.ref).toArray c, slots := #[] }
/-- column j -/
def colAt (rows : List (List Value)) (j : Nat) : List Value := rows.map fun r => r.getD j .none
/-- a zip on its way into the list behind it; g: the heap ahead of it all -/
structure ZL2 (g h : Heap) (b : Nat) (ls : List Addr) (rows : List (List Value)) (i : Nat) (ts : List Addr) (c : Nat) : Prop where
  base : ∀ (x : Nat) o, x < b → g.get? x = some o → h.get? x = some o
  zn : ZN h b ls rows i
  st : ZSt h b ls.length (b + ls.length + 3)
  at_ : h.get? (b + ls.length + 3) = some (refsL ts c)
  len : ts.length = i
  nd : ts.Nodup
  each : ∀ (j : Nat) (t : Nat), ts[j]? = some t → h.get? t = some (tupN (colAt rows j)) ∧ b + ls.length + 3 < t
/-- what comes of it -/
structure ZD2 (g h : Heap) (b n : Nat) (rows : List (List Value)) (m : Nat) (ts : List Addr) : Prop where
  base : ∀ (x : Nat) o, x < b → g.get? x = some o → h.get? x = some o
  len : ts.length = m
  nd : ts.Nodup
  each : ∀ (j : Nat) (t : Nat), ts[j]? = some t → h.get? t = some (tupN (colAt rows j)) ∧ b + n + 3 < t
  big : b + n + 3 < h.objs.size
section
variable {P : Program} {w : World} {A : Around} {E : Value → Shared → Prop} {R : Result → Shared → Prop} {g : Heap} {b m : Nat} {ls : List Addr} {rows : List (List Value)}
theorem zl2_loop (n1 : 1 ≤ ls.length) (n8 : ls.length ≤ 8) (rl : rows.length = ls.length) (rm : ∀ r ∈ rows, r.length = m) (lim : m ≤ 1000) (hh : A.in1.handled = none) (res : Value) :
    ∀ (k i : Nat) (s : Shared) (ts : List Addr) (c : Nat), m - i = k → i ≤ m → ZL2 g s.heap b ls rows i ts c →
      (∀ h' ts' c', h'.get? (b + ls.length + 3) = some (refsL ts' c') → ZD2 g h' b ls.length rows m ts' → R (.ok (.ret res)) { s with heap := h' }) →
      codeAny (model P w) A (.builtin "list.extend.loop" ⟨[.ref (b + ls.length + 3), .ref (b + ls.length + 2), res], []⟩) R s := by
  intro k
  induction k with
  | zero =>
    intro i s ts c ek le Z hR
    obtain rfl : i = m := by omega
    refine codeAny_builtin F.entry_extend_loop ?_
    rw [Around.under_plainId F.plain_extend_loop _]
    show wpAny _ A.in1 (pyNext (.ref (b + ls.length + 2)) >>= _) _ _ s
    refine wpAny_bind (nextN_end hh Z.zn n1 Z.st (fun r hr => Nat.le_of_eq (rm r (List.mem_of_getElem? hr))) fun h' fr => wpAny_pure ?_)
    exact hR h' ts c (fr _ _ (.inr (.inl (by omega))) Z.at_) ⟨fun x o hx e => fr x o (.inl hx) (Z.base x o hx e), Z.len, Z.nd, fun j t e => ⟨fr t _ (.inr (.inl (by have := (Z.each j t e).2; omega))) (Z.each j t e).1, (Z.each j t e).2⟩, Heap.lt_size (fr _ _ (.inr (.inl (by omega))) Z.at_)⟩
  | succ k ih =>
    intro i s ts c ek le Z hR
    have lt : i < m := by omega
    have Slt : b + ls.length + 3 < s.heap.objs.size := Heap.lt_size Z.at_
    refine codeAny_builtin F.entry_extend_loop ?_
    rw [Around.under_plainId F.plain_extend_loop _]
    show wpAny _ A.in1 (pyNext (.ref (b + ls.length + 2)) >>= _) _ _ s
    refine wpAny_bind (nextN_item (xs := colAt rows i) Z.zn n1 n8 Z.st Slt (by unfold colAt; rw [List.length_map, rl]) (fun k' r hr => ?_) fun h1 st1 zn1 t1 sz1 fr1 => ?_)
    · unfold colAt
      have hl := rm r (List.mem_of_getElem? hr)
      rw [List.getElem?_map, hr, List.getElem?_eq_getElem (by omega)]
      show some _ = some (r.getD i .none)
      rw [List.getD_eq_getElem?_getD, List.getElem?_eq_getElem (by omega)]
      rfl
    show wpAny (model P w) A.in1 (updateSeq (b + ls.length + 3) (·.push (.ref s.heap.objs.size)) >>= fun _ => again (.builtin "list.extend.loop" ⟨[.ref (b + ls.length + 3), .ref (b + ls.length + 2), res], []⟩)) _ _ _
    have at1 : h1.get? (b + ls.length + 3) = some (refsL ts c) := fr1 _ _ (.inr (.inl (by omega))) Z.at_
    have nin : s.heap.objs.size ∉ ts := fun mm => by
      obtain ⟨j, hj⟩ := List.getElem?_of_mem mm
      exact absurd (Heap.lt_size (Z.each j _ hj).1) (Nat.lt_irrefl _)
    have szt : ((ts.map Value.ref).toArray).size = i := by simp [Z.len]
    refine wpAny_bind (wpAny_updateSeq at1 rfl (wpAny_pure ⟨plainId_quiet F.plain_extend_loop _, ?_⟩) (by rw [szt, sizeLine_eq]; omega) (by rw [Array.size_push, szt, sizeLine_eq]; omega))
    have oth : ∀ (x : Nat) o, x ≠ b + ls.length + 3 → h1.get? x = some o → (h1.update (b + ls.length + 3) (Obj.mapSeq (·.push (.ref s.heap.objs.size)))).get? x = some o := fun x o n e => (Heap.get?_update_other _ _ (neA n.symm)).trans e
    have at2 := Heap.get?_update_self (Obj.mapSeq (·.push (.ref s.heap.objs.size))) at1 rfl
    refine ih (i + 1) { s with heap := h1.update (b + ls.length + 3) (Obj.mapSeq (·.push (.ref s.heap.objs.size))) } (ts ++ [s.heap.objs.size]) (c + 1) (by omega) lt ⟨fun x o hx e => oth x o (by omega) (fr1 x o (.inl hx) (Z.base x o hx e)), ?_, ?_, ?_, by rw [List.length_append, Z.len]; rfl, ?_, fun j t e => ?_⟩ fun h' ts' c' e zd => hR h' ts' c' e zd
    · refine ⟨oth _ _ (by omega) zn1.ti, fun k l hk => (zn1.its k l hk).at fun o e => oth _ o ?_ e, fun k l hk => ?_, zn1.lt⟩
      · have := (List.getElem?_eq_some_iff.mp hk).1
        omega
      · obtain ⟨r, hr, hrow⟩ := zn1.row k l hk
        have llt := @id (@LT.lt Nat _ l b) (zn1.lt l (List.mem_of_getElem? hk))
        exact ⟨r, hr, hrow.at fun o e => oth _ o (by omega) e⟩
    · obtain ⟨a, vs, vl, to⟩ := st1
      refine ⟨?_, vs, vl, oth _ _ (by omega) to⟩
      rcases a with a | ⟨T, f, oT, a, hT, hn, hs⟩
      · exact .inl (oth _ _ (by omega) a)
      · exact .inr ⟨T, f, oT, oth _ _ (by omega) a, oth _ _ hs hT, hn, hs⟩
    · rw [at2]
      simp [refsL, Obj.mapSeq]
    · rw [List.nodup_append]
      refine ⟨Z.nd, by simp, fun a ha b' hb q => ?_⟩
      rw [List.mem_singleton] at hb
      subst hb q
      exact nin ha
    · by_cases q : j < ts.length
      · rw [List.getElem?_append_left q] at e
        obtain ⟨h1', h2'⟩ := Z.each j t e
        exact ⟨oth _ _ (by omega) (fr1 _ _ (.inr (.inl (by omega))) h1'), h2'⟩
      · have ej : j = i := by
          have := (List.getElem?_eq_some_iff.mp e).1
          rw [List.length_append, List.length_singleton, Z.len] at this
          rw [Z.len] at q
          omega
        subst ej
        rw [List.getElem?_append_right (by rw [Z.len]; exact Nat.le_refl _), Z.len, Nat.sub_self] at e
        cases e
        exact ⟨oth _ _ (by omega) t1, Slt⟩
end
end Nm
set_option maxRecDepth 100000
set_option maxHeartbeats 4000000
/-! tuple(zip(..)): the tuple -/
namespace Nm
open PySem PySem.Spec PyProof.Rows L2
open AutoSeq1 (wpAny_loadPart')
/-- a zip just made, the last of the heap -/
structure ZNew (h : Heap) (b : Nat) (ls : List Addr) (rows : List (List Value)) (m : Nat) : Prop where
  hz : IsZip h (b + ls.length + 2) (b + ls.length) (b + ls.length + 1) .none
  zn : ZN h b ls rows 0
  to : ∃ vs : List Value, vs.length = ls.length ∧ h.get? (b + ls.length + 1) = some (tupN vs)
  size : h.objs.size = b + ls.length + 3
  n1 : 1 ≤ ls.length
  n8 : ls.length ≤ 8
  rl : rows.length = ls.length
  rm : ∀ r ∈ rows, r.length = m
  lim : m ≤ 1000
section
variable {P : Program} {w : World} {A : Around} {E : Value → Shared → Prop} {R : Result → Shared → Prop} {b m : Nat} {ls : List Addr} {rows : List (List Value)} {s : Shared}
theorem ZNew.grow {h h' : Heap} (Z : ZNew h b ls rows m) (k : ∀ c o, h.get? c = some o → h'.get? c = some o) : ZN h' b ls rows 0 :=
  ⟨k _ _ Z.zn.ti, fun j l e => (Z.zn.its j l e).at fun o => k _ o, fun j l e => let ⟨r, h1, h2⟩ := Z.zn.row j l e; ⟨r, h1, h2.at fun o => k _ o⟩, Z.zn.lt⟩
theorem collect_zipN {Q : List Value → Shared → Prop} (hh : A.handled = none) (Z : ZNew s.heap b ls rows m)
    (hQ : ∀ h' ts, ZD2 s.heap h' b ls.length rows m ts → Q (ts.map Value.ref) { s with heap := h' }) : wpAny (model P w) A (collect (.ref (b + ls.length + 2))) Q E s := by
  have sz := Z.size
  unfold collect
  refine wpAny_bind (wpAny_runValue (codeAny_builtin F.entry_proto_collect ?_))
  rw [Around.under_plainId F.plain_proto_collect _]
  show wpAny _ A.in1 (newList [] >>= fun l => again (.builtin "list.__iadd__" ⟨[l, .ref (b + ls.length + 2)], []⟩)) _ _ s
  refine wpAny_bind (wpAny_newObj_type ?_)
  refine wpAny_pure ⟨plainId_quiet F.plain_list_iadd _, codeAny_builtin F.entry_list_iadd ?_⟩
  rw [Around.under_plainId F.plain_list_iadd _]
  show wpAny _ A.in1 (Builtin.List.listExtendWith (.ref s.heap.objs.size) (.ref (b + ls.length + 2)) (.ref s.heap.objs.size)) _ _ _
  have at0 : (s.heap.push { cls := .type "list", data := .seq ([] : List Value).toArray }).get? s.heap.objs.size = some { cls := .type "list", data := .seq ([] : List Value).toArray } := Heap.get?_push_size _ rfl
  have kp : ∀ c o, s.heap.get? c = some o → (s.heap.push { cls := .type "list", data := .seq ([] : List Value).toArray }).get? c = some o := fun c o e => Heap.get?_push_of_some _ e
  have hz := kp _ _ Z.hz
  have ty : Shared.TypeIs { s with heap := s.heap.push { cls := .type "list", data := .seq ([] : List Value).toArray } } (.ref (b + ls.length + 2)) "zip" := ⟨_, hz, rfl⟩
  rw [sz] at at0 ⊢
  unfold Builtin.List.listExtendWith
  refine wpAny_bind (wpAny_typeOf ty ?_)
  have q1 : Builtin.List.listSameRef (.ref (b + ls.length + 3)) (.ref (b + ls.length + 2)) = false := by simp [Builtin.List.listSameRef]
  have q2 : (Value.type "zip" == Value.type "list") = false := by decide
  have q3 : (Value.type "zip" == Value.type "tuple") = false := by decide
  simp only [q1, q2, q3, Bool.or_false, Bool.false_eq_true, if_false]
  refine wpAny_bind (wpAny_pyIter_zip hz (wpAny_bind (wpAny_holding ?_)))
  unfold Builtin.List.listLengthHint
  refine wpAny_bind (wpAny_specialOf ty zipN_lenless ?_)
  show wpAny _ A.in1 (specialOf (Value.ref (b + ls.length + 2)) (Str.ofString "__length_hint__") >>= _) _ _ _
  refine wpAny_bind (wpAny_specialOf ty zipN_hintless (wpAny_pure ?_))
  show wpAny _ A.in1 (rule "list.extend.makes-room" >>= fun _ => Builtin.List.listTouch (.ref (b + ls.length + 3)) >>= fun _ => again (.builtin "list.extend.loop" ⟨[.ref (b + ls.length + 3), .ref (b + ls.length + 2), .ref (b + ls.length + 3)], []⟩)) _ _ _
  refine wpAny_bind (wpAny_rule (wpAny_bind ?_))
  show wpAny _ A.in1 (updateSeq (b + ls.length + 3) (·.push .none) >>= fun _ => updateSeq (b + ls.length + 3) (·.pop)) _ _ _
  refine wpAny_bind (wpAny_updateSeq at0 rfl ?_ (by simp [sizeLine_eq]) (by simp [sizeLine_eq]))
  have at2 := Heap.get?_update_self (Obj.mapSeq (·.push Value.none)) at0 rfl
  refine wpAny_updateSeq at2 rfl ?_ (by simp [Obj.mapSeq, sizeLine_eq]) (by simp [Obj.mapSeq, sizeLine_eq])
  have at3 := Heap.get?_update_self (Obj.mapSeq (·.pop)) at2 rfl
  have oth : ∀ (c : Nat) o, s.heap.get? c = some o → (((s.heap.push { cls := .type "list", data := .seq ([] : List Value).toArray }).update (b + ls.length + 3) (Obj.mapSeq (·.push Value.none))).update (b + ls.length + 3) (Obj.mapSeq (·.pop))).get? c = some o := fun c o e => by
    have n : c ≠ b + ls.length + 3 := by
      have := Heap.lt_size e
      rw [sz] at this
      exact Nat.ne_of_lt this
    exact (Heap.get?_update_other _ _ (neA n.symm)).trans ((Heap.get?_update_other _ _ (neA n.symm)).trans (kp c o e))
  refine wpAny_pure ⟨plainId_quiet F.plain_extend_loop _, zl2_loop (g := s.heap) Z.n1 Z.n8 Z.rl Z.rm Z.lim hh _ m 0 _ [] 2 (Nat.sub_zero m) (Nat.zero_le _) ⟨fun x o _ e => oth x o e, Z.grow oth, ⟨.inl (oth _ _ Z.hz), ?_⟩, ?_, rfl, List.nodup_nil, fun j t e => by simp at e⟩ fun h' ts c e zd => ?_⟩
  · obtain ⟨vs, vl, to⟩ := Z.to
    exact ⟨vs, vl, oth _ _ to⟩
  · rw [at3]
    simp [refsL, Obj.mapSeq]
  · show wpAny _ A (load (b + ls.length + 3) >>= _) _ _ _
    refine wpAny_bind (wpAny_load e ?_)
    refine wpAny_pure ?_
    show Q ((ts.map Value.ref).toArray.toList) _
    exact hQ h' ts zd
theorem meets_tuple_new_zip : Meets (Builtin.«tuple.__new__» ⟨[.type "tuple", .ref (b + ls.length + 2)], []⟩)
      (fun A R s => A.handled = none ∧ ZNew s.heap b ls rows m ∧ ∀ h' ts, ZD2 s.heap h' b ls.length rows m ts → R (.ok (.ret (.ref h'.objs.size))) { s with heap := h'.push { cls := .type "tuple", data := .seq (ts.map Value.ref).toArray } }) :=
  .of_wp fun prog w A R s h => by
    obtain ⟨hp, g, d, tk, os⟩ := s
    obtain ⟨hh, Z, h⟩ := h
    have hsub := sub_tuple_self
    have hinit := init_tuple_lookup
    have hmh := madeHere_tuple
    have hT : Shared.TypeIs ⟨hp, g, d, tk, os⟩ (.ref (b + ls.length + 2)) "zip" := ⟨_, Z.hz, rfl⟩
    have lim := Z.lim
    wp_walk using wpAny_loadPart' Z.hz, wpAny_typeOf hT, collect_zipN (A := A.in1) (s := ⟨hp, g, d, tk, os⟩) hh Z
    intro h' ts zd
    show wpAny _ _ (Builtin.Tuple.tupleExact (ts.map Value.ref).toArray >>= fun v => ret v) _ _ _
    unfold Builtin.Tuple.tupleExact
    refine wpAny_bind (wpAny_newObj_type ?_ (by show (ts.map Value.ref).toArray.size ≤ sizeLine; rw [List.size_toArray, List.length_map, zd.len, sizeLine_eq]; omega))
    exact wpAny_pure ⟨_, rfl, h h' ts zd⟩
theorem call_tupleZip {Q : Value → Shared → Prop} (hh : A.handled = none) (Z : ZNew s.heap b ls rows m)
    (hQ : ∀ h' ts, ZD2 s.heap h' b ls.length rows m ts → Q (.ref h'.objs.size) { s with heap := h'.push { cls := .type "tuple", data := .seq (ts.map Value.ref).toArray } }) : wpAny (model P w) A (call (.type "tuple") [.ref (b + ls.length + 2)]) Q E s :=
  callType_new F.called_tuple (by decide) (F.typeCall_tuple_1 _) (F.newCall_tuple_1 _) (fun obj => F.args_object_init_2 obj _) F.entry_tuple_new
    (meets_tuple_new_zip (b := b) (ls := ls) (rows := rows) (m := m)) ⟨hh, Z, fun h' ts zd => ⟨⟨_, Heap.get?_push_size _ rfl, rfl⟩, hQ h' ts zd⟩⟩
end
end Nm
set_option maxRecDepth 100000
set_option maxHeartbeats 4000000
/-! tuple(zip(*t)) as an expression -/
namespace Nm
open PySem PySem.Spec PyProof.Rows L2
section
variable {P : Program} {w : World} {A : Around} {E : Value → Shared → Prop} {m : Nat} {ls : List Addr} {rows : List (List Value)} {s : Shared}
/-- the heap behind the making -/
abbrev zipNH1 (h : Heap) (its : List Value) : Heap := h.push (tupN its)
abbrev zipNH2 (h : Heap) (its : List Value) : Heap := (zipNH1 h its).push (tupN (its.map fun _ => Value.none))
abbrev zipNH (h : Heap) (its : List Value) : Heap := (zipNH2 h its).push { cls := .type "zip", data := .fields #[.none, .bool false, .bool false, .ref h.objs.size, .ref (zipNH1 h its).objs.size] }
theorem meets_zipN_new (ls : List Addr) (n8 : ls.length ≤ 8) : Meets (Builtin.«zip.__new__» ⟨.type "zip" :: ls.map Value.ref, []⟩)
    (fun _ R s => (∀ l ∈ ls, ∃ xs, s.heap.IsTuple l xs) ∧ ∀ h' : Heap, h'.objs.size = s.heap.objs.size + ls.length → (∀ c o, s.heap.get? c = some o → h'.get? c = some o) → (∀ (k : Nat) (l : Addr), ls[k]? = some l → h'.IsTupleIter (s.heap.objs.size + k) l 0) →
      R (.ok (.ret (.ref (zipNH2 h' ((itsAt s.heap.objs.size ls.length).map Value.ref)).objs.size))) { s with heap := zipNH h' ((itsAt s.heap.objs.size ls.length).map Value.ref) }) :=
  .of_wp fun prog w A R s h => by
    obtain ⟨hp, g, d, tk, os⟩ := s
    obtain ⟨hl, h⟩ := h
    have hsub := sub_zip
    wp_walk using wpAny_iterAllT (A := A.in1) (s := ⟨hp, g, d, tk, os⟩) (ls := ls) hl
    intro h' hs hk hi
    have sl : ((itsAt hp.objs.size ls.length).map Value.ref).length ≤ sizeLine := by
      rw [List.length_map, List.length_map, List.length_range, sizeLine_eq]
      omega
    refine wpAny_bind (wpAny_newTuple ?_ sl)
    refine wpAny_bind (wpAny_newTuple ?_ (by rw [List.length_map]; exact sl))
    wp_walk
    exact ⟨_, rfl, h h' hs hk hi⟩
theorem call_zipN {Q : Value → Shared → Prop} (hl : ∀ (k : Nat) (l : Addr), ls[k]? = some l → ∃ r : List Value, rows[k]? = some r ∧ s.heap.IsTuple l r.toArray) (n1 : 1 ≤ ls.length) (n8 : ls.length ≤ 8) (rl : rows.length = ls.length) (rm : ∀ r ∈ rows, r.length = m) (lim : m ≤ 1000)
    (hQ : ∀ h', ZNew h' s.heap.objs.size ls rows m → (∀ c o, s.heap.get? c = some o → h'.get? c = some o) → Q (.ref (s.heap.objs.size + ls.length + 2)) { s with heap := h' }) : wpAny (model P w) A (call (.type "zip") (ls.map Value.ref)) Q E s := by
  have hl' : ∀ l ∈ ls, ∃ xs, s.heap.IsTuple l xs := fun l hm => by
    obtain ⟨k, hk⟩ := List.getElem?_of_mem hm
    obtain ⟨r, _, h⟩ := hl k l hk
    exact ⟨_, h⟩
  refine callType_new F.called_zip (by decide) (zipN_type _) (zipN_new _ (by rw [List.length_map]; exact n1) (by rw [List.length_map]; exact n8)) (fun obj => zipN_init obj _ (by rw [List.length_map]; exact n8)) F.entry_zip_new (meets_zipN_new ls n8) ⟨hl', fun h' hs hk hi => ?_⟩
  have z1 : (zipNH1 h' ((itsAt s.heap.objs.size ls.length).map Value.ref)).objs.size = s.heap.objs.size + ls.length + 1 := by rw [Heap.size_push, hs]
  have z2 : (zipNH2 h' ((itsAt s.heap.objs.size ls.length).map Value.ref)).objs.size = s.heap.objs.size + ls.length + 2 := by rw [Heap.size_push, z1]
  have z3 : (zipNH h' ((itsAt s.heap.objs.size ls.length).map Value.ref)).objs.size = s.heap.objs.size + ls.length + 3 := by rw [Heap.size_push, z2]
  have up : ∀ c o, h'.get? c = some o → (zipNH h' ((itsAt s.heap.objs.size ls.length).map Value.ref)).get? c = some o := fun c o e => Heap.get?_push_of_some _ (Heap.get?_push_of_some _ (Heap.get?_push_of_some _ e))
  have g3 : (zipNH h' ((itsAt s.heap.objs.size ls.length).map Value.ref)).get? (zipNH2 h' ((itsAt s.heap.objs.size ls.length).map Value.ref)).objs.size = some _ := Heap.get?_push_size _ rfl
  have g2 : (zipNH h' ((itsAt s.heap.objs.size ls.length).map Value.ref)).get? (zipNH1 h' ((itsAt s.heap.objs.size ls.length).map Value.ref)).objs.size = some _ := Heap.get?_push_of_some _ (Heap.get?_push_size _ rfl)
  have g1 : (zipNH h' ((itsAt s.heap.objs.size ls.length).map Value.ref)).get? h'.objs.size = some _ := Heap.get?_push_of_some _ (Heap.get?_push_of_some _ (Heap.get?_push_size _ rfl))
  rw [z2, z1, hs] at g3
  rw [z1] at g2
  rw [hs] at g1
  show _ ∧ _
  rw [z2]
  refine ⟨⟨_, g3, rfl⟩, hQ _ ⟨g3, ⟨g1, fun k l e => (hi k l e).at fun o => up _ o, fun k l e => ?_, fun l hm => ?_⟩, ⟨_, ?_, g2⟩, z3, n1, n8, rl, rm, lim⟩ fun c o e => up c o (hk c o e)⟩
  · obtain ⟨r, h1, h2⟩ := hl k l e
    exact ⟨r, h1, h2.at fun o e => up _ o (hk _ o e)⟩
  · obtain ⟨xs, o, ho, _⟩ := hl' l hm
    exact Heap.lt_size ho
  · simp
end
end Nm
set_option maxRecDepth 100000
set_option maxHeartbeats 4000000
/-! list(zip(xs, ys)) -/
namespace Nm
open PySem PySem.Spec PyProof.Rows L2
theorem zip_lenless : typeLookup (.type "zip") "__len__" = pure none := am_miss_of_fast (by decide +kernel)
theorem zip_hintless : typeLookup (.type "zip") "__length_hint__" = pure none := am_miss_of_fast (by decide +kernel)
/-- a list of references as it stands -/
abbrev refsObj (ts : List Addr) (c : Nat) : Obj := { cls := .type "list", dict := none, data := .seq (ts.map Value.ref).toArray c, slots := #[] }
/-- a zip on its way into the list at S; g: the heap ahead of it all -/
structure ZL (g h : Heap) (z TI TO i1 i2 l1 l2 S : Addr) (xs ys : Array Value) (i : Nat) (ts : List Addr) (c : Nat) : Prop where
  base : ∀ b o, g.get? b = some o → h.get? b = some o
  size : g.objs.size ≤ h.objs.size
  ti : IsPair h TI (.ref i1) (.ref i2)
  a1 : h.IsListIter i1 l1 i
  a2 : h.IsListIter i2 l2 i
  b1 : h.IsList l1 xs
  b2 : h.IsList l2 ys
  to : ∃ u v, IsPair h TO u v
  st : IsZip h z TI TO .none ∨ ∃ T f oT, IsZipHeld h z TI TO T f ∧ h.get? T = some oT ∧ T ≠ z ∧ T ≠ i1 ∧ T ≠ i2 ∧ T ≠ S
  at_ : h.get? S = some (refsObj ts c)
  len : ts.length = i
  nd : ts.Nodup
  each : ∀ (j : Nat) t, ts[j]? = some t → ∃ x y, xs[j]? = some x ∧ ys[j]? = some y ∧ IsPair h t x y ∧ t ≠ z ∧ t ≠ TO ∧ t ≠ i1 ∧ t ≠ i2 ∧ t ≠ S ∧ g.objs.size ≤ t
/-- S stands apart -/
structure Off (g : Heap) (z TI TO i1 i2 l1 l2 S : Addr) : Prop where
  oz : S ≠ z
  oti : S ≠ TI
  oto : S ≠ TO
  oi1 : S ≠ i1
  oi2 : S ≠ i2
  ol1 : S ≠ l1
  ol2 : S ≠ l2
  nz : g.get? z = none
  nto : g.get? TO = none
  n1 : g.get? i1 = none
  n2 : g.get? i2 = none
  ns : g.get? S = none
/-- what comes of it -/
structure ZD (g h : Heap) (S : Addr) (xs ys : Array Value) (ts : List Addr) (c : Nat) : Prop where
  base : ∀ b o, g.get? b = some o → h.get? b = some o
  at_ : h.get? S = some (refsObj ts c)
  len : ts.length = xs.size
  nd : ts.Nodup
  each : ∀ (j : Nat) t, ts[j]? = some t → ∃ x y, xs[j]? = some x ∧ ys[j]? = some y ∧ IsPair h t x y ∧ t ≠ S ∧ g.objs.size ≤ t
section
variable {P : Program} {w : World} {A : Around} {E : Value → Shared → Prop} {R : Result → Shared → Prop} {g : Heap} {z TI TO i1 i2 l1 l2 S : Addr} {xs ys : Array Value}
/-- S changed -/
theorem ZL.lay {h h' : Heap} {i : Nat} {ts : List Addr} {c c' : Nat} (Z : ZL g h z TI TO i1 i2 l1 l2 S xs ys i ts c) (O : Off g z TI TO i1 i2 l1 l2 S) (k : ∀ b o, b ≠ S → h.get? b = some o → h'.get? b = some o) (le : h.objs.size ≤ h'.objs.size)
    (at_ : h'.get? S = some (refsObj ts c')) : ZL g h' z TI TO i1 i2 l1 l2 S xs ys i ts c' := by
  refine ⟨fun b o e => k b o (fun q => by subst q; rw [O.ns] at e; cases e) (Z.base b o e), Nat.le_trans Z.size le, k _ _ O.oti.symm Z.ti, Z.a1.at fun o e => k _ o O.oi1.symm e, Z.a2.at fun o e => k _ o O.oi2.symm e, Z.b1.at fun o e => k _ o O.ol1.symm e, Z.b2.at fun o e => k _ o O.ol2.symm e, let ⟨u, v, b⟩ := Z.to; ⟨u, v, k _ _ O.oto.symm b⟩, ?_, at_, Z.len, Z.nd, fun j t e => ?_⟩
  · rcases Z.st with a | ⟨T, f, oT, a, b, n1, n2, n3, n4⟩
    · exact .inl (k _ _ O.oz.symm a)
    · exact .inr ⟨T, f, oT, k _ _ O.oz.symm a, k _ _ n4 b, n1, n2, n3, n4⟩
  · obtain ⟨x, y, ex, ey, ep, n1, n2, n3, n4, n5, n6⟩ := Z.each j t e
    exact ⟨x, y, ex, ey, k _ _ n5 ep, n1, n2, n3, n4, n5, n6⟩
theorem zl_loop (D : ZipApart z TI TO i1 i2 l1 l2) (O : Off g z TI TO i1 i2 l1 l2 S) (same : xs.size = ys.size) (lim : xs.size ≤ sizeLine) (hh : A.in1.handled = none) (res : Value) :
    ∀ (k i : Nat) (s : Shared) (ts : List Addr) (c : Nat), xs.size - i = k → i ≤ xs.size → ZL g s.heap z TI TO i1 i2 l1 l2 S xs ys i ts c →
      (∀ h' ts' c', ZD g h' S xs ys ts' c' → R (.ok (.ret res)) { s with heap := h' }) →
      codeAny (model P w) A (.builtin "list.extend.loop" ⟨[.ref S, .ref z, res], []⟩) R s := by
  intro k
  induction k with
  | zero =>
    intro i s ts c ek le Z hR
    obtain rfl : i = xs.size := by omega
    have fin : ∀ h', (∀ b o, b ≠ z → b ≠ TO → b ≠ i1 → b ≠ i2 → s.heap.get? b = some o → h'.get? b = some o) → R (.ok (.ret res)) { s with heap := h' } := fun h' kp => by
      refine hR h' ts c ⟨fun b o e => kp b o (fun q => ?_) (fun q => ?_) (fun q => ?_) (fun q => ?_) (Z.base b o e), kp _ _ O.oz O.oto O.oi1 O.oi2 Z.at_, Z.len, Z.nd, fun j t e => ?_⟩
      · subst q; rw [O.nz] at e; cases e
      · subst q; rw [O.nto] at e; cases e
      · subst q; rw [O.n1] at e; cases e
      · subst q; rw [O.n2] at e; cases e
      · obtain ⟨x, y, ex, ey, ep, n1, n2, n3, n4, n5, n6⟩ := Z.each j t e
        exact ⟨x, y, ex, ey, kp _ _ n1 n2 n3 n4 ep, n5, n6⟩
    have hend : xs[xs.size]? = none ∨ ys[xs.size]? = none := .inl (Array.getElem?_eq_none (Nat.le_refl _))
    refine codeAny_builtin F.entry_extend_loop (by
      rw [Around.under_plainId F.plain_extend_loop _]
      show wpAny _ A.in1 (pyNext (.ref z) >>= _) _ _ s
      refine wpAny_bind ?_
      obtain ⟨u, v, o0⟩ := Z.to
      rcases Z.st with a | ⟨T, f, oT, a, b, n1, n2, n3, n4⟩
      · exact wpAny_pyNext_zip_end hh D a Z.ti o0 Z.a1 Z.a2 Z.b1 Z.b2 hend fun h' kp => wpAny_pure (fin h' kp)
      · exact wpAny_pyNext_zip_end_held hh D a b Z.ti Z.a1 Z.a2 Z.b1 Z.b2 hend fun h' kp => wpAny_pure (fin h' fun b o m1 _ m3 m4 e => kp b o m1 m3 m4 e))
  | succ k ih =>
    intro i s ts c ek le Z hR
    have lt : i < xs.size := by omega
    have ex := Array.getElem?_eq_getElem lt
    have ey := Array.getElem?_eq_getElem (show i < ys.size by omega)
    have off : ∀ {b o}, s.heap.get? b = some o → s.heap.objs.size ≠ b := fun e => Nat.ne_of_gt (Heap.lt_size e)
    have m1 : s.heap.objs.size ≠ i1 := let ⟨_, e, _⟩ := Z.a1; off e
    have m2 : s.heap.objs.size ≠ i2 := let ⟨_, e, _⟩ := Z.a2; off e
    have m3 : s.heap.objs.size ≠ S := off Z.at_
    have m4 : s.heap.objs.size ≠ z := by rcases Z.st with a | ⟨_, _, _, a, _⟩ <;> exact off a
    -- behind one item
    have turn : ∀ h1, (∃ T f oT, IsZipHeld h1 z TI TO T f ∧ h1.get? T = some oT ∧ T ≠ z ∧ T ≠ i1 ∧ T ≠ i2 ∧ T ≠ S) → (∃ u v, IsPair h1 TO u v) → h1.IsListIter i1 l1 (i + 1) → h1.IsListIter i2 l2 (i + 1) → IsPair h1 s.heap.objs.size xs[i] ys[i] → h1.objs.size = s.heap.objs.size + 1 →
        (∀ b o, b ≠ z → b ≠ TO → b ≠ i1 → b ≠ i2 → s.heap.get? b = some o → h1.get? b = some o) →
        wpAny (model P w) A.in1 (updateSeq S (·.push (.ref s.heap.objs.size)) >>= fun _ => again (.builtin "list.extend.loop" ⟨[.ref S, .ref z, res], []⟩))
          (fun fin s' => match fin with | .done f => R (.ok f) s' | .again c' => c'.quiet = true ∧ codeAny (model P w) A c' R s') (fun e s' => R (.error e) s') { s with heap := h1 } := fun h1 st1 to1 c1 c2 cp csz kp => by
      obtain ⟨_, _, o0⟩ := Z.to
      have m5 : s.heap.objs.size ≠ TO := off o0
      have at1 : h1.get? S = some (refsObj ts c) := kp _ _ O.oz O.oto O.oi1 O.oi2 Z.at_
      have sz1 : (ts.map Value.ref).toArray.size = i := by simp [Z.len]
      have nin : s.heap.objs.size ∉ ts := fun m => by
        obtain ⟨j, hj⟩ := List.getElem?_of_mem m
        obtain ⟨_, _, _, _, ep, _⟩ := Z.each j _ hj
        exact off ep rfl
      refine wpAny_bind (wpAny_updateSeq at1 rfl (wpAny_pure ⟨plainId_quiet F.plain_extend_loop _, ?_⟩) (by rw [sz1]; omega) (by show ((ts.map Value.ref).toArray.push _).size ≤ sizeLine + 1; rw [Array.size_push, sz1]; omega))
      have oth : ∀ b o, b ≠ S → h1.get? b = some o → (h1.update S (Obj.mapSeq (·.push (.ref s.heap.objs.size)))).get? b = some o := fun b o n e => (Heap.get?_update_other _ _ n.symm).trans e
      have at2 := Heap.get?_update_self (Obj.mapSeq (·.push (.ref s.heap.objs.size))) at1 rfl
      have size2 : (h1.update S (Obj.mapSeq (·.push (.ref s.heap.objs.size)))).objs.size = s.heap.objs.size + 1 := by rw [Heap.size_update, csz]
      refine ih (i + 1) { s with heap := h1.update S (Obj.mapSeq (·.push (.ref s.heap.objs.size))) } (ts ++ [s.heap.objs.size]) (c + 1) (by omega) lt ⟨fun b o e => ?_, by show g.objs.size ≤ (h1.update S _).objs.size; rw [size2]; have := Z.size; omega, oth _ _ O.oti.symm (kp _ _ D.TIz D.TITO D.TIi1 D.TIi2 Z.ti), c1.at fun o e => oth _ o O.oi1.symm e, c2.at fun o e => oth _ o O.oi2.symm e,
        Z.b1.at fun o e => oth _ o O.ol1.symm (kp _ o D.l1z D.l1TO D.l1i1 D.l1i2 e), Z.b2.at fun o e => oth _ o O.ol2.symm (kp _ o D.l2z D.l2TO D.l2i1 D.l2i2 e), let ⟨u, v, b⟩ := to1; ⟨u, v, oth _ _ O.oto.symm b⟩, .inr ?_, ?_, by simp [Z.len], ?_, fun j t e => ?_⟩ fun h' ts' c' zd => hR h' ts' c' zd
      · refine oth _ _ (fun q => ?_) (kp _ _ (fun q => ?_) (fun q => ?_) (fun q => ?_) (fun q => ?_) (Z.base b o e))
        · subst q; rw [O.ns] at e; cases e
        · subst q; rw [O.nz] at e; cases e
        · subst q; rw [O.nto] at e; cases e
        · subst q; rw [O.n1] at e; cases e
        · subst q; rw [O.n2] at e; cases e
      · obtain ⟨T, f, oT, a, b, n1, n2, n3, n4⟩ := st1
        exact ⟨T, f, oT, oth _ _ O.oz.symm a, oth _ _ n4 b, n1, n2, n3, n4⟩
      · rw [at2]
        simp [refsObj, Obj.mapSeq]
      · rw [List.nodup_append]
        refine ⟨Z.nd, by simp, fun a ha b hb q => ?_⟩
        rw [List.mem_singleton] at hb
        subst hb q
        exact nin ha
      · by_cases q : j < ts.length
        · rw [List.getElem?_append_left q] at e
          obtain ⟨x, y, fx, fy, ep, n1, n2, n3, n4, n5, n6⟩ := Z.each j t e
          exact ⟨x, y, fx, fy, oth _ _ n5 (kp _ _ n1 n2 n3 n4 ep), n1, n2, n3, n4, n5, n6⟩
        · have ej : j = i := by
            have := (List.getElem?_eq_some_iff.mp e).1
            rw [List.length_append, List.length_singleton, Z.len] at this
            rw [Z.len] at q
            omega
          subst ej
          rw [List.getElem?_append_right (by rw [Z.len]; exact Nat.le_refl _), Z.len, Nat.sub_self] at e
          cases e
          exact ⟨_, _, ex, ey, oth _ _ m3 cp, m4, m5, m1, m2, m3, Z.size⟩
    refine codeAny_builtin F.entry_extend_loop (by
      rw [Around.under_plainId F.plain_extend_loop _]
      show wpAny _ A.in1 (pyNext (.ref z) >>= _) _ _ s
      refine wpAny_bind ?_
      obtain ⟨u, v, o0⟩ := Z.to
      rcases Z.st with a | ⟨T, f, oT, a, b, n1, n2, n3, n4⟩
      · refine wpAny_pyNext_zip_item D a Z.ti o0 Z.a1 Z.a2 Z.b1 Z.b2 ex ey fun h1 q1 q2 q3 q4 q5 q6 kp => ?_
        exact turn h1 ⟨s.heap.objs.size, false, _, q1, q5, m4, m1, m2, m3⟩ ⟨_, _, q2⟩ q3 q4 q5 q6 kp
      · refine wpAny_pyNext_zip_item_held D a b Z.ti Z.a1 Z.a2 Z.b1 Z.b2 ex ey fun h1 q1 q3 q4 q5 q6 kp => ?_
        exact turn h1 ⟨T, true, oT, q1, kp _ _ n1 n2 n3 b, n1, n2, n3, n4⟩ ⟨u, v, kp _ _ D.TOz D.TOi1 D.TOi2 o0⟩ q3 q4 q5 q6 fun b o k1 _ k3 k4 e => kp b o k1 k3 k4 e)
end
end Nm
set_option maxRecDepth 100000
set_option maxHeartbeats 4000000
/-! list(zip(xs, ys)) as an expression -/
namespace Nm
open PySem PySem.Spec PyProof.Rows L2
section
variable {P : Program} {w : World} {A : Around} {E : Value → Shared → Prop} {R : Result → Shared → Prop} {g : Heap} {z TI TO i1 i2 l1 l2 S : Addr} {xs ys : Array Value} {s : Shared}
/-- what a list's making waits for -/
abbrev Waits (P : Program) (w : World) (A : Around) (R : Result → Shared → Prop) : PySem.Fin → Shared → Prop := fun fin s' => match fin with
  | .done f => R (.ok f) s'
  | .again c' => c'.quiet = true ∧ codeAny (model P w) A c' R s'
theorem extend_zip (D : ZipApart z TI TO i1 i2 l1 l2) (O : Off g z TI TO i1 i2 l1 l2 S) (same : xs.size = ys.size) (lim : xs.size ≤ sizeLine) (hh : A.in1.handled = none) (res : Value) {c : Nat} (hz : IsZip s.heap z TI TO .none) (Z : ZL g s.heap z TI TO i1 i2 l1 l2 S xs ys 0 [] c)
    (hR : ∀ h' ts c', ZD g h' S xs ys ts c' → R (.ok (.ret res)) { s with heap := h' }) :
    wpAny (model P w) A.in1 (Builtin.List.listExtendWith (.ref S) (.ref z) res) (Waits P w A R) (fun e s' => R (.error e) s') s := by
  have ty : s.TypeIs (.ref z) "zip" := ⟨_, hz, rfl⟩
  unfold Builtin.List.listExtendWith
  refine wpAny_bind (wpAny_typeOf ty ?_)
  have q1 : Builtin.List.listSameRef (.ref S) (.ref z) = false := by simp [Builtin.List.listSameRef, O.oz]
  have q2 : (Value.type "zip" == Value.type "list") = false := by decide
  have q3 : (Value.type "zip" == Value.type "tuple") = false := by decide
  simp only [q1, q2, q3, Bool.or_false, Bool.false_eq_true, if_false]
  refine wpAny_bind (wpAny_pyIter_zip hz (wpAny_bind (wpAny_holding ?_)))
  unfold Builtin.List.listLengthHint
  refine wpAny_bind (wpAny_specialOf ty zip_lenless ?_)
  show wpAny _ A.in1 (specialOf (Value.ref z) (Str.ofString "__length_hint__") >>= _) _ _ _
  refine wpAny_bind (wpAny_specialOf ty zip_hintless (wpAny_pure ?_))
  show wpAny _ A.in1 (rule "list.extend.makes-room" >>= fun _ => Builtin.List.listTouch (.ref S) >>= fun _ => again (.builtin "list.extend.loop" ⟨[.ref S, .ref z, res], []⟩)) _ _ _
  refine wpAny_bind (wpAny_rule (wpAny_bind ?_))
  show wpAny _ A.in1 (updateSeq S (·.push .none) >>= fun _ => updateSeq S (·.pop)) _ _ _
  refine wpAny_bind (wpAny_updateSeq Z.at_ rfl ?_ (by simp [sizeLine_eq]) (by simp [sizeLine_eq]))
  have at2 := Heap.get?_update_self (Obj.mapSeq (·.push Value.none)) Z.at_ rfl
  refine wpAny_updateSeq at2 rfl ?_ (by simp [Obj.mapSeq, refsObj, sizeLine_eq]) (by simp [Obj.mapSeq, refsObj, sizeLine_eq])
  have at3 := Heap.get?_update_self (Obj.mapSeq (·.pop)) at2 rfl
  have oth : ∀ b o, b ≠ S → s.heap.get? b = some o → ((s.heap.update S (Obj.mapSeq (·.push Value.none))).update S (Obj.mapSeq (·.pop))).get? b = some o := fun b o n e => (Heap.get?_update_other _ _ n.symm).trans ((Heap.get?_update_other _ _ n.symm).trans e)
  have Z2 := Z.lay (h' := (s.heap.update S (Obj.mapSeq (·.push Value.none))).update S (Obj.mapSeq (·.pop))) (c' := c + 2) O oth (by rw [Heap.size_update, Heap.size_update]; exact Nat.le_refl _) (by rw [at3]; simp [refsObj, Obj.mapSeq])
  exact wpAny_pure ⟨plainId_quiet F.plain_extend_loop _, zl_loop D O same lim hh res _ 0 _ [] (c + 2) rfl (Nat.zero_le _) Z2 hR⟩
theorem init_zip (D : ZipApart z TI TO i1 i2 l1 l2) (O : Off g z TI TO i1 i2 l1 l2 S) (same : xs.size = ys.size) (lim : xs.size ≤ sizeLine) (hh : A.in1.handled = none) {c : Nat} (hz : IsZip s.heap z TI TO .none) (Z : ZL g s.heap z TI TO i1 i2 l1 l2 S xs ys 0 [] c)
    (hR : ∀ h' ts c', ZD g h' S xs ys ts c' → R (.ok (.ret .none)) { s with heap := h' }) :
    wpAny (model P w) A.in1 (Builtin.«list.__init__» ⟨[.ref S, .ref z], []⟩) (Waits P w A R) (fun e s' => R (.error e) s') s := by
  show wpAny _ A.in1 (Builtin.List.listItems (.ref S) >>= fun old => Builtin.List.listUpdate (.ref S) (fun _ => #[]) >>= fun _ => letGo old.toList.reverse >>= fun _ => Builtin.List.listExtendWith (.ref S) (.ref z) .none) _ _ s
  refine wpAny_bind ?_
  unfold Builtin.List.listItems
  refine wpAny_bind (wpAny_seqItems Z.at_ rfl (wpAny_pure ?_))
  show wpAny _ A.in1 (updateSeq S (fun _ => #[]) >>= fun _ => letGo ((([] : List Addr).map Value.ref).toArray).toList.reverse >>= fun _ => Builtin.List.listExtendWith (.ref S) (.ref z) .none) _ _ s
  refine wpAny_bind (wpAny_updateSeq Z.at_ rfl ?_ (by simp [sizeLine_eq]) (by simp [sizeLine_eq]))
  have at2 := Heap.get?_update_self (Obj.mapSeq (fun _ => (#[] : Array Value))) Z.at_ rfl
  have oth : ∀ b o, b ≠ S → s.heap.get? b = some o → (s.heap.update S (Obj.mapSeq (fun _ => (#[] : Array Value)))).get? b = some o := fun b o n e => (Heap.get?_update_other _ _ n.symm).trans e
  have Z2 := Z.lay (h' := s.heap.update S (Obj.mapSeq (fun _ => (#[] : Array Value)))) (c' := c) O oth (by rw [Heap.size_update]; exact Nat.le_refl _) (by rw [at2]; simp [refsObj, Obj.mapSeq])
  exact wpAny_bind (wpAny_letGo (extend_zip (s := { s with heap := s.heap.update S (Obj.mapSeq (fun _ => (#[] : Array Value))) }) D O same lim hh .none (oth _ _ O.oz.symm hz) Z2 hR))
/-- list(z) of a zip just made -/
theorem call_listZip {Q : Value → Shared → Prop} {h0 : Heap} (la : l1 < h0.objs.size) (lb : l2 < h0.objs.size) (hb1 : h0.IsList l1 xs) (hb2 : h0.IsList l2 ys) (same : xs.size = ys.size) (lim : xs.size ≤ sizeLine) (hh : A.in1.in1.handled = none)
    (hz : IsZip s.heap (h0.objs.size + 4) (h0.objs.size + 2) (h0.objs.size + 3) .none) (hTI : IsPair s.heap (h0.objs.size + 2) (.ref h0.objs.size) (.ref (h0.objs.size + 1))) (hTO : IsPair s.heap (h0.objs.size + 3) .none .none) (a1 : s.heap.IsListIter h0.objs.size l1 0) (a2 : s.heap.IsListIter (h0.objs.size + 1) l2 0)
    (hsz : s.heap.objs.size = h0.objs.size + 5) (hk : ∀ b o, h0.get? b = some o → s.heap.get? b = some o)
    (hQ : ∀ h' ts c', ZD h0 h' (h0.objs.size + 5) xs ys ts c' → Q (.ref (h0.objs.size + 5)) { s with heap := h' }) : wpAny (model P w) A (call (.type "list") [.ref (h0.objs.size + 4)]) Q E s := by
  have fresh : ∀ k, h0.get? (h0.objs.size + k) = none := fun k => Heap.get?_none_of_le (Nat.le_add_right _ _)
  have O : Off h0 (h0.objs.size + 4) (h0.objs.size + 2) (h0.objs.size + 3) h0.objs.size (h0.objs.size + 1) l1 l2 (h0.objs.size + 5) := ⟨Nat.ne_of_gt (Nat.add_lt_add_left (by decide) _), Nat.ne_of_gt (Nat.add_lt_add_left (by decide) _), Nat.ne_of_gt (Nat.add_lt_add_left (by decide) _), Nat.ne_of_gt (Nat.lt_add_of_pos_right (by decide)), Nat.ne_of_gt (Nat.add_lt_add_left (by decide) _), Nat.ne_of_gt (Nat.lt_add_right 5 la), Nat.ne_of_gt (Nat.lt_add_right 5 lb), fresh 4, fresh 3, fresh 0, fresh 1, fresh 5⟩
  refine callType_codes (Q₁ := fun obj s₁ => obj = .ref s.heap.objs.size ∧ s₁ = { s with heap := s.heap.push { cls := .type "list", data := .seq #[] } }) F.called_list (F.typeCall_list_1 _) F.entry_list_init (code_list_new _ ⟨rfl, rfl⟩) fun obj s₁ h₁ => ?_
  obtain ⟨rfl, rfl⟩ := h₁
  have at_ : (s.heap.push { cls := .type "list", data := .seq #[] }).get? s.heap.objs.size = some { cls := .type "list", data := .seq #[] } := Heap.get?_push_size _ rfl
  have kp : ∀ b o, s.heap.get? b = some o → (s.heap.push { cls := .type "list", data := .seq #[] }).get? b = some o := fun b o e => Heap.get?_push_of_some _ e
  refine ⟨⟨_, at_, rfl⟩, F.args_list_init_2 _ _, ?_⟩
  rw [hsz] at at_ ⊢
  refine init_zip (s := { s with heap := s.heap.push { cls := .type "list", data := .seq #[] } }) (PySem.W.ktu_apart h0.objs.size l1 l2 la lb) O same lim hh (kp _ _ hz) ⟨fun b o e => kp b o (hk b o e), by show h0.objs.size ≤ (s.heap.push _).objs.size; rw [Heap.size_push, hsz]; omega, kp _ _ hTI, a1.at fun o e => kp _ o e, a2.at fun o e => kp _ o e, hb1.at fun o e => kp _ o (hk _ o e), hb2.at fun o e => kp _ o (hk _ o e), ⟨_, _, kp _ _ hTO⟩, .inl (kp _ _ hz), at_, rfl, List.nodup_nil, fun j t e => by simp at e⟩ fun h' ts c' zd => ?_
  exact ⟨rfl, hQ h' ts c' zd⟩
/-! ### the objects that come of it -/
theorem refs_vals : ∀ ts : List Addr, Vals (ts.map V.ref) (ts.map Value.ref)
  | [] => .nil
  | t :: ts => .cons (show RelV (.ref t) (.ref t) from rfl) (refs_vals ts)
/-- tuples laid at these places -/
def layT (H : Hp) : List Addr → List V → List V → Hp
  | t :: ts, x :: xs, y :: ys => upd (layT H ts xs ys) t (.tup [x, y])
  | _, _, _ => H
theorem layT_out {H : Hp} {b : Addr} : ∀ {ts : List Addr} {xs ys : List V}, b ∉ ts → layT H ts xs ys b = H b
  | [], _, _, _ => by unfold layT; rfl
  | _ :: _, [], _, _ => by unfold layT; rfl
  | _ :: _, _ :: _, [], _ => by unfold layT; rfl
  | t :: ts, x :: xs, y :: ys, n => by
    show upd (layT H ts xs ys) t _ b = H b
    rw [upd_ne fun e => n (by rw [e]; exact List.mem_cons_self)]
    exact layT_out fun m => n (List.mem_cons_of_mem _ m)
theorem layT_at {H : Hp} : ∀ {ts : List Addr} {xs ys : List V} {j : Nat} {t : Addr} {x y : V}, ts.Nodup → ts[j]? = some t → xs[j]? = some x → ys[j]? = some y → layT H ts xs ys t = some (.tup [x, y])
  | [], _, _, _, _, _, _, _, e, _, _ => by simp at e
  | _ :: _, [], _, _, _, _, _, _, _, e, _ => by simp at e
  | _ :: _, _ :: _, [], _, _, _, _, _, _, _, e => by simp at e
  | t :: ts, x :: xs, y :: ys, 0, _, _, _, _, e1, e2, e3 => by
    cases e1
    cases e2
    cases e3
    exact upd_same
  | t :: ts, x :: xs, y :: ys, j + 1, t', _, _, nd, e1, e2, e3 => by
    obtain ⟨n1, n2⟩ := List.nodup_cons.mp nd
    rw [List.getElem?_cons_succ] at e1 e2 e3
    show upd (layT H ts xs ys) t _ t' = _
    rw [upd_ne fun e => n1 (by rw [← e]; exact List.mem_of_getElem? e1)]
    exact layT_at n2 e1 e2 e3
variable {X : Cx} {pins : List (Addr × Obj)} {σ : L2.St} {H H' : Hp} {h' : Heap}
/-- many objects laid at once -/
theorem laid_all (I : Inv X pins σ H s) (k : ∀ b u, s.heap.get? b = some u → h'.get? b = some u) (old : ∀ b, b < s.heap.objs.size → H' b = H b) (new : ∀ b o, s.heap.objs.size ≤ b → H' b = some o → ObjOk X.prog X.w H' h' b o) : Inv X pins σ H' { s with heap := h' } := by
  have same : ∀ b o, H b = some o → H' b = some o := fun b o e => (old b (I.hok.lt e)).trans e
  refine I.un (t' := s.toks) ⟨fun b o e _ _ _ => k b o e, fun b o e _ _ _ => ⟨o.slots, k b o e⟩, fun b o e n _ => (old b (Heap.lt_size e)).trans n, fun b o e _ => ⟨o, k b o e⟩, fun b xs e => same b _ e, fun b o u e => same b _ e, fun b ps e => ⟨#[], by rw [same b _ e]; simp⟩⟩ fun b o e => ?_
  by_cases c : b < s.heap.objs.size
  · rw [old b c] at e
    exact (I.hok b o e).stay (fun b u _ q => k b u q) (fun b q => same b _ q) fun b xs q => same b _ q
  · exact new b o (Nat.le_of_not_lt c) e
/-- list(zip(xs, ys)): new tuples in a new list -/
def tListZip (K : PySem.W.Frag) (t : TA) : TE := fun σ H Q => t σ H fun vs H1 => ∃ (a b : Addr) (xs ys : List V), vs = [.ref a, .ref b] ∧ SqL K H1 a xs ∧ SqL K H1 b ys ∧ xs.length = ys.length ∧ xs.length ≤ 1000 ∧
  ∀ (p : Addr) (ts : List Addr) (H2 : Hp), H1 p = none → ts.length = xs.length → H2 p = some (.lst (ts.map V.ref)) → (∀ (i : Nat) (t : Addr), ts[i]? = some t → ∃ x y, xs[i]? = some x ∧ ys[i]? = some y ∧ H2 t = some (.tup [x, y])) → (∀ b o, H1 b = some o → H2 b = some o) → Q (.ref p) H2
theorem pe_listZip {e e2 : Expr} {t : TA} {p p2 q pos : Pos} (hc : X.calm = true) (g1 : Gl X "list") (m1 : X.mg "list" = none) (g2 : Gl X "zip") (m2 : X.mg "zip" = none) (ha : PA X [e, e2] t)
    (n1 : starEach [e, e2] X.env = (false, eval e X.env) :: starEach [e2] X.env := by rfl) (n2 : (backTo q (starEach [e2] X.env)).any (·.1) = false := by rfl) (n3 : starEach [.Call (.Name "zip" p2) [e, e2] [] q] X.env = (false, eval (.Call (.Name "zip" p2) [e, e2] [] q) X.env) :: starEach [] X.env := by rfl) : PE X (.Call (.Name "list" p) [.Call (.Name "zip" p2) [e, e2] [] q] [] pos) (tListZip X.K t) := by
  refine ⟨fun pins s σ H Q I h => ?_⟩
  refine Call_ (ld_blt I g1 m1 (show bootBuiltins "list" = some (.type "list") by decide +kernel) (PyProof.Rows.callWith_type1 (PyProof.Rows.args_cons ?_ n3) n3 rfl))
  refine Call_ (ld_blt I g2 m2 PyProof.Rows.boot_zip (PyProof.Rows.callWith_type1 (thn (ha.run q pins s σ H _ I h) fun us s1 ⟨vs, H1, I1, r1, q1⟩ => ?_) n1 n2))
  obtain ⟨a, b, xs, ys, rfl, hqx, hqy, same, lim, k⟩ := q1
  obtain ⟨its, rv, p1, _⟩ := I1.list hqx
  obtain ⟨its2, rv2, p2', _⟩ := I1.list hqy
  have e1 := rv.length
  have e2' := rv2.length
  cases r1 with
  | cons r rr =>
    cases rr with
    | cons r' rr =>
      cases rr
      cases r
      cases r'
      refine call_zip_2 p1.isList p2'.isList fun h1 hz hTI hTO a1 a2 hsz hk => PyProof.Rows.args_nil ?_
      refine call_listZip (s := { s1 with heap := h1 }) (h0 := s1.heap) p1.lt p2'.lt p1.isList p2'.isList (by simp only [List.size_toArray]; omega) (by simp only [List.size_toArray, sizeLine_eq]; omega) (I1.ok.hd hc) hz hTI hTO a1 a2 hsz hk fun h2 ts c zd => ?_
      have len : ts.length = xs.length := by rw [zd.len, List.size_toArray, e1]
      have nsT : s1.heap.objs.size + 5 ∉ ts := fun m => by
        obtain ⟨j, hj⟩ := List.getElem?_of_mem m
        obtain ⟨_, _, _, _, _, n, _⟩ := zd.each j _ hj
        exact n rfl
      have at1 : upd (layT H1 ts xs ys) (s1.heap.objs.size + 5) (.lst (ts.map V.ref)) (s1.heap.objs.size + 5) = some (.lst (ts.map V.ref)) := upd_same
      have tup1 : ∀ (j : Nat) t x y, ts[j]? = some t → xs[j]? = some x → ys[j]? = some y → upd (layT H1 ts xs ys) (s1.heap.objs.size + 5) (.lst (ts.map V.ref)) t = some (.tup [x, y]) := fun j t x y f1 f2 f3 => by
        rw [upd_ne fun q => nsT (by rw [← q]; exact List.mem_of_getElem? f1)]
        exact layT_at zd.nd f1 f2 f3
      have old1 : ∀ b, b < s1.heap.objs.size → upd (layT H1 ts xs ys) (s1.heap.objs.size + 5) (.lst (ts.map V.ref)) b = H1 b := fun b lt => by
        rw [upd_ne (Nat.ne_of_lt (Nat.lt_add_right 5 lt))]
        refine layT_out fun m => ?_
        obtain ⟨j, hj⟩ := List.getElem?_of_mem m
        obtain ⟨_, _, _, _, _, _, n⟩ := zd.each j _ hj
        exact absurd lt (Nat.not_lt.mpr n)
      refine ⟨.ref (s1.heap.objs.size + 5), _, laid_all (s := s1) I1 zd.base old1 fun b o ge eb => ?_, rfl, k (s1.heap.objs.size + 5) ts _ (I1.hok.fresh (Nat.le_add_right _ _)) len at1 (fun j t f1 => ?_) fun b o eb => ?_⟩
      · by_cases cS : b = s1.heap.objs.size + 5
        · subst cS
          rw [at1] at eb
          cases eb
          exact ⟨by rw [List.length_map, len, sizeLine_eq]; omega, ts.map Value.ref, c, refs_vals ts, zd.at_⟩
        · by_cases cT : b ∈ ts
          · obtain ⟨j, hj⟩ := List.getElem?_of_mem cT
            have jl : j < ts.length := (List.getElem?_eq_some_iff.mp hj).1
            have fx := List.getElem?_eq_getElem (show j < xs.length by omega)
            have fy := List.getElem?_eq_getElem (show j < ys.length by omega)
            rw [tup1 j b _ _ hj fx fy] at eb
            cases eb
            obtain ⟨u, v, hu, hv, hp, _⟩ := zd.each j b hj
            obtain ⟨u', hu', ru⟩ := rv.get fx
            obtain ⟨v', hv', rv'⟩ := rv2.get fy
            have eu : u' = u := Option.some.inj (hu'.symm.trans (by simpa using hu))
            have ev : v' = v := Option.some.inj (hv'.symm.trans (by simpa using hv))
            subst eu ev
            exact ⟨by show 2 ≤ sizeLine; decide, [u', v'], .cons ru (.cons rv' .nil), ⟨_, hp, rfl, _, rfl⟩⟩
          · rw [upd_ne cS, layT_out cT, I1.hok.fresh ge] at eb
            cases eb
      · have jl : j < ts.length := (List.getElem?_eq_some_iff.mp f1).1
        have fx := List.getElem?_eq_getElem (show j < xs.length by omega)
        have fy := List.getElem?_eq_getElem (show j < ys.length by omega)
        exact ⟨_, _, fx, fy, tup1 j t _ _ f1 fx fy⟩
      · rw [old1 b (I1.hok.lt eb)]
        exact eb
end
end Nm
set_option maxRecDepth 100000
set_option maxHeartbeats 4000000
/-! tuple(zip(*t)), t a tuple of tuples -/
namespace Nm
open PySem PySem.Spec PyProof.Rows L2
open PySem.W (Looks.of_pure)
/-- tuples laid at these places -/
def layC (H : Hp) (cs : List Addr) (col : Nat → List V) : Hp := fun x => if x ∈ cs then some (.tup (col (cs.idxOf x))) else H x
theorem layC_out {H : Hp} {cs : List Addr} {col : Nat → List V} {x : Addr} (h : x ∉ cs) : layC H cs col x = H x := if_neg h
theorem layC_at {H : Hp} {cs : List Addr} {col : Nat → List V} (nd : cs.Nodup) {j : Nat} {c : Addr} (h : cs[j]? = some c) : layC H cs col c = some (.tup (col j)) := by
  have e : cs.idxOf c = j := by
    have hj := (List.getElem?_eq_some_iff.mp h).1
    have hc := (List.getElem?_eq_some_iff.mp h).2
    rw [← hc]
    exact nd.idxOf_getElem j hj
  unfold layC
  rw [if_pos (List.mem_of_getElem? h), e]
def tTurned (K : PySem.W.Frag) (te : TE) : TE := fun σ H Q => te σ H fun x H1 => ∃ (t : Addr) (ts : List Addr) (rows : List (List V)) (m : Nat), x = .ref t ∧ SqT K H1 t (ts.map V.ref) ∧ rows.length = ts.length ∧ (∀ (k : Nat) (a : Addr), ts[k]? = some a → ∃ r, rows[k]? = some r ∧ SqT K H1 a r) ∧ (∀ r ∈ rows, r.length = m) ∧
  1 ≤ ts.length ∧ ts.length ≤ 8 ∧ m ≤ 1000 ∧ ∀ (p : Addr) (cs : List Addr) (H2 : Hp), H1 p = none → cs.length = m → H2 p = some (.tup (cs.map V.ref)) → (∀ (j : Nat) (c : Addr), cs[j]? = some c → H1 c = none ∧ H2 c = some (.tup (rows.map fun r => r.getD j .non))) → Same H1 H2 → Q (.ref p) H2
section
variable {X : Cx} {pins : List (Addr × Obj)} {σ : L2.St} {H : Hp} {s : Shared}
theorem refs_of_vals : ∀ {ts : List Addr} {us : List Value}, Vals (ts.map V.ref) us → us = ts.map Value.ref
  | [], _, .nil => rfl
  | t :: ts, _, .cons r rr => by
    cases (show _ = Value.ref t from r)
    rw [refs_of_vals rr]
    rfl
theorem vals_getD : ∀ {xs : List V} {us : List Value} (_ : Vals xs us) (j : Nat), j < xs.length → RelV (xs.getD j .non) (us.getD j .none)
  | _, _, .nil, j, h => absurd h (Nat.not_lt_zero j)
  | _, _, .cons r rr, 0, _ => r
  | _, _, .cons r rr, j + 1, h => vals_getD rr j (Nat.lt_of_succ_lt_succ h)
/-- the columns as they stand -/
theorem vals_col {j m : Nat} (hj : j < m) : ∀ {rows : List (List V)} {us : List (List Value)}, (∀ r ∈ rows, r.length = m) → rows.length = us.length → (∀ (k : Nat) r u, rows[k]? = some r → us[k]? = some u → Vals r u) → Vals (rows.map fun r => r.getD j .non) (us.map fun u => u.getD j .none)
  | [], [], _, _, _ => .nil
  | [], _ :: _, _, e, _ => by cases e
  | _ :: _, [], _, e, _ => by cases e
  | r :: rows, u :: us, hm, e, h => .cons (vals_getD (h 0 r u rfl rfl) j (by rw [hm r List.mem_cons_self]; exact hj)) (vals_col hj (fun r' h' => hm r' (List.mem_cons_of_mem _ h')) (by simpa using e) fun k r' u' h1 h2 => h (k + 1) r' u' h1 h2)
theorem pe_tupleZip {e : Expr} {te : TE} {p p2 p3 q pos : Pos} (hc : X.calm = true) (g1 : Gl X "tuple") (m1 : X.mg "tuple" = none) (g2 : Gl X "zip") (m2 : X.mg "zip" = none) (he : PE X e te)
    (hst : starEach [.Starred e p3] X.env = [(true, eval e X.env)] := by rfl) (n3 : starEach [.Call (.Name "zip" p2) [.Starred e p3] [] q] X.env = (false, eval (.Call (.Name "zip" p2) [.Starred e p3] [] q) X.env) :: starEach [] X.env := by rfl) :
    PE X (.Call (.Name "tuple" p) [.Call (.Name "zip" p2) [.Starred e p3] [] q] [] pos) (tTurned X.K te) := by
  refine ⟨fun pins s σ H Q I h => ?_⟩
  refine Call_ (ld_blt I g1 m1 (show bootBuiltins "tuple" = some (.type "tuple") by decide +kernel) (PyProof.Rows.callWith_type1 (PyProof.Rows.args_cons ?_ n3) n3 rfl))
  refine Call_ (ld_blt I g2 m2 PyProof.Rows.boot_zip ?_)
  rw [hst]
  refine PySem.W.ks_call (P := fun _ => True) rfl (fun _ _ => ⟨_, .inr (.inl rfl), Looks.of_pure rfl⟩) (PySem.W.ks_lone (thn (he.run pins s σ H _ I h) fun v s1 ⟨y, H1, I1, ry, t, ts, rows, m, ey, hx, rl, hrow, rm, n1, n8, lim, k⟩ => ?_))
  subst ey
  obtain rfl : v = Value.ref t := ry
  refine StX.star_any I1 (.inl hx) fun us s2 I2 rv => ⟨trivial, ?_⟩
  obtain rfl := refs_of_vals rv
  have hr : ∀ (n : Nat) (a : Addr), ts[n]? = some a → ∃ (r : List V) (u : List Value), rows[n]? = some r ∧ Vals r u ∧ s2.heap.IsTuple a u.toArray := fun n a ha => by
    obtain ⟨r, h1, h2⟩ := hrow n a ha
    obtain ⟨its, rv', p1, _⟩ := I2.tuple h2
    exact ⟨r, its, h1, rv', p1⟩
  obtain ⟨us, ul, hus⟩ : ∃ us : List (List Value), us.length = ts.length ∧ ∀ (n : Nat) (a : Addr), ts[n]? = some a → ∃ (r : List V) (u : List Value), rows[n]? = some r ∧ us[n]? = some u ∧ Vals r u ∧ s2.heap.IsTuple a u.toArray := by
    have all : ∀ k, k ≤ ts.length → ∃ us : List (List Value), us.length = k ∧ ∀ (n : Nat) (a : Addr), n < k → ts[n]? = some a → ∃ (r : List V) (u : List Value), rows[n]? = some r ∧ us[n]? = some u ∧ Vals r u ∧ s2.heap.IsTuple a u.toArray := by
      intro k
      induction k with
      | zero => exact fun _ => ⟨[], rfl, fun n a h => absurd h (Nat.not_lt_zero n)⟩
      | succ k ih =>
        intro hk
        obtain ⟨us, ul, hus⟩ := ih (by omega)
        obtain ⟨a, ha⟩ : ∃ a, ts[k]? = some a := ⟨_, List.getElem?_eq_getElem hk⟩
        obtain ⟨r, u, h1, h2, h3⟩ := hr k a ha
        refine ⟨us ++ [u], by rw [List.length_append, ul]; rfl, fun n a' hn ha' => ?_⟩
        by_cases e : n = k
        · subst e
          rw [ha] at ha'
          cases ha'
          exact ⟨r, u, h1, by rw [List.getElem?_append_right (by omega), ul, Nat.sub_self]; rfl, h2, h3⟩
        · obtain ⟨r', u', q1, q2, q3⟩ := hus n a' (by omega) ha'
          exact ⟨r', u', q1, by rw [List.getElem?_append_left (by omega)]; exact q2, q3⟩
    obtain ⟨us, ul, hus⟩ := all ts.length (Nat.le_refl _)
    exact ⟨us, ul, fun n a ha => hus n a (List.getElem?_eq_some_iff.mp ha).1 ha⟩
  have um : ∀ u ∈ us, u.length = m := fun u hu => by
    obtain ⟨n, hn⟩ := List.getElem?_of_mem hu
    have nl := (List.getElem?_eq_some_iff.mp hn).1
    obtain ⟨a, ha⟩ : ∃ a, ts[n]? = some a := ⟨_, List.getElem?_eq_getElem (by omega)⟩
    obtain ⟨r, u', q1, q2, q3, _⟩ := hus n a ha
    rw [hn] at q2
    cases q2
    rw [← q3.length]
    exact rm r (List.mem_of_getElem? q1)
  refine call_zipN (rows := us) (m := m) (fun n a ha => by obtain ⟨_, u, _, q2, _, q4⟩ := hus n a ha; exact ⟨u, q2, q4⟩) n1 n8 ul um lim fun h' Z hk => ?_
  refine PyProof.Rows.args_nil ?_
  refine call_tupleZip (s := { s2 with heap := h' }) (I2.ok.hd hc) Z fun h2 cs zd => ?_
  have kp : ∀ c o, s2.heap.get? c = some o → (h2.push { cls := .type "tuple", data := .seq (cs.map Value.ref).toArray }).get? c = some o := fun c o e => Heap.get?_push_of_some _ (zd.base c o (Heap.lt_size e) (hk c o e))
  have big : ∀ (j : Nat) (c : Addr), cs[j]? = some c → s2.heap.objs.size ≤ c ∧ c < h2.objs.size := fun j c e => by
    obtain ⟨e1, e2⟩ := zd.each j c e
    exact ⟨by have e2 := @id (@LT.lt Nat _ _ c) e2; omega, Heap.lt_size e1⟩
  have pn : h2.objs.size ∉ cs := fun mm => by
    obtain ⟨j, hj⟩ := List.getElem?_of_mem mm
    exact absurd (big j _ hj).2 (Nat.lt_irrefl _)
  have hge : s2.heap.objs.size ≤ h2.objs.size := by
    have := zd.big
    omega
  have at1 : upd (layC H1 cs fun j => rows.map fun r => r.getD j .non) h2.objs.size (.tup (cs.map V.ref)) h2.objs.size = some (.tup (cs.map V.ref)) := upd_same
  have old1 : ∀ b, b < s2.heap.objs.size → upd (layC H1 cs fun j => rows.map fun r => r.getD j .non) h2.objs.size (.tup (cs.map V.ref)) b = H1 b := fun b lt => by
    rw [upd_ne (Nat.ne_of_lt (Nat.lt_of_lt_of_le lt hge))]
    refine layC_out fun mm => ?_
    obtain ⟨j, hj⟩ := List.getElem?_of_mem mm
    exact absurd lt (Nat.not_lt.mpr (big j _ hj).1)
  have col1 : ∀ (j : Nat) (c : Addr), cs[j]? = some c → upd (layC H1 cs fun j => rows.map fun r => r.getD j .non) h2.objs.size (.tup (cs.map V.ref)) c = some (.tup (rows.map fun r => r.getD j .non)) := fun j c e => by
    rw [upd_ne (Nat.ne_of_lt (big j c e).2)]
    exact layC_at zd.nd e
  refine ⟨.ref h2.objs.size, _, laid_all (s := s2) I2 kp old1 fun b o ge eb => ?_, rfl, k h2.objs.size cs _ (I2.hok.fresh hge) zd.len at1 (fun j c e => ⟨I2.hok.fresh (big j c e).1, col1 j c e⟩) fun b o eb => ?_⟩
  · by_cases cS : b = h2.objs.size
    · subst cS
      rw [at1] at eb
      cases eb
      exact ⟨by rw [List.length_map, zd.len, sizeLine_eq]; omega, cs.map Value.ref, refs_vals cs, IsTup.new _ _⟩
    · by_cases cT : b ∈ cs
      · obtain ⟨j, hj⟩ := List.getElem?_of_mem cT
        rw [col1 j b hj] at eb
        cases eb
        have jm : j < m := by
          have := (List.getElem?_eq_some_iff.mp hj).1
          rw [zd.len] at this
          exact this
        refine ⟨by rw [List.length_map, rl, sizeLine_eq]; omega, us.map fun u => u.getD j .none, vals_col jm rm (by rw [rl, ul]) (fun n r u q1 q2 => ?_), ⟨_, Heap.get?_push_of_some _ (zd.each j b hj).1, rfl, _, rfl⟩⟩
        have nl := (List.getElem?_eq_some_iff.mp q2).1
        obtain ⟨a, ha⟩ : ∃ a, ts[n]? = some a := ⟨_, List.getElem?_eq_getElem (by omega)⟩
        obtain ⟨r', u', w1, w2, w3, _⟩ := hus n a ha
        rw [q1] at w1
        rw [q2] at w2
        cases w1
        cases w2
        exact w3
      · rw [upd_ne cS, layC_out cT, I2.hok.fresh ge] at eb
        cases eb
  · rw [old1 b (I2.hok.lt eb)]
    exact eb
end
end Nm
set_option maxRecDepth 100000
set_option maxHeartbeats 4000000
/-! tables; turned_over -/
namespace Nm
open PySem L2
theorem Same.off {H H' : Hp} {p : Addr} {o : HO} (s : Same H H') (h : H p = none) : Same H (upd H' p o) := fun b u e => by
  rw [upd_ne (ne_of_none e h)]
  exact s b u e
/-- a table as it stands -/
def TblAt (H : Hp) (t : Addr) (tb : List (List Int)) : Prop := ∃ ts : List Addr, H t = some (.tup (ts.map V.ref)) ∧ ts.length = tb.length ∧ ∀ (k : Nat) (a : Addr) (r : List Int), ts[k]? = some a → tb[k]? = some r → H a = some (.tup (r.map V.int))
theorem TblAt.ext {H H' : Hp} {t : Addr} {tb : List (List Int)} (h : TblAt H t tb) (s : ∀ b xs, H b = some (.tup xs) → H' b = some (.tup xs)) : TblAt H' t tb := by
  obtain ⟨ts, h1, h2, h3⟩ := h
  exact ⟨ts, s _ _ h1, h2, fun k a r e1 e2 => s _ _ (h3 k a r e1 e2)⟩
theorem TblAt.same {H H' : Hp} {t : Addr} {tb : List (List Int)} (h : TblAt H t tb) (s : Same H H') : TblAt H' t tb := h.ext fun b xs e => s _ _ e
/-- of this form: rows of one length, few -/
structure TblOk (tb : List (List Int)) (m : Nat) : Prop where
  rm : ∀ r ∈ tb, r.length = m
  n1 : 1 ≤ tb.length
  n8 : tb.length ≤ 8
  m8 : m ≤ 8
def turnT (tb : List (List Int)) (m : Nat) : List (List Int) := (List.range m).map fun j => tb.map fun r => r.getD j 0
structure TxtZ (mg : Str → Option Value) : Prop where
  zip : mg "zip" = none
  tuple : mg "tuple" = none
theorem getD_ints {r : List Int} {j : Nat} (h : j < r.length) : (r.map V.int).getD j .non = V.int (r.getD j 0) := by
  rw [List.getD_eq_getElem?_getD, List.getD_eq_getElem?_getD, List.getElem?_map, List.getElem?_eq_getElem h]
  rfl
section
variable {P : Program} {w : World} {K : PySem.W.Frag} {mg : Str → Option Value} {base : Heap}
def spTurned : Sp := fun vs H Q _ => ∃ (t : Addr) (tb : List (List Int)) (m : Nat), vs = [.ref t] ∧ TblAt H t tb ∧ TblOk tb m ∧ ∀ (p : Addr) (H' : Hp), H p = none → TblAt H' p (turnT tb m) → Same H H' → Q (.ref p) H'
theorem scTu : FnScope ["table"] ["table"] (defScope sTurned) := ⟨rfl, rfl, rfl, by decide +kernel, rfl, by decide +kernel, by decide +kernel⟩
theorem ok_turned {f : Addr} {fd : FuncData} (F : Fun K "turned_over" "turned_over" sTurned f fd) (T : TxtZ mg) : FnOk P w K mg base CX0 1 f fd ["table"] spTurned := by
  refine F.ok scTu (fun vs H Q E h => ?_) (fun cdv A outer s H vs Q E hr h => ?_)
  · obtain ⟨_, _, _, rfl, _⟩ := h
    rfl
  · obtain ⟨t, tb, m, rfl, ⟨ts, h1, h2, h3⟩, ok, k⟩ := h
    refine ⟨_, pss_one (ps_ret (pe_tupleZip rfl (by rfl) T.tuple (by rfl) T.zip (pv 0))), ?_⟩
    have m8 := ok.m8
    refine ⟨_, rfl, t, ts, tb.map fun r => r.map V.int, m, rfl, SqT.of h1, by rw [List.length_map]; exact h2.symm, fun n a ha => ?_, fun r hr => ?_, by rw [h2]; exact ok.n1, by rw [h2]; exact ok.n8, by omega, fun p cs H2 hp hcl hp2 hcs s2 => ?_⟩
    · have nl := (List.getElem?_eq_some_iff.mp ha).1
      obtain ⟨r, hr⟩ : ∃ r, tb[n]? = some r := ⟨_, List.getElem?_eq_getElem (by omega)⟩
      exact ⟨r.map V.int, by rw [List.getElem?_map, hr]; rfl, SqT.of (h3 n a r ha hr)⟩
    · obtain ⟨r0, hr0, rfl⟩ := List.mem_map.mp hr
      rw [List.length_map]
      exact ok.rm r0 hr0
    · refine k p H2 hp ⟨cs, hp2, by rw [hcl]; unfold turnT; rw [List.length_map, List.length_range], fun j c r hc hr => ?_⟩ s2
      have jm : j < m := by
        have := (List.getElem?_eq_some_iff.mp hc).1
        omega
      have e := (hcs j c hc).2
      rw [e]
      unfold turnT at hr
      rw [List.getElem?_map, List.getElem?_range jm] at hr
      cases hr
      rw [List.map_map, List.map_map]
      congr 2
      refine List.map_congr_left fun r0 h0 => ?_
      exact getD_ints (by rw [ok.rm r0 h0]; exact jm)
end
end Nm
set_option maxRecDepth 100000
set_option maxHeartbeats 4000000
/-! tables that are built row by row -/
namespace Nm
open PySem L2
/-- a list of rows that are tuples -/
def RowsAt (H : Hp) (D : Addr) (as : List Addr) (tb : List (List Int)) : Prop := H D = some (.lst (as.map V.ref)) ∧ as.length = tb.length ∧ ∀ (k : Nat) (p : Addr) (r : List Int), as[k]? = some p → tb[k]? = some r → H p = some (.tup (r.map V.int))
theorem RowsAt.nil {H : Hp} {D : Addr} : RowsAt (upd H D (.lst [])) D [] [] := ⟨upd_same, rfl, fun k p r h => by simp at h⟩
theorem RowsAt.nil' {H : Hp} {D : Addr} (h : H D = some (.lst [])) : RowsAt H D [] [] := ⟨h, rfl, fun k p r h => by simp at h⟩
theorem RowsAt.same {H H' : Hp} {D : Addr} {as : List Addr} {tb : List (List Int)} (h : RowsAt H D as tb) (s : Same H H') : RowsAt H' D as tb := ⟨s _ _ h.1, h.2.1, fun k p r h1 h2 => s _ _ (h.2.2 k p r h1 h2)⟩
theorem RowsAt.add {H : Hp} {D p : Addr} {as : List Addr} {tb : List (List Int)} {r : List Int} (h : RowsAt H D as tb) (hp : H p = some (.tup (r.map V.int))) : RowsAt (upd H D (.lst (as.map V.ref ++ [V.ref p]))) D (as ++ [p]) (tb ++ [r]) := by
  obtain ⟨h1, h2, h3⟩ := h
  have ne : ∀ q xs, H q = some (.tup xs) → q ≠ D := fun q xs e z => by
    subst z
    rw [h1] at e
    cases e
  refine ⟨by rw [upd_same, List.map_append]; rfl, by rw [List.length_append, List.length_append, h2]; rfl, fun k q r' hq hr => ?_⟩
  by_cases c : k < as.length
  · rw [List.getElem?_append_left c] at hq
    rw [List.getElem?_append_left (by omega)] at hr
    have := h3 k q r' hq hr
    rw [upd_ne (ne _ _ this)]
    exact this
  · have hk := (List.getElem?_eq_some_iff.mp hq).1
    rw [List.length_append, List.length_singleton] at hk
    have e : k = as.length := by omega
    subst e
    rw [List.getElem?_append_right (Nat.le_refl _), Nat.sub_self] at hq
    rw [List.getElem?_append_right (by omega), h2, Nat.sub_self] at hr
    cases hq
    cases hr
    rw [upd_ne (ne _ _ hp)]
    exact hp
theorem RowsAt.addI {H : Hp} {D p : Addr} {as : List Addr} {tb : List (List Int)} {r : List Int} {i : Nat} (h : RowsAt H D as (tb.take i)) (hr : tb[i]? = some r) (hp : H p = some (.tup (r.map V.int))) : RowsAt (upd H D (.lst (as.map V.ref ++ [V.ref p]))) D (as ++ [p]) (tb.take (i + 1)) := by
  have e : tb.take (i + 1) = tb.take i ++ [r] := by
    rw [List.take_add_one, hr]
    rfl
  rw [e]
  exact h.add hp
theorem RowsAt.tbl {H : Hp} {D t : Addr} {as : List Addr} {tb : List (List Int)} (h : RowsAt H D as tb) (ht : H t = some (.tup (as.map V.ref))) : TblAt H t tb := ⟨as, ht, h.2.1, h.2.2⟩
theorem RowsAt.len {H : Hp} {D : Addr} {as : List Addr} {tb : List (List Int)} (h : RowsAt H D as tb) : (as.map V.ref).length = tb.length := by rw [List.length_map, h.2.1]
/-- tuple(a list) -/
def rTupL (K : PySem.W.Frag) : List V → Hp → VK → Prop := fun xs H Q => ∃ p ys, xs = [.ref p] ∧ SqL K H p ys ∧ ∀ l, H l = none → Q (.ref l) (upd H l (.tup ys))
section
variable {X : Cx}
theorem call_tupL : CallR X (.type "tuple") (rTupL X.K) := fun pins s σ H xs us Q I r h => by
  obtain ⟨p, ys, e, h1, h2⟩ := h
  exact call_tuple_of pins s σ H xs us Q I r ⟨p, ys, e, .inl ⟨h1, h2⟩⟩
def rInt1 : List V → Hp → VK → Prop := fun xs H Q => (∃ i, xs = [.int i] ∧ Q (.int i) H) ∨ ∃ k, xs = [.bl k] ∧ Q (.int (if k then 1 else 0)) H
theorem call_int1' : CallR X (.type "int") rInt1 := call_int1
end
structure TxtR (mg : Str → Option Value) : Prop extends TxtZ mg where
  len : mg "len" = none
  range : mg "range" = none
  enumerate : mg "enumerate" = none
  list : mg "list" = none
  int : mg "int" = none
  sum : mg "sum" = none
end Nm
set_option maxRecDepth 100000
set_option maxHeartbeats 4000000
/-! _law_by_base, _law_behind_due -/
namespace Nm
open PySem L2
def bbT (a b : List Nat) : List (List Int) := a.map fun p => b.map fun q => if p = q then 1 else 0
def prodT (t1 t2 : List (List Int)) (m : Nat) : List (List Int) := t1.map fun r => (List.range m).map fun q => ((List.range t2.length).map fun k => r.getD k 0 * (t2.getD k []).getD q 0).sum
section
variable {P : Program} {w : World} {K : PySem.W.Frag} {mg : Str → Option Value} {base : Heap}
def spBB : Sp := fun vs H Q _ => ∃ (l1 l2 : Addr) (a b : List Nat), vs = [.ref l1, .ref l2] ∧ H l1 = some (.lst (natV a)) ∧ H l2 = some (.lst (natV b)) ∧ a.length ≤ 8 ∧ b.length ≤ 8 ∧
  ∀ (p : Addr) (H' : Hp), TblAt H' p (bbT a b) → Same H H' → Q (.ref p) H'
abbrev nBB : List Str := ["_law_one", "_law_other", "_law_p", "_law_q"]
theorem scBB : FnScope nBB ["_law_one", "_law_other"] (defScope sByBase) := ⟨rfl, rfl, rfl, by decide +kernel, rfl, by decide +kernel, by decide +kernel⟩
abbrev coBB : Scope := { kind := .function, names := [(".0", .local), ("_law_p", .cell), ("tuple", .globalImplicit), ("_law_other", .cell)], isGenerator := false, isCoroutine := false }
abbrev eBB (K : PySem.W.Frag) : TE := tLc (iList K (tVar 1)) (gName 3) tYes (tCB rInt1 (tCons (tOp rEq (tVar 2) (tVar 3)) tNil)) [3]
theorem ok_bb {f : Addr} {fd : FuncData} (F : Fun K "_law_by_base" "_law_by_base" sByBase f fd) (T : TxtR mg) : FnOk P w K mg base CX0 1 f fd ["_law_one", "_law_other"] spBB := by
  refine F.ok scBB (fun vs H Q E h => ?_) (fun cdv A outer s H vs Q E hr h => ?_)
  · obtain ⟨_, _, _, _, rfl, _⟩ := h
    rfl
  obtain ⟨l1, l2, a, b, rfl, h1, h2, a8, b8, k⟩ := h
  refine ⟨_, pss_one (ps_ret (pe_callTy call_tupL (by rfl) T.tuple (by decide +kernel) (pa_cons
      (pe_lc (own := [("_law_p", 2)]) (g := gName 2) (tt := tYes) (te := tCB (rTupL K) (tCons (eBB K) tNil)) rfl scBB.nd (pi_list (pv 0)) (blkOk_by (N := nBB) (sc := defScope sByBase) (by decide +kernel))
        (fun _ _ _ _ _ => pg_name (i := 2) scBB.nd rfl (Or.inr rfl)) (fun _ _ _ _ _ => pts_nil)
        (fun _ _ _ _ _ => by
          refine pe_callTy call_tupL ?z (by exact T.tuple) (by decide +kernel) (pa_cons ?y pa_nil)
          case z => rfl
          case y =>
            refine pe_lc (own := [("_law_q", 3)]) (g := gName 3) (tt := tYes) (te := tCB rInt1 (tCons (tOp rEq (tVar 2) (tVar 3)) tNil)) rfl scBB.nd ?a ?b ?c ?d ?e
            case a => exact pi_list (pv 1)
            case b => exact (blkOk_by (N := nBB) (sc := coBB) (by decide +kernel))
            case c => intro _ _ _ _ _; exact pg_name (i := 3) scBB.nd rfl (.inl rfl)
            case d => intro _ _ _ _ _; exact pts_nil
            case e =>
              intro _ _ _ _ _
              refine pe_callTy call_int1' ?f (by exact T.int) (by decide +kernel) (pa_cons (pe_cmpR op_eq (pv 2) (pv 3) (nomark _)) pa_nil)
              case f => rfl)) pa_nil))), ?_⟩
  refine ⟨_, rfl, l1, rfl, ⟨_, SqL.of h1⟩, fun D hD => ?_⟩
  refine lc_it (walk_list (xs := natV a)) (fun i H1 => ∃ as, RowsAt H1 D as ((bbT a b).take i) ∧ Same H H1) ⟨[], RowsAt.nil, same_new hD⟩ (fun i H1 _ ⟨_, _, s⟩ => SqL.of (s _ _ h1)) ?_ ?_
  · rintro i x H2 H1 hi ⟨as, R, s1⟩ ⟨rfl, hx⟩
    unfold natV at hx
    rw [List.getElem?_map] at hx
    obtain ⟨y, hy, rfl⟩ := Option.map_eq_some_iff.mp hx
    have hil := (List.getElem?_eq_some_iff.mp hy).1
    refine ⟨rfl, tyes ?_⟩
    refine ⟨_, rfl, l2, rfl, ⟨_, SqL.of (s1 _ _ h2)⟩, fun D2 hD2 => ?_⟩
    refine lc_it (walk_list (xs := natV b)) (fun j H3 => H3 D2 = some (.lst (((b.take j).map fun q => if y = q then (1 : Int) else 0).map V.int)) ∧ Same H1 H3) ⟨upd_same, same_new hD2⟩ (fun j H3 _ h => SqL.of (h.2 _ _ (s1 _ _ h2))) ?_ ?_
    · rintro j v H4 H3 hj ⟨hD3, s3⟩ ⟨rfl, hv⟩
      unfold natV at hv
      rw [List.getElem?_map] at hv
      obtain ⟨z, hz, rfl⟩ := Option.map_eq_some_iff.mp hv
      refine ⟨rfl, tyes ?_⟩
      refine ⟨_, rfl, _, rfl, rfl, .inr ⟨_, rfl, _, hD3, Evl.sz_lt (by rw [List.length_map, List.length_map, List.length_take]; omega), ?_, Same.off s3 hD2⟩⟩
      rw [upd_same, List.take_add_one, hz, List.map_append, List.map_append]
      have e : decide (V.int (y : Int) = V.int (z : Int)) = decide (y = z) := by
        by_cases c : y = z
        · rw [c, decide_eq_true rfl, decide_eq_true rfl]
        · rw [decide_eq_false c, decide_eq_false (fun q => c (by have := V.int.inj q; omega))]
      rw [e]
      show some (HO.lst (_ ++ [V.int (if decide (y = z) = true then 1 else 0)])) = some (HO.lst (_ ++ [V.int (if y = z then 1 else 0)]))
      by_cases c : y = z
      · rw [decide_eq_true c, if_pos rfl, if_pos c]
      · rw [decide_eq_false c, if_neg (by decide), if_neg c]
    · rintro H3 ⟨hD3, s3⟩
      have lb : (natV b).length = b.length := List.length_map _
      rw [lb, List.take_length] at hD3
      refine ⟨D2, _, rfl, SqL.of hD3, fun p hp => ?_⟩
      have s4 := s3.trans (same_new (o := .tup ((b.map fun q => if y = q then (1 : Int) else 0).map V.int)) hp)
      have R4 := R.same s4
      have hl : (as.map V.ref).length ≤ 8 := by rw [R.len, List.length_take]; unfold bbT; rw [List.length_map]; omega
      exact ⟨_, R4.1, Evl.sz_lt (by omega), as ++ [p], R4.addI (by unfold bbT; rw [List.getElem?_map, hy]; rfl) upd_same, Same.off (s1.trans s4) hD⟩
  · rintro H1 ⟨as, R, s1⟩
    have la : (natV a).length = (bbT a b).length := by unfold natV bbT; rw [List.length_map, List.length_map]
    rw [la, List.take_length] at R
    refine ⟨D, _, rfl, SqL.of R.1, fun p hp => ?_⟩
    have s2 := same_new (o := .tup (as.map V.ref)) hp
    exact k p _ ((R.same s2).tbl upd_same) (s1.trans s2)
/-! ### _law_behind_due -/
def spBh : Sp := fun vs H Q _ => ∃ (p1 p2 : Addr) (t1 t2 : List (List Int)) (m : Nat), vs = [.ref p1, .ref p2] ∧ TblAt H p1 t1 ∧ TblAt H p2 t2 ∧ TblOk t1 t2.length ∧ TblOk t2 m ∧ (∀ r ∈ t1, ∀ x ∈ r, 0 ≤ x ∧ x ≤ 1000) ∧
  ∀ (p : Addr) (H' : Hp), TblAt H' p (prodT t1 t2 m) → Same H H' → Q (.ref p) H'
abbrev nBh : List Str := ["_law_first", "_law_last", "_law_found", "_law_row", "_law_q", "_law_k"]
theorem scBh : FnScope nBh ["_law_first", "_law_last"] (defScope sBehind) := ⟨rfl, rfl, rfl, by decide +kernel, rfl, by decide +kernel, by decide +kernel⟩
abbrev coBh : Scope := { kind := .function, names := [(".0", .local), ("_law_q", .cell), ("sum", .globalImplicit), ("range", .globalImplicit), ("len", .globalImplicit), ("_law_last", .cell), ("_law_row", .cell)], isGenerator := false, isCoroutine := false }
abbrev mBh (K : PySem.W.Frag) : TE := tOp (rI CMul fun i j => .int (i * j)) (tOp (rIxT K) (tVar 3) (tVar 5)) (tOp (rIxT K) (tOp (rIxT K) (tVar 1) (tVar 5)) (tVar 4))
abbrev rLenS (K : PySem.W.Frag) : List V → Hp → VK → Prop := fun xs H Q => ∃ p ys, xs = [.ref p] ∧ (SqL K H p ys ∨ SqT K H p ys) ∧ Q (.int ys.length) H
abbrev eBh (K : PySem.W.Frag) : TE := tLc (iRng1 (tCons (tCB (rLenS K) (tCons (tVar 1) tNil)) tNil)) (gName 5) tYes (mBh K) [5]
theorem ok_bh {f : Addr} {fd : FuncData} (F : Fun K "_law_behind_due" "_law_behind_due" sBehind f fd) (T : TxtR mg) : FnOk P w K mg base CX0 1 f fd ["_law_first", "_law_last"] spBh := by
  refine F.ok scBh (fun vs H Q E h => ?_) (fun cdv A outer s H vs Q E hr h => ?_)
  · obtain ⟨_, _, _, _, _, rfl, _⟩ := h
    rfl
  obtain ⟨p1, p2, t1, t2, m, rfl, ⟨as1, hp1, hl1, hs1⟩, ⟨as2, hp2, hl2, hs2⟩, ok1, ok2, sm, k⟩ := h
  refine ⟨_, Evl.pss_cut (ps_set (i := 2) scBh.nd rfl (Or.inl rfl) (pe_lst pa_nil))
    (Evl.pss_cut (ps_for PassesOwn.never rfl (pi_tup (pv 0)) (pg_name (i := 3) scBh.nd rfl (Or.inr rfl))
      (pss_one (ps_expr (pe_bm PySem.F.plainAttrs_list PySem.F.slot_list_append PySem.F.type_list_append mt_append (pv 2) (pa_cons (pe_callTy call_tupL (by rfl) T.tuple (by decide +kernel) (pa_cons
        (pe_lc (own := [("_law_q", 4)]) (g := gName 4) (tt := tYes) (te := tCB (rSum K) (tCons (eBh K) tNil)) rfl scBh.nd (pi_range1 (by rfl) T.range (pa_cons (pe_callB call_len_seq (by rfl) T.len PySem.boot_len (pa_cons (pe_ix ix_tup (pv 1) pe_int (fun _ _ => rfl)) pa_nil)) pa_nil)) (blkOk_by (N := nBh) (sc := defScope sBehind) (by decide +kernel))
          (fun _ _ _ _ _ => pg_name (i := 4) scBh.nd rfl (Or.inr rfl)) (fun _ _ _ _ _ => pts_nil)
          (fun _ _ _ _ _ => by
            refine pe_callB (cr_sum rfl) ?z (by exact T.sum) (by decide +kernel) (pa_cons ?y pa_nil)
            case z => rfl
            case y =>
              refine pe_lc (own := [("_law_k", 5)]) (g := gName 5) (tt := tYes) (te := mBh K) rfl scBh.nd ?a ?b ?c ?d ?e
              case a => exact pi_range1 (by rfl) T.range (pa_cons (pe_callB call_len_seq (by rfl) T.len PySem.boot_len (pa_cons (pv 1) pa_nil)) pa_nil)
              case b => exact (blkOk_by (N := nBh) (sc := coBh) (by decide +kernel))
              case c => intro _ _ _ _ _; exact pg_name (i := 5) scBh.nd rfl (.inl rfl)
              case d => intro _ _ _ _ _; exact pts_nil
              case e => intro _ _ _ _ _; exact pe_op op_mul (pe_ix ix_tup (pv 3) (pv 5) (fun _ _ => rfl)) (pe_ix ix_tup (pe_ix ix_tup (pv 1) (pv 5) (fun _ _ => rfl)) (pv 4) (fun _ _ => rfl)))) pa_nil)) pa_nil)))))
    (pss_one (ps_ret (pe_callTy call_tupL (by rfl) T.tuple (by decide +kernel) (pa_cons (pv 2) pa_nil))))), ?_⟩
  have n1 := ok1.n1
  have n8 := ok1.n8
  have q1 := ok2.n1
  have q8 := ok2.n8
  have m8 := ok2.m8
  have row2 : ∀ (k : Nat), k < t2.length → ∃ (b : Addr) (r : List Int), as2[k]? = some b ∧ t2[k]? = some r ∧ r.length = m ∧ H b = some (.tup (r.map V.int)) := fun k hk => by
    obtain ⟨b, hb⟩ : ∃ b, as2[k]? = some b := ⟨_, List.getElem?_eq_getElem (by omega)⟩
    have hr := List.getElem?_eq_getElem hk
    exact ⟨b, _, hb, hr, ok2.rm _ (List.mem_of_getElem? hr), hs2 k b _ hb hr⟩
  obtain ⟨b0, r0, hb0, hr0, hrm0, hHb0⟩ := row2 0 (by omega)
  have pl : (prodT t1 t2 m).length = t1.length := List.length_map _
  refine ⟨fun σ H1 => ∃ D, σ = [some (.ref p1), some (.ref p2), some (.ref D), none, none, none] ∧ H D = none ∧ H1 D = some (.lst []) ∧ Same H H1, ?_, ?_⟩
  · exact ⟨(by show 0 ≤ sizeLine; decide), fun D hD => ⟨D, rfl, hD, upd_same, same_new hD⟩⟩
  rintro σ H1 ⟨D, rfl, hD0, hD1, s1⟩
  refine ⟨fun σ H2 => ∃ v3 as, σ = [some (.ref p1), some (.ref p2), some (.ref D), v3, none, none] ∧ RowsAt H2 D as (prodT t1 t2 m) ∧ Same H H2, ?_, ?_⟩
  · refine ⟨_, rfl, p1, rfl, ⟨_, SqT.of (s1 _ _ hp1)⟩, ?_⟩
    refine for_it (walk_tup (xs := as1.map V.ref)) (fun i σ H2 => ∃ v3 as, σ = [some (.ref p1), some (.ref p2), some (.ref D), v3, none, none] ∧ RowsAt H2 D as ((prodT t1 t2 m).take i) ∧ Same H H2)
      ⟨none, [], rfl, RowsAt.nil' hD1, s1⟩ (fun i σ H2 _ ⟨_, _, _, _, s⟩ => SqT.of (s _ _ hp1)) ?_ ?_
    · rintro i x σ H3 H2 hi ⟨v3, as, rfl, R, s2⟩ ⟨rfl, hx⟩
      rw [List.length_map] at hi
      rw [List.getElem?_map] at hx
      obtain ⟨a, ha, rfl⟩ := Option.map_eq_some_iff.mp hx
      obtain ⟨r, hr⟩ : ∃ r, t1[i]? = some r := ⟨_, List.getElem?_eq_getElem (by omega)⟩
      have hHa := hs1 i a r ha hr
      have hrm := ok1.rm r (List.mem_of_getElem? hr)
      have hrs := sm r (List.mem_of_getElem? hr)
      have hPi : (prodT t1 t2 m)[i]? = some ((List.range m).map fun q => ((List.range t2.length).map fun k => r.getD k 0 * (t2.getD k []).getD q 0).sum) := by
        unfold prodT
        rw [List.getElem?_map, hr]
        rfl
      generalize hF : (fun q => ((List.range t2.length).map fun k => r.getD k 0 * (t2.getD k []).getD q 0).sum) = F at hPi
      have hl0 : (r0.map V.int).length = m := by rw [List.length_map, hrm0]
      have hl2' : (as2.map V.ref).length = t2.length := by rw [List.length_map, hl2]
      refine ⟨_, rfl, .inl ⟨rfl, _, SqL.of R.1⟩, ?_⟩
      refine ⟨_, rfl, p2, _, _, V.ref b0, rfl, rfl, SqT.of (s2 _ _ hp2), atI_nat (j := 0) (by rw [List.getElem?_map, hb0]; rfl), b0, _, rfl, .inr (SqT.of (s2 _ _ hHb0)), _, rfl, by rw [hl0]; omega, by rw [hl0]; omega, fun D2 hD2 => ?_⟩
      rw [hl0]
      refine lc_range (lo := 0) (n := ((m : Nat) : Int).toNat) (fun q H4 => H4 D2 = some (.lst (((List.range q).map F).map V.int)) ∧ Same H2 H4) ⟨upd_same, same_new hD2⟩ ?_ ?_
      · rintro q H4 hq ⟨hD24, s4⟩
        rw [Int.toNat_natCast] at hq
        rw [show (0 : Int) + ((q : Nat) : Int) = ((q : Nat) : Int) from Int.zero_add _]
        have s04 := s2.trans s4
        refine ⟨rfl, tyes ?_⟩
        refine ⟨_, rfl, p2, _, rfl, .inr (SqT.of (s04 _ _ hp2)), _, rfl, by rw [hl2']; omega, by rw [hl2']; omega, fun D3 hD3 => ?_⟩
        rw [hl2']
        refine lc_range (lo := 0) (n := ((t2.length : Nat) : Int).toNat) (fun k H5 => H5 D3 = some (.lst (((List.range k).map fun k => r.getD k 0 * (t2.getD k []).getD q 0).map V.int)) ∧ Same H4 H5) ⟨upd_same, same_new hD3⟩ ?_ ?_
        · rintro k H5 hk ⟨hD35, s5⟩
          rw [Int.toNat_natCast] at hk
          rw [show (0 : Int) + ((k : Nat) : Int) = ((k : Nat) : Int) from Int.zero_add _]
          have s05 := s04.trans s5
          obtain ⟨b, r2, hb, hr2, hrm2, hHb⟩ := row2 k hk
          have hrk : r[k]? = some (r.getD k 0) := by
            rw [List.getD_eq_getElem?_getD, List.getElem?_eq_getElem (by omega)]
            rfl
          have hr2q : r2[q]? = some (r2.getD q 0) := by
            rw [List.getD_eq_getElem?_getD, List.getElem?_eq_getElem (by omega)]
            rfl
          have t2k : t2.getD k [] = r2 := by
            rw [List.getD_eq_getElem?_getD, hr2]
            rfl
          have hsz := hrs _ (List.mem_of_getElem? hrk)
          refine ⟨rfl, tyes ?_⟩
          refine ⟨_, rfl, _, rfl, a, _, _, V.int (r.getD k 0), rfl, rfl, SqT.of (s05 _ _ hHa), atI_nat (by rw [List.getElem?_map, hrk]; rfl), _, rfl, _, rfl, p2, _, _, V.ref b, rfl, rfl, SqT.of (s05 _ _ hp2), atI_nat (by rw [List.getElem?_map, hb]; rfl), _, rfl, b, _, _, V.int (r2.getD q 0), rfl, rfl, SqT.of (s05 _ _ hHb), atI_nat (by rw [List.getElem?_map, hr2q]; rfl), _, _, rfl, rfl, .inl ⟨by omega, by omega⟩, ?_⟩
          refine ⟨_, hD35, Evl.sz_lt (by rw [List.length_map, List.length_map, List.length_range]; omega), ?_, Same.off s5 hD3⟩
          rw [upd_same, List.range_succ, List.map_append, List.map_append]
          show some (HO.lst (_ ++ [V.int (r.getD k 0 * r2.getD q 0)])) = some (HO.lst (_ ++ [V.int (r.getD k 0 * (t2.getD k []).getD q 0)]))
          rw [t2k]
        · rintro H5 ⟨hD35, s5⟩
          rw [Int.toNat_natCast] at hD35
          refine ⟨D3, _, rfl, SqL.of hD35, _, s5 _ _ hD24, Evl.sz_lt (by rw [List.length_map, List.length_map, List.length_range]; omega), ?_, Same.off (s4.trans s5) hD2⟩
          rw [upd_same, List.range_succ, List.map_append, List.map_append]
          show some (HO.lst (_ ++ [V.int _])) = some (HO.lst (_ ++ [V.int (F q)]))
          rw [← hF]
      · rintro H4 ⟨hD24, s4⟩
        rw [Int.toNat_natCast] at hD24
        refine ⟨D2, _, rfl, SqL.of hD24, fun p hp => ?_⟩
        have s5 := s4.trans (same_new (o := .tup (((List.range m).map F).map V.int)) hp)
        have R5 := R.same s5
        have hl : (as.map V.ref).length ≤ 8 := by rw [R.len, List.length_take]; omega
        refine ⟨D, _, _, rfl, rfl, R5.1, Evl.sz_lt (by omega), ?_⟩
        exact ⟨_, as ++ [p], rfl, R5.addI hPi upd_same, Same.off (s2.trans s5) hD0⟩
    · rintro σ H2 ⟨v3, as, rfl, R, s2⟩
      rw [List.length_map, hl1, ← pl, List.take_length] at R
      exact ⟨v3, as, rfl, R, s2⟩
  rintro σ H2 ⟨v3, as, rfl, R, s2⟩
  refine ⟨_, rfl, D, _, rfl, SqL.of R.1, fun p hp => ?_⟩
  have s3 := same_new (o := .tup (as.map V.ref)) hp
  exact k p _ ((R.same s3).tbl upd_same) (s2.trans s3)
end
end Nm
set_option maxRecDepth 100000
set_option maxHeartbeats 4000000
namespace Nm
open PySem L2
def nameN (k : Nat) : Str := ("n" : Str) ++ ((toString (k : Int) : String) : Str)
theorem nameN_w : ∀ k < 100, isWordB (nameN k) = true := by decide +kernel
theorem nameN_nd : ((List.range 100).map nameN).Nodup := by decide +kernel
section
variable {κ : Type} [DecidableEq κ]
theorem val_none_of {kvs : List (κ × V)} {k : κ} (h : k ∉ kvs.map (·.1)) : valV kvs k = none := by
  cases e : valV kvs k with
  | none => rfl
  | some v => exact absurd (valV_in e) h
end
theorem merge_nd : ∀ {kvs acc : List (Key × V)}, ((acc ++ kvs).map (·.1)).Nodup → mergeK acc kvs = acc ++ kvs
  | [], acc, _ => (List.append_nil _).symm
  | kv :: r, acc, h => by
    show mergeK (putK acc kv.1 kv.2) r = acc ++ kv :: r
    have hn : kv.1 ∉ acc.map (·.1) := fun hm => by
      rw [List.map_append, List.nodup_append] at h
      exact h.2.2 kv.1 hm kv.1 (by simp) rfl
    rw [putK_new _ (val_none_of hn)]
    have e : acc ++ kv :: r = (acc ++ [(kv.1, kv.2)]) ++ r := by simp
    rw [e] at h ⊢
    exact merge_nd h
def natOf : V → Nat
  | .int x => x.toNat
  | _ => 0
theorem perm_nat {ys : List V} {l : List Nat} (h : ys.Perm (natV l)) : ∃ zs : List Nat, ys = natV zs ∧ zs.Perm l := by
  refine ⟨ys.map natOf, ?_, ?_⟩
  · unfold natV
    rw [List.map_map]
    conv => lhs; rw [← List.map_id ys]
    refine List.map_congr_left fun v hv => ?_
    obtain ⟨x, _, rfl⟩ := List.mem_map.mp (h.subset hv)
    rfl
  · have := h.map natOf
    unfold natV at this
    rw [List.map_map] at this
    have e : l.map (natOf ∘ fun (i : Nat) => V.int (i : Int)) = l := by
      conv => rhs; rw [← List.map_id l]
      rfl
    rw [e] at this
    exact this
theorem nameN_len : ∀ k : Nat, k < 100 → ("n" : Str).length + ((toString (k : Int) : String) : Str).length ≤ 100 := by decide +kernel
theorem log_small {i : Nat} (h : i < 1000) : (0 + (i : Int)).natAbs.log2 < 1920 := by
  have e : (0 + (i : Int)).natAbs = i := by omega
  rw [e]
  have := Nat.log2_le_self i
  omega
/-- the pairs (place, seat) -/
def seatKV (od : List Nat) (i : Nat) : List (Key × V) := (od.zipIdx.take i).map fun p => (Sum.inl (p.1 : Int), V.int (p.2 : Int))
theorem seat_keys (od : List Nat) : (seatKV od od.length).map (·.1) = od.map fun (x : Nat) => (Sum.inl (x : Int) : Key) := by
  unfold seatKV
  rw [List.take_of_length_le (by simp), List.map_map]
  have : od = od.zipIdx.map (·.1) := by simp
  conv => rhs; rw [this]
  rw [List.map_map]
  rfl
theorem seat_nd {od : List Nat} (h : od.Nodup) : ((seatKV od od.length).map (·.1)).Nodup := by
  rw [seat_keys]
  refine List.Pairwise.map _ (fun a b hab => ?_) h
  exact fun e => hab (by have := Sum.inl.inj e; omega)
theorem seat_mem {od : List Nat} {j x : Nat} (h : od[j]? = some x) : ((Sum.inl (x : Int) : Key), V.int (j : Int)) ∈ seatKV od od.length := by
  unfold seatKV
  rw [List.take_of_length_le (by simp)]
  refine List.mem_map.mpr ⟨(x, j), ?_, rfl⟩
  rw [List.mem_zipIdx_iff_getElem?]
  exact h
theorem seat_step {od : List Nat} {i x : Nat} (h : od[i]? = some x) : seatKV od (i + 1) = seatKV od i ++ [(Sum.inl (x : Int), V.int (i : Int))] := by
  unfold seatKV
  have e : od.zipIdx[i]? = some (x, i) := by simp [h]
  rw [List.take_add_one, e, List.map_append]
  rfl
theorem paired_snoc {α β : Type} {F : α → β → Prop} : ∀ {l : List α} {m : List β} {a : α} {b : β}, Paired F l m → F a b → Paired F (l ++ [a]) (m ++ [b])
  | _, _, _, _, .nil, h => .cons h .nil
  | _, _, _, _, .cons r t, h => .cons r (paired_snoc t h)
structure TxtD (mg : Str → Option Value) : Prop extends TxtC mg where
  dict : mg "dict" = none
  enumerate : mg "enumerate" = none
  str : mg "str" = none
section
variable {P : Program} {w : World} {K : PySem.W.Frag} {mg : Str → Option Value} {base : Heap}
/-! ### _law_seated -/
def spSeated : Sp := fun vs H Q _ => ∃ (s c wd a b t ld : Addr) (cl : List Str) (m : Nat) (kvs : List (List Key × V)) (led : List Nat), vs = [.ref s, .ref wd, .ref ld] ∧ Src H s c ∧ H wd = some (.dK (worldD a b t)) ∧ wd ≠ s ∧ H b = some (.lst (cl.map V.str)) ∧ b ≠ c ∧ H t = some (.dT kvs) ∧ H ld = some (.lst (natV led)) ∧ ld ≠ c ∧
  cl.length = led.length ∧ (∀ x ∈ cl, isWordB x = true) ∧ 1 ≤ led.length ∧ led.length ≤ 100 ∧ kvs.length ≤ 4000 ∧ Ties led.length m kvs ∧
  ∀ (r wd' a' b' t' ld' : Addr) (nm cl' : List Str) (kvs' : List (List Key × V)) (led' : List Nat) (H' : Hp), H wd' = none → H a' = none → H b' = none → H t' = none → H ld' = none → H' r = some (.tup [.ref wd', .ref ld']) → WorldOk H' s c wd' a' b' t' nm cl' kvs' → nm.length = led.length → Ties nm.length m kvs' → kvs'.length ≤ 4000 →
    H' ld' = some (.lst (natV led')) → led'.length = led.length → (∀ x, x ∈ led' ↔ x ∈ led) → Src H' s c → Kp s c H H' → Q (.ref r) H'
abbrev nSeat : List Str := ["_law_source", "_law_world", "_law_led", "_law_order", "_law_names", "_law_seats", "_law_ties", "_law_one", "_law_other", "_law_kind", "_law_spot", "_law_colours", "_law_k", "_law_new", "_law_old"]
theorem scSeat : FnScope nSeat ["_law_source", "_law_world", "_law_led"] (defScope sSeated) := ⟨rfl, rfl, rfl, by decide +kernel, rfl, by decide +kernel, by decide +kernel⟩
theorem ok_seat {f : Addr} {fd : FuncData} (F : Fun K "_law_seated" "_law_seated" sSeated f fd) (T : TxtD mg) (Ga : Def P w K mg base "_law_any_order" ["_law_source", "_law_items"] 2 (spAny K)) : FnOk P w K mg base CX0 3 f fd ["_law_source", "_law_world", "_law_led"] spSeated := by
  obtain ⟨fa, fda, Ga, ma, ka, ba⟩ := Ga.ex
  refine F.ok scSeat (fun vs H Q E h => ?_) (fun cdv A outer s H vs Q E hr h => ?_)
  · obtain ⟨_, _, _, _, _, _, _, _, _, _, _, rfl, _⟩ := h
    rfl
  · obtain ⟨sa, ca, wd, a, b, t, ld, cl, m, kvs, led, rfl, S, hwd, nws, hb, nbc, ht, hld, nlc, hcl, hcw, hn1, hn2, hkl, ti, k⟩ := h
    have hu := hu_of hr
    refine ⟨_, Evl.pss_cut (ps_set (i := 3) scSeat.nd rfl (Or.inl rfl) (pe_call Ga hr (by rfl) ma ka ba .nil pass0 (pa_cons (pv 0) (pa_cons (pe_listRg rfl (by rfl) T.list (prg_1 (by rfl) T.range (pe_callB call_len_seq (by rfl) T.len PySem.boot_len (pa_cons (pv 2) pa_nil)))) pa_nil))))
      (Evl.pss_cut (ps_set (i := 4) scSeat.nd rfl (Or.inl rfl) (pe_call Ga hr (by rfl) ma ka ba .nil pass0 (pa_cons (pv 0) (pa_cons (pe_lc (own := [("_law_k", 12)]) (g := gName 12) (tt := tYes) rfl scSeat.nd (pi_range1 (by rfl) T.range (pa_cons (pe_callB call_len_seq (by rfl) T.len PySem.boot_len (pa_cons (pv 2) pa_nil)) pa_nil))
          (blkOk_by (N := nSeat) (sc := defScope sSeated) (by decide +kernel)) (fun _ _ _ _ _ => pg_name (i := 12) scSeat.nd rfl (Or.inl rfl)) (fun _ _ _ _ _ => pts_nil)
          (fun _ _ _ _ _ => pe_op op_add_str pe_str (pe_callTy call_str_int (by rfl) T.str (by decide +kernel) (pa_cons (pv 12) pa_nil)))) pa_nil))))
      (Evl.pss_cut (ps_set (i := 5) scSeat.nd rfl (Or.inl rfl) (pe_callTy (call_dictP rfl) (by rfl) T.dict (by decide +kernel) (pa_cons (pe_lc (own := [("_law_new", 13), ("_law_old", 14)]) (g := gTup K 2 (gCons (gName 13) (gCons (gName 14) gNil))) (tt := tYes) rfl scSeat.nd (pi_enum (by rfl) T.enumerate (pa_cons (pv 3) pa_nil))
          (blkOk_by (N := nSeat) (sc := defScope sSeated) (by decide +kernel)) (fun _ _ _ _ _ => pg_tup rfl (pgs_cons (pg_name (i := 13) scSeat.nd rfl (Or.inl rfl)) (pgs_cons (pg_name (i := 14) scSeat.nd rfl (Or.inl rfl)) pgs_nil))) (fun _ _ _ _ _ => pts_nil)
          (fun _ _ _ _ _ => pe_tup (pa_cons (pv 14) (pa_cons (pv 13) pa_nil)))) pa_nil)))
      (pss_cons (ps_set (i := 6) scSeat.nd rfl (Or.inl rfl) pe_dnewT)
      (Evl.pss_cut (ps_for PassesOwn.never rfl (pi_list (pe_callB cr_sortedR (by rfl) T.sorted (by decide +kernel) (pa_cons (pe_callTy (call_list_dT rfl) (by rfl) T.list (by decide +kernel) (pa_cons (pe_dget hu (pv 1) pe_str (fun _ _ => rfl)) pa_nil)) pa_nil)))
          (pg_tup rfl (pgs_cons (pg_name (i := 7) scSeat.nd rfl (.inl rfl)) (pgs_cons (pg_name (i := 8) scSeat.nd rfl (.inl rfl)) (pgs_cons (pg_name (i := 9) scSeat.nd rfl (.inl rfl)) pgs_nil))))
        (pss_cons (ps_set (i := 10) scSeat.nd rfl (Or.inl rfl) (pe_callB cr_sorted (by rfl) T.sorted (by decide +kernel) (pa_cons (pe_lst (pa_cons (pe_dget hu (pv 5) (pv 7) (fun _ _ => rfl)) (pa_cons (pe_dget hu (pv 5) (pv 8) (fun _ _ => rfl)) pa_nil))) pa_nil)))
        (pss_one (ps_dput hu (pv 6) (pe_tup (pa_cons (pe_ix ix_list (pv 10) pe_int (fun _ _ => rfl)) (pa_cons (pe_ix ix_list (pv 10) pe_int (fun _ _ => rfl)) (pa_cons (pv 9) pa_nil)))) (pe_dget hu (pe_dget hu (pv 1) pe_str (fun _ _ => rfl)) (pe_tup (pa_cons (pv 7) (pa_cons (pv 8) (pa_cons (pv 9) pa_nil)))) (fun _ _ => rfl)) rfl))))
      (Evl.pss_cut (ps_setLc (i := 11) (own := [("_law_old", 14)]) (g := gName 14) (tt := tYes) (te := tOp (rIxL K) (tDGet (tVar 1) (tC (.str "colours"))) (tVar 14)) rfl scSeat.nd rfl rfl (sw_true rfl rfl rfl (by decide +kernel)) (pi_list (pv 3))
          (blkOk_by (N := nSeat) (sc := defScope sSeated) (by decide +kernel)) (fun _ _ _ _ _ => pg_name (i := 14) scSeat.nd rfl (Or.inl rfl)) (fun _ _ _ _ _ => pts_nil)
          (fun _ _ _ _ _ => by exact pe_ix ix_list (pe_dget hu (pv 1) pe_str (fun _ _ => rfl)) (pv 14) (fun _ _ => rfl)))
      (pss_one (ps_ret (pe_tup (pa_cons (pe_disp (pps_cons pe_str (pv 4) (pps_cons pe_str (pv 11) (pps_cons pe_str (pv 6) pps_nil))) (by rfl) (by rfl) (fun z => by cases z) (by decide)) (pa_cons
          (pe_lc (own := [("_law_old", 14)]) (g := gName 14) (tt := tYes) (te := tOp (rIxL K) (tVar 2) (tVar 14)) rfl scSeat.nd (pi_list (pv 3))
          (blkOk_by (N := nSeat) (sc := defScope sSeated) (by decide +kernel)) (fun _ _ _ _ _ => pg_name (i := 14) scSeat.nd rfl (Or.inl rfl)) (fun _ _ _ _ _ => pts_nil)
          (fun _ _ _ _ _ => by exact pe_ix ix_list (pv 2) (pv 14) (fun _ _ => rfl))) pa_nil)))))))))), ?_⟩
    generalize hN : led.length = N at *
    -- order
    refine ⟨fun σ H1 => ∃ o od, σ = [some (.ref sa), some (.ref wd), some (.ref ld), some (.ref o), none, none, none, none, none, none, none, none, none, none, none] ∧ H o = none ∧ H1 o = some (.lst (natV od)) ∧ od.Perm (List.range N) ∧ Src H1 sa ca ∧ Kp sa ca H H1, ?_, ?_⟩
    · refine ⟨_, rfl, _, rfl, ld, _, rfl, .inl (SqL.of hld), _, rfl, RgOk.of_le (by omega) (by rw [List.length_map]; omega) (by omega) (by omega), fun q hq => ?_⟩
      refine ⟨sa, ca, q, _, rfl, S.new hq, SqL.of upd_same, by rw [List.length_map, hN, rgV_nat]; simp; omega, fun p ys H1 hp pm hpl S1 kp1 => ?_⟩
      rw [List.length_map, hN, rgV_nat] at pm
      obtain ⟨od, rfl, po⟩ := perm_nat pm
      have hq' : H p = none := (same_new hq).free hp
      exact ⟨p, od, rfl, hq', hpl, po, S1, (Kp.same (same_new hq)).trans kp1⟩
    rintro σ H1 ⟨o, od, rfl, ho0, ho, po, S1, kp1⟩
    have hol : od.length = N := by rw [po.length_eq]; simp
    obtain ⟨nos, noc⟩ := S.ne ho0
    obtain ⟨cs0, l0, m0, t0, S0⟩ := id S
    have nls : ld ≠ sa := ne_of hld S0.ds (by intro z; cases z)
    have nbs : b ≠ sa := ne_of hb S0.ds (by intro z; cases z)
    have nts : t ≠ sa := ne_of ht S0.ds (by intro z; cases z)
    have ntc : t ≠ ca := ne_of ht S0.dc (by intro z; cases z)
    have nwc : wd ≠ ca := ne_of hwd S0.dc (by intro z; cases z)
    have hld1 := kp1 _ _ hld nls nlc
    -- names
    refine ⟨fun σ H2 => ∃ na nm, σ = [some (.ref sa), some (.ref wd), some (.ref ld), some (.ref o), some (.ref na), none, none, none, none, none, none, none, none, none, none] ∧ H na = none ∧ H2 na = some (.lst (List.map V.str nm)) ∧ nm.Perm ((List.range N).map nameN) ∧ Src H2 sa ca ∧ Kp sa ca H1 H2, ?_, ?_⟩
    · refine ⟨_, rfl, _, rfl, ld, _, rfl, .inl (SqL.of hld1), _, rfl, by rw [List.length_map]; omega, by rw [List.length_map]; omega, fun D hD => ?_⟩
      rw [List.length_map, hN]
      refine lc_range (lo := 0) (n := N) (fun i H2 => H2 D = some (.lst (((List.range i).map nameN).map V.str)) ∧ Same H1 H2) ⟨upd_same, same_new hD⟩ ?_ ?_
      · rintro i H2 hi ⟨hD2, s2⟩
        refine ⟨rfl, tyes ?_⟩
        have hl := nameN_len i (by omega)
        refine ⟨_, rfl, _, rfl, log_small (by omega), _, _, rfl, rfl, ?_, _, hD2, Evl.sz_lt (by simp; omega), ?_, ?_⟩
        · rw [Int.zero_add]
          exact Evl.sz_of (by omega)
        · rw [upd_same, List.range_succ, List.map_append, List.map_append, Int.zero_add]
          rfl
        · intro b o e
          rw [upd_ne (ne_of_none e hD)]
          exact s2 b o e
      · rintro H2 ⟨hD2, s2⟩
        refine ⟨sa, ca, D, _, rfl, S1.same s2, SqL.of hD2, by simp; omega, fun p ys H3 hp pm hpl S3 kp3 => ?_⟩
        obtain ⟨nm, rfl, pn⟩ := perm_str pm
        have hp0 : H p = none := kp1.free S1 (s2.free hp)
        exact ⟨p, nm, rfl, hp0, hpl, pn, S3, (Kp.same s2).trans kp3⟩
    rintro σ H2 ⟨na, nm, rfl, hna0, hna, pn, S2, kp2⟩
    have hnl : nm.length = N := by rw [pn.length_eq]; simp
    obtain ⟨nns, nnc⟩ := S.ne hna0
    have ho2 := kp2 _ _ ho nos noc
    have kp02 := kp1.trans kp2
    -- seats
    refine ⟨fun σ H3 => ∃ se, σ = [some (.ref sa), some (.ref wd), some (.ref ld), some (.ref o), some (.ref na), some (.ref se), none, none, none, none, none, none, none, none, none] ∧ H3 se = some (.dK (seatKV od od.length)) ∧ Same H2 H3, ?_, ?_⟩
    · refine ⟨_, rfl, o, _, rfl, SqL.of ho2, fun D hD => ?_⟩
      refine lc_it (walk_enum (xs := natV od)) (fun i H3 => ∃ ps : List Addr, H3 D = some (.lst (ps.map V.ref)) ∧ ps.length = i ∧ Paired (fun p kv => H3 p = some (.tup [kV kv.1, kv.2])) ps (seatKV od i) ∧ Same H2 H3) ⟨[], upd_same, rfl, .nil, same_new hD⟩ (fun i H3 _ ⟨_, _, _, _, h⟩ => SqL.of (h _ _ ho2)) ?_ ?_
      · rintro i x H3 H4 hi ⟨ps, hD3, hpl, pr, s3⟩ ⟨T, x1, y1, rfl, hT, rfl, e1, e2⟩
        rw [List.length_map] at hi
        have e2 : (natV od)[i]? = some y1 := e2
        rw [List.getElem?_map] at e2
        obtain ⟨y0, hy0, rfl⟩ := Option.map_eq_some_iff.mp e2
        cases e1
        refine ⟨T, _, rfl, SqT.of upd_same, rfl, _, _, rfl, _, _, rfl, rfl, rfl, tyes ?_⟩
        refine ⟨_, rfl, _, rfl, (by show 2 ≤ sizeLine; decide), fun u hu => ?_⟩
        have sT := same_new (o := .tup [V.int (i : Nat), V.int (y0 : Int)]) hT
        have su := same_new (o := .tup [V.int (y0 : Int), V.int (i : Nat)]) hu
        have sTu := sT.trans su
        have nDu : u ≠ D := fun e => by subst e; rw [sT _ _ hD3] at hu; cases hu
        refine ⟨_, sTu _ _ hD3, Evl.sz_lt (by rw [List.length_map]; omega), ps ++ [u], by rw [upd_same, List.map_append]; rfl, by simp [hpl], ?_, ?_⟩
        · rw [seat_step hy0]
          refine paired_snoc (Paired.mapP pr fun p kv h => ?_) ?_
          · rw [upd_ne (ne_of h hD3 (by intro z; cases z))]
            exact sTu _ _ h
          · rw [upd_ne nDu]
            exact upd_same
        · intro b ob e
          rw [upd_ne (ne_of_none e hD)]
          exact sTu _ _ (s3 b ob e)
      · rintro H3 ⟨ps, hD3, hpl, pr, s3⟩
        rw [List.length_map] at pr
        refine ⟨D, ps, seatKV od od.length, rfl, SqL.of hD3, Paired.mapP pr fun p kv h => SqT.of h, fun p hp => ?_⟩
        have nd : ((seatKV od od.length).map (·.1)).Nodup := seat_nd (po.nodup_iff.mpr List.nodup_range)
        refine ⟨p, rfl, ?_, s3.trans (same_new hp)⟩
        rw [upd_same, merge_nd (acc := []) (by simpa using nd)]
        rfl
    rintro σ H3 ⟨se, rfl, hse, s3⟩
    intro t2 ht2
    have s4 := same_new (o := .dT []) ht2
    have s24 := s3.trans s4
    have S4 := S2.same s24
    have kp04 : Kp sa ca H (upd H3 t2 (.dT [])) := kp02.trans (Kp.same s24)
    have h20 : H t2 = none := kp02.free S2 (s3.free ht2)
    obtain ⟨n2s, n2c⟩ := S.ne h20
    have hwd4 := kp04 _ _ hwd nws nwc
    have hb4 := kp04 _ _ hb nbs nbc
    have ht4 := kp04 _ _ ht nts ntc
    have hld4 := kp04 _ _ hld nls nlc
    have ho4 := s24 _ _ ho2
    have hna4 := s24 _ _ hna
    have hse4 := s4 _ _ hse
    have h24 : (upd H3 t2 (.dT [])) t2 = some (.dT []) := upd_same
    have ntt : t2 ≠ t := fun e => by subst e; rw [h20] at ht; cases ht
    generalize upd H3 t2 (.dT []) = H4 at *
    -- the ties
    refine ⟨fun σ H5 => ∃ v7 v8 v9 v10 kv2, σ = [some (.ref sa), some (.ref wd), some (.ref ld), some (.ref o), some (.ref na), some (.ref se), some (.ref t2), v7, v8, v9, v10, none, none, none, none] ∧ H5 t2 = some (.dT kv2) ∧ Ties N m kv2 ∧ kv2.length ≤ 4000 ∧ (∀ b o, H4 b = some o → b ≠ t2 → H5 b = some o), ?_, ?_⟩
    · refine ⟨_, rfl, wd, _, rfl, dg_ties hwd4, t, kvs, rfl, .inl ht4, fun l bs hl hk => ?_⟩
      obtain ⟨kl, hbl⟩ := keyL_of hk
      have kl2 := kl.same (same_new (o := .lst (bs.map V.ref)) hl)
      obtain ⟨so1, so2⟩ := sort_ties kl2 ti
      refine ⟨l, _, _, rfl, SqL.of upd_same, so1, so2, fun ys p pm hp => ?_⟩
      have s5 := (same_new (o := .lst (bs.map V.ref)) hl).trans (same_new (o := .lst ys) hp)
      have kly : KeyL (upd (upd H4 l (.lst (bs.map V.ref))) p (.lst ys)) kvs ys := fun y hy => (kl.same s5) y (pm.subset hy)
      have hpp : (upd (upd H4 l (.lst (bs.map V.ref))) p (.lst ys)) p = some (.lst ys) := upd_same
      have hyl : ys.length ≤ 4000 := by rw [pm.length_eq, List.length_map]; omega
      have np2 : p ≠ t2 := fun e => by subst e; rw [same_new hl _ _ h24] at hp; cases hp
      generalize upd (upd H4 l (.lst (bs.map V.ref))) p (.lst ys) = H5 at *
      refine ⟨p, rfl, ⟨_, SqL.of hpp⟩, ?_⟩
      refine for_list (xs := ys) (fun i σ H6 => ∃ v7 v8 v9 v10 kv2, σ = [some (.ref sa), some (.ref wd), some (.ref ld), some (.ref o), some (.ref na), some (.ref se), some (.ref t2), v7, v8, v9, v10, none, none, none, none] ∧ H6 t2 = some (.dT kv2) ∧ Ties N m kv2 ∧ kv2.length ≤ i ∧ (∀ b o, H5 b = some o → b ≠ t2 → H6 b = some o))
        ⟨none, none, none, none, [], rfl, s5 _ _ h24, Ties.nil N m, Nat.le_refl _, fun b o e _ => e⟩ (fun i σ H6 _ ⟨_, _, _, _, _, _, _, _, _, h⟩ => SqL.of (h _ _ hpp np2)) ?_ ?_
      · rintro i y σ H6 hi ⟨v7, v8, v9, v10, kv2, rfl, h26, ti6, hl6, kp6⟩
        have hil := (List.getElem?_eq_some_iff.mp hi).1
        obtain ⟨b1, i1, j1, x1, kd1, rfl, hb1, hmem, hij, hjn, hkw, hx1, hx2⟩ := kly.tie ti (List.mem_of_getElem? hi)
        have stay : ∀ b o, H4 b = some o → b ≠ t2 → H6 b = some o := fun b o e h => kp6 b o (s5 _ _ e) h
        have nb12 : b1 ≠ t2 := ne_of hb1 (s5 _ _ h24) (by intro z; cases z)
        have hb6 := kp6 _ _ hb1 nb12
        have hse6 := stay _ _ hse4 (ne_of hse4 h24 (by intro z; cases z))
        have hwd6 := stay _ _ hwd4 (ne_of hwd4 h24 (by intro z; cases z))
        have ht6 := stay _ _ ht4 ntt.symm
        have seat : ∀ x < N, ∃ j, od[j]? = some x ∧ j < N ∧ valV (seatKV od od.length) (Sum.inl (x : Int) : Key) = some (V.int (j : Int)) := fun x hx => by
          obtain ⟨j, hj⟩ := List.getElem?_of_mem (po.mem_iff.mpr (List.mem_range.mpr hx))
          have hjl := (List.getElem?_eq_some_iff.mp hj).1
          exact ⟨j, hj, by omega, val_of_mem (seat_nd (po.nodup_iff.mpr List.nodup_range)) (seat_mem hj)⟩
        obtain ⟨u1, hu1, hu1n, hv1⟩ := seat i1 (by omega)
        obtain ⟨u2, hu2, hu2n, hv2⟩ := seat j1 hjn
        have hne : u1 ≠ u2 := fun e => by subst e; rw [hu1] at hu2; have := Option.some.inj hu2; omega
        refine ⟨b1, _, rfl, SqT.of hb6, rfl, _, _, rfl, _, _, rfl, _, _, rfl, rfl, ?_⟩
        refine ⟨_, rfl, _, rfl, se, _, rfl, (by rw [← hv1]; exact DGet.k (k := Sum.inl (i1 : Int)) hse6), _, rfl, _, rfl, se, _, rfl, (by rw [← hv2]; exact DGet.k (k := Sum.inl (j1 : Int)) hse6), (by show 2 ≤ sizeLine; decide), fun l1 hl1 => ?_⟩
        refine ⟨l1, [(u1 : Int), (u2 : Int)], rfl, SqL.of upd_same, (by show 2 < 64; decide), fun ns sp pms srt hsp => ?_⟩
        obtain ⟨n0, n1, rfl, h01, h1N⟩ : ∃ n0 n1 : Nat, ns = [(n0 : Int), (n1 : Int)] ∧ n0 < n1 ∧ n1 < N := by
          have hl2 : ns.length = 2 := pms.length_eq
          match ns, hl2 with
          | [z0, z1], _ =>
            have hle : z0 ≤ z1 := by simpa using srt
            have h0 := pms.mem_iff.mp (show z0 ∈ [z0, z1] by simp)
            have h1 := pms.mem_iff.mp (show z1 ∈ [z0, z1] by simp)
            have h2 := pms.mem_iff.mpr (show (u1 : Int) ∈ [(u1 : Int), (u2 : Int)] by simp)
            have h3 := pms.mem_iff.mpr (show (u2 : Int) ∈ [(u1 : Int), (u2 : Int)] by simp)
            simp at h0 h1 h2 h3
            refine ⟨z0.toNat, z1.toNat, ?_, by omega, by omega⟩
            rw [Int.toNat_of_nonneg (by omega), Int.toNat_of_nonneg (by omega)]
        have s7 := (same_new (o := .lst ([(u1 : Int), (u2 : Int)].map V.int)) hl1).trans (same_new (o := .lst ([(n0 : Int), (n1 : Int)].map V.int)) hsp)
        have hsp7 : (upd (upd H6 l1 (.lst ([(u1 : Int), (u2 : Int)].map V.int))) sp (.lst ([(n0 : Int), (n1 : Int)].map V.int))) sp = some (.lst [V.int (n0 : Int), V.int (n1 : Int)]) := upd_same
        refine ⟨_, rfl, wd, _, rfl, dg_ties (s7 _ _ hwd6), _, rfl, _, rfl, _, rfl, (by show 3 ≤ sizeLine; decide), fun q1 hq1 => ?_⟩
        have s8 := s7.trans (same_new (o := .tup [V.int (i1 : Int), V.int (j1 : Int), V.str kd1]) hq1)
        refine ⟨t, V.int (x1 : Int), rfl, (by rw [← val_of_mem ti.nd hmem]; exact DGet.t (k := [Sum.inl (i1 : Int), Sum.inl (j1 : Int), Sum.inr kd1]) (s8 _ _ ht6) upd_same), ?_⟩
        have hsp8 := same_new (o := .tup [V.int (i1 : Int), V.int (j1 : Int), V.str kd1]) hq1 _ _ hsp7
        refine ⟨_, rfl, _, rfl, sp, _, 0, V.int (n0 : Int), rfl, rfl, SqL.of hsp8, atI_nat (j := 0) rfl, _, rfl, sp, _, 1, V.int (n1 : Int), rfl, rfl, SqL.of hsp8, atI_nat (j := 1) rfl, _, rfl, (by show 3 ≤ sizeLine; decide), fun q2 hq2 => ?_⟩
        have s9 := s8.trans (same_new (o := .tup [V.int (n0 : Int), V.int (n1 : Int), V.str kd1]) hq2)
        refine ⟨t2, _, rfl, DPut.t (k := [Sum.inl (n0 : Int), Sum.inl (n1 : Int), Sum.inr kd1]) (s9 _ _ h26) upd_same (Evl.sz_lt (by omega)), ?_⟩
        refine ⟨_, _, _, _, _, rfl, upd_same, ti6.put ⟨n0, n1, kd1, rfl, h01, h1N, hkw⟩ hx1 hx2, by have := length_putK kv2 [Sum.inl (n0 : Int), Sum.inl (n1 : Int), Sum.inr kd1] (V.int (x1 : Int)); omega, fun b o e h => ?_⟩
        rw [upd_ne h]
        exact s9 _ _ (kp6 b o e h)
      · rintro σ H6 ⟨v7, v8, v9, v10, kv2, rfl, h26, ti6, hl6, kp6⟩
        exact ⟨v7, v8, v9, v10, kv2, rfl, h26, ti6, by omega, fun b o e h => kp6 b o (s5 _ _ e) h⟩
    rintro σ H5 ⟨v7, v8, v9, v10, kv2, rfl, h25, ti5, hl5, kp5⟩
    have S5 : Src H5 sa ca := by
      obtain ⟨cs, l, m, tt, S4⟩ := S4
      exact ⟨cs, l, m, tt, ⟨kp5 _ _ S4.ds n2s.symm, kp5 _ _ S4.dc n2c.symm, S4.nn, S4.len, S4.l0, S4.m0, S4.m1, S4.t0⟩⟩
    have kp05 : Kp sa ca H H5 := fun b o e h1 h2 => kp5 b o (kp04 b o e h1 h2) (ne_of_none e h20)
    have hwd5 := kp5 _ _ hwd4 (ne_of hwd4 h24 (by intro z; cases z))
    have hb5 := kp5 _ _ hb4 (ne_of hb4 h24 (by intro z; cases z))
    have hld5 := kp5 _ _ hld4 (ne_of hld4 h24 (by intro z; cases z))
    have ho5 := kp5 _ _ ho4 (ne_of ho4 h24 (by intro z; cases z))
    have hna5 := kp5 _ _ hna4 (ne_of hna4 h24 (by intro z; cases z))
    have odN : ∀ x ∈ od, x < N := fun x hx => List.mem_range.mp (po.mem_iff.mp hx)
    -- colours
    refine ⟨fun σ H6 => ∃ bc cl2, σ = [some (.ref sa), some (.ref wd), some (.ref ld), some (.ref o), some (.ref na), some (.ref se), some (.ref t2), v7, v8, v9, v10, some (.ref bc), none, none, none] ∧ H bc = none ∧ H6 bc = some (.lst (List.map V.str cl2)) ∧ cl2.length = N ∧ (∀ x ∈ cl2, isWordB x = true) ∧ Same H5 H6, ?_, ?_⟩
    · refine ⟨_, rfl, o, rfl, ⟨_, SqL.of ho5⟩, fun D hD => ?_⟩
      refine lc_list (xs := natV od) (fun i H6 => ∃ cl2, H6 D = some (.lst (List.map V.str cl2)) ∧ cl2.length = i ∧ (∀ x ∈ cl2, isWordB x = true) ∧ Same H5 H6) ⟨[], upd_same, rfl, (fun x hx => (List.not_mem_nil hx).elim), same_new hD⟩ (fun i H6 _ ⟨_, _, _, _, h⟩ => SqL.of (h _ _ ho5)) ?_ ?_
      · rintro i x H6 hi ⟨cl2, hD6, hcl2, hcw2, s6⟩
        have hil := (List.getElem?_eq_some_iff.mp hi).1
        rw [List.length_map] at hil
        rw [List.getElem?_map] at hi
        obtain ⟨y0, hy0, rfl⟩ := Option.map_eq_some_iff.mp hi
        have hyN := odN y0 (List.mem_of_getElem? hy0)
        obtain ⟨cy, hcy⟩ : ∃ cy, cl[y0]? = some cy := ⟨_, List.getElem?_eq_getElem (by omega)⟩
        refine ⟨rfl, tyes ?_⟩
        refine ⟨_, rfl, wd, _, rfl, dg_colours (s6 _ _ hwd5), _, rfl, b, _, _, V.str cy, rfl, rfl, SqL.of (s6 _ _ hb5), atI_nat (by rw [List.getElem?_map, hcy]; rfl), ?_⟩
        refine ⟨_, hD6, Evl.sz_lt (by rw [List.length_map]; omega), cl2 ++ [cy], by rw [upd_same, List.map_append]; rfl, by simp [hcl2], ?_, ?_⟩
        · intro x hx
          rcases List.mem_append.mp hx with z | z
          · exact hcw2 x z
          · rw [List.mem_singleton] at z
            subst z
            exact hcw _ (List.mem_of_getElem? hcy)
        · intro b o e
          rw [upd_ne (ne_of_none e hD)]
          exact s6 b o e
      · rintro H6 ⟨cl2, hD6, hcl2, hcw2, s6⟩
        rw [List.length_map] at hcl2
        exact ⟨D, cl2, rfl, kp05.free S5 hD, hD6, by omega, hcw2, s6⟩
    rintro σ H6 ⟨bc, cl2, rfl, hbc0, hbc, hcl2, hcw2, s6⟩
    have S6 := S5.same s6
    have kp06 := kp05.trans (Kp.same s6)
    obtain ⟨nbs', nbc'⟩ := S.ne hbc0
    -- the answer
    intro p hp
    have sp := same_new (o := .dK []) hp
    have hp0 : H p = none := kp06.free S6 hp
    obtain ⟨nps, npc⟩ := S.ne hp0
    refine ⟨_, rfl, _, rfl, _, rfl, upd_same, worldD na bc t2, rfl, (by show 3 ≤ 15; decide), ?_⟩
    rw [merge_wd]
    have hna6 := s6 _ _ hna5
    have h26 := s6 _ _ h25
    have npn : p ≠ na := fun e => by subst e; rw [hna6] at hp; cases hp
    have npb : p ≠ bc := fun e => by subst e; rw [hbc] at hp; cases hp
    have np2 : p ≠ t2 := fun e => by subst e; rw [h26] at hp; cases hp
    have ud : ∀ b o, H6 b = some o → (upd (upd H6 p (.dK [])) p (.dK (worldD na bc t2))) b = some o := fun b o e => by
      rw [upd_ne (ne_of_none e hp), upd_ne (ne_of_none e hp)]
      exact e
    have hpp : (upd (upd H6 p (.dK [])) p (.dK (worldD na bc t2))) p = some (.dK (worldD na bc t2)) := upd_same
    have s7 : Same H6 (upd (upd H6 p (.dK [])) p (.dK (worldD na bc t2))) := ud
    generalize upd (upd H6 p (.dK [])) p (.dK (worldD na bc t2)) = H7 at *
    refine ⟨_, rfl, o, rfl, ⟨_, SqL.of (s7 _ _ (s6 _ _ ho5))⟩, fun D hD => ?_⟩
    have S7 := S6.same s7
    have kp07 := kp06.trans (Kp.same s7)
    have hD0 : H D = none := kp07.free S7 hD
    refine lc_list (xs := natV od) (fun i H8 => ∃ led', H8 D = some (.lst (natV led')) ∧ led'.length = i ∧ led' = (od.take i).map (fun y => led.getD y 0) ∧ Same H7 H8) ⟨[], upd_same, rfl, rfl, same_new hD⟩ (fun i H8 _ ⟨_, _, _, _, h⟩ => SqL.of (h _ _ (s7 _ _ (s6 _ _ ho5)))) ?_ ?_
    · rintro i x H8 hi ⟨led', hD8, hll, hlm, s8⟩
      have hil := (List.getElem?_eq_some_iff.mp hi).1
      rw [List.length_map] at hil
      rw [List.getElem?_map] at hi
      obtain ⟨y0, hy0, rfl⟩ := Option.map_eq_some_iff.mp hi
      have hyN := odN y0 (List.mem_of_getElem? hy0)
      obtain ⟨ly, hly⟩ : ∃ ly, led[y0]? = some ly := ⟨_, List.getElem?_eq_getElem (by omega)⟩
      refine ⟨rfl, tyes ?_⟩
      refine ⟨_, rfl, _, rfl, ld, _, _, V.int (ly : Int), rfl, rfl, SqL.of (s8 _ _ (s7 _ _ (s6 _ _ hld5))), atI_nat (by rw [List.getElem?_map, hly]; rfl), ?_⟩
      refine ⟨_, hD8, Evl.sz_lt (by rw [List.length_map]; omega), led' ++ [ly], by unfold natV; rw [upd_same, List.map_append]; rfl, by simp [hll], ?_, ?_⟩
      · rw [List.take_add_one, hy0, List.map_append, hlm]
        show _ = _ ++ [led.getD y0 0]
        rw [List.getD_eq_getElem?_getD, hly]
        rfl
      · intro b o e
        rw [upd_ne (ne_of_none e hD)]
        exact s8 b o e
    · rintro H8 ⟨led', hD8, hll, hlm, s8⟩
      replace hlm : ∀ x, x ∈ led' ↔ x ∈ led := fun x => by
        rw [List.take_of_length_le (by rw [List.length_map]; omega)] at hlm
        rw [hlm, List.mem_map]
        constructor
        · rintro ⟨y, hy, rfl⟩
          have hyN := odN y hy
          rw [List.getD_eq_getElem?_getD, List.getElem?_eq_getElem (show y < led.length by omega)]
          exact List.getElem_mem _
        · intro hx
          obtain ⟨y, hy⟩ := List.getElem?_of_mem hx
          have hyl := (List.getElem?_eq_some_iff.mp hy).1
          refine ⟨y, po.mem_iff.mpr (List.mem_range.mpr (by omega)), ?_⟩
          rw [List.getD_eq_getElem?_getD, hy]
          rfl
      rw [List.length_map] at hll
      refine ⟨(by show 2 ≤ sizeLine; decide), fun r hr => ?_⟩
      have s9 := s8.trans (same_new (o := .tup [.ref p, .ref D]) hr)
      have kp09 := kp07.trans (Kp.same s9)
      refine k r p na bc t2 D nm cl2 kv2 led' _ hp0 hna0 hbc0 h20 hD0 upd_same ⟨s9 _ _ hpp, s9 _ _ (s7 _ _ hna6), s9 _ _ (s7 _ _ hbc), s9 _ _ (s7 _ _ h26), ⟨nps, npc⟩, ⟨nns, nnc⟩, ⟨nbs', nbc'⟩, ⟨n2s, n2c⟩, ?_, ?_, hcw2, by omega, by omega⟩ (by omega) (by rw [hnl]; exact ti5) hl5 (same_new hr _ _ hD8) (by omega) hlm (S7.same s9) kp09
      · refine pn.nodup_iff.mpr (List.Sublist.nodup (List.Sublist.map nameN ?_) nameN_nd)
        exact List.range_sublist.mpr hn2
      · intro x hx
        obtain ⟨y, hy, rfl⟩ := List.mem_map.mp (pn.mem_iff.mp hx)
        exact nameN_w y (by have := List.mem_range.mp hy; omega)
end
end Nm
set_option maxRecDepth 100000
set_option maxHeartbeats 4000000
namespace Nm
open PySem L2
theorem Ties.mono {n m m' : Nat} {kvs : List (List Key × V)} (h : Ties n m kvs) (e : m ≤ m') : Ties n m' kvs := ⟨h.key, fun kv hm => by
  obtain ⟨x, a, b, c⟩ := h.val kv hm
  exact ⟨x, a, b, by omega⟩, h.nd⟩
def SeatsOk (kvS : List (List Key × V)) (led : List Nat) (ok : Nat → Nat → Prop) : Prop := ∀ p u, ok p u → ∃ idx : Nat, led[idx]? = some p ∧ valV kvS [Sum.inl (p : Int), Sum.inl (u : Int)] = some (V.int (idx : Int))
theorem SeatsOk.put {kvS : List (List Key × V)} {led : List Nat} {ok ok' : Nat → Nat → Prop} (h : SeatsOk kvS led ok) {i j : Nat} (e : ∀ p u, ok' p u → ok p u ∨ (p = i ∧ u = j)) :
    SeatsOk (putK kvS [Sum.inl (i : Int), Sum.inl (j : Int)] (V.int (led.length : Int))) (led ++ [i]) ok' := by
  intro p u hp
  rw [valV_put]
  by_cases hk : ([Sum.inl (p : Int), Sum.inl (u : Int)] : List Key) = [Sum.inl (i : Int), Sum.inl (j : Int)]
  · rw [if_pos hk]
    have hpi : p = i := by
      have := Sum.inl.inj (List.cons.inj hk).1
      omega
    exact ⟨led.length, by rw [hpi]; simp, rfl⟩
  · rw [if_neg hk]
    rcases e p u hp with z | ⟨z1, z2⟩
    · obtain ⟨idx, h1, h2⟩ := h p u z
      exact ⟨idx, by rw [List.getElem?_append_left (List.getElem?_eq_some_iff.mp h1).1]; exact h1, h2⟩
    · subst z1 z2
      exact absurd rfl hk
section
variable {κ : Type} [DecidableEq κ]
theorem mem_of_val : ∀ {kvs : List (κ × V)} {k : κ} {v : V}, valV kvs k = some v → (k, v) ∈ kvs
  | [], _, _, h => by cases h
  | kv :: r, k, v, h => by
    by_cases e : kv.1 = k
    · rw [valV_pos e] at h
      cases h
      subst e
      exact List.mem_cons_self
    · rw [valV_neg e] at h
      exact List.mem_cons_of_mem _ (mem_of_val h)
end
theorem two_sorted {ns : List Int} {u1 u2 N : Nat} (pms : ns.Perm [(u1 : Int), (u2 : Int)]) (srt : ns.Pairwise (· ≤ ·)) (hne : u1 ≠ u2) (h1 : u1 < N) (h2 : u2 < N) : ∃ n0 n1 : Nat, ns = [(n0 : Int), (n1 : Int)] ∧ n0 < n1 ∧ n1 < N := by
  have hl2 : ns.length = 2 := pms.length_eq
  match ns, hl2 with
  | [z0, z1], _ =>
    have hle : z0 ≤ z1 := by simpa using srt
    have h0 := pms.mem_iff.mp (show z0 ∈ [z0, z1] by simp)
    have h1 := pms.mem_iff.mp (show z1 ∈ [z0, z1] by simp)
    have h2 := pms.mem_iff.mpr (show (u1 : Int) ∈ [(u1 : Int), (u2 : Int)] by simp)
    have h3 := pms.mem_iff.mpr (show (u2 : Int) ∈ [(u1 : Int), (u2 : Int)] by simp)
    simp at h0 h1 h2 h3
    refine ⟨z0.toNat, z1.toNat, ?_, by omega, by omega⟩
    rw [Int.toNat_of_nonneg (by omega), Int.toNat_of_nonneg (by omega)]
section
variable {P : Program} {w : World} {K : PySem.W.Frag} {mg : Str → Option Value} {base : Heap}
def spPick0 : Sp := fun vs H Q _ => ∃ (s : Addr) (n : Int), vs = [.ref s, .int n] ∧ n < 2 ∧ Q (.int 0) H
/-- pick, of 0 too -/
def spPickZ : Sp := fun vs H Q E => spPick vs H Q E ∨ spPick0 vs H Q E
theorem ok_pickZ {f : Addr} {fd : FuncData} (F : Fun K "_law_pick" "_law_pick" sPick f fd) (T : TxtA mg) : FnOk P w K mg base CX0 1 f fd ["_law_source", "_law_many"] spPickZ := by
  have h0 : FnOk P w K mg base CX0 1 f fd ["_law_source", "_law_many"] spPick0 := by
    refine F.ok scPick (fun vs H Q E h => ?_) (fun cdv A outer s H vs Q E hr h => ?_)
    · obtain ⟨p, n, rfl, _⟩ := h
      rfl
    · obtain ⟨sa, n, rfl, n1, k⟩ := h
      have hu := hu_of hr
      refine ⟨_, pss_cons (ps_if (pt_cmpR op_lt (pv 1) pe_int (nomark _)) (pss_one (ps_ret pe_int)) pss_nil)
        (pss_cons (ps_set (i := 2) scPick.nd rfl (Or.inl rfl) (pe_dget hu (pv 0) pe_str (fun _ _ => rfl)))
        (Evl.pss_cut (ps_while PassesOwn.never (PW.pt (pw_and (pt_cmpR op_lt (pe_dget hu (pv 0) pe_str (fun _ _ => rfl)) pe_int (nomark _)) (pw_and1 (pt_cmpR op_gt (pe_callB call_len_seq (by rfl) T.len PySem.boot_len (pa_cons (pv 2) pa_nil)) pe_int (nomark _)))))
          (pss_one (ps_dput hu (pv 0) pe_str (pe_bm0 PySem.F.plainAttrs_list PySem.F.slot_list_pop PySem.F.type_list_pop mt_pop (pv 2)) rfl)))
        (pss_cons (ps_set (i := 3) scPick.nd rfl (Or.inl rfl) (pe_dget hu (pv 0) pe_str (fun _ _ => rfl)))
        (pss_cons (ps_if (pt_cmpR op_gt (pv 3) pe_int (nomark _))
          (pss_cons (ps_dput hu (pv 0) pe_str (pe_op op_fdiv (pv 3) (pv 1)) rfl) (pss_one (ps_ret (pe_op op_mod (pe_callTy call_int1 (by rfl) T.int (by decide +kernel) (pa_cons (pv 3) pa_nil)) (pv 1))))) pss_nil)
        (pss_cons (ps_dput hu (pv 0) pe_str (pe_op op_add (pe_dget hu (pv 0) pe_str (fun _ _ => rfl)) pe_int) rfl)
        (pss_cons (ps_set (i := 4) scPick.nd rfl (Or.inl rfl) (pe_dget hu (pv 0) pe_str (fun _ _ => rfl)))
        (pss_cons (ps_set (i := 5) scPick.nd rfl (Or.inl rfl) (pe_op op_mod (pe_callTy call_int1 (by rfl) T.int (by decide +kernel) (pa_cons (pe_op op_add (pe_dget hu (pv 0) pe_str (fun _ _ => rfl)) (pe_op op_mul (pv 4) pe_int)) pa_nil)) pe_int))
        (pss_cons (ps_set (i := 5) scPick.nd rfl (Or.inl rfl) (pe_op op_mod (pe_callTy call_int1 (by rfl) T.int (by decide +kernel) (pa_cons (pe_op op_add (pe_op op_mul (pv 5) (pv 5)) (pe_op op_mul (pv 4) pe_int)) pa_nil)) pe_int))
        (pss_one (ps_ret (pe_op op_mod (pe_callTy call_int1 (by rfl) T.int (by decide +kernel) (pa_cons (pe_op op_fdiv (pv 5) pe_int) pa_nil)) (pv 1)))))))))))), ?_⟩
      refine ⟨_, rfl, _, _, rfl, rfl, _, rfl, ?_⟩
      have : decide (n < 2) = true := decide_eq_true n1
      show (if decide (n < 2) = true then _ else _)
      rw [if_pos this]
      exact k
  have h1 := ok_pick (P := P) (w := w) (base := base) F T
  exact ⟨fun vs H Q E h => h.elim (h1.len vs H Q E) (h0.len vs H Q E), fun A outer s H args us vs Q E hr he hb hv h => h.elim (h1.run A outer s H args us vs Q E hr he hb hv) (h0.run A outer s H args us vs Q E hr he hb hv)⟩
/-! ### _law_over -/
/-- how long it can be, when all counts are equal -/
def LedK (_n : Nat) (ns led : List Nat) (b : Nat → Nat) : Prop := ∀ c0, (∀ x ∈ ns, x = c0) → led.length ≤ b c0
def spOver : Sp := fun vs H Q _ => ∃ (s c wd a b t nu : Addr) (nm cl : List Str) (kvs : List (List Key × V)) (ns : List Nat), vs = [.ref s, .ref wd, .ref nu] ∧ Src H s c ∧ WorldOk H s c wd a b t nm cl kvs ∧ Ties nm.length 2 kvs ∧ kvs.length ≤ 300 ∧ nm.length ≤ 10 ∧ H nu = some (.lst (natV ns)) ∧ nu ≠ c ∧ nm.length ≤ ns.length ∧ (∀ x ∈ ns, x ≤ 5) ∧
  (∀ ps, PartsRel nm.length kvs ps → ∃ p ∈ ps, ∃ x, ns[p]? = some x ∧ 1 ≤ x) ∧
  ∀ (r wd' a' b' t' ld' : Addr) (nm' cl' : List Str) (kvs' : List (List Key × V)) (led' : List Nat) (H' : Hp), H wd' = none → H a' = none → H b' = none → H t' = none → H ld' = none → H' r = some (.tup [.ref wd', .ref ld']) → WorldOk H' s c wd' a' b' t' nm' cl' kvs' → nm'.length ≤ 100 → Ties nm'.length 4000 kvs' → kvs'.length ≤ 4000 →
    H' ld' = some (.lst (natV led')) → led'.length = nm'.length → (∀ x ∈ led', x < nm.length) → LedK nm.length ns led' (fun c => c * nm.length) → (∀ p < nm.length, (∀ c0, (∀ x ∈ ns, x = c0) → 1 ≤ c0) → (∀ x ∈ ns, ∀ y ∈ ns, x = y) → p ∈ led') → Src H' s c → Kp s c H H' → Q (.ref r) H'
abbrev nOver : List Str := ["_law_source", "_law_world", "_law_numbers", "_law_parts_here", "_law_led", "_law_seats", "_law_ties", "_law_p", "_law_part", "_law_u", "_law_one", "_law_other", "_law_kind", "_law_many", "_law_unit", "_law_turn", "_law_spot", "_law_key", "_law_colours"]
theorem scOver : FnScope nOver ["_law_source", "_law_world", "_law_numbers"] (defScope sOver) := ⟨rfl, rfl, rfl, by decide +kernel, rfl, by decide +kernel, by decide +kernel⟩
abbrev stO (sa wd nu pa ld se t2 : Addr) (v7 v8 v9 v10 v11 v12 v13 v14 v15 v16 v17 v18 : Option V) : L2.St := [some (.ref sa), some (.ref wd), some (.ref nu), some (.ref pa), some (.ref ld), some (.ref se), some (.ref t2), v7, v8, v9, v10, v11, v12, v13, v14, v15, v16, v17, v18]
theorem ok_over {f : Addr} {fd : FuncData} (F : Fun K "_law_over" "_law_over" sOver f fd) (T : TxtD mg) (Gz : Def P w K mg base "_law_pick" ["_law_source", "_law_many"] 1 spPickZ) (Gq : Def P w K mg base "_law_parts" ["_law_world"] 1 spParts)
    (Gs : Def P w K mg base "_law_seated" ["_law_source", "_law_world", "_law_led"] 3 spSeated) : FnOk P w K mg base CX0 4 f fd ["_law_source", "_law_world", "_law_numbers"] spOver := by
  obtain ⟨fp, fdp, Gp, mp, kp, bp⟩ := Gz.ex
  obtain ⟨fq, fdq, Gq, mq, kq, bq⟩ := Gq.ex
  obtain ⟨fs, fds, Gs, ms, ks, bs⟩ := Gs.ex
  refine F.ok scOver (fun vs H Q E h => ?_) (fun cdv A outer s H vs Q E hr h => ?_)
  · obtain ⟨_, _, _, _, _, _, _, _, _, _, _, rfl, _⟩ := h
    rfl
  · obtain ⟨sa, ca, wd, a, b, t, nu, nm, cl, kvs, ns, rfl, S, W, ti, hkl, hn10, hnu, nnc, hnsl, hns10, hone, k⟩ := h
    have hu := hu_of hr
    have hr1 := hr.mono (by decide : 1 ≤ 3)
    refine ⟨_, Evl.pss_cut (ps_asg (pe_tup (pa_cons (pe_call Gq hr1 (by rfl) mq kq bq .nil pass0 (pa_cons (pv 1) pa_nil)) (pa_cons (pe_lst pa_nil) (pa_cons pe_dnewT (pa_cons pe_dnewT pa_nil))))) (pg_tup rfl (pgs_cons (pg_name (i := 3) scOver.nd rfl (.inl rfl)) (pgs_cons (pg_name (i := 4) scOver.nd rfl (.inl rfl)) (pgs_cons (pg_name (i := 5) scOver.nd rfl (.inl rfl)) (pgs_cons (pg_name (i := 6) scOver.nd rfl (.inl rfl)) pgs_nil))))))
      (Evl.pss_cut (ps_for PassesOwn.never rfl (pi_enum (by rfl) T.enumerate (pa_cons (pv 3) pa_nil)) (pg_tup rfl (pgs_cons (pg_name (i := 7) scOver.nd rfl (.inl rfl)) (pgs_cons (pg_name (i := 8) scOver.nd rfl (.inl rfl)) pgs_nil)))
        (pss_one (ps_for PassesOwn.never rfl (pi_range1 (by rfl) T.range (pa_cons (pe_ix ix_list (pv 2) (pv 8) (fun _ _ => rfl)) pa_nil)) (pg_name (i := 9) scOver.nd rfl (Or.inl rfl))
          (pss_cons (ps_dput hu (pv 5) (pe_tup (pa_cons (pv 7) (pa_cons (pv 9) pa_nil))) (pe_callB call_len_seq (by rfl) T.len PySem.boot_len (pa_cons (pv 4) pa_nil)) rfl)
          (pss_one (ps_expr (pe_bm PySem.F.plainAttrs_list PySem.F.slot_list_append PySem.F.type_list_append mt_append (pv 4) (pa_cons (pv 7) pa_nil))))))))
      (Evl.pss_cut (ps_for PassesOwn.never rfl (pi_list (pe_callB cr_sortedR (by rfl) T.sorted (by decide +kernel) (pa_cons (pe_callTy (call_list_dT rfl) (by rfl) T.list (by decide +kernel) (pa_cons (pe_dget hu (pv 1) pe_str (fun _ _ => rfl)) pa_nil)) pa_nil)))
          (pg_tup rfl (pgs_cons (pg_name (i := 10) scOver.nd rfl (.inl rfl)) (pgs_cons (pg_name (i := 11) scOver.nd rfl (.inl rfl)) (pgs_cons (pg_name (i := 12) scOver.nd rfl (.inl rfl)) pgs_nil))))
        (pss_cons (ps_set (i := 13) scOver.nd rfl (Or.inl rfl) (pe_ix ix_list (pv 2) (pe_ix ix_list (pv 3) (pv 10) (fun _ _ => rfl)) (fun _ _ => rfl)))
        (pss_one (ps_for PassesOwn.never rfl (pi_range1 (by rfl) T.range (pa_cons (pe_dget hu (pe_dget hu (pv 1) pe_str (fun _ _ => rfl)) (pe_tup (pa_cons (pv 10) (pa_cons (pv 11) (pa_cons (pv 12) pa_nil)))) (fun _ _ => rfl)) pa_nil)) (pg_name (i := 14) scOver.nd rfl (Or.inl rfl))
          (Evl.pss_cut (ps_set (i := 15) scOver.nd rfl (Or.inl rfl) (pe_call Gp hr1 (by rfl) mp kp bp .nil pass0 (pa_cons (pv 0) (pa_cons (pv 13) pa_nil))))
          (pss_one (ps_for PassesOwn.never rfl (pi_range1 (by rfl) T.range (pa_cons (pv 13) pa_nil)) (pg_name (i := 9) scOver.nd rfl (Or.inl rfl))
            (pss_cons (ps_set (i := 16) scOver.nd rfl (Or.inl rfl) (pe_callB cr_sorted (by rfl) T.sorted (by decide +kernel) (pa_cons (pe_lst (pa_cons (pe_dget hu (pv 5) (pe_tup (pa_cons (pv 10) (pa_cons (pv 9) pa_nil))) (fun _ _ => rfl)) (pa_cons (pe_dget hu (pv 5) (pe_tup (pa_cons (pv 11) (pa_cons (pe_op op_mod (pe_callTy call_int1 (by rfl) T.int (by decide +kernel) (pa_cons (pe_op op_add (pv 9) (pv 15)) pa_nil)) (pv 13)) pa_nil))) (fun _ _ => rfl)) pa_nil))) pa_nil)))
            (pss_cons (ps_set (i := 17) scOver.nd rfl (Or.inl rfl) (pe_tup (pa_cons (pe_ix ix_list (pv 16) pe_int (fun _ _ => rfl)) (pa_cons (pe_ix ix_list (pv 16) pe_int (fun _ _ => rfl)) (pa_cons (pv 12) pa_nil)))))
            (pss_one (ps_dput hu (pv 6) (pv 17) (pe_op op_add (pe_dget2 hu (pv 6) (pv 17) pe_int ⟨rfl, rfl, rfl, rfl⟩) pe_int) rfl)))))))))))
      (Evl.pss_cut (ps_setLc (i := 18) (own := [("_law_p", 7)]) (g := gName 7) (tt := tYes) (te := tOp (rIxL K) (tDGet (tVar 1) (tC (.str "colours"))) (tVar 7)) rfl scOver.nd rfl rfl (sw_true rfl rfl rfl (by decide +kernel)) (pi_list (pv 4))
          (blkOk_by (N := nOver) (sc := defScope sOver) (by decide +kernel)) (fun _ _ _ _ _ => pg_name (i := 7) scOver.nd rfl (Or.inl rfl)) (fun _ _ _ _ _ => pts_nil)
          (fun _ _ _ _ _ => by exact pe_ix ix_list (pe_dget hu (pv 1) pe_str (fun _ _ => rfl)) (pv 7) (fun _ _ => rfl)))
      (pss_one (ps_ret (pe_call Gs hr (by rfl) ms ks bs .nil pass0 (pa_cons (pv 0) (pa_cons (pe_disp (pps_cons pe_str (pv 4) (pps_cons pe_str (pv 18) (pps_cons pe_str (pv 6) pps_nil))) (by rfl) (by rfl) (fun z => by cases z) (by decide)) (pa_cons (pv 4) pa_nil))))))))), ?_⟩
    generalize hn : nm.length = n at *
    refine ⟨fun σ H2 => ∃ pa ps ld se t2, σ = stO sa wd nu pa ld se t2 none none none none none none none none none none none none ∧ (H pa = none ∧ H ld = none ∧ H se = none ∧ H t2 = none ∧ pa ≠ ld ∧ se ≠ t2) ∧ H2 pa = some (.lst (natV ps)) ∧ ps.length = n ∧ (∀ x ∈ ps, x < n) ∧
        (∀ (i j : Nat) (kd : Str) (v : V), ([Sum.inl (i : Int), Sum.inl (j : Int), Sum.inr kd], v) ∈ kvs → ps[i]? = ps[j]?) ∧ PartsRel n kvs ps ∧ H2 ld = some (.lst []) ∧ H2 se = some (.dT []) ∧ H2 t2 = some (.dT []) ∧ Same H H2, ?_, ?_⟩
    · refine ⟨_, rfl, wd, a, b, t, _, 2, kvs, rfl, W.d, W.hn, W.ht, by rw [List.length_map]; omega, by omega, by rw [List.length_map, hn]; exact ti, fun pa ps H1 hpa0 hpa hpl hpn hpe hpr s1 => ?_⟩
      rw [List.length_map, hn] at hpl hpn hpr
      refine ⟨(by show 0 ≤ sizeLine; decide), fun ld hld => ?_⟩
      intro se hse t2 ht2
      refine ⟨(by show 4 ≤ sizeLine; decide), fun tp htp => ?_⟩
      obtain ⟨n1, hse1⟩ := nx hse
      obtain ⟨n2, ht2'⟩ := nx ht2
      obtain ⟨n3, ht21⟩ := nx ht2'
      have a1 := same_new (o := .lst []) hld
      have a2 := same_new (o := .dT []) hse
      have a3 := same_new (o := .dT []) ht2
      have a4 := same_new (o := .tup [V.ref pa, V.ref ld, V.ref se, V.ref t2]) htp
      refine ⟨tp, _, rfl, SqT.of upd_same, rfl, _, _, rfl, _, _, rfl, _, _, rfl, _, _, rfl, rfl, ?_⟩
      exact ⟨pa, ps, ld, se, t2, rfl, ⟨hpa0, s1.free hld, s1.free hse1, s1.free ht21, ne_of_none hpa hld, n2.symm⟩, a4 _ _ (a3 _ _ (a2 _ _ (a1 _ _ hpa))), hpl, hpn, hpe, hpr, a4 _ _ (a3 _ _ (a2 _ _ upd_same)), a4 _ _ (a3 _ _ upd_same), a4 _ _ upd_same, (((s1.trans a1).trans a2).trans a3).trans a4⟩
    rintro σ H2 ⟨pa, ps, ld, se, t2, rfl, ⟨hpa0, hld0, hse0, ht20, npl, nst⟩, hpa, hpl, hpn, hpe, hpr, hld, hse, ht2, s2⟩
    have W2 := W.same s2
    have S2 := S.same s2
    have hnu2 := s2 _ _ hnu
    obtain ⟨nls, nlc⟩ := S.ne hld0
    obtain ⟨nes, nec⟩ := S.ne hse0
    obtain ⟨n2s, n2c⟩ := S.ne ht20
    obtain ⟨nps, npc⟩ := S.ne hpa0
    have nnl : nu ≠ ld := fun e => by subst e; rw [hld0] at hnu; cases hnu
    have nne : nu ≠ se := ne_of hnu2 hse (by intro z; cases z)
    have npe : pa ≠ se := ne_of hpa hse (by intro z; cases z)
    have nle : ld ≠ se := ne_of hld hse (by intro z; cases z)
    -- seats
    refine ⟨fun σ H3 => ∃ v7 v8 v9 led kvS, σ = stO sa wd nu pa ld se t2 v7 v8 v9 none none none none none none none none none ∧ H3 ld = some (.lst (natV led)) ∧ H3 se = some (.dT kvS) ∧ (∀ x ∈ led, x < n) ∧ led.length ≤ 100 ∧ 1 ≤ led.length ∧ LedK n ns led (fun c => c * n) ∧
        SeatsOk kvS led (fun p u => ∃ q c, ps[p]? = some q ∧ ns[q]? = some c ∧ u < c) ∧ (∀ b o, H2 b = some o → b ≠ ld → b ≠ se → H3 b = some o), ?_, ?_⟩
    · refine ⟨_, rfl, pa, _, rfl, SqL.of hpa, ?_⟩
      refine for_it (walk_enum (xs := natV ps)) (fun i σ H3 => ∃ v7 v8 v9 led kvS, σ = stO sa wd nu pa ld se t2 v7 v8 v9 none none none none none none none none none ∧ H3 ld = some (.lst (natV led)) ∧ H3 se = some (.dT kvS) ∧ (∀ x ∈ led, x < n) ∧ led.length ≤ 10 * i ∧ kvS.length ≤ led.length ∧ LedK n ns led (fun c => c * i) ∧
          SeatsOk kvS led (fun p u => p < i ∧ ∃ q c, ps[p]? = some q ∧ ns[q]? = some c ∧ u < c) ∧ (∀ b o, H2 b = some o → b ≠ ld → b ≠ se → H3 b = some o))
        ⟨none, none, none, [], [], rfl, hld, hse, (fun x hx => (List.not_mem_nil hx).elim), by simp, Nat.le_refl _, fun c0 _ => Nat.zero_le _, fun p u h => by omega, fun b o e _ _ => e⟩ (fun i σ H3 _ ⟨_, _, _, _, _, _, _, _, _, _, _, _, _, h⟩ => SqL.of (h _ _ hpa npl npe)) ?_ ?_
      · rintro i x σ H3 H4 hi ⟨v7, v8, v9, led, kvS, rfl, hld3, hse3, hln, hll, hkS, hLK, hS, fr3⟩ ⟨T, x1, y1, rfl, hT, rfl, e1, e2⟩
        rw [List.length_map] at hi
        have e2 : (natV ps)[i]? = some y1 := e2
        rw [List.getElem?_map] at e2
        obtain ⟨q, hq, rfl⟩ := Option.map_eq_some_iff.mp e2
        cases e1
        have hqn := hpn q (List.mem_of_getElem? hq)
        obtain ⟨c, hc⟩ : ∃ c, ns[q]? = some c := ⟨_, List.getElem?_eq_getElem (by omega)⟩
        have hc10 := hns10 c (List.mem_of_getElem? hc)
        have sT := same_new (o := .tup [V.int (i : Nat), V.int (q : Int)]) hT
        have nTl : T ≠ ld := fun e => by subst e; rw [hld3] at hT; cases hT
        have nTe : T ≠ se := fun e => by subst e; rw [hse3] at hT; cases hT
        refine ⟨T, _, rfl, SqT.of upd_same, rfl, _, _, rfl, _, _, rfl, rfl, ?_⟩
        refine ⟨_, rfl, _, rfl, nu, _, _, V.int (c : Int), rfl, rfl, SqL.of (sT _ _ (fr3 _ _ hnu2 nnl nne)), atI_nat (by rw [List.getElem?_map, hc]; rfl), _, rfl, by omega, by omega, ?_⟩
        refine for_range (lo := 0) (n := (c : Int).toNat) (fun j σ H5 => ∃ v9 led kvS, σ = stO sa wd nu pa ld se t2 (some (.int (i : Nat))) (some (.int (q : Int))) v9 none none none none none none none none none ∧ H5 ld = some (.lst (natV led)) ∧ H5 se = some (.dT kvS) ∧ (∀ x ∈ led, x < n) ∧ led.length ≤ 10 * i + j ∧ kvS.length ≤ led.length ∧ LedK n ns led (fun c => c * i + j) ∧
            SeatsOk kvS led (fun p u => (p < i ∧ ∃ q c, ps[p]? = some q ∧ ns[q]? = some c ∧ u < c) ∨ (p = i ∧ u < j)) ∧ (∀ b o, H2 b = some o → b ≠ ld → b ≠ se → H5 b = some o))
          ⟨v9, led, kvS, rfl, sT _ _ hld3, sT _ _ hse3, hln, by omega, hkS, fun c0 h0 => Nat.le_trans (hLK c0 h0) (Nat.le_add_right _ _), fun p u h => hS p u (h.resolve_right (by omega)), fun b o e h1 h2 => sT _ _ (fr3 b o e h1 h2)⟩ ?_ ?_
        · rintro j σ H5 hj ⟨v9, led, kvS, rfl, hld5, hse5, hln, hll, hkS, hLK, hS, fr5⟩
          have hj' : j < c := by omega
          refine ⟨_, rfl, ld, _, rfl, .inl (SqL.of hld5), _, rfl, _, rfl, _, rfl, (by show 2 ≤ sizeLine; decide), fun u hu => ?_⟩
          have su := same_new (o := .tup [V.int (i : Nat), V.int (0 + (j : Int))]) hu
          refine ⟨se, _, rfl, DPut.t (k := [Sum.inl ((i : Nat) : Int), Sum.inl (0 + (j : Int))]) (su _ _ hse5) upd_same (Evl.sz_lt (by omega)), ?_⟩
          have nul : u ≠ ld := fun e => by subst e; rw [hld5] at hu; cases hu
          have hld6 : (upd (upd H5 u (.tup [V.int (i : Nat), V.int (0 + (j : Int))])) se (.dT (putK kvS [Sum.inl ((i : Nat) : Int), Sum.inl (0 + (j : Int))] (V.int ((natV led).length : Int))))) ld = some (.lst (natV led)) := by rw [upd_ne nle]; exact su _ _ hld5
          refine ⟨_, rfl, .inl ⟨rfl, _, SqL.of hld6⟩, _, rfl, ld, _, _, rfl, rfl, hld6, Evl.sz_lt (by rw [List.length_map]; omega), ?_⟩
          refine ⟨_, led ++ [i], _, rfl, by unfold natV; rw [upd_same, List.map_append]; rfl, by rw [upd_ne nle.symm, upd_same], ?_, by simp; omega, ?_, ?_, ?_, ?_⟩
          · intro x hx
            rcases List.mem_append.mp hx with z | z
            · exact hln x z
            · rw [List.mem_singleton] at z
              omega
          · have := length_putK kvS [Sum.inl ((i : Nat) : Int), Sum.inl (0 + (j : Int))] (V.int ((natV led).length : Int))
            simp only [List.length_append, List.length_singleton]
            omega
          · intro c0 h0
            have h1 : led.length ≤ c0 * i + j := hLK c0 h0
            show (led ++ [i]).length ≤ c0 * i + (j + 1)
            rw [List.length_append, List.length_singleton]
            exact Nat.succ_le_succ h1
          · rw [Int.zero_add, List.length_map]
            exact hS.put fun p u h => by
              rcases h with h | ⟨h1, h2⟩
              · exact .inl (.inl h)
              · by_cases e : u = j
                · exact .inr ⟨h1, e⟩
                · exact .inl (.inr ⟨h1, by omega⟩)
          · intro b o e h1 h2
            rw [upd_ne h1, upd_ne h2]
            exact su _ _ (fr5 b o e h1 h2)
        · rintro σ H5 ⟨v9, led, kvS, rfl, hld5, hse5, hln, hll, hkS, hLK, hS, fr5⟩
          refine ⟨_, _, v9, led, kvS, rfl, hld5, hse5, hln, by omega, hkS, fun c0 h0 => ?_, fun p u h => hS p u ?_, fr5⟩
          · have h1 := hLK c0 h0
            have h2 := h0 c (List.mem_of_getElem? hc)
            show led.length ≤ c0 * (i + 1)
            rw [Nat.mul_succ]
            have h1 : led.length ≤ c0 * i + (c : Int).toNat := h1
            omega
          obtain ⟨h1, q', c', h2, h3, h4⟩ := h
          by_cases e : p = i
          · subst e
            rw [hq] at h2
            cases h2
            rw [hc] at h3
            cases h3
            exact .inr ⟨rfl, by omega⟩
          · exact .inl ⟨by omega, q', c', h2, h3, h4⟩
      · rintro σ H3 ⟨v7, v8, v9, led, kvS, rfl, hld3, hse3, hln, hll, hkS, hLK, hS, fr3⟩
        rw [List.length_map] at hll hS
        have hS' : SeatsOk kvS led (fun p u => ∃ q c, ps[p]? = some q ∧ ns[q]? = some c ∧ u < c) := fun p u h => hS p u ⟨by obtain ⟨q, c, h1, _⟩ := h; exact (List.getElem?_eq_some_iff.mp h1).1, h⟩
        refine ⟨v7, v8, v9, led, kvS, rfl, hld3, hse3, hln, by omega, ?_, fun c0 h0 => ?_, hS', fr3⟩
        rotate_left
        · have h1 := hLK c0 h0
          rw [List.length_map, hpl] at h1
          exact h1
        obtain ⟨p, hp, x, hx, hx1⟩ := hone ps hpr
        obtain ⟨idx, hidx⟩ := List.getElem?_of_mem hp
        obtain ⟨z, hz, _⟩ := hS' idx 0 ⟨p, x, hidx, hx, by omega⟩
        have := (List.getElem?_eq_some_iff.mp hz).1
        omega
    rintro σ H3 ⟨v7, v8, v9, led, kvS, rfl, hld3, hse3, hln, hl100, hl1, hLK, hS, fr3⟩
    have S3 : Src H3 sa ca := by
      obtain ⟨cs, l, m, tt, S2⟩ := S2
      exact ⟨cs, l, m, tt, ⟨fr3 _ _ S2.ds nls.symm nes.symm, fr3 _ _ S2.dc nlc.symm nec.symm, S2.nn, S2.len, S2.l0, S2.m0, S2.m1, S2.t0⟩⟩
    have fr03 : ∀ b o, H b = some o → H3 b = some o := fun b o e => fr3 _ _ (s2 _ _ e) (ne_of_none e hld0) (ne_of_none e hse0)
    have W3 := W.same fr03
    have hnu3 := fr03 _ _ hnu
    have hpa3 := fr3 _ _ hpa npl npe
    have nt2l : t2 ≠ ld := (ne_of hld ht2 (by intro z; cases z)).symm
    have ht23 := fr3 _ _ ht2 nt2l nst.symm
    have npt2 : pa ≠ t2 := ne_of hpa ht2 (by intro z; cases z)
    have nut2 : nu ≠ t2 := ne_of hnu2 ht2 (by intro z; cases z)
    have ntt2 : t ≠ t2 := ne_of_none W.ht ht20
    have nus : nu ≠ sa := by
      obtain ⟨cs, l, m, tt, S0⟩ := S
      exact ne_of hnu S0.ds (by intro z; cases z)
    generalize hNN : led.length = N at *
    -- ties
    refine ⟨fun σ H6 => ∃ v9 v10 v11 v12 v13 v14 v15 v16 v17 kv2, σ = stO sa wd nu pa ld se t2 v7 v8 v9 v10 v11 v12 v13 v14 v15 v16 v17 none ∧ H6 t2 = some (.dT kv2) ∧ Ties N 4000 kv2 ∧ kv2.length ≤ 4000 ∧ Src H6 sa ca ∧ Kp3 sa ca t2 H3 H6, ?_, ?_⟩
    · refine ⟨_, rfl, wd, _, rfl, dg_ties W3.d, t, kvs, rfl, .inl W3.ht, fun l bs hl hk => ?_⟩
      obtain ⟨kl, hbl⟩ := keyL_of hk
      have kl2 := kl.same (same_new (o := .lst (bs.map V.ref)) hl)
      obtain ⟨so1, so2⟩ := sort_ties kl2 ti
      refine ⟨l, _, _, rfl, SqL.of upd_same, so1, so2, fun ys p pm hp => ?_⟩
      have s5 := (same_new (o := .lst (bs.map V.ref)) hl).trans (same_new (o := .lst ys) hp)
      have kly : KeyL (upd (upd H3 l (.lst (bs.map V.ref))) p (.lst ys)) kvs ys := fun y hy => (kl.same s5) y (pm.subset hy)
      have hpp : (upd (upd H3 l (.lst (bs.map V.ref))) p (.lst ys)) p = some (.lst ys) := upd_same
      have hyl : ys.length ≤ 300 := by rw [pm.length_eq, List.length_map]; omega
      have hp3 : H3 p = none := (same_new hl).free hp
      have np2 : p ≠ t2 := fun e => by subst e; rw [ht23] at hp3; cases hp3
      obtain ⟨nps', npc'⟩ := S3.ne hp3
      have S5 := S3.same s5
      generalize upd (upd H3 l (.lst (bs.map V.ref))) p (.lst ys) = H5 at *
      refine ⟨p, rfl, ⟨_, SqL.of hpp⟩, ?_⟩
      refine for_list (xs := ys) (fun i σ H6 => ∃ v9 v10 v11 v12 v13 v14 v15 v16 v17 kv2, σ = stO sa wd nu pa ld se t2 v7 v8 v9 v10 v11 v12 v13 v14 v15 v16 v17 none ∧ H6 t2 = some (.dT kv2) ∧ Ties N (10 * i) kv2 ∧ kv2.length ≤ 10 * i ∧ Src H6 sa ca ∧ Kp3 sa ca t2 H5 H6)
        ⟨v9, none, none, none, none, none, none, none, none, [], rfl, s5 _ _ ht23, Ties.nil N _, Nat.zero_le _, S5, Kp3.refl H5⟩ (fun i σ H6 _ ⟨_, _, _, _, _, _, _, _, _, _, _, _, _, _, _, h⟩ => SqL.of (h _ _ hpp nps' npc' np2)) ?_ ?_
      · rintro i y σ H6 hi ⟨v9, v10, v11, v12, v13, v14, v15, v16, v17, kv2, rfl, h26, ti6, hl6, S6, kp6⟩
        have hil := (List.getElem?_eq_some_iff.mp hi).1
        obtain ⟨b1, i1, j1, x1, kd1, rfl, hb1, hmem, hij, hjn, hkw, hx1, hx2⟩ := kly.tie ti (List.mem_of_getElem? hi)
        have stay : ∀ b o, H3 b = some o → b ≠ sa → b ≠ ca → b ≠ t2 → H6 b = some o := fun b o e h1 h2 h3 => kp6 b o (s5 _ _ e) h1 h2 h3
        have hb6 : H6 b1 = some (.tup [.int (i1 : Int), .int (j1 : Int), .str kd1]) := by
          obtain ⟨cs, l', m, tt, S5'⟩ := S5
          exact kp6 _ _ hb1 (ne_of hb1 S5'.ds (by intro z; cases z)) (ne_of hb1 S5'.dc (by intro z; cases z)) (ne_of hb1 (s5 _ _ ht23) (by intro z; cases z))
        obtain ⟨q, hq⟩ : ∃ q, ps[i1]? = some q := ⟨_, List.getElem?_eq_getElem (by omega)⟩
        have hq2 : ps[j1]? = some q := by rw [← hpe i1 j1 kd1 _ hmem]; exact hq
        have hqn := hpn q (List.mem_of_getElem? hq)
        obtain ⟨c, hc⟩ : ∃ c, ns[q]? = some c := ⟨_, List.getElem?_eq_getElem (by omega)⟩
        have hc10 := hns10 c (List.mem_of_getElem? hc)
        refine ⟨b1, _, rfl, SqT.of hb6, rfl, _, _, rfl, _, _, rfl, _, _, rfl, rfl, ?_⟩
        refine ⟨_, rfl, _, rfl, _, rfl, pa, _, _, V.int (q : Int), rfl, rfl, SqL.of (stay _ _ hpa3 nps npc npt2), atI_nat (by rw [List.getElem?_map, hq]; rfl), nu, _, _, V.int (c : Int), rfl, rfl, SqL.of (stay _ _ hnu3 nus nnc nut2), atI_nat (by rw [List.getElem?_map, hc]; rfl), ?_⟩
        have hwd6 := stay _ _ W3.d W3.ds.1 W3.ds.2 (ne_of W3.d ht23 (by intro z; cases z))
        have ht6 := stay _ _ W3.ht W3.ts.1 W3.ts.2 ntt2
        refine ⟨_, rfl, wd, _, rfl, dg_ties hwd6, _, rfl, _, rfl, _, rfl, (by show 3 ≤ sizeLine; decide), fun q1 hq1 => ?_⟩
        have s7 := same_new (o := .tup [V.int (i1 : Int), V.int (j1 : Int), V.str kd1]) hq1
        refine ⟨t, V.int (x1 : Int), rfl, (by rw [← val_of_mem ti.nd hmem]; exact DGet.t (k := [Sum.inl (i1 : Int), Sum.inl (j1 : Int), Sum.inr kd1]) (s7 _ _ ht6) upd_same), _, rfl, by omega, by omega, ?_⟩
        refine for_range (lo := 0) (n := (x1 : Int).toNat) (fun un σ H7 => ∃ v9 v14 v15 v16 v17 kv2, σ = stO sa wd nu pa ld se t2 v7 v8 v9 (some (.int (i1 : Int))) (some (.int (j1 : Int))) (some (.str kd1)) (some (.int (c : Int))) v14 v15 v16 v17 none ∧ H7 t2 = some (.dT kv2) ∧ Ties N (10 * i + 5 * un) kv2 ∧ kv2.length ≤ 10 * i + 5 * un ∧ Src H7 sa ca ∧ Kp3 sa ca t2 H5 H7)
          ⟨v9, v14, v15, v16, v17, kv2, rfl, s7 _ _ h26, ti6.mono (by omega), by omega, S6.same s7, kp6.kp (Kp.same s7)⟩ ?_ ?_
        · rintro un σ H7 hun ⟨v9, v14, v15, v16, v17, kv2, rfl, h27, ti7, hl7, S7, kp7⟩
          have hun' : un < x1 := by omega
          refine ⟨fun σ H8 => ∃ tu : Nat, σ = stO sa wd nu pa ld se t2 v7 v8 v9 (some (.int (i1 : Int))) (some (.int (j1 : Int))) (some (.str kd1)) (some (.int (c : Int))) (some (.int (0 + (un : Int)))) (some (.int (tu : Int))) v16 v17 none ∧ (1 ≤ c → tu < c) ∧ H8 t2 = some (.dT kv2) ∧ Src H8 sa ca ∧ Kp3 sa ca t2 H5 H8, ?_, ?_⟩
          · refine ⟨_, rfl, _, rfl, ?_⟩
            by_cases hc0 : 1 ≤ c
            · refine .inl ⟨sa, ca, _, rfl, S7, by omega, by omega, fun kk H8 k0 k1 S8 kp8 => ?_⟩
              refine ⟨kk.toNat, ?_, fun _ => by omega, kp8 _ _ h27 n2s n2c, S8, kp7.kp kp8⟩
              rw [Int.toNat_of_nonneg k0]
              rfl
            · exact .inr ⟨sa, _, rfl, by omega, 0, rfl, fun h => absurd h hc0, h27, S7, kp7⟩
          rintro σ H8 ⟨tu, rfl, htu, h28, S8, kp8⟩
          refine ⟨_, rfl, _, rfl, by omega, by omega, ?_⟩
          refine for_range (lo := 0) (n := (c : Int).toNat) (fun wu σ H9 => ∃ v9 v16 v17 kv2, σ = stO sa wd nu pa ld se t2 v7 v8 v9 (some (.int (i1 : Int))) (some (.int (j1 : Int))) (some (.str kd1)) (some (.int (c : Int))) (some (.int (0 + (un : Int)))) (some (.int (tu : Int))) v16 v17 none ∧ H9 t2 = some (.dT kv2) ∧ Ties N (10 * i + 5 * un + wu) kv2 ∧ kv2.length ≤ 10 * i + 5 * un + wu ∧ Src H9 sa ca ∧ Kp3 sa ca t2 H5 H9)
            ⟨v9, v16, v17, kv2, rfl, h28, ti7, hl7, S8, kp8⟩ ?_ ?_
          · rintro wu σ H9 hwu ⟨v9, v16, v17, kv2, rfl, h29, ti9, hl9, S9, kp9⟩
            have hwc : wu < c := by omega
            have stay9 : ∀ b o, H3 b = some o → b ≠ sa → b ≠ ca → b ≠ t2 → H9 b = some o := fun b o e h1 h2 h3 => kp9 b o (s5 _ _ e) h1 h2 h3
            have hse9 := stay9 _ _ hse3 nes nec nst
            obtain ⟨u1, hu1, hv1⟩ := hS i1 wu ⟨q, c, hq, hc, hwc⟩
            have hmod : ∃ z : Nat, (0 + (wu : Int) + (tu : Int)) % (c : Int) = (z : Int) ∧ z < c := by
              have h1 := Int.emod_nonneg (0 + (wu : Int) + (tu : Int)) (show (c : Int) ≠ 0 by omega)
              have h2 := Int.emod_lt_of_pos (0 + (wu : Int) + (tu : Int)) (show (0 : Int) < c by omega)
              exact ⟨((0 + (wu : Int) + (tu : Int)) % (c : Int)).toNat, by rw [Int.toNat_of_nonneg h1], by omega⟩
            obtain ⟨z, hz, hzc⟩ := hmod
            obtain ⟨u2, hu2, hv2⟩ := hS j1 z ⟨q, c, hq2, hc, hzc⟩
            have hu1N := (List.getElem?_eq_some_iff.mp hu1).1
            have hu2N := (List.getElem?_eq_some_iff.mp hu2).1
            have hne : u1 ≠ u2 := fun e => by subst e; rw [hu1] at hu2; have := Option.some.inj hu2; omega
            refine ⟨_, rfl, _, rfl, _, rfl, (by show 2 ≤ sizeLine; decide), fun q2 hq2' => ?_⟩
            have s10 := same_new (o := .tup [V.int (i1 : Int), V.int (0 + (wu : Int))]) hq2'
            refine ⟨se, V.int (u1 : Int), rfl, (by rw [← hv1]; refine DGet.t (k := [Sum.inl (i1 : Int), Sum.inl (wu : Int)]) (s10 _ _ hse9) ?_; rw [upd_same, Int.zero_add]; rfl), ?_⟩
            refine ⟨_, rfl, _, rfl, _, rfl, _, rfl, _, _, rfl, rfl, .inl ⟨_, rfl, _, rfl, _, _, rfl, rfl, by show (0 : Int) < c; omega, (by show 2 ≤ sizeLine; decide), fun q3 hq3 => ?_⟩⟩
            have s11 := s10.trans (same_new (o := .tup [V.int (j1 : Int), V.int ((0 + (wu : Int) + (tu : Int)) % (c : Int))]) hq3)
            refine ⟨se, V.int (u2 : Int), rfl, (by rw [← hv2]; refine DGet.t (k := [Sum.inl (j1 : Int), Sum.inl (z : Int)]) (s11 _ _ hse9) ?_; rw [upd_same]; show some (HO.tup [V.int (j1 : Int), V.int ((0 + (wu : Int) + (tu : Int)) % (c : Int))]) = _; rw [hz]; rfl), (by show 2 ≤ sizeLine; decide), fun l1 hl1 => ?_⟩
            refine ⟨l1, [(u1 : Int), (u2 : Int)], rfl, SqL.of upd_same, (by show 2 < 64; decide), fun ns' sp pms srt hsp => ?_⟩
            obtain ⟨n0, n1, rfl, h01, h1N⟩ := two_sorted pms srt hne (by omega : u1 < N) (by omega)
            have s12 := (s11.trans (same_new (o := .lst ([(u1 : Int), (u2 : Int)].map V.int)) hl1)).trans (same_new (o := .lst ([(n0 : Int), (n1 : Int)].map V.int)) hsp)
            refine ⟨_, rfl, sp, _, 0, V.int (n0 : Int), rfl, rfl, SqL.of upd_same, atI_nat (j := 0) rfl, _, rfl, sp, _, 1, V.int (n1 : Int), rfl, rfl, SqL.of upd_same, atI_nat (j := 1) rfl, _, rfl, (by show 3 ≤ sizeLine; decide), fun kt hkt => ?_⟩
            have s13 := s12.trans (same_new (o := .tup [V.int (n0 : Int), V.int (n1 : Int), V.str kd1]) hkt)
            have h213 := s13 _ _ h29
            refine ⟨_, rfl, t2, rfl, .inr ⟨kv2, .inl h213⟩, _, rfl, valV kv2 [Sum.inl (n0 : Int), Sum.inl (n1 : Int), Sum.inr kd1], DGet.t (k := [Sum.inl (n0 : Int), Sum.inl (n1 : Int), Sum.inr kd1]) h213 upd_same, ?_⟩
            obtain ⟨x, hx, hxm⟩ : ∃ x : Nat, (valV kv2 [Sum.inl (n0 : Int), Sum.inl (n1 : Int), Sum.inr kd1]).getD (V.int 0) = V.int (x : Int) ∧ x ≤ 10 * i + 5 * un + wu := by
              cases e : valV kv2 [Sum.inl (n0 : Int), Sum.inl (n1 : Int), Sum.inr kd1] with
              | none => exact ⟨0, rfl, Nat.zero_le _⟩
              | some v =>
                obtain ⟨x, h1, _, h3⟩ := ti9.val _ (mem_of_val e)
                exact ⟨x, h1, h3⟩
            rw [hx]
            refine ⟨_, _, rfl, rfl, _, rfl, _, rfl, t2, _, rfl, DPut.t (k := [Sum.inl (n0 : Int), Sum.inl (n1 : Int), Sum.inr kd1]) h213 upd_same (Evl.sz_lt (by omega)), ?_⟩
            refine ⟨_, _, _, putK kv2 [Sum.inl (n0 : Int), Sum.inl (n1 : Int), Sum.inr kd1] (V.int ((x + 1 : Nat) : Int)), rfl, upd_same, (ti9.mono (by omega)).put ⟨n0, n1, kd1, rfl, h01, h1N, hkw⟩ (by omega) (by omega), by have := length_putK kv2 [Sum.inl (n0 : Int), Sum.inl (n1 : Int), Sum.inr kd1] (V.int ((x + 1 : Nat) : Int)); omega, (S9.same s13).upd n2s n2c, (kp9.kp (Kp.same s13)).put⟩
          · rintro σ H9 ⟨v9, v16, v17, kv2, rfl, h29, ti9, hl9, S9, kp9⟩
            exact ⟨v9, _, _, v16, v17, kv2, rfl, h29, ti9.mono (by omega), by omega, S9, kp9⟩
        · rintro σ H7 ⟨v9, v14, v15, v16, v17, kv2, rfl, h27, ti7, hl7, S7, kp7⟩
          exact ⟨v9, _, _, _, _, v14, v15, v16, v17, kv2, rfl, h27, ti7.mono (by omega), by omega, S7, kp7⟩
      · rintro σ H6 ⟨v9, v10, v11, v12, v13, v14, v15, v16, v17, kv2, rfl, h26, ti6, hl6, S6, kp6⟩
        exact ⟨v9, v10, v11, v12, v13, v14, v15, v16, v17, kv2, rfl, h26, ti6.mono (by omega), by omega, S6, fun b o e h1 h2 h3 => kp6 b o (s5 _ _ e) h1 h2 h3⟩
    rintro σ H6 ⟨v9, v10, v11, v12, v13, v14, v15, v16, v17, kv2, rfl, h26, ti6, hl6, S6, kp6⟩
    have st6 : ∀ b o, H3 b = some o → b ≠ sa → b ≠ ca → b ≠ t2 → H6 b = some o := kp6
    have nlt2 : ld ≠ t2 := nt2l.symm
    have hld6 := kp6 _ _ hld3 nls nlc nlt2
    have W6d := kp6 _ _ W3.d W3.ds.1 W3.ds.2 (ne_of W3.d ht23 (by intro z; cases z))
    have W6c := kp6 _ _ W3.hc W3.bs.1 W3.bs.2 (ne_of W3.hc ht23 (by intro z; cases z))
    have kp06 : Kp sa ca H H6 := fun b o e h1 h2 => kp6 b o (fr03 b o e) h1 h2 (ne_of_none e ht20)
    -- colours
    refine ⟨fun σ H7 => ∃ bc cl2, σ = stO sa wd nu pa ld se t2 v7 v8 v9 v10 v11 v12 v13 v14 v15 v16 v17 (some (.ref bc)) ∧ H6 bc = none ∧ H7 bc = some (.lst (List.map V.str cl2)) ∧ cl2.length = N ∧ (∀ x ∈ cl2, isWordB x = true) ∧ Same H6 H7, ?_, ?_⟩
    · refine ⟨_, rfl, ld, rfl, ⟨_, SqL.of hld6⟩, fun D hD => ?_⟩
      refine lc_list (xs := natV led) (fun i H7 => ∃ cl2, H7 D = some (.lst (List.map V.str cl2)) ∧ cl2.length = i ∧ (∀ x ∈ cl2, isWordB x = true) ∧ Same H6 H7) ⟨[], upd_same, rfl, (fun x hx => (List.not_mem_nil hx).elim), same_new hD⟩ (fun i H7 _ ⟨_, _, _, _, h⟩ => SqL.of (h _ _ hld6)) ?_ ?_
      · rintro i x H7 hi ⟨cl2, hD7, hcl2, hcw2, s7⟩
        have hil := (List.getElem?_eq_some_iff.mp hi).1
        rw [List.length_map] at hil
        rw [List.getElem?_map] at hi
        obtain ⟨y0, hy0, rfl⟩ := Option.map_eq_some_iff.mp hi
        have hyN := hln y0 (List.mem_of_getElem? hy0)
        have hcn := W.cn
        obtain ⟨cy, hcy⟩ : ∃ cy, cl[y0]? = some cy := ⟨_, List.getElem?_eq_getElem (by omega)⟩
        refine ⟨rfl, tyes ?_⟩
        refine ⟨_, rfl, wd, _, rfl, dg_colours (s7 _ _ W6d), _, rfl, b, _, _, V.str cy, rfl, rfl, SqL.of (s7 _ _ W6c), atI_nat (by rw [List.getElem?_map, hcy]; rfl), ?_⟩
        refine ⟨_, hD7, Evl.sz_lt (by rw [List.length_map]; omega), cl2 ++ [cy], by rw [upd_same, List.map_append]; rfl, by simp [hcl2], ?_, ?_⟩
        · intro x hx
          rcases List.mem_append.mp hx with z | z
          · exact hcw2 x z
          · rw [List.mem_singleton] at z
            subst z
            exact W.cw _ (List.mem_of_getElem? hcy)
        · intro b o e
          rw [upd_ne (ne_of_none e hD)]
          exact s7 b o e
      · rintro H7 ⟨cl2, hD7, hcl2, hcw2, s7⟩
        rw [List.length_map] at hcl2
        exact ⟨D, cl2, rfl, hD, hD7, by omega, hcw2, s7⟩
    rintro σ H7 ⟨bc, cl2, rfl, hbc6, hbc, hcl2, hcw2, s7⟩
    have S7 := S6.same s7
    have hbc0 : H bc = none := kp06.free S6 hbc6
    obtain ⟨nbs, nbc⟩ := S.ne hbc0
    refine ⟨_, rfl, ?_⟩
    intro p hp
    have sp := same_new (o := .dK []) hp
    obtain ⟨nps', npc'⟩ := S7.ne hp
    refine ⟨_, rfl, _, rfl, _, rfl, upd_same, worldD ld bc t2, rfl, (by show 3 ≤ 15; decide), ?_⟩
    rw [merge_wd]
    have s8 : Same H7 (upd (upd H7 p (.dK [])) p (.dK (worldD ld bc t2))) := fun b o e => by
      rw [upd_ne (ne_of_none e hp), upd_ne (ne_of_none e hp)]
      exact e
    have hpp : (upd (upd H7 p (.dK [])) p (.dK (worldD ld bc t2))) p = some (.dK (worldD ld bc t2)) := upd_same
    have kp08 : Kp sa ca H (upd (upd H7 p (.dK [])) p (.dK (worldD ld bc t2))) := (kp06.trans (Kp.same s7)).trans (Kp.same s8)
    generalize upd (upd H7 p (.dK [])) p (.dK (worldD ld bc t2)) = H8 at *
    have S8 := S7.same s8
    refine ⟨_, rfl, sa, ca, p, ld, bc, t2, ld, cl2, 4000, kv2, led, rfl, S8, hpp, nps', s8 _ _ hbc, nbc, s8 _ _ (s7 _ _ h26), s8 _ _ (s7 _ _ hld6), nlc, by omega, hcw2, by omega, by omega, hl6, by rw [hNN]; exact ti6, ?_⟩
    intro r wd' a' b' t' ld' nm' cl' kvs' led' H' z1 z2 z3 z4 z5 hr' W' hl' ti' hk' hld' hll' hlm S' kp'
    refine k r wd' a' b' t' ld' nm' cl' kvs' led' H' (kp08.free S8 z1) (kp08.free S8 z2) (kp08.free S8 z3) (kp08.free S8 z4) (kp08.free S8 z5) hr' W' (by omega) ti' hk' hld' (by omega) (fun x hx => hln x ((hlm x).mp hx)) (fun c0 h0 => by have h1 : led.length ≤ c0 * n := hLK c0 h0; show led'.length ≤ c0 * n; omega) (fun p hp hc1 heq => (hlm p).mpr ?_) S' (kp08.trans kp')
    obtain ⟨q, hq⟩ : ∃ q, ps[p]? = some q := ⟨_, List.getElem?_eq_getElem (by omega)⟩
    have hqn := hpn q (List.mem_of_getElem? hq)
    obtain ⟨c, hc⟩ : ∃ c, ns[q]? = some c := ⟨_, List.getElem?_eq_getElem (by omega)⟩
    have c1 := hc1 c (fun x hx => heq x hx c (List.mem_of_getElem? hc))
    obtain ⟨idx, h1, _⟩ := hS p 0 ⟨q, c, hq, hc, by omega⟩
    exact List.mem_of_getElem? h1
end
end Nm
set_option maxRecDepth 100000
set_option maxHeartbeats 4000000
/-! _law_base, _law_bound_over -/
namespace Nm
open PySem L2
theorem stepP_ok {n : Nat} (h1 : 1 ≤ n) (ps : List Nat) (k : List Key) (hl : ps.length = n) (hp : ∀ x ∈ ps, x < n) : (stepP ps k).length = n ∧ ∀ x ∈ stepP ps k, x < n := by
  have g : ∀ i : Nat, (ps[i]?).getD 0 < n := fun i => by
    cases e : ps[i]? with
    | none => exact h1
    | some y => exact hp y (List.mem_of_getElem? e)
  unfold stepP
  split
  · refine ⟨by rw [List.length_map, hl], fun x hx => ?_⟩
    obtain ⟨y, hy, rfl⟩ := List.mem_map.mp hx
    split
    · exact g _
    · exact hp y hy
  · exact ⟨hl, hp⟩
theorem foldP_ok {n : Nat} (h1 : 1 ≤ n) : ∀ (ks : List (List Key)) (ps : List Nat), ps.length = n → (∀ x ∈ ps, x < n) → (ks.foldl stepP ps).length = n ∧ ∀ x ∈ ks.foldl stepP ps, x < n
  | [], ps, hl, hp => ⟨hl, hp⟩
  | k :: ks, ps, hl, hp => by
    obtain ⟨a, b⟩ := stepP_ok h1 ps k hl hp
    exact foldP_ok h1 ks _ a b
theorem PartsRel.ok {n : Nat} {kvs : List (List Key × V)} {ps : List Nat} (h1 : 1 ≤ n) (h : PartsRel n kvs ps) : ps.length = n ∧ ∀ x ∈ ps, x < n := by
  obtain ⟨ks, _, _, rfl⟩ := h
  exact foldP_ok h1 ks _ List.length_range fun x hx => List.mem_range.mp hx
structure TxtS (mg : Str → Option Value) : Prop extends TxtR mg where
  max : mg "max" = none
section
variable {P : Program} {w : World} {K : PySem.W.Frag} {mg : Str → Option Value} {base : Heap}
def spBase : Sp := fun vs H Q _ => ∃ (s c : Addr), vs = [.ref s] ∧ Src H s c ∧
  ∀ (wd a b t : Addr) (nm cl : List Str) (kvs : List (List Key × V)) (H' : Hp), H wd = none → H a = none → H b = none → H t = none → WorldOk H' s c wd a b t nm cl kvs → nm.length ≤ 2 → Ties nm.length 2 kvs → kvs.length ≤ 300 → Src H' s c → Kp s c H H' → Q (.ref wd) H'
theorem scBase : FnScope ["_law_source"] ["_law_source"] (defScope sBase) := ⟨rfl, rfl, rfl, by decide +kernel, rfl, by decide +kernel, by decide +kernel⟩
theorem ok_base {f : Addr} {fd : FuncData} (F : Fun K "_law_base" "_law_base" sBase f fd) (Gd : Def P w K mg base "_law_draw_world" ["_law_source", "_law_most"] 3 spDraw) : FnOk P w K mg base CX0 4 f fd ["_law_source"] spBase := by
  obtain ⟨fa, fda, Ga, ma, ka, ba⟩ := Gd.ex
  refine F.ok scBase (fun vs H Q E h => ?_) (fun cdv A outer s H vs Q E hr h => ?_)
  · obtain ⟨_, _, rfl, _⟩ := h
    rfl
  obtain ⟨sa, ca, rfl, S, k⟩ := h
  refine ⟨_, pss_one (ps_ret (pe_call Ga hr (by rfl) ma ka ba .nil pass0 (pa_cons (pv 0) (pa_cons pe_int pa_nil)))), ?_⟩
  exact ⟨_, rfl, sa, ca, 2, rfl, S, by decide, by decide, fun wd a b t nm cl kvs H' z1 z2 z3 z4 W nl ti kl S' kp => k wd a b t nm cl kvs H' z1 z2 z3 z4 W (by omega) ti kl S' kp⟩
def spBo : Sp := fun vs H Q _ => ∃ (s c wd a b t : Addr) (nm cl : List Str) (kvs : List (List Key × V)), vs = [.ref s, .ref wd, .int 5] ∧ Src H s c ∧ WorldOk H s c wd a b t nm cl kvs ∧ Ties nm.length 2 kvs ∧ kvs.length ≤ 300 ∧ nm.length ≤ 2 ∧
  ∀ (r wd' ld' : Addr) (led : List Nat) (H' : Hp), H ld' = none → H' r = some (.tup [.ref wd', .ref ld']) → H' ld' = some (.lst (natV led)) → 1 ≤ led.length → led.length ≤ 5 → (∀ x, x ∈ led ↔ x < nm.length) → Src H' s c → Kp s c H H' → Q (.ref r) H'
abbrev nBo : List Str := ["_law_source", "_law_ground", "_law_most", "_law_many"]
theorem scBo : FnScope nBo ["_law_source", "_law_ground", "_law_most"] (defScope sBoundOver) := ⟨rfl, rfl, rfl, by decide +kernel, rfl, by decide +kernel, by decide +kernel⟩
theorem ok_bo {f : Addr} {fd : FuncData} (F : Fun K "_law_bound_over" "_law_bound_over" sBoundOver f fd) (T : TxtS mg) (Gp : Def P w K mg base "_law_pick" ["_law_source", "_law_many"] 1 spPick) (Go : Def P w K mg base "_law_over" ["_law_source", "_law_world", "_law_numbers"] 4 spOver) : FnOk P w K mg base CX0 5 f fd ["_law_source", "_law_ground", "_law_most"] spBo := by
  obtain ⟨fp, fdp, Gp, mp, kp, bp⟩ := Gp.ex
  obtain ⟨fo, fdo, Go, mo, ko, bo⟩ := Go.ex
  refine F.ok scBo (fun vs H Q E h => ?_) (fun cdv A outer s H vs Q E hr h => ?_)
  · obtain ⟨_, _, _, _, _, _, _, _, _, rfl, _⟩ := h
    rfl
  obtain ⟨sa, ca, wd, a, b, t, nm, cl, kvs, rfl, S, W, ti, kl, n2, k⟩ := h
  have hu := hu_of hr
  have hr1 := hr.mono (by decide : 1 ≤ 4)
  refine ⟨_, Evl.pss_cut (ps_set (i := 3) scBo.nd rfl (Or.inl rfl) (pe_op op_add pe_int (pe_call Gp hr1 (by rfl) mp kp bp .nil pass0 (pa_cons (pv 0) (pa_cons (pe_callB (call_max2 rfl) (by rfl) T.max (by decide +kernel) (pa_cons pe_int (pa_cons (pe_op op_fdiv (pv 2) (pe_callB call_len_seq (by rfl) T.len PySem.boot_len (pa_cons (pe_dget hu (pv 1) pe_str (fun _ _ => rfl)) pa_nil))) pa_nil))) pa_nil)))))
    (pss_one (ps_ret (pe_call Go hr (by rfl) mo ko bo .nil pass0 (pa_cons (pv 0) (pa_cons (pv 1) (pa_cons (pe_op op_rep (pe_lst (pa_cons (pv 3) pa_nil)) (pe_callB call_len_seq (by rfl) T.len PySem.boot_len (pa_cons (pe_dget hu (pv 1) pe_str (fun _ _ => rfl)) pa_nil))) pa_nil)))))), ?_⟩
  have n1 := W.n1
  have lm : (nm.map V.str).length = nm.length := List.length_map _
  refine ⟨fun σ H1 => ∃ c : Nat, σ = [some (.ref sa), some (.ref wd), some (.int 5), some (.int (c : Int))] ∧ 1 ≤ c ∧ c * nm.length ≤ 5 ∧ Src H1 sa ca ∧ Kp sa ca H H1, ?_, ?_⟩
  · refine ⟨_, rfl, _, rfl, _, rfl, wd, _, rfl, dg_names W.d, a, _, rfl, .inl (SqL.of W.hn), _, _, rfl, rfl, ⟨by rw [lm]; omega, by rw [lm]; omega⟩, _, _, rfl, ?_⟩
    rw [lm]
    have b5 : (if (5 : Int) / (nm.length : Int) > 1 then (5 : Int) / (nm.length : Int) else 1) * (nm.length : Int) ≤ 5 ∧ 1 ≤ (if (5 : Int) / (nm.length : Int) > 1 then (5 : Int) / (nm.length : Int) else 1) ∧ (if (5 : Int) / (nm.length : Int) > 1 then (5 : Int) / (nm.length : Int) else 1) ≤ 5 := by
      have : nm.length = 1 ∨ nm.length = 2 := by omega
      rcases this with e | e <;> rw [e] <;> decide
    generalize (if (5 : Int) / (nm.length : Int) > 1 then (5 : Int) / (nm.length : Int) else 1) = mx at b5 ⊢
    refine ⟨sa, ca, mx, rfl, S, by omega, by omega, fun kk H1 k0 k1 S1 kp1 => ⟨_, _, rfl, rfl, (1 + kk).toNat, ?_, by omega, ?_, S1, kp1⟩⟩
    · rw [Int.toNat_of_nonneg (by omega)]
      rfl
    · have h1 : (1 + kk).toNat ≤ mx.toNat := by omega
      have h2 := Nat.mul_le_mul_right nm.length h1
      have h3 : ((mx.toNat * nm.length : Nat) : Int) ≤ 5 := by
        rw [Int.natCast_mul, Int.toNat_of_nonneg (by omega)]
        exact b5.1
      omega
  rintro σ H1 ⟨c, rfl, c1, c5, S1, kp1⟩
  have W1 := W.kp kp1
  refine ⟨_, rfl, _, rfl, _, rfl, (by show 1 ≤ sizeLine; decide), fun l hl => ?_⟩
  have sl := same_new (o := .lst [V.int (c : Int)]) hl
  refine ⟨_, rfl, wd, _, rfl, dg_names (sl _ _ W1.d), a, _, rfl, .inl (SqL.of (sl _ _ W1.hn)), l, _, _, rfl, rfl, upd_same, by rw [lm]; omega, by rw [lm]; omega, by rw [lm]; exact Evl.sz_of (by simp; omega), fun nu hnu => ?_⟩
  rw [lm, Int.toNat_natCast, List.flatten_replicate_singleton]
  have sn := sl.trans (same_new (o := .lst (List.replicate nm.length (V.int (c : Int)))) hnu)
  have hnu2 : (upd (upd H1 l (.lst [V.int (c : Int)])) nu (.lst (List.replicate nm.length (V.int (c : Int))))) nu = some (.lst (natV (List.replicate nm.length c))) := by
    rw [upd_same]
    unfold natV
    rw [List.map_replicate]
  have hnu1 : H1 nu = none := sl.free hnu
  obtain ⟨_, nnc⟩ := S1.ne hnu1
  generalize upd (upd H1 l (.lst [V.int (c : Int)])) nu (.lst (List.replicate nm.length (V.int (c : Int)))) = H2 at *
  have kp2 : Kp sa ca H H2 := kp1.trans (Kp.same sn)
  have S2 := S1.same sn
  have c5' : c ≤ 5 := by
    have := Nat.mul_le_mul_left c n1
    omega
  have rall : ∀ x ∈ List.replicate nm.length c, x = c := fun x hx => List.eq_of_mem_replicate hx
  refine ⟨sa, ca, wd, a, b, t, nu, nm, cl, kvs, List.replicate nm.length c, rfl, S2, W1.same sn, ti, kl, by omega, hnu2, nnc, by rw [List.length_replicate]; exact Nat.le_refl _, fun x hx => by rw [rall x hx]; exact c5', fun ps hps => ?_, ?_⟩
  · obtain ⟨pl, pn⟩ := hps.ok n1
    obtain ⟨p, hp⟩ : ∃ p, ps[0]? = some p := ⟨_, List.getElem?_eq_getElem (by omega)⟩
    have hpm := List.mem_of_getElem? hp
    exact ⟨p, hpm, c, by rw [List.getElem?_replicate, if_pos (pn p hpm)], c1⟩
  intro r wd' a' b' t' ld' nm' cl' kvs' led' H' z1 z2 z3 z4 z5 hr' W' hl' ti' hk' hld' hll' hlm hLK hall S' kp'
  have h5 : led'.length ≤ c * nm.length := hLK c rall
  have all : ∀ x, x ∈ led' ↔ x < nm.length := fun x => ⟨hlm x, fun hx => hall x hx (fun c0 h0 => by
    have := h0 c (List.mem_replicate.mpr ⟨by omega, rfl⟩)
    omega) (fun y hy z hz => by rw [rall y hy, rall z hz])⟩
  have h1 : 1 ≤ led'.length := List.length_pos_of_mem ((all 0).mpr (by omega))
  exact k r wd' ld' led' H' (kp2.free S2 z5) hr' hld' h1 (by omega) all S' (kp2.trans kp')
end
end Nm
set_option maxRecDepth 100000
set_option maxHeartbeats 4000000
/-! for i, x in enumerate(a tuple) -/
namespace Nm
open PySem PySem.Spec PyProof.Rows L2
open PySem.AutoSeq1 (wpAny_loadPart')
/-- the call of the type -/
theorem en_new (l : Addr) (xs : Array Value) (n : Nat) (dd : Option Addr) (sl : Array (Option Value)) :
    Meets (Builtin.«enumerate.__new__» ⟨[.type "enumerate", .ref l], []⟩) (fun _ R s => s.heap.get? l = some { cls := .type "tuple", dict := dd, data := .seq xs n, slots := sl } ∧
      R (.ok (.ret (.ref (s.heap.push { cls := .type "tuple_iterator", data := .fields #[.ref l, .int 0 0] }).objs.size)))
        { s with heap := (s.heap.push { cls := .type "tuple_iterator", data := .fields #[.ref l, .int 0 0] }).push { cls := .type "enumerate", data := .fields #[.none, .bool false, .ref s.heap.objs.size, rawInt 0, .none, .none] } }) :=
  .of_wp fun prog w A R s h => by
    obtain ⟨hp, g, d, tk, os⟩ := s; obtain ⟨ht0, h⟩ := h
    have hsub := sub_enumerate
    have hT : Heap.IsTuple (Shared.heap ⟨hp, g, d, tk, os⟩) l xs := ⟨_, ht0, rfl, n, rfl⟩
    wp_walk using wpAny_loadPart' ht0
    refine wpAny_stack_any fun st => wpAny_pure ?_
    split
    · rename_i c _ _ _ _ _
      cases (c == Value.type "enumerate")
      · wp_walk using wpAny_loadPart' ht0, wpAny_pyIter_tuple hT
        exact ⟨_, rfl, h⟩
      · wp_walk using wpAny_loadPart' ht0, wpAny_pyIter_tuple hT
        exact ⟨_, rfl, h⟩
    · wp_walk using wpAny_loadPart' ht0, wpAny_pyIter_tuple hT
      exact ⟨_, rfl, h⟩
section
variable {prog : Program} {w : World} {A : Around} {E : Value → Shared → Prop} {s : Shared}
theorem en_call {l : Addr} {xs : Array Value} {Q : Value → Shared → Prop} (hT : s.heap.IsTuple l xs)
    (h : ∀ h', IsEnum h' (s.heap.objs.size + 1) s.heap.objs.size 0 .none → h'.IsTupleIter s.heap.objs.size l 0 → h'.objs.size = s.heap.objs.size + 2 →
      (∀ b o, s.heap.get? b = some o → h'.get? b = some o) → Q (.ref (s.heap.objs.size + 1)) { s with heap := h' }) : wpAny (model prog w) A (call (.type "enumerate") [.ref l]) Q E s := by
  obtain ⟨⟨c, dd, dt, sl⟩, hl, hc, n, hd⟩ := hT
  replace hc : c = .type "tuple" := hc
  replace hd : dt = .seq xs n := hd
  subst hc hd
  refine callType_new F.called_enumerate (by decide) (F.typeCall_enumerate_1 _) (F.newCall_enumerate_1 _) (fun obj => F.args_object_init_2 obj _) F.entry_enumerate_new (en_new l xs n dd sl) ⟨hl, ?_⟩
  have hz : (s.heap.push { cls := .type "tuple_iterator", data := .fields #[.ref l, .int 0 0] }).objs.size = s.heap.objs.size + 1 := Heap.size_push ..
  show _ ∧ _
  rw [hz]
  have he : IsEnum ((s.heap.push { cls := .type "tuple_iterator", data := .fields #[.ref l, .int 0 0] }).push
      { cls := .type "enumerate", data := .fields #[.none, .bool false, .ref s.heap.objs.size, rawInt 0, .none, .none] }) (s.heap.objs.size + 1) s.heap.objs.size 0 .none := by
    have := Heap.get?_push_size (s.heap.push { cls := .type "tuple_iterator", data := .fields #[.ref l, .int 0 0] })
      (o := { cls := .type "enumerate", data := .fields #[.none, .bool false, .ref s.heap.objs.size, rawInt 0, .none, .none] }) rfl
    rw [hz] at this; exact this
  exact ⟨⟨_, he, rfl⟩, h _ he ⟨_, Heap.get?_push_of_some _ (Heap.get?_push_size _ rfl), rfl, rfl⟩ (by rw [Heap.size_push, hz]) fun b o x => Heap.get?_push_of_some _ (Heap.get?_push_of_some _ x)⟩
/-- one turn -/
theorem en_next {e it l : Addr} {i : Nat} {xs : Array Value} {x old : Value} {Q : Value → Shared → Prop} (he : IsEnum s.heap e it i old) (hit : s.heap.IsTupleIter it l i) (hl : s.heap.IsTuple l xs) (hx : xs[i]? = some x) (hne : e ≠ it)
    (hQ : ∀ h', IsEnumOut h' e it ((i : Int) + 1) x s.heap.objs.size → h'.IsTupleIter it l (i + 1) → h'.get? s.heap.objs.size = some { cls := .type "tuple", data := .seq #[.int i s.toks, x] } → h'.objs.size = s.heap.objs.size + 1 →
      (∀ b o, b ≠ e → b ≠ it → s.heap.get? b = some o → h'.get? b = some o) → Q (.ref s.heap.objs.size) { s with heap := h', toks := s.toks + 1 }) :
    wpAny (model prog w) A (Builtin.«enumerate.__next__» ⟨[.ref e], []⟩) (fun fin s' => ∃ v, fin = .done (.ret v) ∧ Q v s') E s := by
  obtain ⟨hp, g, d, tk, os⟩ := s
  show wpAny _ _ (field (.ref e) 2 >>= _) _ _ _
  refine wpAny_bind (wpAny_field he rfl (x := .ref it) rfl (wpAny_bind (RZ.nextOf_tuple_item hit hl hx fun h₁ hit₁ hs₁ => ?_)))
  replace hs₁ : Heap.SameBut it hp h₁ := hs₁
  have he₁ : IsEnum h₁ e it i old := (hs₁.2 e hne).trans he
  show wpAny _ _ (field (.ref e) 3 >>= _) _ _ ⟨h₁, g, d, tk, os⟩
  refine wpAny_bind (wpAny_field he₁ rfl (x := rawInt i) rfl ?_)
  show wpAny _ _ (field (.ref e) 4 >>= _) _ _ ⟨h₁, g, d, tk, os⟩
  refine wpAny_bind (wpAny_field he₁ rfl (x := .none) rfl ?_)
  show wpAny _ _ (mkInt i >>= _) _ _ ⟨h₁, g, d, tk, os⟩
  refine wpAny_bind (wpAny_mkInt ?_)
  show wpAny _ _ (setField (.ref e) 3 (rawInt ((i : Int) + 1)) >>= _) _ _ ⟨h₁, g, d, tk + 1, os⟩
  refine wpAny_bind (wpAny_setField_rec he₁ (by simp) fun h₂ he₂ hs₂ => ?_)
  replace hs₂ : Heap.SameBut e h₁ h₂ := hs₂
  replace he₂ : IsEnum h₂ e it ((i : Int) + 1) old := he₂
  show wpAny _ _ (setField (.ref e) 4 .none >>= _) _ _ ⟨h₂, g, d, tk + 1, os⟩
  refine wpAny_bind (wpAny_setField_rec he₂ (by simp) fun h₃ he₃ hs₃ => ?_)
  replace hs₃ : Heap.SameBut e h₂ h₃ := hs₃
  replace he₃ : IsEnum h₃ e it ((i : Int) + 1) old := he₃
  show wpAny _ _ (newTuple [.int i tk, x] >>= _) _ _ ⟨h₃, g, d, tk + 1, os⟩
  refine wpAny_bind (wpAny_newTuple ?_)
  have he₄ : IsEnum (h₃.push { cls := .type "tuple", data := .seq #[.int i tk, x] }) e it ((i : Int) + 1) old := Heap.get?_push_of_some _ he₃
  generalize hh₄ : h₃.push { cls := .type "tuple", data := .seq #[.int i tk, x] } = h₄ at he₄
  have hsz : h₃.objs.size = hp.objs.size := by rw [hs₃.1, hs₂.1, hs₁.1]
  have hel : e < hp.objs.size := Heap.lt_size he
  have ht₄ : h₄.get? hp.objs.size = some { cls := .type "tuple", data := .seq #[.int i tk, x] } := by rw [← hh₄, ← hsz]; exact Heap.get?_push_size _ rfl
  have hz₄ : h₄.objs.size = hp.objs.size + 1 := by rw [← hh₄, Heap.size_push, hsz]
  have hk₄ : ∀ b o, b ≠ e → b ≠ it → hp.get? b = some o → h₄.get? b = some o := fun b o hbe hbi hb => by
    rw [← hh₄]; exact Heap.get?_push_of_some _ (hs₃.extBut b o hbe (hs₂.extBut b o hbe (hs₁.extBut b o hbi hb)))
  have hit₄ : h₄.IsTupleIter it l (i + 1) := by
    rw [← hh₄]; obtain ⟨o, ho, r⟩ := (hit₁.extBut hs₂.extBut (Ne.symm hne)).extBut hs₃.extBut (Ne.symm hne); exact ⟨o, Heap.get?_push_of_some _ ho, r⟩
  show wpAny _ _ (Builtin.SmallTypes.ownedTupleIsFree (.ref e) >>= _) _ _ ⟨h₄, g, d, tk + 1, os⟩
  rw [hsz]
  clear hh₄ he₃ hs₃ he₂ hs₂ he₁ hs₁ hit₁ hsz h₃ h₂ h₁
  refine wpAny_bind ?_
  unfold Builtin.SmallTypes.ownedTupleIsFree
  refine wpAny_bind (wpAny_field he₄ rfl (x := .none) rfl (wpAny_pure ?_))
  simp only [if_true]
  refine wpAny_bind (wpAny_rule ?_)
  refine wpAny_bind (wpAny_field he₄ rfl (x := old) rfl ?_)
  refine wpAny_bind (wpAny_setField_rec he₄ (by simp) fun h₅ he₅ hs₅ => ?_)
  replace hs₅ : Heap.SameBut e h₄ h₅ := hs₅
  replace he₅ : IsEnum h₅ e it ((i : Int) + 1) x := he₅
  show wpAny _ _ (Builtin.SmallTypes.ownedTupleHandOut (.ref e) (.ref hp.objs.size) >>= _) _ _ ⟨h₅, g, d, tk + 1, os⟩
  refine wpAny_bind ?_
  unfold Builtin.SmallTypes.ownedTupleHandOut
  refine wpAny_bind (wpAny_setField_rec he₅ (by simp) fun h₆ he₆ hs₆ => ?_)
  replace hs₆ : Heap.SameBut e h₅ h₆ := hs₆
  replace he₆ : IsEnumOut h₆ e it ((i : Int) + 1) x hp.objs.size := he₆
  refine wpAny_setField_rec he₆ (by simp) fun h₇ he₇ hs₇ => ?_
  replace hs₇ : Heap.SameBut e h₆ h₇ := hs₇
  replace he₇ : IsEnumOut h₇ e it ((i : Int) + 1) x hp.objs.size := he₇
  refine wpAny_bind (wpAny_letGo (wpAny_pure ⟨_, rfl, hQ h₇ he₇ ?_ ?_ ?_ ?_⟩))
  · exact ((hit₄.extBut hs₅.extBut (Ne.symm hne)).extBut hs₆.extBut (Ne.symm hne)).extBut hs₇.extBut (Ne.symm hne)
  · exact hs₇.extBut _ _ (Nat.ne_of_gt hel) (hs₆.extBut _ _ (Nat.ne_of_gt hel) (hs₅.extBut _ _ (Nat.ne_of_gt hel) ht₄))
  · rw [hs₇.1, hs₆.1, hs₅.1, hz₄]
  · exact fun b o hbe hbi hb => hs₇.extBut b o hbe (hs₆.extBut b o hbe (hs₅.extBut b o hbe (hk₄ b o hbe hbi hb)))
theorem en_item {e it l : Addr} {i : Nat} {xs : Array Value} {x old : Value} {Q : Option Value → Shared → Prop} (he : IsEnum s.heap e it i old) (hit : s.heap.IsTupleIter it l i) (hl : s.heap.IsTuple l xs) (hx : xs[i]? = some x) (hne : e ≠ it)
    (hQ : ∀ h', IsEnumOut h' e it ((i : Int) + 1) x s.heap.objs.size → h'.IsTupleIter it l (i + 1) → h'.get? s.heap.objs.size = some { cls := .type "tuple", data := .seq #[.int i s.toks, x] } → h'.objs.size = s.heap.objs.size + 1 →
      (∀ b o, b ≠ e → b ≠ it → s.heap.get? b = some o → h'.get? b = some o) → Q (some (.ref s.heap.objs.size)) { s with heap := h', toks := s.toks + 1 }) : wpAny (model prog w) A (pyNext (.ref e)) Q E s := by
  have hT : s.TypeIs (.ref e) "enumerate" := ⟨_, he, rfl⟩
  unfold pyNext
  exact wpAny_bind (wpAny_attempt (wpAny_callSpecial?_slot (name := Str.ofString "__next__") hT F.slot_enumerate_next (wpAny_call_entry F.slot_enumerate_next hT F.entry_enumerate_next
    (en_next he hit hl hx hne fun h' a b c d k => wpAny_pure (hQ h' a b c d k)) (F.args_enumerate_next_1 _))))
theorem en_end {e it l : Addr} {i : Nat} {xs : Array Value} {old : Value} {Q : Option Value → Shared → Prop} (hh : A.handled = none) (he : IsEnum s.heap e it i old) (hit : s.heap.IsTupleIter it l i) (hl : s.heap.IsTuple l xs) (hx : xs[i]? = none)
    (hQ : ∀ h', Heap.ExtBut it s.heap h' → Q none { s with heap := h' }) : wpAny (model prog w) A (pyNext (.ref e)) Q E s := by
  have hT : s.TypeIs (.ref e) "enumerate" := ⟨_, he, rfl⟩
  unfold pyNext
  refine wpAny_bind (wpAny_attempt (wpAny_callSpecial?_slot (name := Str.ofString "__next__") hT F.slot_enumerate_next (wpAny_call_entry F.slot_enumerate_next hT F.entry_enumerate_next ?_ (F.args_enumerate_next_1 _))))
  show wpAny _ _ (field (.ref e) 2 >>= _) _ _ _
  refine wpAny_bind (wpAny_field he rfl (x := .ref it) rfl (wpAny_bind (RZ.nextOf_tuple_end hh hit hl hx fun h' x he' hx' => ?_)))
  obtain ⟨o, ho, hc⟩ := hx'
  exact wpAny_bind (wpAny_isInstance (T := "StopIteration") (b := true) ⟨o, ho, hc⟩ isSubtype_stop (wpAny_pure (hQ _ he')))
end
/-- the tuple at a, each item in a new pair with its number -/
def ItT (K : PySem.W.Frag) (a : Addr) : It :=
  ⟨fun i H => ∃ (xs : List V) (x : V), SqT K H a xs ∧ xs[i]? = some x, fun i H v H' => ∃ T x, v = .ref T ∧ H T = none ∧ H' = upd H T (.tup [.int (i : Nat), x]) ∧ ∀ xs, SqT K H a xs → xs[i]? = some x, fun i H => ∃ xs : List V, SqT K H a xs ∧ xs.length ≤ i⟩
theorem turn_enT {P : Program} {w : World} {K : PySem.W.Frag} {elts : List Expr} {kk : Nat} {tpos : Pos} (a e it : Addr) :
    Turn P w K (.Tuple elts kk tpos) (ItT K a) [e, it] e (fun i h => (∃ old, IsEnum h e it ((i : Nat) : Int) old) ∧ h.IsTupleIter it a i ∧ e ≠ it) where
  mem := by simp
  obj := fun i h st b hb => by
    obtain ⟨⟨old, he⟩, ⟨o, ho, hc, hd⟩, _⟩ := st
    have e' : b = e ∨ b = it := by simpa using hb
    rcases e' with z | z
    · rw [z]; exact ⟨_, he, fun v q => nomatch q⟩
    · rw [z]; exact ⟨o, ho, fun v q => by rw [hd] at q; cases q⟩
  keep := fun i h h' st k => by
    obtain ⟨⟨old, he⟩, ⟨o, ho, r⟩, hne⟩ := st
    exact ⟨⟨old, k e (by simp) _ he⟩, ⟨o, k it (by simp) o ho, r⟩, hne⟩
  item := by
    intro X hP hw hK hc i pins s σ H E I hf st hg
    subst hP hw hK
    obtain ⟨⟨old, he⟩, hit, hne⟩ := st
    obtain ⟨xs, x, hq, hx⟩ := hg
    obtain ⟨its, rv, p, hz⟩ := I.tuple hq
    obtain ⟨u, hu, ru⟩ := rv.get hx
    have hel : e < s.heap.objs.size := Heap.lt_size he
    have hil : it < s.heap.objs.size := by obtain ⟨_, q, _⟩ := hit; exact Heap.lt_size q
    refine en_item (l := a) (xs := its.toArray) he hit p (x := u) (by simpa using hu) hne fun h' ho hit' hT hsz hk => ?_
    refine ⟨_, rfl, wpAny_letOwnedTupleGo_enum (s := { s with heap := h', toks := s.toks + 1 }) ho fun h'' he' sb => ?_⟩
    have hT2 : h''.get? s.heap.objs.size = some { cls := .type "tuple", data := .seq #[.int i s.toks, u] } := (sb.2 _ (Nat.ne_of_gt hel)).trans hT
    have new : ObjOk X.prog X.w (upd H s.heap.objs.size (.tup [.int (i : Nat), x])) h'' s.heap.objs.size (.tup [.int (i : Nat), x]) :=
      ⟨by show 2 ≤ sizeLine; decide, [.int i s.toks, u], .cons ⟨_, rfl⟩ (.cons ru .nil), ⟨_, hT2, rfl, _, rfl⟩⟩
    have I1 : Inv X pins σ (upd H s.heap.objs.size (.tup [.int (i : Nat), x])) { s with heap := h'', toks := s.toks + 1 } :=
      I.turnedNew (ch := [e, it]) (fun b ob hb q => (sb.2 b (fun z => hb (by simp [z]))).trans (hk b ob (fun z => hb (by simp [z])) (fun z => hb (by simp [z])) q)) hf (Nat.le_refl _) new
    have hit'' : h''.IsTupleIter it a (i + 1) := by
      obtain ⟨o, ho2, r⟩ := hit'
      exact ⟨o, (sb.2 it (Ne.symm hne)).trans ho2, r⟩
    refine ⟨.ref s.heap.objs.size, _, I1, rfl, ⟨_, x, rfl, I.hok.fresh (Nat.le_refl _), rfl, fun ys hy => by rw [I.tuple_inj hy hq]; exact hx⟩, ⟨⟨u, ?_⟩, hit'', hne⟩, fun b hb => ?_⟩
    · have e1 : ((i + 1 : Nat) : Int) = (i : Int) + 1 := by omega
      rw [e1]; exact he'
    · have hb' : b < s.heap.objs.size := by
        have e' : b = e ∨ b = it := by simpa using hb
        rcases e' with z | z <;> rw [z] <;> assumption
      rw [upd_ne (Nat.ne_of_lt hb')]
      exact (hf b hb).1
  done := by
    intro X hP hw hK hc i pins s σ H E I hf st hg
    subst hP hw hK
    obtain ⟨⟨old, he⟩, hit, hne⟩ := st
    obtain ⟨xs, hq, hx⟩ := hg
    obtain ⟨its, rv, p, hz⟩ := I.tuple hq
    obtain ⟨f0, f1, f2, f3, f4, f5⟩ := hf it (by simp)
    have hl := rv.length
    exact en_end (l := a) (xs := its.toArray) (I.ok.hd hc) he hit p (by simp; omega) fun h' eb => ⟨rfl, I.turned (t' := s.toks) (fun b o hb q => eb b o hb q) f0 f1 f3 f4 f5⟩
  self := fun A i s Q E st h => let ⟨⟨_, he⟩, _⟩ := st; wpAny_pyIter_enum he h
/-- enumerate(xs), xs a list or a tuple -/
def iEnumA (K : PySem.W.Frag) (ta : TA) : TI := fun σ H R => ta σ H fun vs H1 => ∃ a xs, vs = [.ref a] ∧ ((SqL K H1 a xs ∧ R (Ite K a) H1) ∨ (SqT K H1 a xs ∧ R (ItT K a) H1))
theorem pi_enumA {X : Cx} {e : Expr} {ta : TA} {p pos tpos : Pos} {elts : List Expr} {kk : Nat} (hg : Gl X "enumerate") (hm : X.mg "enumerate" = none) (ha : PA X [e] ta) (hs : starEach [e] X.env = [(false, eval e X.env)] := by rfl) :
    PI X (.Tuple elts kk tpos) (.Call (.Name "enumerate" p) [e] [] pos) (iEnumA X.K ta) := by
  refine ⟨fun pins s σ H R I h => ?_⟩
  refine Call_ (ld_blt I hg hm boot_enumerate (PyProof.Rows.callWith_type1 (thn (ha.run pos pins s σ H _ I h) fun us s1 ⟨vs, H1, I1, r1, q1⟩ => ?_) hs rfl))
  obtain ⟨a, xs, ex, q⟩ := q1
  subst ex
  obtain ⟨u, rfl, ru⟩ := vals1 r1
  obtain rfl : u = Value.ref a := ru
  have bnd : ∀ b ∈ [s1.heap.objs.size + 1, s1.heap.objs.size], s1.heap.objs.size ≤ b := fun b hb => by
    have e' : b = s1.heap.objs.size + 1 ∨ b = s1.heap.objs.size := by simpa using hb
    omega
  rcases q with ⟨hq, q⟩ | ⟨hq, q⟩
  · obtain ⟨its, rv, p', hz⟩ := I1.list hq
    refine call_enumerate_list p'.isList fun h' he hit hsz hk => wpAny_pyIter_enum he ?_
    have I2 : Inv X pins σ H1 { s1 with heap := h' } := I1.kept (t' := s1.toks) hk
    exact ⟨s1.heap.objs.size + 1, [s1.heap.objs.size + 1, s1.heap.objs.size], _, _, H1, rfl, I2, turn_enum a (s1.heap.objs.size + 1) s1.heap.objs.size, ⟨⟨.none, he⟩, hit, Nat.succ_ne_self _⟩, fun b hb => I1.fpOk (bnd b hb) (I1.hok.fresh (bnd b hb)), q⟩
  · obtain ⟨its, rv, p', hz⟩ := I1.tuple hq
    refine en_call (l := a) (xs := its.toArray) p' fun h' he hit hsz hk => wpAny_pyIter_enum he ?_
    have I2 : Inv X pins σ H1 { s1 with heap := h' } := I1.kept (t' := s1.toks) hk
    exact ⟨s1.heap.objs.size + 1, [s1.heap.objs.size + 1, s1.heap.objs.size], _, _, H1, rfl, I2, turn_enT a (s1.heap.objs.size + 1) s1.heap.objs.size, ⟨⟨.none, he⟩, hit, Nat.succ_ne_self _⟩, fun b hb => I1.fpOk (bnd b hb) (I1.hok.fresh (bnd b hb)), q⟩
theorem walk_enT {K : PySem.W.Frag} {a : Addr} {xs : List V} : Walk (ItT K a) xs.length (fun H => SqT K H a xs) (YPair (fun i => some (.int (i : Nat))) (fun i => xs[i]?)) := by
  refine ⟨fun i _ hi q => ⟨xs, xs[i], q, by simp [hi]⟩, fun _ q => ⟨xs, q, Nat.le_refl _⟩, fun i H v H' _ q y => ?_⟩
  obtain ⟨T, x, h1, h2, h3, h4⟩ := y
  exact ⟨T, .int (i : Nat), x, h1, h2, h3, rfl, h4 xs q⟩
end Nm
set_option maxRecDepth 100000
set_option maxHeartbeats 4000000
/-! dict(zip(a list, a list or a tuple)), of one length -/
namespace Nm
open PySem PySem.Spec PyProof.Rows L2
/-- at i an iterator over the list or tuple at l, k turns on -/
def It2 (h : Heap) (i l : Addr) (k : Nat) (ys : Array Value) : Prop := (h.IsListIter i l k ∧ h.IsList l ys) ∨ (h.IsTupleIter i l k ∧ h.IsTuple l ys)
theorem It2.there {h : Heap} {i l : Addr} {k : Nat} {ys : Array Value} (x : It2 h i l k ys) : (∃ o, h.get? i = some o) ∧ ∃ o, h.get? l = some o := by
  rcases x with ⟨⟨o, e, _⟩, ⟨u, f, _⟩⟩ | ⟨⟨o, e, _⟩, ⟨u, f, _⟩⟩ <;> exact ⟨⟨o, e⟩, ⟨u, f⟩⟩
theorem It2.goes {h h' : Heap} {i l : Addr} {k : Nat} {ys : Array Value} (x : It2 h i l k ys) (a : ∀ o, h.get? i = some o → h'.get? i = some o) (b : ∀ o, h.get? l = some o → h'.get? l = some o) : It2 h' i l k ys := by
  rcases x with ⟨⟨o, e, r⟩, ⟨u, f, q⟩⟩ | ⟨⟨o, e, r⟩, ⟨u, f, q⟩⟩
  · exact .inl ⟨⟨o, a o e, r⟩, ⟨u, b u f, q⟩⟩
  · exact .inr ⟨⟨o, a o e, r⟩, ⟨u, b u f, q⟩⟩
section
variable {P : Program} {w : World} {A : Around} {E : Value → Shared → Prop} {s : Shared} {z TI TO T i1 i2 l1 l2 : Addr} {xs ys : Array Value}
theorem it2_next {k : Nat} {y : Value} {Q : Value → Shared → Prop} (x : It2 s.heap i2 l2 k ys) (n : l2 ≠ i2) (hy : ys[k]? = some y) (hQ : ∀ h', It2 h' i2 l2 (k + 1) ys → Heap.SameBut i2 s.heap h' → Q y { s with heap := h' }) :
    wpAny (model P w) A (Builtin.SmallTypes.nextOf (.ref i2)) Q E s := by
  rcases x with ⟨a, b⟩ | ⟨a, b⟩
  · exact wpAny_nextOf_list_item a b hy fun h' c sb => hQ h' (.inl ⟨c, b.extBut sb.extBut n⟩) sb
  · exact RZ.nextOf_tuple_item a b hy fun h' c sb => hQ h' (.inr ⟨c, b.extBut sb.extBut n⟩) sb
/-- the first turn: the zip's own pair is handed out -/
theorem zm_first {k : Nat} {x y a b : Value} {Q : Value → Shared → Prop} (D : ZipApart z TI TO i1 i2 l1 l2) (hz : IsZip s.heap z TI TO .none) (hTI : IsPair s.heap TI (.ref i1) (.ref i2)) (hTO : IsPair s.heap TO a b)
    (g1 : s.heap.IsListIter i1 l1 k) (g2 : It2 s.heap i2 l2 k ys) (gl : s.heap.IsList l1 xs) (hx : xs[k]? = some x) (hy : ys[k]? = some y)
    (hQ : ∀ h', IsZip h' z TI TO (rawInt s.heap.objs.size) → IsPair h' TO x y → h'.IsListIter i1 l1 (k + 1) → It2 h' i2 l2 (k + 1) ys → IsPair h' s.heap.objs.size x y → h'.objs.size = s.heap.objs.size + 1 →
      (∀ c o, c ≠ z → c ≠ TO → c ≠ i1 → c ≠ i2 → s.heap.get? c = some o → h'.get? c = some o) → Q (.ref s.heap.objs.size) { s with heap := h' }) :
    wpAny (model P w) A (Builtin.«zip.__next__» ⟨[.ref z], []⟩) (fun fin s' => ∃ v, fin = .done (.ret v) ∧ Q v s') E s := by
  show wpAny _ _ (field (.ref z) 2 >>= _) _ _ _
  refine wpAny_bind (wpAny_field hz rfl (x := .bool false) rfl ?_)
  show wpAny _ _ (field (.ref z) 3 >>= _) _ _ _
  refine wpAny_bind (wpAny_field hz rfl (x := .ref TI) rfl (wpAny_bind (wpAny_seqItems hTI rfl ?_)))
  show wpAny _ _ (Builtin.SmallTypes.ownedTupleIsFree (.ref z) >>= _) _ _ _
  refine wpAny_bind ?_
  unfold Builtin.SmallTypes.ownedTupleIsFree
  refine wpAny_bind (wpAny_field hz rfl (x := .none) rfl (wpAny_pure ?_))
  simp only [if_true]
  refine wpAny_bind (wpAny_rule (wpAny_bind (wpAny_field hz rfl (x := .ref TO) rfl (wpAny_bind (wpAny_setField_rec hz (by simp) fun ha za sa => ?_)))))
  replace za : IsZip ha z TI TO .ellipsis := za
  refine wpAny_bind ?_
  simp only [List.zipIdx_cons, List.zipIdx_nil, List.forIn_cons, List.forIn_nil]
  refine wpAny_bind (wpAny_bind (wpAny_onRaise ?_))
  show wpAny _ _ (Builtin.SmallTypes.nextOf (.ref i1) >>= _) _ _ _
  refine wpAny_bind (wpAny_nextOf_list_item (g1.extBut sa.extBut D.i1z) (gl.extBut sa.extBut D.l1z) hx fun hb gb sb => wpAny_pure ?_)
  have tb : IsPair hb TO a b := sb.extBut _ _ D.TOi1 (sa.extBut _ _ D.TOz hTO)
  refine wpAny_bind (wpAny_seqItems tb rfl (wpAny_bind (wpAny_updateSeq_pair tb fun hc tc sc => ?_)))
  replace tc : IsPair hc TO x b := tc
  refine wpAny_bind (wpAny_letGo (wpAny_pure ?_))
  refine wpAny_bind (wpAny_bind (wpAny_onRaise ?_))
  show wpAny _ _ (Builtin.SmallTypes.nextOf (.ref i2) >>= _) _ _ _
  have g2c : It2 hc i2 l2 k ys := g2.goes (fun o e => sc.extBut _ _ D.TOi2.symm (sb.extBut _ _ D.i12.symm (sa.extBut _ _ D.i2z e))) fun o e => sc.extBut _ _ D.l2TO (sb.extBut _ _ D.l2i1 (sa.extBut _ _ D.l2z e))
  refine wpAny_bind (it2_next (s := { s with heap := hc }) g2c D.l2i2 hy fun hd gd sd => wpAny_pure ?_)
  have td : IsPair hd TO x b := sd.extBut _ _ D.TOi2 tc
  refine wpAny_bind (wpAny_seqItems td rfl (wpAny_bind (wpAny_updateSeq_pair td fun he te se => ?_)))
  replace te : IsPair he TO x y := te
  refine wpAny_bind (wpAny_letGo (wpAny_pure (wpAny_pure ?_)))
  refine wpAny_bind (wpAny_seqItems te rfl (wpAny_bind (wpAny_newTuple ?_)))
  have size : he.objs.size = s.heap.objs.size := by rw [se.1, sd.1, sc.1, sb.1, sa.1]
  have ze : IsZip he z TI TO .ellipsis := se.extBut _ _ D.TOz.symm (sd.extBut _ _ D.i2z.symm (sc.extBut _ _ D.TOz.symm (sb.extBut _ _ D.i1z.symm za)))
  have ke : ∀ c o, c ≠ z → c ≠ TO → c ≠ i1 → c ≠ i2 → s.heap.get? c = some o → he.get? c = some o := fun c o n1 n2 n3 n4 e => se.extBut _ _ n2 (sd.extBut _ _ n4 (sc.extBut _ _ n2 (sb.extBut _ _ n3 (sa.extBut _ _ n1 e))))
  have ge : he.IsListIter i1 l1 (k + 1) := ((gb.extBut sc.extBut D.TOi1.symm).extBut sd.extBut D.i12).extBut se.extBut D.TOi1.symm
  have g2e : It2 he i2 l2 (k + 1) ys := gd.goes (fun o e => se.extBut _ _ D.TOi2.symm e) fun o e => se.extBut _ _ D.l2TO e
  have zlt : z < he.objs.size := Heap.lt_size ze
  show wpAny _ _ (Builtin.SmallTypes.ownedTupleHandOut (.ref z) (.ref he.objs.size) >>= _) _ _ _
  refine wpAny_bind ?_
  unfold Builtin.SmallTypes.ownedTupleHandOut
  have zf : IsZip (he.push { cls := .type "tuple", data := .seq #[x, y] }) z TI TO .ellipsis := Heap.get?_push_of_some _ ze
  refine wpAny_bind (wpAny_setField_rec zf (by simp) fun hg zg sg => ?_)
  replace zg : IsZip hg z TI TO (rawInt he.objs.size) := zg
  refine wpAny_setField_rec zg (by simp) fun hi zi si => ?_
  replace zi : IsZip hi z TI TO (rawInt he.objs.size) := zi
  have up : ∀ c o, c ≠ z → he.get? c = some o → hi.get? c = some o := fun c o n e => si.extBut _ _ n (sg.extBut _ _ n (Heap.get?_push_of_some _ e))
  have Ti : IsPair hi he.objs.size x y := si.extBut _ _ (Nat.ne_of_gt zlt) (sg.extBut _ _ (Nat.ne_of_gt zlt) (Heap.get?_push_size _ rfl))
  have sz : hi.objs.size = he.objs.size + 1 := by rw [si.1, sg.1, Heap.size_push]
  rw [size] at zi Ti sz
  refine wpAny_pure ⟨_, rfl, ?_⟩
  show Q (.ref he.objs.size) _
  rw [size]
  exact hQ hi zi (up _ _ D.TOz te) (ge.at fun o e => up _ o D.i1z e) (g2e.goes (fun o e => up _ o D.i2z e) fun o e => up _ o D.l2z e) Ti sz fun c o n1 n2 n3 n4 e => up c o n1 (ke c o n1 n2 n3 n4 e)
/-- a later turn, the pair held elsewhere: a new one -/
theorem zm_later {k : Nat} {f : Bool} {oT : Obj} {x y : Value} {Q : Value → Shared → Prop} (D : ZipApart z TI TO i1 i2 l1 l2) (hz : IsZipHeld s.heap z TI TO T f) (hT : s.heap.get? T = some oT) (hTI : IsPair s.heap TI (.ref i1) (.ref i2))
    (g1 : s.heap.IsListIter i1 l1 k) (g2 : It2 s.heap i2 l2 k ys) (gl : s.heap.IsList l1 xs) (hx : xs[k]? = some x) (hy : ys[k]? = some y)
    (hQ : ∀ h', IsZipHeld h' z TI TO T true → h'.IsListIter i1 l1 (k + 1) → It2 h' i2 l2 (k + 1) ys → IsPair h' s.heap.objs.size x y → (∀ c o, c ≠ z → c ≠ i1 → c ≠ i2 → s.heap.get? c = some o → h'.get? c = some o) → Q (.ref s.heap.objs.size) { s with heap := h' }) :
    wpAny (model P w) A (Builtin.«zip.__next__» ⟨[.ref z], []⟩) (fun fin s' => ∃ v, fin = .done (.ret v) ∧ Q v s') E s := by
  show wpAny _ _ (field (.ref z) 2 >>= _) _ _ _
  refine wpAny_bind (wpAny_field hz rfl (x := .bool false) rfl ?_)
  show wpAny _ _ (field (.ref z) 3 >>= _) _ _ _
  refine wpAny_bind (wpAny_field hz rfl (x := .ref TI) rfl (wpAny_bind (wpAny_seqItems hTI rfl ?_)))
  show wpAny _ _ (Builtin.SmallTypes.ownedTupleIsFree (.ref z) >>= _) _ _ _
  refine wpAny_bind (wpAny_tupleHeld_zip hz hT fun ha za sa => ?_)
  simp only [Bool.false_eq_true, if_false]
  refine wpAny_bind ?_
  rw [← Array.forIn_toList]
  simp only [List.forIn_cons, List.forIn_nil]
  refine wpAny_bind (wpAny_bind (wpAny_holding ?_))
  show wpAny _ _ (Builtin.SmallTypes.nextOf (.ref i1) >>= _) _ _ _
  refine wpAny_bind (wpAny_nextOf_list_item (s := { s with heap := ha }) (g1.extBut sa.extBut D.i1z) (gl.extBut sa.extBut D.l1z) hx fun hb gb sb => wpAny_pure (wpAny_pure ?_))
  refine wpAny_bind (wpAny_bind (wpAny_holding ?_))
  show wpAny _ _ (Builtin.SmallTypes.nextOf (.ref i2) >>= _) _ _ _
  have g2b : It2 hb i2 l2 k ys := g2.goes (fun o e => sb.extBut _ _ D.i12.symm (sa.extBut _ _ D.i2z e)) fun o e => sb.extBut _ _ D.l2i1 (sa.extBut _ _ D.l2z e)
  refine wpAny_bind (it2_next (s := { s with heap := hb }) g2b D.l2i2 hy fun hc gc sc => wpAny_pure (wpAny_pure (wpAny_pure ?_)))
  show wpAny _ _ (newTuple [x, y] >>= _) _ _ _
  refine wpAny_bind (wpAny_newTuple ?_)
  have size : hc.objs.size = s.heap.objs.size := by rw [sc.1, sb.1, sa.1]
  have zc : IsZipHeld hc z TI TO T true := sc.extBut _ _ D.i2z.symm (sb.extBut _ _ D.i1z.symm za)
  have kc : ∀ c o, c ≠ z → c ≠ i1 → c ≠ i2 → s.heap.get? c = some o → hc.get? c = some o := fun c o n1 n2 n3 e => sc.extBut _ _ n3 (sb.extBut _ _ n2 (sa.extBut _ _ n1 e))
  have gc1 : hc.IsListIter i1 l1 (k + 1) := gb.extBut sc.extBut D.i12
  refine wpAny_pure ⟨_, rfl, ?_⟩
  show Q (.ref hc.objs.size) _
  have np : IsPair (hc.push { cls := .type "tuple", data := .seq #[x, y] }) hc.objs.size x y := Heap.get?_push_size _ rfl
  rw [size] at np ⊢
  exact hQ _ (Heap.get?_push_of_some _ zc) (gc1.at fun o e => Heap.get?_push_of_some _ e) (gc.goes (fun o e => Heap.get?_push_of_some _ e) fun o e => Heap.get?_push_of_some _ e) np fun c o n1 n2 n3 e => Heap.get?_push_of_some _ (kc c o n1 n2 n3 e)
/-- the end: the list has no more -/
theorem zm_end {k : Nat} {f : Bool} {oT : Obj} {Q : PySem.Fin → Shared → Prop} (hh : A.handled = none) (D : ZipApart z TI TO i1 i2 l1 l2) (hz : IsZipHeld s.heap z TI TO T f) (hT : s.heap.get? T = some oT) (hTI : IsPair s.heap TI (.ref i1) (.ref i2))
    (g1 : s.heap.IsListIter i1 l1 k) (gl : s.heap.IsList l1 xs) (hx : xs[k]? = none)
    (hE : ∀ h' e, (∀ c o, c ≠ z → c ≠ i1 → c ≠ i2 → s.heap.get? c = some o → h'.get? c = some o) → (∃ o, h'.get? e = some o ∧ o.cls = .type "StopIteration") → E (.ref e) { s with heap := h' }) :
    wpAny (model P w) A (Builtin.«zip.__next__» ⟨[.ref z], []⟩) Q E s := by
  show wpAny _ _ (field (.ref z) 2 >>= _) _ _ _
  refine wpAny_bind (wpAny_field hz rfl (x := .bool false) rfl ?_)
  show wpAny _ _ (field (.ref z) 3 >>= _) _ _ _
  refine wpAny_bind (wpAny_field hz rfl (x := .ref TI) rfl (wpAny_bind (wpAny_seqItems hTI rfl ?_)))
  show wpAny _ _ (Builtin.SmallTypes.ownedTupleIsFree (.ref z) >>= _) _ _ _
  refine wpAny_bind (wpAny_tupleHeld_zip hz hT fun ha za sa => ?_)
  simp only [Bool.false_eq_true, if_false]
  refine wpAny_bind ?_
  rw [← Array.forIn_toList]
  simp only [List.forIn_cons, List.forIn_nil]
  refine wpAny_bind (wpAny_bind (wpAny_holding ?_))
  show wpAny _ _ (Builtin.SmallTypes.nextOf (.ref i1) >>= _) _ _ _
  refine wpAny_bind (wpAny_nextOf_list_end (s := { s with heap := ha }) hh (g1.extBut sa.extBut D.i1z) (gl.extBut sa.extBut D.l1z) hx fun hb e sb st => ?_)
  exact hE hb e (fun c o n1 n2 _ q => sb _ _ n2 (sa.extBut _ _ n1 q)) st
/-- the five objects of zip(a list, a tuple) -/
def zmHeap (h : Heap) (l1 l2 : Addr) : Heap := ((((h.push { cls := .type "list_iterator", data := .fields #[.ref l1, .int 0 0] }).push { cls := .type "tuple_iterator", data := .fields #[.ref l2, .int 0 0] }).push
  { cls := .type "tuple", data := .seq #[.ref h.objs.size, .ref (h.objs.size + 1)] }).push { cls := .type "tuple", data := .seq #[.none, .none] }).push { cls := .type "zip", data := .fields #[.none, .bool false, .bool false, .ref (h.objs.size + 2), .ref (h.objs.size + 3)] }
theorem zm_new (l1 l2 : Addr) (xs ys : Array Value) :
    Meets (Builtin.«zip.__new__» ⟨[.type "zip", .ref l1, .ref l2], []⟩) (fun _ R s => s.heap.IsList l1 xs ∧ s.heap.IsTuple l2 ys ∧ R (.ok (.ret (.ref (s.heap.objs.size + 4)))) { s with heap := zmHeap s.heap l1 l2 }) :=
  .of_wp fun prog w A R s h => by
    obtain ⟨hp, g, d, tk, os⟩ := s
    obtain ⟨a1, a2, h⟩ := h
    have b1 : Heap.IsList (Shared.heap ⟨hp, g, d, tk, os⟩) l1 xs := a1
    have b2 : Heap.IsTuple (Shared.heap ⟨hp.push { cls := .type "list_iterator", data := .fields #[.ref l1, .int 0 0] }, g, d, tk, os⟩) l2 ys := Heap.IsTuple.push a2 _
    have hsub := sub_zip
    unfold zmHeap at h
    wp_walk using wpAny_pyIter_list b1, wpAny_pyIter_tuple b2
    refine ⟨_, rfl, ?_⟩
    simp only [Heap.size_push, Nat.add_assoc, Nat.reduceAdd]
    exact h
theorem zm_call {Q : Value → Shared → Prop} (gl : s.heap.IsList l1 xs) (g2 : s.heap.IsList l2 ys ∨ s.heap.IsTuple l2 ys)
    (h : ∀ h', IsZip h' (s.heap.objs.size + 4) (s.heap.objs.size + 2) (s.heap.objs.size + 3) .none → IsPair h' (s.heap.objs.size + 2) (.ref s.heap.objs.size) (.ref (s.heap.objs.size + 1)) → IsPair h' (s.heap.objs.size + 3) .none .none →
      h'.IsListIter s.heap.objs.size l1 0 → It2 h' (s.heap.objs.size + 1) l2 0 ys → h'.objs.size = s.heap.objs.size + 5 → (∀ c o, s.heap.get? c = some o → h'.get? c = some o) → Q (.ref (s.heap.objs.size + 4)) { s with heap := h' }) :
    wpAny (model P w) A (call (.type "zip") [.ref l1, .ref l2]) Q E s := by
  rcases g2 with g2 | g2
  · exact call_zip_2 gl g2 fun h' a b c d e f k => h h' a b c d (.inl ⟨e, g2.at fun o q => k _ o q⟩) f k
  · refine callType_new F.called_zip (by decide) (F.typeCall_zip_2 _ _) (F.newCall_zip_2 _ _) (fun obj => F.args_object_init_3 obj _ _) F.entry_zip_new (zm_new l1 l2 xs ys) ⟨gl, g2, ?_⟩
    have up : ∀ c o, s.heap.get? c = some o → (zmHeap s.heap l1 l2).get? c = some o := fun c o q => by
      unfold zmHeap
      exact Heap.get?_push_of_some _ (Heap.get?_push_of_some _ (Heap.get?_push_of_some _ (Heap.get?_push_of_some _ (Heap.get?_push_of_some _ q))))
    have p0 : (zmHeap s.heap l1 l2).get? s.heap.objs.size = some { cls := .type "list_iterator", data := .fields #[.ref l1, .int 0 0] } := by
      unfold zmHeap
      exact Heap.get?_push_of_some _ (Heap.get?_push_of_some _ (Heap.get?_push_of_some _ (Heap.get?_push_of_some _ (Heap.get?_push_size _ rfl))))
    have p1 : (zmHeap s.heap l1 l2).get? (s.heap.objs.size + 1) = some { cls := .type "tuple_iterator", data := .fields #[.ref l2, .int 0 0] } := by
      unfold zmHeap
      exact Heap.get?_push_of_some _ (Heap.get?_push_of_some _ (Heap.get?_push_of_some _ (Heap.get?_push_at (by simp only [Heap.size_push]) rfl)))
    have p2 : (zmHeap s.heap l1 l2).get? (s.heap.objs.size + 2) = some { cls := .type "tuple", data := .seq #[.ref s.heap.objs.size, .ref (s.heap.objs.size + 1)] } := by
      unfold zmHeap
      exact Heap.get?_push_of_some _ (Heap.get?_push_of_some _ (Heap.get?_push_at (by simp only [Heap.size_push]) rfl))
    have p3 : (zmHeap s.heap l1 l2).get? (s.heap.objs.size + 3) = some { cls := .type "tuple", data := .seq #[.none, .none] } := by
      unfold zmHeap
      exact Heap.get?_push_of_some _ (Heap.get?_push_at (by simp only [Heap.size_push]) rfl)
    have p4 : (zmHeap s.heap l1 l2).get? (s.heap.objs.size + 4) = some { cls := .type "zip", data := .fields #[.none, .bool false, .bool false, .ref (s.heap.objs.size + 2), .ref (s.heap.objs.size + 3)] } := by
      unfold zmHeap
      exact Heap.get?_push_at (by simp only [Heap.size_push]) rfl
    exact ⟨⟨_, p4, rfl⟩, h _ p4 p2 p3 ⟨_, p0, rfl, rfl⟩ (.inr ⟨⟨_, p1, rfl, rfl⟩, g2.at fun o q => up _ o q⟩) (by unfold zmHeap; simp only [Heap.size_push]) up⟩
/-- such a zip as dict's argument -/
theorem zm_arg (D : ZipApart z TI TO i1 i2 l1 l2) (same : xs.size = ys.size) (pos : 0 < xs.size) :
    PairArg P w "zip" z [z, TI, TO, i1, i2, l1, l2] [z, TO, i1, i2] xs.size (fun i k v => xs[i]? = some k ∧ ys[i]? = some v)
      (fun h => IsZip h z TI TO .none ∧ IsPair h TI (.ref i1) (.ref i2) ∧ (∃ a b, IsPair h TO a b) ∧ h.IsListIter i1 l1 0 ∧ It2 h i2 l2 0 ys ∧ h.IsList l1 xs) where
  type := fun s ok => ⟨_, ok.1, rfl⟩
  notDict := by decide
  keep := fun h h' ok up => by
    obtain ⟨a1, a2, ⟨a, b, a3⟩, a4, a5, a6⟩ := ok
    exact ⟨up _ _ a1, up _ _ a2, ⟨a, b, up _ _ a3⟩, a4.at fun o e => up _ o e, a5.goes (fun o e => up _ o e) fun o e => up _ o e, a6.at fun o e => up _ o e⟩
  there := fun h ok b hb => by
    obtain ⟨a1, a2, ⟨a, c, a3⟩, ⟨o1, a4, _⟩, a5, ⟨o3, a6, _⟩⟩ := ok
    obtain ⟨⟨o2, q2⟩, ⟨o4, q4⟩⟩ := a5.there
    simp only [List.mem_cons, List.not_mem_nil, or_false] at hb
    rcases hb with rfl | rfl | rfl | rfl | rfl | rfl | rfl
    · exact ⟨_, a1⟩
    · exact ⟨_, a2⟩
    · exact ⟨_, a3⟩
    · exact ⟨_, a4⟩
    · exact ⟨_, q2⟩
    · exact ⟨_, a6⟩
    · exact ⟨_, q4⟩
  sub := fun b hb => by
    simp only [List.mem_cons, List.not_mem_nil, or_false] at hb ⊢
    rcases hb with rfl | rfl | rfl | rfl <;> simp
  noKeys := fun A s Q E hA ok h => getAttrOr_miss_zip ok.1 rfl rfl rfl zip_no_keys (by decide +kernel) hA h
  iter := fun A s d Q E hA ok hd hdf h => by
    obtain ⟨a1, a2, ⟨a, b, a3⟩, a4, a5, a6⟩ := ok
    simp only [List.mem_cons, List.not_mem_nil, or_false, not_or] at hdf
    obtain ⟨dz, dTI, dTO, di1, di2, dl1, dl2⟩ := hdf
    refine wpAny_pyIter_zip a1 (h z [z, TO, i1, i2] (fun i h => IsPair h TI (.ref i1) (.ref i2) ∧ h.IsListIter i1 l1 i ∧ It2 h i2 l2 i ys ∧ h.IsList l1 xs ∧
      ((i = 0 ∧ IsZip h z TI TO .none ∧ ∃ a b, IsPair h TO a b) ∨ ∃ T f oT, IsZipHeld h z TI TO T f ∧ h.get? T = some oT ∧ T ≠ z ∧ T ≠ i1 ∧ T ≠ i2 ∧ T ≠ d)) s.heap s.toks ?_ ⟨a2, a4, a5, a6, .inl ⟨rfl, a1, a, b, a3⟩⟩ (fun _ _ e => e) fun b hb => .inl hb)
    exact {
      off := fun hm => by
        simp only [List.mem_cons, List.not_mem_nil, or_false] at hm
        rcases hm with e | e | e | e
        · exact dz e
        · exact dTO e
        · exact di1 e
        · exact di2 e
      frame := fun i h₁ h₂ st hk => by
        obtain ⟨b1, b2, b3, b4, b5⟩ := st
        refine ⟨hk _ _ (Ne.symm dTI) b1, b2.at fun o e => hk _ o (Ne.symm di1) e, b3.goes (fun o e => hk _ o (Ne.symm di2) e) fun o e => hk _ o (Ne.symm dl2) e, b4.at fun o e => hk _ o (Ne.symm dl1) e, ?_⟩
        rcases b5 with ⟨e0, c1, a, b, c2⟩ | ⟨T, f, oT, c1, c2, r1, r2, r3, r4⟩
        · exact .inl ⟨e0, hk _ _ (Ne.symm dz) c1, a, b, hk _ _ (Ne.symm dTO) c2⟩
        · exact .inr ⟨T, f, oT, hk _ _ (Ne.symm dz) c1, hk _ _ r4 c2, r1, r2, r3, r4⟩
      item := fun i s₁ Q₁ E₁ hi st hds hQ => by
        obtain ⟨b1, b2, b3, b4, b5⟩ := st
        have ex := Array.getElem?_eq_getElem hi
        have ey := Array.getElem?_eq_getElem (show i < ys.size by omega)
        have lt : ∀ {c o}, s₁.heap.get? c = some o → s₁.heap.objs.size ≠ c := fun e => Nat.ne_of_gt (Heap.lt_size e)
        have n1 : s₁.heap.objs.size ≠ i1 := let ⟨_, e, _⟩ := b2; lt e
        have n2 : s₁.heap.objs.size ≠ i2 := let ⟨⟨_, e⟩, _⟩ := b3.there; lt e
        rcases b5 with ⟨e0, c1, a, b, c2⟩ | ⟨T, f, oT, c1, c2, r1, r2, r3, r4⟩
        · have hTy : s₁.TypeIs (.ref z) "zip" := ⟨_, c1, rfl⟩
          unfold pyNext
          refine wpAny_bind (wpAny_attempt (wpAny_callSpecial?_slot (name := Str.ofString "__next__") hTy F.slot_zip_next (wpAny_call_entry F.slot_zip_next hTy F.entry_zip_next
            (zm_first D c1 b1 c2 b2 b3 b4 ex ey fun h' q1 q2 q3 q4 q5 q6 hk => wpAny_pure ?_) (F.args_zip_next_1 _))))
          exact hQ s₁.heap.objs.size _ _ h' s₁.toks ⟨ex, ey⟩ (.inl ⟨_, q5, rfl, _, rfl⟩)
            ⟨hk _ _ D.TIz D.TITO D.TIi1 D.TIi2 b1, q3, q4, b4.at fun o e => hk _ o D.l1z D.l1TO D.l1i1 D.l1i2 e, .inr ⟨s₁.heap.objs.size, false, _, q1, q5, lt c1, n1, n2, Nat.ne_of_gt hds⟩⟩
            fun c o hc e => hk c o (fun x => hc (by simp [x])) (fun x => hc (by simp [x])) (fun x => hc (by simp [x])) (fun x => hc (by simp [x])) e
        · have hTy : s₁.TypeIs (.ref z) "zip" := ⟨_, c1, rfl⟩
          unfold pyNext
          refine wpAny_bind (wpAny_attempt (wpAny_callSpecial?_slot (name := Str.ofString "__next__") hTy F.slot_zip_next (wpAny_call_entry F.slot_zip_next hTy F.entry_zip_next
            (zm_later D c1 c2 b1 b2 b3 b4 ex ey fun h' q1 q3 q4 q5 hk => wpAny_pure ?_) (F.args_zip_next_1 _))))
          exact hQ s₁.heap.objs.size _ _ h' s₁.toks ⟨ex, ey⟩ (.inl ⟨_, q5, rfl, _, rfl⟩)
            ⟨hk _ _ D.TIz D.TIi1 D.TIi2 b1, q3, q4, b4.at fun o e => hk _ o D.l1z D.l1i1 D.l1i2 e, .inr ⟨T, true, oT, q1, hk _ _ r1 r2 r3 c2, r1, r2, r3, r4⟩⟩
            fun c o hc e => hk c o (fun x => hc (by simp [x])) (fun x => hc (by simp [x])) (fun x => hc (by simp [x])) e
      done := fun s₁ Q₁ E₁ st hQ => by
        obtain ⟨b1, b2, b3, b4, b5⟩ := st
        rcases b5 with ⟨e0, _⟩ | ⟨T, f, oT, c1, c2, r1, r2, r3, r4⟩
        · omega
        · have hTy : s₁.TypeIs (.ref z) "zip" := ⟨_, c1, rfl⟩
          unfold pyNext
          refine wpAny_bind (wpAny_attempt (wpAny_callSpecial?_slot (name := Str.ofString "__next__") hTy F.slot_zip_next (wpAny_call_entry F.slot_zip_next hTy F.entry_zip_next
            (zm_end hA D c1 c2 b1 b2 b4 (Array.getElem?_eq_none (Nat.le_refl _)) fun h' e hk he => ?_) (F.args_zip_next_1 _))))
          obtain ⟨o, ho, hc⟩ := he
          exact wpAny_bind (wpAny_isInstance (T := "StopIteration") (b := true) ⟨o, ho, hc⟩ isSubtype_stop (wpAny_pure (hQ h' s₁.toks fun c o hc e => hk c o (fun x => hc (by simp [x])) (fun x => hc (by simp [x])) (fun x => hc (by simp [x])) e))) }
end
/-- dict(zip(xs, ys)), xs a list of texts or ints of which none comes twice, ys a list or a tuple as long -/
def tDictZip (K : PySem.W.Frag) (t : TA) : TE := fun σ H Q => t σ H fun vs H1 => ∃ (a b : Addr) (ks : List Key) (ys : List V), vs = [.ref a, .ref b] ∧ SqL K H1 a (ks.map kV) ∧ (SqL K H1 b ys ∨ SqT K H1 b ys) ∧ ks.length = ys.length ∧ ks ≠ [] ∧
  ∀ p : Addr, H1 p = none → Q (.ref p) (upd H1 p (.dK (mergeK [] (ks.zip ys))))
section
variable {X : Cx}
theorem zip_kv : ∀ {ks : List Key} {ys : List V} {us vs : List Value}, Vals (ks.map kV) us → Vals ys vs → KV (ks.zip ys) (ks.zip vs)
  | [], _, _, _, _, _ => by
    rw [List.zip_nil_left, List.zip_nil_left]
    exact .nil
  | k :: ks, [], _, _, _, .nil => by
    rw [List.zip_nil_right, List.zip_nil_right]
    exact .nil
  | k :: ks, y :: ys, us, v :: vs, r1, .cons q r2 => by
    rw [List.map_cons] at r1
    cases r1 with
    | cons r r1 => exact .cons ⟨rfl, q⟩ (zip_kv r1 r2)
theorem pe_dictZip {e e2 : Expr} {t : TA} {p p2 q pos : Pos} (hc : X.calm = true) (g1 : Gl X "dict") (m1 : X.mg "dict" = none) (g2 : Gl X "zip") (m2 : X.mg "zip" = none) (ha : PA X [e, e2] t)
    (n1 : starEach [e, e2] X.env = (false, eval e X.env) :: starEach [e2] X.env := by rfl) (n2 : (backTo q (starEach [e2] X.env)).any (·.1) = false := by rfl)
    (n3 : starEach [.Call (.Name "zip" p2) [e, e2] [] q] X.env = (false, eval (.Call (.Name "zip" p2) [e, e2] [] q) X.env) :: starEach [] X.env := by rfl) :
    PE X (.Call (.Name "dict" p) [.Call (.Name "zip" p2) [e, e2] [] q] [] pos) (tDictZip X.K t) := by
  refine ⟨fun pins s σ H Q I h => ?_⟩
  refine Call_ (ld_blt I g1 m1 (show bootBuiltins "dict" = some (.type "dict") by decide +kernel) (PyProof.Rows.callWith_type1 (PyProof.Rows.args_cons ?_ n3) n3 rfl))
  refine Call_ (ld_blt I g2 m2 PyProof.Rows.boot_zip (PyProof.Rows.callWith_type1 (thn (ha.run q pins s σ H _ I h) fun us s1 ⟨vs, H1, I1, r1, q1⟩ => ?_) n1 n2))
  obtain ⟨a, b, ks, ys, rfl, hqx, hqy, same, hne, k⟩ := q1
  obtain ⟨u, v, rfl, ru, rv⟩ := vals2 r1
  obtain rfl : u = Value.ref a := ru
  obtain rfl : v = Value.ref b := rv
  obtain ⟨its, rx, px, zx⟩ := I1.list hqx
  have two : ∃ its2 : List Value, Vals ys its2 ∧ (s1.heap.IsList b its2.toArray ∨ s1.heap.IsTuple b its2.toArray) ∧ b < s1.heap.objs.size := by
    rcases hqy with z | z
    · obtain ⟨its2, r, p2', _⟩ := I1.list z
      exact ⟨its2, r, .inl p2'.isList, p2'.lt⟩
    · obtain ⟨its2, r, p2', _⟩ := I1.tuple z
      exact ⟨its2, r, .inr p2', p2'.lt⟩
  obtain ⟨its2, ry, py, hb⟩ := two
  have e1 := rx.length
  have e2' := ry.length
  rw [List.length_map] at e1 zx
  have kpos : 0 < ks.length := List.length_pos_iff.mpr hne
  refine zm_call (l1 := a) (l2 := b) (xs := its.toArray) (ys := its2.toArray) px.isList py fun h1 z1 z2 z3 z4 z5 z6 kp => PyProof.Rows.args_nil ?_
  have D := PySem.W.ktu_apart s1.heap.objs.size a b px.lt hb
  have arg := zm_arg (P := X.prog) (w := X.w) (xs := its.toArray) (ys := its2.toArray) D (by simp only [List.size_toArray]; omega) (by simp only [List.size_toArray]; omega)
  have kv := zip_kv rx ry
  refine _root_.PySem.call_dict_pairs (s := { s1 with heap := h1 }) (knd := mixKind X.prog X.w) (kvs := ks.zip its2) arg (I1.ok.hd hc) ⟨z1, z2, ⟨_, _, z3⟩, z4, z5, px.isList.at fun o q => kp _ o q⟩ ⟨?_, fun i key v hr => ?_⟩ (by simp only [List.size_toArray]; omega) fun h' tk hd' hk => ?_
  · simp only [List.length_zip, List.size_toArray]
    omega
  · obtain ⟨hr1, hr2⟩ := hr
    have hi : i < its.length := by
      have := (Array.getElem?_eq_some_iff.mp hr1).1
      simpa using this
    obtain ⟨kk, hkk⟩ : ∃ kk, ks[i]? = some kk := ⟨_, List.getElem?_eq_getElem (by omega)⟩
    obtain ⟨w', hw', rw'⟩ := rx.get (show (ks.map kV)[i]? = some (kV kk) by rw [List.getElem?_map, hkk]; rfl)
    have : w' = key := by
      have z : its.toArray[i]? = its[i]? := by simp
      rw [z, hw'] at hr1
      exact Option.some.inj hr1
    subst this
    refine ⟨kk, ?_, kV_is rw'⟩
    rw [List.getElem?_zip_eq_some]
    exact ⟨hkk, by simpa using hr2⟩
  · have big : s1.heap.objs.size ≤ h1.objs.size := by omega
    have keep : ∀ b o, s1.heap.get? b = some o → h'.get? b = some o := fun b o e => hk b o (fun hm => by
      have lt : b < s1.heap.objs.size := Heap.lt_size e
      simp only [List.mem_cons, List.not_mem_nil, or_false] at hm
      rcases hm with z | z | z | z <;> rw [z] at lt
      · exact absurd lt (Nat.not_lt.mpr (Nat.le_add_right _ _))
      · exact absurd lt (Nat.not_lt.mpr (Nat.le_add_right _ _))
      · exact absurd lt (Nat.lt_irrefl _)
      · exact absurd lt (Nat.not_lt.mpr (Nat.le_add_right _ _))) (kp b o e)
    have hm : (h1.objs.size == sysModules) = false := beq_eq_false_iff_ne.mpr (Nat.ne_of_gt (Nat.lt_of_lt_of_le I1.big big))
    have hlen : (mergeK [] (ks.zip ys)).length ≤ sizeLine := by
      refine Nat.le_trans (length_mergeK (ks.zip ys) []) ?_
      rw [List.length_nil, Nat.zero_add, List.length_zip]
      omega
    exact ⟨.ref h1.objs.size, upd H1 h1.objs.size (.dK (mergeK [] (ks.zip ys))), I1.laid (t' := tk) keep big (show ObjOk X.prog X.w _ _ _ (.dK (mergeK [] (ks.zip ys))) from ⟨hlen, hm, merged [] (ks.zip its2), KV.merge kv .nil, hd'⟩), rfl, k _ (I1.hok.fresh big)⟩
end
end Nm
set_option maxRecDepth 100000
set_option maxHeartbeats 4000000
/-! zip(a list, a tuple) in a for or a comprehension, the list not longer -/
namespace Nm
open PySem PySem.Spec PyProof.Rows L2 RZ
section
variable {prog : Program} {w : World} {A : Around} {E : Value → Shared → Prop} {s : Shared} {z TI TO i1 i2 l1 l2 : Addr} {xs ys : Array Value}
theorem zm_end0 {k : Nat} {a b : Value} {Q : PySem.Fin → Shared → Prop} (hh : A.handled = none) (D : ZipApart z TI TO i1 i2 l1 l2) (hz : IsZip s.heap z TI TO .none) (hTI : IsPair s.heap TI (.ref i1) (.ref i2)) (hTO : IsPair s.heap TO a b)
    (g1 : s.heap.IsListIter i1 l1 k) (gl : s.heap.IsList l1 xs) (hx : xs[k]? = none)
    (hE : ∀ h' e, (∀ c o, c ≠ z → c ≠ TO → c ≠ i1 → c ≠ i2 → s.heap.get? c = some o → h'.get? c = some o) → (∃ o, h'.get? e = some o ∧ o.cls = .type "StopIteration") → E (.ref e) { s with heap := h' }) :
    wpAny (model prog w) A (Builtin.«zip.__next__» ⟨[.ref z], []⟩) Q E s := by
  show wpAny _ _ (field (.ref z) 2 >>= _) _ _ _
  refine wpAny_bind (wpAny_field hz rfl (x := .bool false) rfl ?_)
  show wpAny _ _ (field (.ref z) 3 >>= _) _ _ _
  refine wpAny_bind (wpAny_field hz rfl (x := .ref TI) rfl ?_)
  refine wpAny_bind (wpAny_seqItems hTI rfl ?_)
  show wpAny _ _ (Builtin.SmallTypes.ownedTupleIsFree (.ref z) >>= _) _ _ _
  refine wpAny_bind ?_
  unfold Builtin.SmallTypes.ownedTupleIsFree
  refine wpAny_bind (wpAny_field hz rfl (x := .none) rfl (wpAny_pure ?_))
  simp only [if_true]
  refine wpAny_bind (wpAny_rule ?_)
  refine wpAny_bind (wpAny_field hz rfl (x := .ref TO) rfl ?_)
  refine wpAny_bind (wpAny_setField_rec hz (by simp) fun h₁ hz₁ hs₁ => ?_)
  replace hz₁ : IsZip h₁ z TI TO .ellipsis := hz₁
  refine wpAny_bind ?_
  simp only [List.zipIdx_cons, List.zipIdx_nil, List.forIn_cons, List.forIn_nil]
  refine wpAny_bind (wpAny_bind (wpAny_onRaise ?_))
  show wpAny _ _ (Builtin.SmallTypes.nextOf (.ref i1) >>= _) _ _ _
  refine wpAny_bind (wpAny_nextOf_list_end (s := { s with heap := h₁ }) hh (g1.extBut hs₁.extBut D.i1z) (gl.extBut hs₁.extBut D.l1z) hx fun h₂ e hs₂ he => ?_)
  obtain ⟨oe, hoe, hce⟩ := he
  have hz₂ : IsZip h₂ z TI TO .ellipsis := hs₂ _ _ D.i1z.symm hz₁
  have hez : e ≠ z := fun x => by subst x; rw [hz₂] at hoe; cases hoe; simp at hce
  exact wpAny_setField_rec hz₂ (by simp) fun h₃ _ hs₃ => hE h₃ e (fun c o c1 _ c3 _ x => hs₃.extBut _ _ c1 (hs₂ _ _ c3 (hs₁.extBut _ _ c1 x))) ⟨oe, hs₃.extBut _ _ hez hoe, hce⟩
theorem pyNext_zipM_item {k : Nat} {x y a b : Value} {Q : Option Value → Shared → Prop} (D : ZipApart z TI TO i1 i2 l1 l2)
    (hz : IsZip s.heap z TI TO .none) (hTI : IsPair s.heap TI (.ref i1) (.ref i2)) (hTO : IsPair s.heap TO a b)
    (h1 : s.heap.IsListIter i1 l1 k) (h2 : s.heap.IsTupleIter i2 l2 k) (hl1 : s.heap.IsList l1 xs) (hl2 : s.heap.IsTuple l2 ys) (hx : xs[k]? = some x) (hy : ys[k]? = some y)
    (hQ : ∀ h', IsZip h' z TI TO (rawInt s.heap.objs.size) → IsPair h' TO x y → h'.IsListIter i1 l1 (k + 1) → h'.IsTupleIter i2 l2 (k + 1) → IsPair h' s.heap.objs.size x y → h'.objs.size = s.heap.objs.size + 1 →
      (∀ c o, c ≠ z → c ≠ TO → c ≠ i1 → c ≠ i2 → s.heap.get? c = some o → h'.get? c = some o) → Q (some (.ref s.heap.objs.size)) { s with heap := h' }) :
    wpAny (model prog w) A (pyNext (.ref z)) Q E s := by
  have hT : s.TypeIs (.ref z) "zip" := ⟨_, hz, rfl⟩
  unfold pyNext
  refine wpAny_bind (wpAny_attempt (wpAny_callSpecial?_slot (name := Str.ofString "__next__") hT F.slot_zip_next
    (wpAny_call_entry F.slot_zip_next hT F.entry_zip_next
      (zm_first D hz hTI hTO h1 (.inr ⟨h2, hl2⟩) hl1 hx hy fun h' a1 a2 a3 a4 a5 a6 a7 => wpAny_pure (hQ h' a1 a2 a3 ?_ a5 a6 a7)) (F.args_zip_next_1 _))))
  rcases a4 with ⟨_, ⟨o, e, r⟩⟩ | ⟨q, _⟩
  · obtain ⟨o', e', r', _⟩ := hl2
    have := a7 l2 o' D.l2z D.l2TO D.l2i1 D.l2i2 e'
    rw [e] at this
    cases this
    rw [r.1] at r'
    simp at r'
  · exact q
theorem pyNext_zipM_end {k : Nat} {a b : Value} {Q : Option Value → Shared → Prop} (hh : A.handled = none) (D : ZipApart z TI TO i1 i2 l1 l2)
    (hz : IsZip s.heap z TI TO .none) (hTI : IsPair s.heap TI (.ref i1) (.ref i2)) (hTO : IsPair s.heap TO a b)
    (h1 : s.heap.IsListIter i1 l1 k) (hl1 : s.heap.IsList l1 xs) (hend : xs[k]? = none)
    (hQ : ∀ h', (∀ c o, c ≠ z → c ≠ TO → c ≠ i1 → c ≠ i2 → s.heap.get? c = some o → h'.get? c = some o) → Q none { s with heap := h' }) : wpAny (model prog w) A (pyNext (.ref z)) Q E s := by
  have hT : s.TypeIs (.ref z) "zip" := ⟨_, hz, rfl⟩
  unfold pyNext
  refine wpAny_bind (wpAny_attempt (wpAny_callSpecial?_slot (name := Str.ofString "__next__") hT F.slot_zip_next
    (wpAny_call_entry F.slot_zip_next hT F.entry_zip_next (zm_end0 hh D hz hTI hTO h1 hl1 hend fun h' e hk he => ?_) (F.args_zip_next_1 _))))
  obtain ⟨o, ho, hc⟩ := he
  refine wpAny_bind (wpAny_isInstance (T := "StopIteration") (b := true) ⟨o, ho, hc⟩ isSubtype_stop ?_)
  exact wpAny_pure (hQ _ hk)
end
end Nm
set_option maxRecDepth 100000
set_option maxHeartbeats 4000000
/-! such a zip as a rule -/
namespace Nm
open PySem PySem.Spec PyProof.Rows L2 RZ
/-- the list at a and the tuple at b as they stand at each turn, the items in new pairs -/
def ItzM (K : PySem.W.Frag) (a b : Addr) : It :=
  ⟨fun i H => ∃ (xs ys : List V) (x y : V), SqL K H a xs ∧ SqT K H b ys ∧ xs[i]? = some x ∧ ys[i]? = some y,
    fun i H v H' => ∃ T x y, v = .ref T ∧ H T = none ∧ H' = upd H T (.tup [x, y]) ∧ (∀ xs, SqL K H a xs → xs[i]? = some x) ∧ ∀ ys, SqT K H b ys → ys[i]? = some y,
    fun i H => ∃ xs : List V, SqL K H a xs ∧ xs.length ≤ i⟩
theorem turn_zipM {P : Program} {w : World} {K : PySem.W.Frag} {elts : List Expr} {kk : Nat} {tpos : Pos} {a b z TI TO i1 i2 : Addr} (D : ZipApart z TI TO i1 i2 a b) :
    Turn P w K (.Tuple elts kk tpos) (ItzM K a b) [z, TI, TO, i1, i2] z (fun i h => IsZip h z TI TO .none ∧ IsPair h TI (.ref i1) (.ref i2) ∧ (∃ x y, IsPair h TO x y) ∧ h.IsListIter i1 a i ∧ h.IsTupleIter i2 b i) where
  mem := by simp
  obj := fun i h st c hc => by
    obtain ⟨hz, hTI, ⟨x, y, hTO⟩, ⟨o1, e1, _, d1⟩, ⟨o2, e2, _, d2⟩⟩ := st
    have e' : c = z ∨ c = TI ∨ c = TO ∨ c = i1 ∨ c = i2 := by simpa using hc
    rcases e' with q | q | q | q | q
    · rw [q]; exact ⟨_, hz, fun v q => nomatch q⟩
    · rw [q]; exact ⟨_, hTI, fun v q => nomatch q⟩
    · rw [q]; exact ⟨_, hTO, fun v q => nomatch q⟩
    · rw [q]; exact ⟨o1, e1, fun v q => by rw [d1] at q; cases q⟩
    · rw [q]; exact ⟨o2, e2, fun v q => by rw [d2] at q; cases q⟩
  keep := fun i h h' st k => by
    obtain ⟨hz, hTI, ⟨x, y, hTO⟩, h1, h2⟩ := st
    exact ⟨k z (by simp) _ hz, k TI (by simp) _ hTI, ⟨x, y, k TO (by simp) _ hTO⟩, h1.at fun o q => k i1 (by simp) o q, h2.at fun o q => k i2 (by simp) o q⟩
  item := by
    intro X hP hw hK hc i pins s σ H E I hf st hg
    subst hP hw hK
    obtain ⟨hz, hTI, ⟨x0, y0, hTO⟩, h1, h2⟩ := st
    obtain ⟨xs, ys, x, y, hqx, hqy, hx, hy⟩ := hg
    obtain ⟨its, rv, p, _⟩ := I.list hqx
    obtain ⟨its2, rv2, p2, _⟩ := I.tuple hqy
    obtain ⟨u, hu, ru⟩ := rv.get hx
    obtain ⟨u2, hu2, ru2⟩ := rv2.get hy
    have hzl : z < s.heap.objs.size := Heap.lt_size hz
    refine pyNext_zipM_item D hz hTI hTO h1 h2 p.isList p2 (x := u) (y := u2) (by simpa using hu) (by simpa using hu2) fun h' z' TO' h1' h2' hT hsz hk => ?_
    refine ⟨_, rfl, wpAny_letOwnedTupleGo_zip (s := { s with heap := h' }) z' fun h'' z'' sb => ?_⟩
    have hT2 : h''.get? s.heap.objs.size = some { cls := .type "tuple", data := .seq #[u, u2] } := (sb.2 _ (Nat.ne_of_gt hzl)).trans hT
    have new : ObjOk X.prog X.w (upd H s.heap.objs.size (.tup [x, y])) h'' s.heap.objs.size (.tup [x, y]) :=
      ⟨by show 2 ≤ sizeLine; decide, [u, u2], .cons ru (.cons ru2 .nil), ⟨_, hT2, rfl, _, rfl⟩⟩
    have I1 : Inv X pins σ (upd H s.heap.objs.size (.tup [x, y])) { s with heap := h'' } :=
      I.turnedNew (t' := s.toks) (ch := [z, TI, TO, i1, i2]) (fun c o hb q => (sb.2 c (fun q' => hb (by simp [q']))).trans (hk c o (fun q' => hb (by simp [q'])) (fun q' => hb (by simp [q'])) (fun q' => hb (by simp [q'])) (fun q' => hb (by simp [q'])) q)) hf (Nat.le_refl _) new
    refine ⟨.ref s.heap.objs.size, _, I1, rfl, ⟨_, x, y, rfl, I.hok.fresh (Nat.le_refl _), rfl, fun l hl => by rw [I.list_inj hl hqx]; exact hx, fun l hl => by rw [I.tuple_inj hl hqy]; exact hy⟩, ⟨z'', ?_, ⟨u, u2, ?_⟩, ?_, ?_⟩, fun c hcm => ?_⟩
    · exact (sb.2 _ D.TIz).trans (hk _ _ D.TIz D.TITO D.TIi1 D.TIi2 hTI)
    · exact (sb.2 _ D.TOz).trans TO'
    · exact h1'.at fun o q => (sb.2 _ D.i1z).trans q
    · exact h2'.at fun o q => (sb.2 _ D.i2z).trans q
    · have hlt : c < s.heap.objs.size := by
        have e' : c = z ∨ c = TI ∨ c = TO ∨ c = i1 ∨ c = i2 := by simpa using hcm
        rcases e' with q | q | q | q | q
        · rw [q]; exact hzl
        · rw [q]; exact Heap.lt_size hTI
        · rw [q]; exact Heap.lt_size hTO
        · rw [q]; obtain ⟨_, e1, _⟩ := h1; exact Heap.lt_size e1
        · rw [q]; obtain ⟨_, e2, _⟩ := h2; exact Heap.lt_size e2
      rw [upd_ne (Nat.ne_of_lt hlt)]
      exact (hf c hcm).1
  done := by
    intro X hP hw hK hc i pins s σ H E I hf st hg
    subst hP hw hK
    obtain ⟨hz, hTI, ⟨x0, y0, hTO⟩, h1, h2⟩ := st
    obtain ⟨xs, hqx, hend⟩ := hg
    obtain ⟨its, rv, p, _⟩ := I.list hqx
    have l1 := rv.length
    exact pyNext_zipM_end (I.ok.hd hc) D hz hTI hTO h1 p.isList (by simp; omega) fun h' hk => ⟨rfl, I.turnedL (t' := s.toks) (ch := [z, TI, TO, i1, i2]) (fun c o hb q =>
      hk c o (fun q' => hb (by simp [q'])) (fun q' => hb (by simp [q'])) (fun q' => hb (by simp [q'])) (fun q' => hb (by simp [q'])) q) hf⟩
  self := fun A i s Q E st h => wpAny_pyIter_zip st.1 h
def iZipM (K : PySem.W.Frag) (ta : TA) : TI := fun σ H R => ta σ H fun vs H1 => ∃ a b xs ys, vs = [.ref a, .ref b] ∧ SqL K H1 a xs ∧ SqT K H1 b ys ∧ R (ItzM K a b) H1
theorem pi_zipM {X : Cx} {e e2 : Expr} {ta : TA} {p pos tpos : Pos} {elts : List Expr} {kk : Nat} (hg : Gl X "zip") (hm : X.mg "zip" = none) (ha : PA X [e, e2] ta)
    (hs : starEach [e, e2] X.env = (false, eval e X.env) :: starEach [e2] X.env := by rfl) (hpl : (backTo pos (starEach [e2] X.env)).any (·.1) = false := by rfl) :
    PI X (.Tuple elts kk tpos) (.Call (.Name "zip" p) [e, e2] [] pos) (iZipM X.K ta) := by
  refine ⟨fun pins s σ H R I h => ?_⟩
  refine Call_ (ld_blt I hg hm PyProof.Rows.boot_zip (PyProof.Rows.callWith_type1 (thn (ha.run pos pins s σ H _ I h) fun us s1 ⟨vs, H1, I1, r1, q1⟩ => ?_) hs hpl))
  obtain ⟨a, b, xs, ys, ex, hqx, hqy, q⟩ := q1
  subst ex
  cases r1 with
  | cons r rr =>
    cases rr with
    | cons r' rr =>
      cases rr
      cases r
      cases r'
      have fresh5 : ∀ c, c ∈ [s1.heap.objs.size + 4, s1.heap.objs.size + 2, s1.heap.objs.size + 3, s1.heap.objs.size, s1.heap.objs.size + 1] → FpOk X pins H1 c := fun c hcm => by
        have e' : c = s1.heap.objs.size + 4 ∨ c = s1.heap.objs.size + 2 ∨ c = s1.heap.objs.size + 3 ∨ c = s1.heap.objs.size ∨ c = s1.heap.objs.size + 1 := by simpa using hcm
        have hle : s1.heap.objs.size ≤ c := by
          rcases e' with z | z | z | z | z
          · rw [z]; exact Nat.le_add_right _ _
          · rw [z]; exact Nat.le_add_right _ _
          · rw [z]; exact Nat.le_add_right _ _
          · rw [z]; exact Nat.le_refl _
          · rw [z]; exact Nat.le_add_right _ _
        exact I1.fpOk hle (I1.hok.fresh hle)
      obtain ⟨its, rv, p1, _⟩ := I1.list hqx
      obtain ⟨its2, rv2, p2, _⟩ := I1.tuple hqy
      obtain ⟨o2, ho2, _⟩ := id p2
      refine zm_call (ys := its2.toArray) p1.isList (.inr p2) fun h' hz hTI hTO h1 h2 hsz hk => wpAny_pyIter_zip hz ?_
      have I2 : Inv X pins σ H1 { s1 with heap := h' } := I1.kept (t' := s1.toks) hk
      have h2' : h'.IsTupleIter (s1.heap.objs.size + 1) b 0 := by
        rcases h2 with ⟨_, ⟨o, e, r⟩⟩ | ⟨q, _⟩
        · obtain ⟨o', e', r', _⟩ := id p2
          have := hk b o' e'
          rw [e] at this
          cases this
          rw [r.1] at r'
          simp at r'
        · exact q
      exact ⟨s1.heap.objs.size + 4, [s1.heap.objs.size + 4, s1.heap.objs.size + 2, s1.heap.objs.size + 3, s1.heap.objs.size, s1.heap.objs.size + 1], _, _, H1, rfl, I2, turn_zipM (PySem.W.ktu_apart s1.heap.objs.size a b p1.lt (Heap.lt_size ho2)), ⟨hz, hTI, ⟨_, _, hTO⟩, h1, h2'⟩, fresh5, q⟩
theorem walk_zipM {K : PySem.W.Frag} {a b : Addr} {xs ys : List V} (hn : xs.length ≤ ys.length) : Walk (ItzM K a b) xs.length (fun H => SqL K H a xs ∧ SqT K H b ys) (YPair (fun i => xs[i]?) (fun i => ys[i]?)) := by
  refine ⟨fun i _ hi q => ?_, fun _ q => ⟨xs, q.1, Nat.le_refl _⟩, fun i H v H' _ q y => ?_⟩
  · exact ⟨xs, ys, xs[i], ys[i]'(by omega), q.1, q.2, List.getElem?_eq_getElem hi, List.getElem?_eq_getElem (by omega)⟩
  · obtain ⟨T, x, y, h1, h2, h3, h4, h5⟩ := y
    exact ⟨T, x, y, h1, h2, h3, h4 xs q.1, h5 ys q.2⟩
/-- two tuples -/
theorem walk_zipT2 {K : PySem.W.Frag} {a b : Addr} {xs ys : List V} {n : Nat} (hn : n = min xs.length ys.length) : Walk (ItzT K a b) n (fun H => SqT K H a xs ∧ SqT K H b ys) (YPair (fun i => xs[i]?) (fun i => ys[i]?)) := by
  subst hn
  refine ⟨fun i _ hi q => ?_, fun _ q => ⟨xs, ys, q.1, q.2, by omega⟩, fun i H v H' _ q y => ?_⟩
  · have h1 : i < xs.length := by omega
    have h2 : i < ys.length := by omega
    exact ⟨xs, ys, xs[i], ys[i], q.1, q.2, List.getElem?_eq_getElem h1, List.getElem?_eq_getElem h2⟩
  · obtain ⟨T, x, y, h1, h2, h3, h4, h5⟩ := y
    exact ⟨T, x, y, h1, h2, h3, h4 xs q.1, h5 ys q.2⟩
end Nm
set_option maxRecDepth 100000
set_option maxHeartbeats 4000000
/-! _law_times, _law_turned_over, _law_drawn_table -/
namespace Nm
open PySem L2
def mulT (tb : List (List Int)) (c : Int) : List (List Int) := tb.map fun r => r.map fun x => x * c
section
variable {P : Program} {w : World} {K : PySem.W.Frag} {mg : Str → Option Value} {base : Heap}
def spTimes : Sp := fun vs H Q _ => ∃ (t : Addr) (tb : List (List Int)) (m : Nat) (c : Int), vs = [.ref t, .int c] ∧ TblAt H t tb ∧ TblOk tb m ∧ 0 ≤ c ∧ c ≤ 1000 ∧
  ∀ (p : Addr) (H' : Hp), TblAt H' p (mulT tb c) → Same H H' → Q (.ref p) H'
abbrev nTi : List Str := ["_law_weighed", "_law_number", "_law_row", "_law_entry"]
theorem scTi : FnScope nTi ["_law_weighed", "_law_number"] (defScope sTimes) := ⟨rfl, rfl, rfl, by decide +kernel, rfl, by decide +kernel, by decide +kernel⟩
abbrev coTi : Scope := { kind := .function, names := [(".0", .local), ("_law_row", .local), ("tuple", .globalImplicit), ("_law_number", .cell)], isGenerator := false, isCoroutine := false }
abbrev eTi (K : PySem.W.Frag) : TE := tLc (iTup K (tVar 2)) (gName 3) tYes (tOp (rI CMul fun i j => .int (i * j)) (tVar 3) (tVar 1)) [3]
theorem ok_times {f : Addr} {fd : FuncData} (F : Fun K "_law_times" "_law_times" sTimes f fd) (T : TxtR mg) : FnOk P w K mg base CX0 1 f fd ["_law_weighed", "_law_number"] spTimes := by
  refine F.ok scTi (fun vs H Q E h => ?_) (fun cdv A outer s H vs Q E hr h => ?_)
  · obtain ⟨_, _, _, _, rfl, _⟩ := h
    rfl
  obtain ⟨t, tb, m, c, rfl, ⟨ts, ht, htl, hts⟩, ok, c0, c1, k⟩ := h
  refine ⟨_, pss_one (ps_ret (pe_callTy call_tupL (by rfl) T.tuple (by decide +kernel) (pa_cons
      (pe_lc (own := [("_law_row", 2)]) (g := gName 2) (tt := tYes) (te := tCB (rTupL K) (tCons (eTi K) tNil)) rfl scTi.nd (pi_tup (pv 0)) (blkOk_by (N := nTi) (sc := defScope sTimes) (by decide +kernel))
        (fun _ _ _ _ _ => pg_name (i := 2) scTi.nd rfl (Or.inl rfl)) (fun _ _ _ _ _ => pts_nil)
        (fun _ _ _ _ _ => by
          refine pe_callTy call_tupL ?z (by exact T.tuple) (by decide +kernel) (pa_cons ?y pa_nil)
          case z => rfl
          case y =>
            refine pe_lc (own := [("_law_entry", 3)]) (g := gName 3) (tt := tYes) (te := tOp (rI CMul fun i j => .int (i * j)) (tVar 3) (tVar 1)) rfl scTi.nd ?a ?b ?c ?d ?e
            case a => exact pi_tup (pv 2)
            case b => exact (blkOk_by (N := nTi) (sc := coTi) (by decide +kernel))
            case c => intro _ _ _ _ _; exact pg_name (i := 3) scTi.nd rfl (.inl rfl)
            case d => intro _ _ _ _ _; exact pts_nil
            case e => intro _ _ _ _ _; exact pe_op op_mul (pv 3) (pv 1))) pa_nil))), ?_⟩
  have n8 := ok.n8
  have m8 := ok.m8
  have ml : (mulT tb c).length = tb.length := List.length_map _
  refine ⟨_, rfl, t, rfl, ⟨_, SqT.of ht⟩, fun D hD => ?_⟩
  refine lc_it (walk_tup (xs := ts.map V.ref)) (fun i H1 => ∃ as, RowsAt H1 D as ((mulT tb c).take i) ∧ Same H H1) ⟨[], RowsAt.nil, same_new hD⟩ (fun i H1 _ ⟨_, _, s⟩ => SqT.of (s _ _ ht)) ?_ ?_
  · rintro i x H2 H1 hi ⟨as, R, s1⟩ ⟨rfl, hx⟩
    rw [List.length_map] at hi
    rw [List.getElem?_map] at hx
    obtain ⟨a, ha, rfl⟩ := Option.map_eq_some_iff.mp hx
    obtain ⟨r, hr⟩ : ∃ r, tb[i]? = some r := ⟨_, List.getElem?_eq_getElem (by omega)⟩
    have hHa := hts i a r ha hr
    have hrm := ok.rm r (List.mem_of_getElem? hr)
    refine ⟨rfl, tyes ?_⟩
    refine ⟨_, rfl, a, rfl, ⟨_, SqT.of (s1 _ _ hHa)⟩, fun D2 hD2 => ?_⟩
    refine lc_it (walk_tup (xs := r.map V.int)) (fun j H3 => H3 D2 = some (.lst (((r.take j).map fun x => x * c).map V.int)) ∧ Same H1 H3) ⟨upd_same, same_new hD2⟩ (fun j H3 _ h => SqT.of (h.2 _ _ (s1 _ _ hHa))) ?_ ?_
    · rintro j y H4 H3 hj ⟨hD3, s3⟩ ⟨rfl, hy⟩
      rw [List.getElem?_map] at hy
      obtain ⟨z, hz, rfl⟩ := Option.map_eq_some_iff.mp hy
      refine ⟨rfl, tyes ?_⟩
      refine ⟨_, rfl, _, rfl, _, _, rfl, rfl, .inr ⟨by omega, by omega⟩, _, hD3, Evl.sz_lt (by rw [List.length_map, List.length_map, List.length_take]; omega), ?_, Same.off s3 hD2⟩
      rw [upd_same, List.take_add_one, hz, List.map_append, List.map_append]
      rfl
    · rintro H3 ⟨hD3, s3⟩
      rw [List.length_map, List.take_length] at hD3
      refine ⟨D2, _, rfl, SqL.of hD3, fun p hp => ?_⟩
      have s4 := s3.trans (same_new (o := .tup ((r.map fun x => x * c).map V.int)) hp)
      have R4 := (R.same s4)
      have hl : (as.map V.ref).length ≤ 8 := by rw [R.len, List.length_take]; omega
      exact ⟨_, R4.1, Evl.sz_lt (by omega), as ++ [p], R4.addI (by unfold mulT; rw [List.getElem?_map, hr]; rfl) upd_same, Same.off (s1.trans s4) hD⟩
  · rintro H1 ⟨as, R, s1⟩
    rw [List.length_map, htl, ← ml, List.take_length] at R
    refine ⟨D, _, rfl, SqL.of R.1, fun p hp => ?_⟩
    have s2 := same_new (o := .tup (as.map V.ref)) hp
    exact k p _ ((R.same s2).tbl upd_same) (s1.trans s2)
/-! ### _law_turned_over -/
abbrev nTo : List Str := ["_law_weighed", "_law_q", "_law_row"]
theorem scTo : FnScope nTo ["_law_weighed"] (defScope sTurnedLaw) := ⟨rfl, rfl, rfl, by decide +kernel, rfl, by decide +kernel, by decide +kernel⟩
abbrev coTo : Scope := { kind := .function, names := [(".0", .local), ("_law_q", .cell), ("tuple", .globalImplicit), ("_law_weighed", .cell)], isGenerator := false, isCoroutine := false }
abbrev eTo (K : PySem.W.Frag) : TE := tLc (iTup K (tVar 0)) (gName 2) tYes (tOp (rIxT K) (tVar 2) (tVar 1)) [2]
theorem ok_turnedL {f : Addr} {fd : FuncData} (F : Fun K "_law_turned_over" "_law_turned_over" sTurnedLaw f fd) (T : TxtR mg) : FnOk P w K mg base CX0 1 f fd ["_law_weighed"] spTurned := by
  refine F.ok scTo (fun vs H Q E h => ?_) (fun cdv A outer s H vs Q E hr h => ?_)
  · obtain ⟨_, _, _, rfl, _⟩ := h
    rfl
  obtain ⟨t, tb, m, rfl, ⟨ts, ht, htl, hts⟩, ok, k⟩ := h
  refine ⟨_, pss_one (ps_ret (pe_callTy call_tupL (by rfl) T.tuple (by decide +kernel) (pa_cons
      (pe_lc (own := [("_law_q", 1)]) (g := gName 1) (tt := tYes) (te := tCB (rTupL K) (tCons (eTo K) tNil)) rfl scTo.nd (pi_range1 (by rfl) T.range (pa_cons (pe_callB call_len_seq (by rfl) T.len PySem.boot_len (pa_cons (pe_ix ix_tup (pv 0) pe_int (fun _ _ => rfl)) pa_nil)) pa_nil)) (blkOk_by (N := nTo) (sc := defScope sTurnedLaw) (by decide +kernel))
        (fun _ _ _ _ _ => pg_name (i := 1) scTo.nd rfl (Or.inr rfl)) (fun _ _ _ _ _ => pts_nil)
        (fun _ _ _ _ _ => by
          refine pe_callTy call_tupL ?z (by exact T.tuple) (by decide +kernel) (pa_cons ?y pa_nil)
          case z => rfl
          case y =>
            refine pe_lc (own := [("_law_row", 2)]) (g := gName 2) (tt := tYes) (te := tOp (rIxT K) (tVar 2) (tVar 1)) rfl scTo.nd ?a ?b ?c ?d ?e
            case a => exact pi_tup (pv 0)
            case b => exact (blkOk_by (N := nTo) (sc := coTo) (by decide +kernel))
            case c => intro _ _ _ _ _; exact pg_name (i := 2) scTo.nd rfl (.inl rfl)
            case d => intro _ _ _ _ _; exact pts_nil
            case e => intro _ _ _ _ _; exact pe_ix ix_tup (pv 2) (pv 1) (fun _ _ => rfl))) pa_nil))), ?_⟩
  have n1 := ok.n1
  have n8 := ok.n8
  have m8 := ok.m8
  have rowH : ∀ (p : Nat), p < tb.length → ∃ (a : Addr) (r : List Int), ts[p]? = some a ∧ tb[p]? = some r ∧ r.length = m ∧ H a = some (.tup (r.map V.int)) := fun p hp => by
    obtain ⟨a, ha⟩ : ∃ a, ts[p]? = some a := ⟨_, List.getElem?_eq_getElem (by omega)⟩
    have hr := List.getElem?_eq_getElem hp
    exact ⟨a, _, ha, hr, ok.rm _ (List.mem_of_getElem? hr), hts p a _ ha hr⟩
  obtain ⟨a0, r0, ha0, hr0, hrm0, hH0⟩ := rowH 0 (by omega)
  have l0 : (r0.map V.int).length = m := by rw [List.length_map, hrm0]
  have tl : (turnT tb m).length = m := by unfold turnT; rw [List.length_map, List.length_range]
  refine ⟨_, rfl, t, _, _, V.ref a0, rfl, rfl, SqT.of ht, atI_nat (j := 0) (by rw [List.getElem?_map, ha0]; rfl), a0, _, rfl, .inr (SqT.of hH0), _, rfl, by rw [l0]; omega, by rw [l0]; omega, fun D hD => ?_⟩
  rw [l0]
  refine lc_range (lo := 0) (n := ((m : Nat) : Int).toNat) (fun q H1 => ∃ as, RowsAt H1 D as ((turnT tb m).take q) ∧ Same H H1) ⟨[], RowsAt.nil, same_new hD⟩ ?_ ?_
  · rintro q H1 hq ⟨as, R, s1⟩
    rw [Int.toNat_natCast] at hq
    rw [show (0 : Int) + ((q : Nat) : Int) = ((q : Nat) : Int) from Int.zero_add _]
    refine ⟨rfl, tyes ?_⟩
    refine ⟨_, rfl, t, rfl, ⟨_, SqT.of (s1 _ _ ht)⟩, fun D2 hD2 => ?_⟩
    refine lc_it (walk_tup (xs := ts.map V.ref)) (fun j H3 => H3 D2 = some (.lst (((tb.take j).map fun r => r.getD q 0).map V.int)) ∧ Same H1 H3) ⟨upd_same, same_new hD2⟩ (fun j H3 _ h => SqT.of (h.2 _ _ (s1 _ _ ht))) ?_ ?_
    · rintro j y H4 H3 hj ⟨hD3, s3⟩ ⟨rfl, hy⟩
      rw [List.length_map] at hj
      rw [List.getElem?_map] at hy
      obtain ⟨a, ha, rfl⟩ := Option.map_eq_some_iff.mp hy
      obtain ⟨r, hr⟩ : ∃ r, tb[j]? = some r := ⟨_, List.getElem?_eq_getElem (by omega)⟩
      have hHa := hts j a r ha hr
      have hrm := ok.rm r (List.mem_of_getElem? hr)
      have hrq : r[q]? = some (r.getD q 0) := by
        rw [List.getD_eq_getElem?_getD, List.getElem?_eq_getElem (by omega)]
        rfl
      refine ⟨rfl, tyes ?_⟩
      refine ⟨_, rfl, _, rfl, a, _, _, V.int (r.getD q 0), rfl, rfl, SqT.of (s3 _ _ (s1 _ _ hHa)), atI_nat (by rw [List.getElem?_map, hrq]; rfl), _, hD3, Evl.sz_lt (by rw [List.length_map, List.length_map, List.length_take]; omega), ?_, Same.off s3 hD2⟩
      rw [upd_same, List.take_add_one, hr, List.map_append, List.map_append]
      rfl
    · rintro H3 ⟨hD3, s3⟩
      rw [List.length_map, htl, List.take_length] at hD3
      refine ⟨D2, _, rfl, SqL.of hD3, fun p hp => ?_⟩
      have s4 := s3.trans (same_new (o := .tup ((tb.map fun r => r.getD q 0).map V.int)) hp)
      have R4 := R.same s4
      have hl : (as.map V.ref).length ≤ 8 := by rw [R.len, List.length_take]; omega
      exact ⟨_, R4.1, Evl.sz_lt (by omega), as ++ [p], R4.addI (by unfold turnT; rw [List.getElem?_map, List.getElem?_range hq]; rfl) upd_same, Same.off (s1.trans s4) hD⟩
  · rintro H1 ⟨as, R, s1⟩
    rw [Int.toNat_natCast, List.take_of_length_le (by omega)] at R
    refine ⟨D, _, rfl, SqL.of R.1, fun p hp => ?_⟩
    have s2 := same_new (o := .tup (as.map V.ref)) hp
    exact k p _ (s1.free hp) ((R.same s2).tbl upd_same) (s1.trans s2)
end
end Nm
set_option maxRecDepth 100000
set_option maxHeartbeats 4000000
/-! _law_drawn_table, lessened, _law_sum -/
namespace Nm
open PySem L2
structure TxtM1 (mg : Str → Option Value) : Prop extends TxtR mg where
  gcd : mg "gcd" = some (.builtin "math.gcd")
section
variable {P : Program} {w : World} {K : PySem.W.Frag} {mg : Str → Option Value} {base : Heap}
def spDr : Sp := fun vs H Q _ => ∃ (s c l1 l2 : Addr) (a b : List Nat), vs = [.ref s, .ref l1, .ref l2] ∧ Src H s c ∧ H l1 = some (.lst (natV a)) ∧ H l2 = some (.lst (natV b)) ∧ 1 ≤ a.length ∧ a.length ≤ 8 ∧ b.length ≤ 8 ∧
  ∀ (p : Addr) (n : Nat) (H' : Hp), 1 ≤ n → n ≤ 4 → TblAt H' p (mulT (bbT a b) (n : Int)) → Src H' s c → Kp s c H H' → Q (.ref p) H'
abbrev nDr : List Str := ["_law_source", "_law_one", "_law_other"]
theorem scDr : FnScope nDr ["_law_source", "_law_one", "_law_other"] (defScope sDrawnTable) := ⟨rfl, rfl, rfl, by decide +kernel, rfl, by decide +kernel, by decide +kernel⟩
theorem bb_ok {a b : List Nat} (a1 : 1 ≤ a.length) (a8 : a.length ≤ 8) (b8 : b.length ≤ 8) : TblOk (bbT a b) b.length := by
  refine ⟨fun r hr => ?_, ?_, ?_, b8⟩
  · obtain ⟨p, _, rfl⟩ := List.mem_map.mp hr
    rw [List.length_map]
  · unfold bbT
    rw [List.length_map]
    exact a1
  · unfold bbT
    rw [List.length_map]
    exact a8
theorem ok_drawn {f : Addr} {fd : FuncData} (F : Fun K "_law_drawn_table" "_law_drawn_table" sDrawnTable f fd) (Gy : Def P w K mg base "_law_by_base" ["_law_one", "_law_other"] 1 spBB) (Gp : Def P w K mg base "_law_pick" ["_law_source", "_law_many"] 1 spPick)
    (Gt : Def P w K mg base "_law_times" ["_law_weighed", "_law_number"] 1 spTimes) : FnOk P w K mg base CX0 2 f fd ["_law_source", "_law_one", "_law_other"] spDr := by
  obtain ⟨fy, fdy, Gy, my, ky, bY⟩ := Gy.ex
  obtain ⟨fp, fdp, Gp, mp, kp, bp⟩ := Gp.ex
  obtain ⟨ft, fdt, Gt, mt, kt, bt⟩ := Gt.ex
  refine F.ok scDr (fun vs H Q E h => ?_) (fun cdv A outer s H vs Q E hr h => ?_)
  · obtain ⟨_, _, _, _, _, _, rfl, _⟩ := h
    rfl
  obtain ⟨sa, ca, l1, l2, a, b, rfl, S, h1, h2, a1, a8, b8, k⟩ := h
  refine ⟨_, pss_one (ps_ret (pe_call Gt hr (by rfl) mt kt bt .nil pass0 (pa_cons (pe_call Gy hr (by rfl) my ky bY .nil pass0 (pa_cons (pv 1) (pa_cons (pv 2) pa_nil))) (pa_cons (pe_op op_add pe_int (pe_call Gp hr (by rfl) mp kp bp .nil pass0 (pa_cons (pv 0) (pa_cons pe_int pa_nil)))) pa_nil)))), ?_⟩
  refine ⟨_, rfl, _, rfl, l1, l2, a, b, rfl, h1, h2, a8, b8, fun p H1 tb1 s1 => ?_⟩
  have S1 := S.same s1
  refine ⟨_, rfl, sa, ca, 4, rfl, S1, by decide, by decide, fun kk H2 k0 k1 S2 kp2 => ⟨_, _, rfl, rfl, ?_⟩⟩
  refine ⟨p, bbT a b, b.length, ((1 + kk).toNat : Nat), by rw [Int.toNat_of_nonneg (by omega)]; rfl, ?_, bb_ok a1 a8 b8, by omega, by omega, fun p2 H3 tb3 s3 => k p2 (1 + kk).toNat H3 (by omega) (by omega) tb3 (S2.same s3) ((Kp.same s1).trans (kp2.trans (Kp.same s3)))⟩
  refine tb1.ext fun x xs e => ?_
  obtain ⟨cs, l, m, tt, S1⟩ := S1
  exact kp2 _ _ e (ne_of e S1.ds (by intro z; cases z)) (ne_of e S1.dc (by intro z; cases z))
/-! ### lessened -/
def gcdL (l : List Int) (g : Nat) : Nat := l.foldl (fun g x => Nat.gcd g x.natAbs) g
def gcdT (tb : List (List Int)) (g : Nat) : Nat := tb.foldl (fun g r => gcdL r g) g
def lessT (tb : List (List Int)) : List (List Int) := tb.map fun r => r.map fun x : Int => x / ((gcdT tb 0 : Nat) : Int)
def spLess : Sp := fun vs H Q _ => ∃ (t : Addr) (tb : List (List Int)) (m : Nat), vs = [.ref t] ∧ TblAt H t tb ∧ TblOk tb m ∧ 1 ≤ gcdT tb 0 ∧ gcdT tb 0 ≤ 1000 ∧
  ∀ (p : Addr) (H' : Hp), TblAt H' p (lessT tb) → Same H H' → Q (.ref p) H'
abbrev nLe : List Str := ["table", "common", "row", "entry"]
theorem scLe : FnScope nLe ["table"] (defScope sLessened) := ⟨rfl, rfl, rfl, by decide +kernel, rfl, by decide +kernel, by decide +kernel⟩
abbrev coLe : Scope := { kind := .function, names := [(".0", .local), ("row", .local), ("tuple", .globalImplicit), ("common", .cell)], isGenerator := false, isCoroutine := false }
abbrev eLe (K : PySem.W.Frag) : TE := tLc (iTup K (tVar 2)) (gName 3) tYes (tOp (rI CDiv fun i j => .int (i / j)) (tVar 3) (tVar 1)) [3]
theorem ok_less {f : Addr} {fd : FuncData} (F : Fun K "lessened" "lessened" sLessened f fd) (T : TxtM1 mg) : FnOk P w K mg base CX0 1 f fd ["table"] spLess := by
  refine F.ok scLe (fun vs H Q E h => ?_) (fun cdv A outer s H vs Q E hr h => ?_)
  · obtain ⟨_, _, _, rfl, _⟩ := h
    rfl
  obtain ⟨t, tb, m, rfl, ⟨ts, ht, htl, hts⟩, ok, g1, g1000, k⟩ := h
  refine ⟨_, pss_cons (ps_set (i := 1) scLe.nd rfl (Or.inr rfl) pe_int)
    (Evl.pss_cut (ps_for PassesOwn.never rfl (pi_tup (pv 0)) (pg_name (i := 2) scLe.nd rfl (Or.inl rfl))
      (pss_one (ps_for PassesOwn.never rfl (pi_tup (pv 2)) (pg_name (i := 3) scLe.nd rfl (Or.inl rfl))
        (pss_one (ps_set (i := 1) scLe.nd rfl (Or.inr rfl) (pe_callBfun cr_gcd (by rfl) T.gcd (pa_cons (pv 1) (pa_cons (pv 3) pa_nil))))))))
    (pss_one (ps_ret (pe_callTy call_tupL (by rfl) T.tuple (by decide +kernel) (pa_cons
      (pe_lc (own := [("row", 2)]) (g := gName 2) (tt := tYes) (te := tCB (rTupL K) (tCons (eLe K) tNil)) rfl scLe.nd (pi_tup (pv 0)) (blkOk_by (N := nLe) (sc := defScope sLessened) (by decide +kernel))
        (fun _ _ _ _ _ => pg_name (i := 2) scLe.nd rfl (Or.inl rfl)) (fun _ _ _ _ _ => pts_nil)
        (fun _ _ _ _ _ => by
          refine pe_callTy call_tupL ?z (by exact T.tuple) (by decide +kernel) (pa_cons ?y pa_nil)
          case z => rfl
          case y =>
            refine pe_lc (own := [("entry", 3)]) (g := gName 3) (tt := tYes) (te := tOp (rI CDiv fun i j => .int (i / j)) (tVar 3) (tVar 1)) rfl scLe.nd ?a ?b ?c ?d ?e
            case a => exact pi_tup (pv 2)
            case b => exact (blkOk_by (N := nLe) (sc := coLe) (by decide +kernel))
            case c => intro _ _ _ _ _; exact pg_name (i := 3) scLe.nd rfl (.inl rfl)
            case d => intro _ _ _ _ _; exact pts_nil
            case e => intro _ _ _ _ _; exact pe_op op_fdiv (pv 3) (pv 1))) pa_nil))))), ?_⟩
  have n8 := ok.n8
  have m8 := ok.m8
  refine ⟨fun σ H1 => ∃ v2 v3, σ = [some (.ref t), some (.int ((gcdT tb 0 : Nat) : Int)), v2, v3] ∧ H1 = H, ?_, ?_⟩
  · refine ⟨_, rfl, t, rfl, ⟨_, SqT.of ht⟩, ?_⟩
    refine for_it (walk_tup (xs := ts.map V.ref)) (fun i σ H1 => ∃ v2 v3, σ = [some (.ref t), some (.int ((gcdT (tb.take i) 0 : Nat) : Int)), v2, v3] ∧ H1 = H) ⟨none, none, rfl, rfl⟩ (fun i σ H1 _ ⟨_, _, _, e⟩ => by rw [e]; exact SqT.of ht) ?_ ?_
    · rintro i x σ H2 H1 hi ⟨v2, v3, rfl, e1⟩ ⟨e2, hx⟩
      subst e2
      rw [List.length_map] at hi
      rw [List.getElem?_map] at hx
      obtain ⟨a, ha, rfl⟩ := Option.map_eq_some_iff.mp hx
      obtain ⟨r, hr⟩ : ∃ r, tb[i]? = some r := ⟨_, List.getElem?_eq_getElem (by omega)⟩
      have hHa := hts i a r ha hr
      refine ⟨_, rfl, a, rfl, ⟨_, by rw [e1]; exact SqT.of hHa⟩, ?_⟩
      refine for_it (walk_tup (xs := r.map V.int)) (fun j σ H3 => ∃ v3, σ = [some (.ref t), some (.int ((gcdL (r.take j) (gcdT (tb.take i) 0) : Nat) : Int)), some (.ref a), v3] ∧ H3 = H) ⟨v3, rfl, e1⟩ (fun j σ H3 _ ⟨_, _, e⟩ => by rw [e]; exact SqT.of hHa) ?_ ?_
      · rintro j y σ H4 H3 hj ⟨v3, rfl, e3⟩ ⟨e4, hy⟩
        subst e4
        rw [List.getElem?_map] at hy
        obtain ⟨z, hz, rfl⟩ := Option.map_eq_some_iff.mp hy
        refine ⟨_, rfl, _, rfl, _, _, rfl, some (.int z), ?_, e3⟩
        have e5 : gcdL (r.take (j + 1)) (gcdT (tb.take i) 0) = Nat.gcd (gcdL (r.take j) (gcdT (tb.take i) 0)) z.natAbs := by
          unfold gcdL
          rw [List.take_add_one, hz, List.foldl_append]
          rfl
        rw [e5]
        rfl
      · rintro σ H3 ⟨v3, rfl, e3⟩
        rw [List.length_map, List.take_length]
        refine ⟨some (.ref a), v3, ?_, e3⟩
        have e5 : gcdT (tb.take (i + 1)) 0 = gcdL r (gcdT (tb.take i) 0) := by
          unfold gcdT
          rw [List.take_add_one, hr, List.foldl_append]
          rfl
        rw [e5]
    · rintro σ H1 ⟨v2, v3, rfl, e1⟩
      rw [List.length_map, htl, List.take_length]
      exact ⟨v2, v3, rfl, e1⟩
  rintro σ H1 ⟨v2, v3, rfl, e1⟩
  subst e1
  have ml : (lessT tb).length = tb.length := List.length_map _
  refine ⟨_, rfl, t, rfl, ⟨_, SqT.of ht⟩, fun D hD => ?_⟩
  refine lc_it (walk_tup (xs := ts.map V.ref)) (fun i H2 => ∃ as, RowsAt H2 D as ((lessT tb).take i) ∧ Same H1 H2) ⟨[], RowsAt.nil, same_new hD⟩ (fun i H2 _ ⟨_, _, s⟩ => SqT.of (s _ _ ht)) ?_ ?_
  · rintro i x H3 H2 hi ⟨as, R, s1⟩ ⟨rfl, hx⟩
    rw [List.length_map] at hi
    rw [List.getElem?_map] at hx
    obtain ⟨a, ha, rfl⟩ := Option.map_eq_some_iff.mp hx
    obtain ⟨r, hr⟩ : ∃ r, tb[i]? = some r := ⟨_, List.getElem?_eq_getElem (by omega)⟩
    have hHa := hts i a r ha hr
    have hrm := ok.rm r (List.mem_of_getElem? hr)
    refine ⟨rfl, tyes ?_⟩
    refine ⟨_, rfl, a, rfl, ⟨_, SqT.of (s1 _ _ hHa)⟩, fun D2 hD2 => ?_⟩
    refine lc_it (walk_tup (xs := r.map V.int)) (fun j H4 => H4 D2 = some (.lst (((r.take j).map fun x : Int => x / ((gcdT tb 0 : Nat) : Int)).map V.int)) ∧ Same H2 H4) ⟨upd_same, same_new hD2⟩ (fun j H4 _ h => SqT.of (h.2 _ _ (s1 _ _ hHa))) ?_ ?_
    · rintro j y H5 H4 hj ⟨hD4, s4⟩ ⟨rfl, hy⟩
      rw [List.getElem?_map] at hy
      obtain ⟨z, hz, rfl⟩ := Option.map_eq_some_iff.mp hy
      refine ⟨rfl, tyes ?_⟩
      refine ⟨_, rfl, _, rfl, _, _, rfl, rfl, ⟨by omega, by omega⟩, _, hD4, Evl.sz_lt (by rw [List.length_map, List.length_map, List.length_take]; omega), ?_, Same.off s4 hD2⟩
      rw [upd_same, List.take_add_one, hz, List.map_append, List.map_append]
      rfl
    · rintro H4 ⟨hD4, s4⟩
      rw [List.length_map, List.take_length] at hD4
      refine ⟨D2, _, rfl, SqL.of hD4, fun p hp => ?_⟩
      have s5 := s4.trans (same_new (o := .tup ((r.map fun x : Int => x / ((gcdT tb 0 : Nat) : Int)).map V.int)) hp)
      have R4 := (R.same s5)
      have hl : (as.map V.ref).length ≤ 8 := by rw [R.len, List.length_take]; omega
      exact ⟨_, R4.1, Evl.sz_lt (by omega), as ++ [p], R4.addI (by unfold lessT; rw [List.getElem?_map, hr]; rfl) upd_same, Same.off (s1.trans s5) hD⟩
  · rintro H2 ⟨as, R, s1⟩
    rw [List.length_map, List.take_of_length_le (by omega)] at R
    refine ⟨D, _, rfl, SqL.of R.1, fun p hp => ?_⟩
    have s2 := same_new (o := .tup (as.map V.ref)) hp
    exact k p _ ((R.same s2).tbl upd_same) (s1.trans s2)
end
end Nm
set_option maxRecDepth 100000
set_option maxHeartbeats 4000000
/-! _law_sum; what added_weights gives -/
namespace Nm
open PySem L2
def sumR (r s : List Int) : List Int := List.zipWith (fun x y => x + y) r s
def sumT (t1 t2 : List (List Int)) : List (List Int) := List.zipWith sumR t1 t2
theorem sumR_at {r s : List Int} {j : Nat} {x y : Int} (h1 : r[j]? = some x) (h2 : s[j]? = some y) : (sumR r s)[j]? = some (x + y) := by
  unfold sumR
  rw [List.getElem?_zipWith, h1, h2]
theorem sumT_at {t1 t2 : List (List Int)} {j : Nat} {x y : List Int} (h1 : t1[j]? = some x) (h2 : t2[j]? = some y) : (sumT t1 t2)[j]? = some (sumR x y) := by
  unfold sumT
  rw [List.getElem?_zipWith, h1, h2]
section
variable {P : Program} {w : World} {K : PySem.W.Frag} {mg : Str → Option Value} {base : Heap}
abbrev gTwo (i j : Nat) : TGs := gCons (gName i) (gCons (gName j) gNil)
abbrev rowSum (K : PySem.W.Frag) (r o x y : Nat) : TE := tLc (RZ.iZipA K (tCons (tVar r) (tCons (tVar o) tNil))) (gTup K 2 (gTwo x y)) tYes (tOp (rI0 fun i j => .int (i + j)) (tVar x) (tVar y)) [x, y]
theorem tCB1 {r : List V → Hp → VK → Prop} {te : TE} {σ : L2.St} {H : Hp} {Q : VK} (h : te σ H fun v H1 => r [v] H1 Q) : tCB r (tCons te tNil) σ H Q := h
/-- the sum of two rows, in slots 2 and 3, with 4 and 5 for the items -/
theorem rowSum_ok {v0 v1 : Option V} {a b : Addr} {r s : List Int} {H : Hp} {Q : VK} (ha : H a = some (.tup (r.map V.int))) (hb : H b = some (.tup (s.map V.int))) (hl : r.length = s.length) (h8 : r.length ≤ 8)
    (hQ : ∀ (D : Addr) (H2 : Hp), H D = none → H2 D = some (.lst ((sumR r s).map V.int)) → Same H H2 → Q (.ref D) H2) :
    rowSum K 2 3 4 5 [v0, v1, some (.ref a), some (.ref b), none, none] H Q := by
  refine ⟨_, rfl, _, rfl, a, b, _, _, rfl, .inr ⟨SqT.of ha, SqT.of hb, fun D hD => ?_⟩⟩
  have zl : (sumR r s).length = r.length := by
    unfold sumR
    rw [List.length_zipWith, ← hl, Nat.min_self]
  refine lc_it (walk_zipT2 (xs := r.map V.int) (ys := s.map V.int) (n := r.length) (by rw [List.length_map, List.length_map, ← hl, Nat.min_self])) (fun j H2 => H2 D = some (.lst (((sumR r s).take j).map V.int)) ∧ Same H H2) ⟨upd_same, same_new hD⟩ (fun j H2 _ h => ⟨SqT.of (h.2 _ _ ha), SqT.of (h.2 _ _ hb)⟩) ?_ ?_
  · rintro j x H2 H3 hj ⟨hD2, s2⟩ ⟨T', x1, y1, rfl, hT, rfl, e1, e2⟩
    have e1 : (r.map V.int)[j]? = some x1 := e1
    have e2 : (s.map V.int)[j]? = some y1 := e2
    rw [List.getElem?_map] at e1 e2
    obtain ⟨x0, hx0, rfl⟩ := Option.map_eq_some_iff.mp e1
    obtain ⟨y0, hy0, rfl⟩ := Option.map_eq_some_iff.mp e2
    have hDT : D ≠ T' := ne_of_none hD2 hT
    have s3 : Same H (upd H2 T' (.tup [V.int x0, V.int y0])) := s2.trans (same_new hT)
    have hD3 : (upd H2 T' (.tup [V.int x0, V.int y0])) D = some (.lst (((sumR r s).take j).map V.int)) := by
      rw [upd_ne hDT]
      exact hD2
    refine ⟨T', _, rfl, SqT.of upd_same, rfl, _, _, rfl, _, _, rfl, rfl, ?_⟩
    generalize upd H2 T' (.tup [V.int x0, V.int y0]) = H4 at *
    refine ⟨rfl, tyes ?_⟩
    refine ⟨_, rfl, _, rfl, _, _, rfl, rfl, _, hD3, Evl.sz_lt (by rw [List.length_map, List.length_take]; omega), ?_, Same.off s3 hD⟩
    rw [upd_same, List.take_add_one, sumR_at hx0 hy0, List.map_append]
    rfl
  · rintro H2 ⟨hD2, s2⟩
    rw [← zl, List.take_length] at hD2
    exact hQ D H2 hD hD2 s2
def spSum : Sp := fun vs H Q _ => ∃ (p1 p2 : Addr) (t1 t2 : List (List Int)) (m : Nat), vs = [.ref p1, .ref p2] ∧ TblAt H p1 t1 ∧ TblAt H p2 t2 ∧ TblOk t1 m ∧ TblOk t2 m ∧ t1.length = t2.length ∧
  ∀ (p : Addr) (H' : Hp), TblAt H' p (sumT t1 t2) → Same H H' → Q (.ref p) H'
abbrev nSu : List Str := ["_law_first", "_law_last", "_law_row", "_law_other", "_law_a", "_law_b"]
theorem scSu : FnScope nSu ["_law_first", "_law_last"] (defScope sSum) := ⟨rfl, rfl, rfl, by decide +kernel, rfl, by decide +kernel, by decide +kernel⟩
abbrev coSu : Scope := { kind := .function, names := [(".0", .local), ("_law_row", .local), ("_law_other", .local), ("tuple", .globalImplicit), ("zip", .globalImplicit)], isGenerator := false, isCoroutine := false }
/-- the whole sum of tables -/
theorem tabSum_ok {p1 p2 : Addr} {t1 t2 : List (List Int)} {m : Nat} {H : Hp} {Q : VK} (h1 : TblAt H p1 t1) (h2 : TblAt H p2 t2) (ok1 : TblOk t1 m) (ok2 : TblOk t2 m) (hl : t1.length = t2.length)
    (hQ : ∀ (p : Addr) (H' : Hp), TblAt H' p (sumT t1 t2) → Same H H' → Q (.ref p) H') :
    tCB (rTupL K) (tCons (tLc (RZ.iZipA K (tCons (tVar 0) (tCons (tVar 1) tNil))) (gTup K 2 (gTwo 2 3)) tYes (tCB (rTupL K) (tCons (rowSum K 2 3 4 5) tNil)) [2, 3]) tNil) [some (.ref p1), some (.ref p2), none, none, none, none] H Q := by
  obtain ⟨as1, hp1, hl1, hs1⟩ := h1
  obtain ⟨as2, hp2, hl2, hs2⟩ := h2
  have n8 := ok1.n8
  have m8 := ok1.m8
  have zl : (sumT t1 t2).length = t1.length := by
    unfold sumT
    rw [List.length_zipWith, ← hl, Nat.min_self]
  refine ⟨_, rfl, _, rfl, p1, p2, _, _, rfl, .inr ⟨SqT.of hp1, SqT.of hp2, fun D hD => ?_⟩⟩
  refine lc_it (walk_zipT2 (xs := as1.map V.ref) (ys := as2.map V.ref) (n := t1.length) (by rw [List.length_map, List.length_map]; omega)) (fun i H1 => ∃ as, RowsAt H1 D as ((sumT t1 t2).take i) ∧ Same H H1) ⟨[], RowsAt.nil, same_new hD⟩ (fun i H1 _ ⟨_, _, s⟩ => ⟨SqT.of (s _ _ hp1), SqT.of (s _ _ hp2)⟩) ?_ ?_
  · rintro i x H1 H2 hi ⟨as, R, s1⟩ ⟨T', x1, y1, rfl, hT, rfl, e1, e2⟩
    have e1 : (as1.map V.ref)[i]? = some x1 := e1
    have e2 : (as2.map V.ref)[i]? = some y1 := e2
    rw [List.getElem?_map] at e1 e2
    obtain ⟨a, ha, rfl⟩ := Option.map_eq_some_iff.mp e1
    obtain ⟨b, hb, rfl⟩ := Option.map_eq_some_iff.mp e2
    obtain ⟨r, hr⟩ : ∃ r, t1[i]? = some r := ⟨_, List.getElem?_eq_getElem (by omega)⟩
    obtain ⟨r2, hr2⟩ : ∃ r, t2[i]? = some r := ⟨_, List.getElem?_eq_getElem (by omega)⟩
    have sT : Same H1 (upd H1 T' (.tup [V.ref a, V.ref b])) := same_new hT
    refine ⟨T', _, rfl, SqT.of upd_same, rfl, _, _, rfl, _, _, rfl, rfl, ?_⟩
    have R2 := R.same sT
    have s2 := s1.trans sT
    generalize upd H1 T' (.tup [V.ref a, V.ref b]) = H2 at *
    refine ⟨rfl, tyes ?_⟩
    have l1 := ok1.rm r (List.mem_of_getElem? hr)
    have l2 := ok2.rm r2 (List.mem_of_getElem? hr2)
    refine tCB1 ?_
    refine rowSum_ok (s2 _ _ (hs1 i a r ha hr)) (s2 _ _ (hs2 i b r2 hb hr2)) (by omega) (by omega) fun D2 H3 hD2 hD3 s3 => ?_
    refine ⟨D2, _, rfl, SqL.of hD3, fun p hp => ?_⟩
    have s4 := s3.trans (same_new (o := .tup ((sumR r r2).map V.int)) hp)
    have R4 := R2.same s4
    have hlen : (as.map V.ref).length ≤ 8 := by rw [R.len, List.length_take]; omega
    exact ⟨_, R4.1, Evl.sz_lt (by omega), as ++ [p], R4.addI (sumT_at hr hr2) upd_same, Same.off (s2.trans s4) hD⟩
  · rintro H1 ⟨as, R, s1⟩
    rw [← zl, List.take_length] at R
    refine ⟨D, _, rfl, SqL.of R.1, fun p hp => ?_⟩
    have s2 := same_new (o := .tup (as.map V.ref)) hp
    exact hQ p _ ((R.same s2).tbl upd_same) (s1.trans s2)
theorem ok_sum {f : Addr} {fd : FuncData} (F : Fun K "_law_sum" "_law_sum" sSum f fd) (T : TxtR mg) : FnOk P w K mg base CX0 1 f fd ["_law_first", "_law_last"] spSum := by
  refine F.ok scSu (fun vs H Q E h => ?_) (fun cdv A outer s H vs Q E hr h => ?_)
  · obtain ⟨_, _, _, _, _, rfl, _⟩ := h
    rfl
  obtain ⟨p1, p2, t1, t2, m, rfl, h1, h2, ok1, ok2, hl, k⟩ := h
  refine ⟨_, pss_one (ps_ret (pe_callTy call_tupL (by rfl) T.tuple (by decide +kernel) (pa_cons
      (pe_lc (own := [("_law_row", 2), ("_law_other", 3)]) (g := gTup K 2 (gTwo 2 3)) (tt := tYes) (te := tCB (rTupL K) (tCons (rowSum K 2 3 4 5) tNil)) rfl scSu.nd (RZ.pi_zipA (by rfl) T.zip (pa_cons (pv 0) (pa_cons (pv 1) pa_nil))) (blkOk_by (N := nSu) (sc := defScope sSum) (by decide +kernel))
        (fun _ _ _ _ _ => pg_tup rfl (pgs_cons (pg_name (i := 2) scSu.nd rfl (.inl rfl)) (pgs_cons (pg_name (i := 3) scSu.nd rfl (.inl rfl)) pgs_nil))) (fun _ _ _ _ _ => pts_nil)
        (fun _ _ _ _ _ => by
          refine pe_callTy call_tupL ?z (by exact T.tuple) (by decide +kernel) (pa_cons ?y pa_nil)
          case z => rfl
          case y =>
            refine pe_lc (own := [("_law_a", 4), ("_law_b", 5)]) (g := gTup K 2 (gTwo 4 5)) (tt := tYes) (te := tOp (rI0 fun i j => .int (i + j)) (tVar 4) (tVar 5)) rfl scSu.nd ?a ?b ?c ?d ?e
            case a => exact RZ.pi_zipA (by rfl) T.zip (pa_cons (pv 2) (pa_cons (pv 3) pa_nil))
            case b => exact (blkOk_by (N := nSu) (sc := coSu) (by decide +kernel))
            case c => intro _ _ _ _ _; exact pg_tup rfl (pgs_cons (pg_name (i := 4) scSu.nd rfl (.inl rfl)) (pgs_cons (pg_name (i := 5) scSu.nd rfl (.inl rfl)) pgs_nil))
            case d => intro _ _ _ _ _; exact pts_nil
            case e => intro _ _ _ _ _; exact pe_op op_add (pv 4) (pv 5))) pa_nil))), ?_⟩
  exact tabSum_ok h1 h2 ok1 ok2 hl k
end
end Nm
set_option maxRecDepth 100000
set_option maxHeartbeats 4000000
/-! != of two dicts of lists of texts, the same ones; repr of a bool -/
namespace Nm
open PySem PySem.Spec PyProof.Rows L2
section
variable {X : Cx} {pins : List (Addr × Obj)} {σ : L2.St} {H : Hp} {s : Shared}
theorem strs_hit {A : Around} : ∀ {zs : List Str} {us ws : List Value}, Vals (zs.map V.str) us → Vals (zs.map V.str) ws → us.length = ws.length ∧ ∀ j (h1 : j < us.length) (h2 : j < ws.length), SeqAt.EqAt A s us[j] ws[j] true
  | [], _, _, .nil, .nil => ⟨rfl, fun j h1 => absurd h1 (Nat.not_lt_zero j)⟩
  | z :: zs, _, _, .cons r t, .cons r' t' => by
    obtain ⟨e, k⟩ := strs_hit t t'
    refine ⟨by simp [e], fun j h1 h2 => ?_⟩
    cases j with
    | zero => exact eqAt_same r r' rfl
    | succ j => exact k j (Nat.lt_of_succ_lt_succ h1) (Nat.lt_of_succ_lt_succ h2)
/-- two lists of the same texts -/
theorem lists_hit (I : Inv X pins σ H s) {A : Around} (hu : A.units < cLine) {u v : Addr} {zs : List Str} (hu' : H u = some (.lst (zs.map V.str))) (hv : H v = some (.lst (zs.map V.str))) : SeqAt.EqAt A s (.ref u) (.ref v) true := by
  by_cases e : u = v
  · subst e
    exact SeqAt.EqAt.same _
  obtain ⟨us, r1, p1, _⟩ := I.list (SqL.of hu')
  obtain ⟨ws, r2, p2, _⟩ := I.list (SqL.of hv)
  obtain ⟨sz, items⟩ := strs_hit (s := s) (A := A.in1) r1 r2
  have z := SeqAt.RcAt.lists (A := A) (e := fun _ => true) p1.isList p2.isList (by simpa using sz) hu fun j h1 h2 => by simpa using items j (by simpa using h1) (by simpa using h2)
  rw [show ((List.range us.toArray.size).all fun _ => true) = true from List.all_eq_true.mpr fun _ _ => rfl] at z
  exact SeqAt.EqAt.of_refs e z
/-- each key leads to a list of the same texts -/
def SameLists (H : Hp) (ks ls : List (Key × V)) : Prop := ks.length = ls.length ∧ ∀ p ∈ ks, ∃ (u v : Addr) (zs : List Str), p.2 = V.ref u ∧ valV ls p.1 = some (V.ref v) ∧ H u = some (.lst (zs.map V.str)) ∧ H v = some (.lst (zs.map V.str))
theorem dict_hits (I : Inv X pins σ H s) {A : Around} (hu : A.units < cLine) {ls : List (Key × V)} {vb : List (Key × Value)} (rb : KV ls vb) : ∀ {ks : List (Key × V)} {va : List (Key × Value)}, KV ks va →
    (∀ p ∈ ks, ∃ (u v : Addr) (zs : List Str), p.2 = V.ref u ∧ valV ls p.1 = some (V.ref v) ∧ H u = some (.lst (zs.map V.str)) ∧ H v = some (.lst (zs.map V.str))) → PySem.W.KeqHits A s vb va true := by
  intro ks va ra
  unfold KV at ra
  induction ra with
  | nil => exact fun _ => .nil
  | @cons p q ps qs h t ih =>
    intro hp
    obtain ⟨e1, e2⟩ := h
    obtain ⟨u, v, zs, ep, ev, hu1, hv1⟩ := hp p List.mem_cons_self
    have there : RelO (some (V.ref v)) (valueAt vb p.1) := by rw [← ev]; exact rb.val p.1
    obtain ⟨y, hy, ry⟩ := there.some_of
    obtain ⟨key, z⟩ := q
    obtain rfl : p.1 = key := e1
    rw [ep] at e2
    cases (show z = Value.ref u from e2)
    cases (show y = Value.ref v from ry)
    exact PySem.W.KeqHits.hit (b := true) (e := true) hy (lists_hit I hu hu1 hv1) (ih fun p' m => hp p' (List.mem_cons_of_mem _ m))
def rNeL : R2 := fun x y H Q => ∃ a b ks ls, x = V.ref a ∧ y = V.ref b ∧ H a = some (.dK ks) ∧ H b = some (.dK ls) ∧ SameLists H ks ls ∧ Q (.bl false) H
theorem op_neL (hu : X.A.units + 1 < cLine) : OpR X (compareOp .NotEq) rNeL := by
  intro pins s σ H x y v u Q I rx ry h
  obtain ⟨a, b, ks, ls, rfl, rfl, ha, hb, ⟨len, each⟩, q⟩ := h
  cases (show v = Value.ref a from rx)
  cases (show u = Value.ref b from ry)
  obtain ⟨_, ya, va, ra, da⟩ := (show ObjOk X.prog X.w H s.heap a (.dK ks) from I.hok a _ ha)
  obtain ⟨_, yb, vb, rb, db⟩ := (show ObjOk X.prog X.w H s.heap b (.dK ls) from I.hok b _ hb)
  have same : va.length = vb.length := by rw [← ra.length, ← rb.length]; exact len
  refine PySem.W.keq_ne (knd := mixKind X.prog X.w) (r := true) ya yb da db (by omega) (fun _ => dict_hits I (A := X.A.in1) (show X.A.units + 1 < cLine from hu) rb ra each) ?_
  rw [same]
  exact ⟨.bl false, H, I, by show Value.bool (!(vb.length == vb.length && true)) = Value.bool false; simp, q⟩
/-- repr of a bool -/
theorem call_reprB : CallR X (.builtin "repr") (fun xs H Q => ∃ b : Bool, xs = [.bl b] ∧ Q (.str (if b then "True" else "False")) H) := by
  intro pins s σ H xs us Q I r h
  obtain ⟨b, rfl, q⟩ := h
  cases r with
  | cons r t =>
    cases t
    cases (show _ = Value.bool b from r)
    exact PySem.P.repr_of_bool ⟨.str (if b then "True" else "False"), H, I.tok _, ⟨_, rfl⟩, q⟩
end
end Nm
set_option maxRecDepth 100000
set_option maxHeartbeats 4000000
/-! != of two lists of the same texts -/
namespace Nm
open PySem PySem.Spec PyProof.Rows L2
section
variable {X : Cx}
def rNeS (K : PySem.W.Frag) : R2 := fun x y H Q => ∃ (a b : Addr) (zs : List Str), x = V.ref a ∧ y = V.ref b ∧ SqL K H a (zs.map V.str) ∧ SqL K H b (zs.map V.str) ∧ Q (.bl false) H
theorem op_neS (hu : X.A.units + 1 < cLine) : OpR X (compareOp .NotEq) (rNeS X.K) := by
  intro pins s σ H x y v u Q I rx ry h
  obtain ⟨a, b, zs, rfl, rfl, ha, hb, q⟩ := h
  cases (show v = Value.ref a from rx)
  cases (show u = Value.ref b from ry)
  obtain ⟨us, r1, p1, _⟩ := I.list ha
  obtain ⟨ws, r2, p2, _⟩ := I.list hb
  obtain ⟨sz, items⟩ := strs_hit (s := s) (A := X.A.in1) r1 r2
  have z := SeqAt.RcNeAt.lists (A := X.A) (e := fun _ => true) p1.isList p2.isList (by simpa using sz) (by omega) fun j h1 h2 => by simpa using items j (by simpa using h1) (by simpa using h2)
  rw [show ((List.range us.toArray.size).all fun _ => true) = true from List.all_eq_true.mpr fun _ _ => rfl] at z
  exact z X.prog X.w X.xe (EP X pins σ Q) ⟨.bl false, H, I, rfl, q⟩
end
end Nm
set_option maxRecDepth 100000
set_option maxHeartbeats 4000000
/-! != of two things that are equal: two Nones, two lists of the same numbers and texts -/
namespace Nm
open PySem PySem.Spec PyProof.Rows L2
section
variable {X : Cx} {s : Shared}
theorem flat_hit {A : Around} : ∀ {xs : List V} {us ws : List Value}, (∀ x ∈ xs, flatB x = true) → Vals xs us → Vals xs ws → us.length = ws.length ∧ ∀ j (h1 : j < us.length) (h2 : j < ws.length), SeqAt.EqAt A s us[j] ws[j] true
  | [], _, _, _, .nil, .nil => ⟨rfl, fun j h1 => absurd h1 (Nat.not_lt_zero j)⟩
  | x :: xs, _, _, hf, .cons r t, .cons r' t' => by
    obtain ⟨e, k⟩ := flat_hit (A := A) (fun y hy => hf y (List.mem_cons_of_mem _ hy)) t t'
    refine ⟨by simp [e], fun j h1 h2 => ?_⟩
    cases j with
    | zero => exact eqAt_same r r' (hf x List.mem_cons_self)
    | succ j => exact k j (Nat.lt_of_succ_lt_succ h1) (Nat.lt_of_succ_lt_succ h2)
def rNeF (K : PySem.W.Frag) : R2 := fun x y H Q => (x = .non ∧ y = .non ∧ Q (.bl false) H) ∨ ∃ (a b : Addr) (xs : List V), x = V.ref a ∧ y = V.ref b ∧ SqL K H a xs ∧ SqL K H b xs ∧ (∀ x ∈ xs, flatB x = true) ∧ Q (.bl false) H
theorem op_neF (hu : X.A.units + 1 < cLine) : OpR X (compareOp .NotEq) (rNeF X.K) := by
  intro pins s σ H x y v u Q I rx ry h
  rcases h with ⟨rfl, rfl, q⟩ | ⟨a, b, xs, rfl, rfl, ha, hb, hf, q⟩
  · exact op_ne pins s σ H _ _ v u Q I rx ry ⟨rfl, q⟩
  · cases (show v = Value.ref a from rx)
    cases (show u = Value.ref b from ry)
    obtain ⟨us, r1, p1, _⟩ := I.list ha
    obtain ⟨ws, r2, p2, _⟩ := I.list hb
    obtain ⟨sz, items⟩ := flat_hit (s := s) (A := X.A.in1) hf r1 r2
    have z := SeqAt.RcNeAt.lists (A := X.A) (e := fun _ => true) p1.isList p2.isList (by simpa using sz) (by omega) fun j h1 h2 => by simpa using items j (by simpa using h1) (by simpa using h2)
    rw [show ((List.range us.toArray.size).all fun _ => true) = true from List.all_eq_true.mpr fun _ _ => rfl] at z
    exact z X.prog X.w X.xe (EP X pins σ Q) ⟨.bl false, H, I, rfl, q⟩
end
end Nm
set_option maxRecDepth 100000
set_option maxHeartbeats 4000000
/-! _law_divisor, of a table whose entries are 0 or one number -/
namespace Nm
open PySem L2
/-- all entries are 0 or v, and v is there -/
structure OneV (tb : List (List Int)) (v : Int) : Prop where
  v1 : 1 ≤ v
  v1000 : v ≤ 1000
  two : ∀ r ∈ tb, ∀ x ∈ r, x = 0 ∨ x = v
  has : ∃ r ∈ tb, v ∈ r
def posR (r : List Int) : List Int := r.filter fun x => decide (0 < x)
def posE (tb : List (List Int)) : List Int := (tb.map posR).flatten
theorem posE_v {tb : List (List Int)} {v : Int} (O : OneV tb v) : (∀ x ∈ posE tb, x = v) ∧ v ∈ posE tb := by
  constructor
  · intro x hx
    obtain ⟨l, hl, hx⟩ := List.mem_flatten.mp hx
    obtain ⟨r, hr, rfl⟩ := List.mem_map.mp hl
    obtain ⟨h1, h2⟩ := List.mem_filter.mp hx
    have h3 := of_decide_eq_true h2
    rcases O.two r hr x h1 with e | e
    · omega
    · exact e
  · obtain ⟨r, hr, hv⟩ := O.has
    have := O.v1
    exact List.mem_flatten.mpr ⟨posR r, List.mem_map.mpr ⟨r, hr, rfl⟩, List.mem_filter.mpr ⟨hv, decide_eq_true (by omega)⟩⟩
section
variable {P : Program} {w : World} {K : PySem.W.Frag} {mg : Str → Option Value} {base : Heap}
structure TxtN1 (mg : Str → Option Value) : Prop extends TxtM1 mg where
  min : mg "min" = none
def spDi : Sp := fun vs H Q _ => ∃ (t : Addr) (tb : List (List Int)) (m : Nat) (v : Int), vs = [.ref t] ∧ TblAt H t tb ∧ TblOk tb m ∧ OneV tb v ∧ ∀ (H' : Hp), Same H H' → Q (.int v) H'
abbrev nDi : List Str := ["_law_weighed", "_law_entries", "_law_row", "_law_found", "_law_entry"]
theorem scDi : FnScope nDi ["_law_weighed"] (defScope sDivisor) := ⟨rfl, rfl, rfl, by decide +kernel, rfl, by decide +kernel, by decide +kernel⟩
theorem ok_div {f : Addr} {fd : FuncData} (F : Fun K "_law_divisor" "_law_divisor" sDivisor f fd) (T : TxtN1 mg) : FnOk P w K mg base CX0 1 f fd ["_law_weighed"] spDi := by
  refine F.ok scDi (fun vs H Q E h => ?_) (fun cdv A outer s H vs Q E hr h => ?_)
  · obtain ⟨_, _, _, _, rfl, _⟩ := h
    rfl
  obtain ⟨t, tb, m, v, rfl, ⟨ts, ht, htl, hts⟩, ok, O, k⟩ := h
  have hu := hu_of hr
  refine ⟨_, Evl.pss_cut (ps_set (i := 1) scDi.nd rfl (Or.inl rfl) (pe_lst pa_nil))
    (Evl.pss_cut (ps_for PassesOwn.never rfl (pi_tup (pv 0)) (pg_name (i := 2) scDi.nd rfl (Or.inl rfl))
      (pss_one (ps_set (i := 1) scDi.nd rfl (Or.inl rfl) (pe_op op_cat (pv 1)
        (pe_lc (own := [("_law_entry", 4)]) (g := gName 4) (tt := tTest (tOp (rI0 fun i j => .bl (decide (j < i))) (tVar 4) (tC (.int 0)))) (te := tVar 4) rfl scDi.nd (pi_tup (pv 2)) (blkOk_by (N := nDi) (sc := defScope sDivisor) (by decide +kernel))
          (fun _ _ _ _ _ => pg_name (i := 4) scDi.nd rfl (Or.inl rfl)) (fun _ _ _ _ _ => pts_one (pt_cmpR op_gt (pv 4) pe_int (nomark _))) (fun _ _ _ _ _ => by exact pv 4))))))
    (pss_cons (ps_set (i := 3) scDi.nd rfl (Or.inr rfl) (pe_callB (cr_min rfl) (by rfl) T.min (by decide +kernel) (pa_cons (pv 1) pa_nil)))
    (pss_cons (ps_while PassesOwn.never (pt_cmpR (op_neF hu) (pe_lc (own := [("_law_entry", 4)]) (g := gName 4) (tt := tTest (tOp rNe (tOp (rI (fun _ j => 0 < j) fun i j => .int (i % j)) (tCB rInt1 (tCons (tVar 4) tNil)) (tVar 3)) (tC (.int 0)))) (te := tVar 4) rfl scDi.nd (pi_list (pv 1)) (blkOk_by (N := nDi) (sc := defScope sDivisor) (by decide +kernel))
          (fun _ _ _ _ _ => pg_name (i := 4) scDi.nd rfl (Or.inl rfl)) (fun _ _ _ _ _ => by
            refine pts_one (pt_cmpR op_ne (pe_op op_mod (pe_callTy call_int1' ?z (by exact T.int) (by decide +kernel) (pa_cons (pv 4) pa_nil)) (pv 3)) pe_int (nomark _))
            case z => rfl) (fun _ _ _ _ _ => by exact pv 4)) (pe_lst pa_nil) (nomark _))
        (pss_one (ps_set (i := 3) scDi.nd rfl (Or.inr rfl) (pe_op op_sub (pv 3) pe_int))))
    (pss_one (ps_ret (pv 3)))))), ?_⟩
  have n8 := ok.n8
  have m8 := ok.m8
  refine ⟨fun σ H1 => ∃ l, σ = [some (.ref t), some (.ref l), none, none, none] ∧ H1 l = some (.lst []) ∧ Same H H1, ?_, ?_⟩
  · exact ⟨(by show 0 ≤ sizeLine; decide), fun l hl => ⟨l, rfl, upd_same, same_new hl⟩⟩
  rintro σ H1 ⟨l, rfl, hl1, s1⟩
  refine ⟨fun σ H2 => ∃ l v2, σ = [some (.ref t), some (.ref l), v2, none, none] ∧ H2 l = some (.lst ((posE tb).map V.int)) ∧ (posE tb).length ≤ 64 ∧ Same H H2, ?_, ?_⟩
  · refine ⟨_, rfl, t, rfl, ⟨_, SqT.of (s1 _ _ ht)⟩, ?_⟩
    refine for_it (walk_tup (xs := ts.map V.ref)) (fun i σ H2 => ∃ l v2, σ = [some (.ref t), some (.ref l), v2, none, none] ∧ H2 l = some (.lst ((posE (tb.take i)).map V.int)) ∧ (posE (tb.take i)).length ≤ 8 * i ∧ Same H H2) ⟨l, none, rfl, hl1, Nat.le_refl _, s1⟩ (fun i σ H2 _ ⟨_, _, _, _, _, s⟩ => SqT.of (s _ _ ht)) ?_ ?_
    · rintro i x σ H3 H2 hi ⟨l, v2, rfl, hl2, hll, s2⟩ ⟨rfl, hx⟩
      rw [List.length_map] at hi
      rw [List.getElem?_map] at hx
      obtain ⟨a, ha, rfl⟩ := Option.map_eq_some_iff.mp hx
      obtain ⟨r, hr⟩ : ∃ r, tb[i]? = some r := ⟨_, List.getElem?_eq_getElem (by omega)⟩
      have hHa := hts i a r ha hr
      have hrm := ok.rm r (List.mem_of_getElem? hr)
      have pe : posE (tb.take (i + 1)) = posE (tb.take i) ++ posR r := by
        unfold posE
        rw [List.take_add_one, hr, List.map_append, List.flatten_append]
        simp
      have pl : ∀ j, (posR (r.take j)).length ≤ 8 := fun j => by
        have h1 := List.length_filter_le (fun x => decide ((0 : Int) < x)) (r.take j)
        have h2 : (r.take j).length ≤ r.length := by rw [List.length_take]; omega
        show (List.filter _ _).length ≤ 8
        omega
      refine ⟨_, rfl, _, rfl, a, rfl, ⟨_, SqT.of (s2 _ _ hHa)⟩, fun D hD => ?_⟩
      refine lc_it (walk_tup (xs := r.map V.int)) (fun j H3 => H3 D = some (.lst ((posR (r.take j)).map V.int)) ∧ Same H2 H3) ⟨upd_same, same_new hD⟩ (fun j H3 _ h => SqT.of (h.2 _ _ (s2 _ _ hHa))) ?_ ?_
      · rintro j y H4 H3 hj ⟨hD3, s3⟩ ⟨rfl, hy⟩
        rw [List.getElem?_map] at hy
        obtain ⟨z, hz, rfl⟩ := Option.map_eq_some_iff.mp hy
        have tk : posR (r.take (j + 1)) = posR (r.take j) ++ posR [z] := by
          unfold posR
          rw [List.take_add_one, hz, List.filter_append]
          rfl
        have plj := pl j
        refine ⟨rfl, _, rfl, _, _, rfl, rfl, _, rfl, ?_⟩
        by_cases c : 0 < z
        · rw [decide_eq_true c]
          refine iteT ⟨_, rfl, _, hD3, Evl.sz_lt (by rw [List.length_map]; omega), ?_, Same.off s3 hD⟩
          rw [upd_same, tk, List.map_append]
          have : posR [z] = [z] := List.filter_cons_of_pos (decide_eq_true c)
          rw [this]
          rfl
        · rw [decide_eq_false c]
          refine iteF ⟨?_, s3⟩
          have : posR [z] = [] := List.filter_cons_of_neg (by rw [decide_eq_false c]; decide)
          rw [tk, this, List.append_nil]
          exact hD3
      · rintro H3 ⟨hD3, s3⟩
        have pr := pl r.length
        rw [List.take_length] at pr
        rw [List.length_map, List.take_length] at hD3
        refine ⟨l, D, _, _, rfl, rfl, s3 _ _ hl2, hD3, Evl.sz_of (by rw [List.length_map, List.length_map]; omega), fun p hp => ?_⟩
        refine ⟨p, some (.ref a), rfl, ?_, ?_, (s2.trans s3).trans (same_new hp)⟩
        · rw [upd_same, pe, List.map_append]
        · rw [pe, List.length_append]
          omega
    · rintro σ H2 ⟨l, v2, rfl, hl2, hll, s2⟩
      rw [List.length_map, htl, List.take_length] at hl2 hll
      exact ⟨l, v2, rfl, hl2, by omega, s2⟩
  rintro σ H2 ⟨l, v2, rfl, hl2, hll, s2⟩
  obtain ⟨ev, vm⟩ := posE_v O
  have v1 := O.v1
  generalize posE tb = es at *
  refine ⟨_, rfl, l, es, rfl, SqL.of hl2, List.length_pos_of_mem vm, fun mn hm _ => ?_⟩
  obtain rfl := ev mn hm
  refine ⟨fun mm σ H3 => σ = [some (.ref t), some (.ref l), v2, some (.int mn), none] ∧ Same H2 H3, ⟨0, rfl, Same.refl _⟩, ?_⟩
  rintro mm σ H3 ⟨rfl, s3⟩
  have hl3 := s3 _ _ hl2
  refine ⟨_, rfl, l, rfl, ⟨_, SqL.of hl3⟩, fun D hD => ?_⟩
  refine lc_it (walk_list (xs := es.map V.int)) (fun j H4 => H4 D = some (.lst []) ∧ Same H3 H4) ⟨upd_same, same_new hD⟩ (fun j H4 _ h => SqL.of (h.2 _ _ hl3)) ?_ ?_
  · rintro j y H5 H4 hj ⟨hD4, s4⟩ ⟨rfl, hy⟩
    rw [List.getElem?_map] at hy
    obtain ⟨z, hz, rfl⟩ := Option.map_eq_some_iff.mp hy
    obtain rfl := ev z (List.mem_of_getElem? hz)
    refine ⟨rfl, _, rfl, .inl ⟨_, rfl, _, rfl, _, _, rfl, rfl, by omega, rfl, _, rfl, ?_⟩⟩
    have e : (!decide (V.int (z % z) = V.int 0)) = false := by
      rw [Int.emod_self, decide_eq_true rfl]
      rfl
    show (if (!decide (V.int (z % z) = V.int 0)) = true then _ else _)
    rw [e]
    exact iteF ⟨hD4, s4⟩
  · rintro H4 ⟨hD4, s4⟩
    refine ⟨(by show 0 ≤ sizeLine; decide), fun l2 hl2' => ?_⟩
    have s5 := same_new (o := .lst []) hl2'
    refine .inr ⟨D, l2, [], rfl, rfl, SqL.of (s5 _ _ hD4), SqL.of upd_same, fun x hx => (List.not_mem_nil hx).elim, _, rfl, iteF ?_⟩
    exact ⟨_, rfl, k _ (((s2.trans s3).trans s4).trans s5)⟩
end
end Nm
set_option maxRecDepth 100000
set_option maxHeartbeats 4000000
/-! own __len__; the fields of an exception that is being made; defs that let exceptions out; kept; BadNumber.__init__ -/
namespace Nm
open PySem PySem.Spec PyProof.Rows L2
section
variable {X : Cx}
/-- o.f, o an exception that is being made -/
def tExoF (K : PySem.W.Frag) (f : Str) (te : TE) : TE := fun σ H Q => te σ H fun x H1 => ∃ (a C dx : Addr) (fs : List (Str × V)) (v : V), x = .ref a ∧ XfC K C ∧ PySem.W.findIn K (.ref C) f = some none ∧ H1 a = some (exo a C (some dx)) ∧ H1 dx = some (exd dx fs) ∧ fs.lookup f = some v ∧ Q v H1
theorem pe_exoF {e : Expr} {te : TE} {f : Str} {pos : Pos} (he : PE X e te) (hb : attributeBase e f X.env (eval e X.env) = eval e X.env := by rfl) : PE X (.Attribute e f pos) (tExoF X.K f te) := by
  refine ⟨fun pins s σ H Q I h => ?_⟩
  refine attr_of hb (thn (he.run pins s σ H _ I h) fun u s1 hh => ?_)
  obtain ⟨x, H1, I1, rx, a, C, dx, fs, v, ex, T, hno, ha, hd, hl, q⟩ := hh
  subst ex
  obtain rfl : u = Value.ref a := rx
  obtain ⟨t1, ho⟩ := exo_at I1.hok ha
  obtain ⟨mA, hns, hr⟩ := exd_at I1.hok hd
  obtain ⟨od, hod, hlk⟩ := lookIn_ns hns
  obtain ⟨w', hw, rw'⟩ := RelO.some_of (v := v) (o := mA f) (by rw [← hl]; exact hr f)
  have J : PySem.W.InstAt s1.heap a _ C (some od) := ⟨ho, rfl, rfl, hod⟩
  exact HandSPX.exc_get I1.kIn J T.ga T.gg T.exC (PySem.W.findObj_own T.hdC hno rfl (by rw [hlk, hw])) (handed_of rw') ⟨v, H1, I1.tok _, rw', q⟩
/-- a body that is never reached -/
theorem pss_no {b : List Stmt} : PSs X b (fun _ _ _ => False) := ⟨fun _ _ _ _ _ _ h => h.elim⟩
end
section
variable {P : Program} {w : World} {K : PySem.W.Frag} {mg : Str → Option Value} {base : Heap}
/-- a def that may let exceptions out -/
theorem okX {x qual : Str} {st : Stmt} {f : Addr} {fd : FuncData} {N ps : List Str} {k : Nat} {sp : Sp} (F : Fun K x qual st f fd) (S : FnScope N ps (defScope st)) (len : ∀ vs H Q E, sp vs H Q E → vs.length = ps.length)
    (hbody : ∀ (cdv : Value) (A : Around) (outer : List Env) (s : Shared) (H : Hp) (vs : List V) (Q : VK) (E : XK), Room k (A.deeper (envOfC qual (defScope st) s.heap.objs.size f cdv)) → sp vs H Q E →
      ∃ t, PSs (cxOf (L2.CX P w) P w K mg base N qual (defScope st) f cdv A outer s H E) (defBody st) t ∧ t { nx := fun _ H' => Q .non H', rt := Q } (start N vs) H) : FnOk P w K mg base (L2.CX P w) (k + 1) f fd ps sp := by
  obtain ⟨oc, od, kV, doc, pm, an, cdv, ct, osl, rfl, lk, hcd⟩ := F.ex
  exact fn_of lk hcd S len fun A outer s H vs Q E hr hsp => hbody cdv A outer s H vs Q E hr hsp
/-! ### kept, of a number or a text -/
structure TxtKe (mg : Str → Option Value) : Prop where
  isinstance : mg "isinstance" = none
  list : mg "list" = none
  tuple : mg "tuple" = none
  dict : mg "dict" = none

def spKept : Sp := fun vs H Q _ => ∃ x : V, vs = [x] ∧ ((∃ i, x = .int i) ∨ ∃ z, x = .str z) ∧ Q x H
abbrev nKe : List Str := ["value", "part", "key"]
theorem scKe : FnScope ["value"] ["value"] (defScope sKept) := ⟨rfl, rfl, rfl, by decide +kernel, rfl, by decide +kernel, by decide +kernel⟩
theorem ok_kept {f : Addr} {fd : FuncData} (F : Fun K "kept" "kept" sKept f fd) (T : TxtKe mg) : FnOk P w K mg base CX0 1 f fd ["value"] spKept := by
  refine F.ok scKe (fun vs H Q E h => ?_) (fun cdv A outer s H vs Q E hr h => ?_)
  · obtain ⟨_, rfl, _⟩ := h
    rfl
  · obtain ⟨x, rfl, hx, k⟩ := h
    refine ⟨_, pss_cons (ps_if (pt_val (pe_callB call_isi (by rfl) T.isinstance (by decide +kernel) (pa_cons (pv 0) (pa_cons (pe_bltn (v := .ty "list") (by rfl) T.list (by decide +kernel) rfl) pa_nil)))) pss_no pss_nil)
      (pss_cons (ps_if (pt_val (pe_callB call_isi (by rfl) T.isinstance (by decide +kernel) (pa_cons (pv 0) (pa_cons (pe_bltn (v := .ty "tuple") (by rfl) T.tuple (by decide +kernel) rfl) pa_nil)))) pss_no pss_nil)
      (pss_cons (ps_if (pt_val (pe_callB call_isi (by rfl) T.isinstance (by decide +kernel) (pa_cons (pv 0) (pa_cons (pe_bltn (v := .ty "dict") (by rfl) T.dict (by decide +kernel) rfl) pa_nil)))) pss_no pss_nil)
      (pss_one (ps_ret (pv 0))))), ?_⟩
    rcases hx with ⟨i, rfl⟩ | ⟨z, rfl⟩
    · refine ⟨_, rfl, _, _, _, _, false, rfl, ClsV.ty "list", TyX.base (TyOf.int i), kit_ty (by decide +kernel), _, rfl, iteF ?_⟩
      refine ⟨_, rfl, _, _, _, _, false, rfl, ClsV.ty "tuple", TyX.base (TyOf.int i), kit_ty (by decide +kernel), _, rfl, iteF ?_⟩
      refine ⟨_, rfl, _, _, _, _, false, rfl, ClsV.ty "dict", TyX.base (TyOf.int i), kit_ty (by decide +kernel), _, rfl, iteF ?_⟩
      exact ⟨_, rfl, k⟩
    · refine ⟨_, rfl, _, _, _, _, false, rfl, ClsV.ty "list", TyX.base (TyOf.str z), kit_ty (by decide +kernel), _, rfl, iteF ?_⟩
      refine ⟨_, rfl, _, _, _, _, false, rfl, ClsV.ty "tuple", TyX.base (TyOf.str z), kit_ty (by decide +kernel), _, rfl, iteF ?_⟩
      refine ⟨_, rfl, _, _, _, _, false, rfl, ClsV.ty "dict", TyX.base (TyOf.str z), kit_ty (by decide +kernel), _, rfl, iteF ?_⟩
      exact ⟨_, rfl, k⟩
end
end Nm
set_option maxRecDepth 100000
set_option maxHeartbeats 4000000
/-! BadNumber.__init__, is_number of anything, Web.__len__, need_numbers -/
namespace Nm
open PySem PySem.Spec PyProof.Rows L2
section
variable {P : Program} {w : World} {K : PySem.W.Frag} {mg : Str → Option Value} {base : Heap}
/-! ### BadNumber.__init__ -/
def spBadI (C : Addr) : Sp := fun vs H Q _ => ∃ (a : Addr) (n : Nat), vs = [.ref a, .int (n : Int)] ∧ n ≤ 100000 ∧ H a = some (exo a C none) ∧ ∀ d : Addr, H d = none → d ≠ a → Q .non (upd (upd H d (exd d [("number", .int (n : Int))])) a (exo a C (some d)))
theorem ssBad : SupS "self" "number" (defScope sBadNumberInit) := ⟨rfl, rfl, rfl, by decide, rfl, rfl, by decide +kernel, by decide +kernel, rfl, rfl⟩
theorem num_text {n : Nat} (h : n ≤ 100000) : ((toString (n : Int) : String) : Str).length ≤ 10 := by
  have e := PySem.int_text_length_le10 (a := (n : Int)) (k := 9) (by decide) (by rw [Int.natAbs_natCast]; omega)
  rw [PySem.ofString_length]
  exact e
theorem num_log {n : Nat} (h : n ≤ 100000) : ((n : Int)).natAbs.log2 < 1920 := by
  rw [Int.natAbs_natCast]
  by_cases z : n = 0
  · subst z
    decide
  · exact (Nat.log2_lt z).mpr (Nat.lt_of_le_of_lt h (by decide +kernel))
theorem ok_badI {C f cda cc : Addr} {fd : FuncData} (F : SupF P K C f cda cc fd "BadNumber.__init__" sBadNumberInit "self") (X0 : XfC K C) (nN : PySem.W.findIn K (.ref C) "number" = some none) (hms : mg "super" = none)
    (Gk : Def P w K mg base "kept" ["value"] 1 spKept) : FnOk P w K mg base CX0 2 f fd ["self", "number"] (spBadI C) := by
  obtain ⟨fk, fdk, Gk, mk, kk, bk⟩ := Gk.ex
  refine sup_def (k := 1) F ssBad hms rfl (fun vs H Q E h => ?_) (fun A outer s H vs Q E hr h => ?_)
  · obtain ⟨_, _, rfl, _⟩ := h
    rfl
  · obtain ⟨a, n, rfl, hn, ha, k⟩ := h
    refine ⟨a, _, _, ps_ost (pv 0) (pe_call Gk hr (by rfl) mk kk bk .nil pass0 (pa_cons (pv 1) pa_nil)), pa_cons (pe_joined (PJ.cons pe_str (PJ.cons (pe_fmtR (pe_exoF (pv 0))) PJ.nil))) pa_nil, ?_⟩
    refine ⟨_, rfl, _, rfl, .inl ⟨_, rfl⟩, _, rfl, a, C, rfl, F.oex, nN, .inl ⟨ha, fun d hd hda => ⟨rfl, d, upd_same, fun R hR => ?_⟩⟩⟩
    have hd2 : (upd (upd H d (exd d [("number", .int (n : Int))])) a (exo a C (some d))) d = some (exd d [("number", .int (n : Int))]) := by
      rw [upd_ne hda]
      exact upd_same
    refine ⟨_, rfl, (by decide +kernel), _, rfl, a, C, d, _, _, rfl, X0, nN, upd_same, hd2, rfl, .inr ⟨(n : Int), rfl, num_log hn, _, rfl, ?_, ?_⟩⟩
    · have := num_text hn
      rw [strLen_append, strLen_append, sizeLine_eq]
      have e1 : Str.empty.length = 0 := rfl
      have e2 : ("a wrong number, length or place in a list: " : Str).length = 43 := by decide +kernel
      omega
    · exact hR _ _ (by show (1 : Nat) ≤ 1000; decide) upd_same (k d hd hda)
end
end Nm
set_option maxRecDepth 100000
set_option maxHeartbeats 4000000
/-! raise BadNumber(n) -/
namespace Nm
open PySem PySem.Spec PyProof.Rows L2
section
variable {P : Program} {w : World} {K : PySem.W.Frag} {mg : Str → Option Value} {base : Heap}
structure TxtBad (P : Program) (w : World) (K : PySem.W.Frag) (mg : Str → Option Value) (base : Heap) (CB : Addr) : Prop extends TxtN1 mg where
  any : mg "any" = none
  mB : mg "BadNumber" = some (.ref CB)
  oex : OexC K CB
  xf : XfC K CB
  nNu : PySem.W.findIn K (.ref CB) "number" = some none
  ini : ∃ f fd, PySem.W.findIn K (.ref CB) "__init__" = some (some (.ref f)) ∧ PySem.W.typeIn K (.ref f) = some (.type "function") ∧ FnOk P w K mg base CX0 2 f fd ["self", "number"] (spBadI CB) ∧ Binds K fd ["self", "number"] []
/-- what the making of the exception leaves -/
theorem made_bad {H1 : Hp} {a d CB : Addr} {fs : List (Str × V)} (h1 : H1 a = none) (h2 : upd H1 a (exo a CB none) d = none) (h3 : d ≠ a) {H2 : Hp} (e : H2 = upd (upd (upd H1 a (exo a CB none)) d (exd d fs)) a (exo a CB (some d))) : H1 d = none ∧ Same H1 (upd (del H2 a) d (.xd fs)) := by
  have hd : H1 d = none := by
    rw [upd_ne h3] at h2
    exact h2
  refine ⟨hd, fun b o hb => ?_⟩
  have n1 : b ≠ a := ne_of_none hb h1
  have n2 : b ≠ d := ne_of_none hb hd
  rw [upd_ne n2, del_ne n1, e, upd_ne n1, upd_ne n2, upd_ne n1]
  exact hb
theorem raise_bad {CB : Addr} {H H4 : Hp} {a : Addr} {n : Nat} {E : XK} (hn : n ≤ 100000) (ha : H4 a = none) (s : Same H H4) (ke : ∀ (d : Addr) (H' : Hp), H d = none → H' d = some (.xd [("number", .int (n : Int))]) → Same H H' → E (.ref CB) (some d) H') :
    spBadI CB (V.ref a :: ([V.int (n : Int)] ++ [])) (upd H4 a (exo a CB none)) (fun v H2 => v = .non ∧ ∃ (d : Addr) (fs : List (Str × V)), H2 a = some (exo a CB (some d)) ∧ H2 d = some (exd d fs) ∧ H4 d = none ∧ E (.ref CB) (some d) (upd (del H2 a) d (.xd fs))) (fun _ _ _ => False) := by
  refine ⟨a, n, rfl, hn, upd_same, fun d hd hda => ?_⟩
  obtain ⟨h1, h2⟩ := made_bad (fs := [("number", .int (n : Int))]) ha hd hda rfl
  exact ⟨rfl, d, _, upd_same, by rw [upd_ne hda]; exact upd_same, h1, ke d _ (s.free h1) upd_same fun b o e => h2 _ _ (s _ _ e)⟩
end
end Nm
set_option maxRecDepth 100000
set_option maxHeartbeats 4000000
/-! added_weights -/
namespace Nm
open PySem PySem.Spec PyProof.Rows L2
def dInt (l : List Int) : List PyData := l.map PyData.int
theorem dp_ints {K : PySem.W.Frag} {H : Hp} : ∀ l : List Int, DpAll K H (l.map V.int) (dInt l)
  | [] => .nil
  | x :: l => .cons (.int x) (dp_ints l)
theorem eqv_ints : ∀ l m : List Int, PyData.eqvAll (dInt l) (dInt m) = decide (l = m)
  | [], [] => rfl
  | [], _ :: _ => rfl
  | _ :: _, [] => rfl
  | x :: l, y :: m => by
    show (PyData.eqv (.int x) (.int y) && PyData.eqvAll (dInt l) (dInt m)) = _
    rw [eqv_ints l m]
    show ((x == y) && decide (l = m)) = _
    by_cases h : x = y
    · subst h
      by_cases h2 : l = m
      · subst h2
        simp
      · simp [h2]
    · simp [h]
theorem shaped_ints : ∀ l : List Int, SeqAt.shaped (.list (dInt l)) = true := fun l => by
  have h1 : PyData.canLayAll0 (dInt l) = true := by
    induction l with
    | nil => rfl
    | cons x l ih =>
      show (PyData.canLay0 (.int x) && PyData.canLayAll0 (dInt l)) = true
      rw [ih]
      rfl
  have h2 : PyData.depthAll (dInt l) ≤ 5 := by
    induction l with
    | nil => simp [dInt, PyData.depthAll]
    | cons x l ih =>
      show PyData.depthAll (PyData.int x :: dInt l) ≤ 5
      simp only [PyData.depthAll]
      have : PyData.depth (.int x) ≤ 5 := by simp [PyData.depth]
      have := ih (by
        have h3 : (PyData.canLay0 (.int x) && PyData.canLayAll0 (dInt l)) = true := h1
        exact (Bool.and_eq_true_iff.mp h3).2)
      omega
  unfold SeqAt.shaped
  rw [Bool.and_eq_true, decide_eq_true_eq]
  refine ⟨?_, ?_⟩
  · simp only [PyData.canLay0]
    exact h1
  · simp only [PyData.depth]
    omega
section
variable {P : Program} {w : World} {K : PySem.W.Frag} {mg : Str → Option Value} {base : Heap}
def spAdd (CB : Addr) : Sp := fun vs H Q E => ∃ (p1 p2 : Addr) (t1 t2 : List (List Int)) (m1 m2 : Nat), vs = [.ref p1, .ref p2] ∧ TblAt H p1 t1 ∧ TblAt H p2 t2 ∧ TblOk t1 m1 ∧ TblOk t2 m2 ∧
  (t1.length = t2.length → m1 = m2 → ∀ (p : Addr) (H' : Hp), TblAt H' p (sumT t1 t2) → Same H H' → Q (.ref p) H') ∧
  (¬ (t1.length = t2.length ∧ m1 = m2) → ∀ (d : Addr) (H' : Hp), H d = none → H' d = some (.xd [("number", .int (t2.length : Int))]) → Same H H' → E (.ref CB) (some d) H')
abbrev nAd : List Str := ["first", "last", "row", "other", "entry", "also"]
theorem scAd : FnScope nAd ["first", "last"] (defScope sAdded) := ⟨rfl, rfl, rfl, by decide +kernel, rfl, by decide +kernel, by decide +kernel⟩
abbrev coAd : Scope := { kind := .function, names := [(".0", .local), ("row", .local), ("other", .local), ("tuple", .globalImplicit), ("zip", .globalImplicit)], isGenerator := false, isCoroutine := false }
abbrev eLen (K : PySem.W.Frag) : TE := tCB (rLenS K) (tCons (tVar 2) tNil)
theorem tIfTest {ta tb : TE} {r : R2} {s1 s2 : TS} {D : Ends} {σ : L2.St} {H : Hp} (h : ta σ H fun x H1 => tb σ H1 fun y H2 => r x y H2 fun v H3 => ∃ k, v = .bl k ∧ if k = true then s1 D σ H3 else s2 D σ H3) : tIfS (tTest (tOp r ta tb)) s1 s2 D σ H := h
def lensT (t : List (List Int)) : List Int := t.map fun r => (r.length : Int)
theorem lens_eq {t1 t2 : List (List Int)} {m1 m2 : Nat} (ok1 : TblOk t1 m1) (ok2 : TblOk t2 m2) : lensT t1 = lensT t2 ↔ t1.length = t2.length ∧ m1 = m2 := by
  have e1 : lensT t1 = List.replicate t1.length (m1 : Int) := by
    unfold lensT
    rw [List.eq_replicate_iff]
    refine ⟨List.length_map _, fun x hx => ?_⟩
    obtain ⟨r, hr, rfl⟩ := List.mem_map.mp hx
    rw [ok1.rm r hr]
  have e2 : lensT t2 = List.replicate t2.length (m2 : Int) := by
    unfold lensT
    rw [List.eq_replicate_iff]
    refine ⟨List.length_map _, fun x hx => ?_⟩
    obtain ⟨r, hr, rfl⟩ := List.mem_map.mp hx
    rw [ok2.rm r hr]
  rw [e1, e2]
  constructor
  · intro h
    have hl := congrArg List.length h
    rw [List.length_replicate, List.length_replicate] at hl
    have n1 := ok1.n1
    have h0 := congrArg (fun l => l[0]?) h
    have h0 : (List.replicate t1.length (m1 : Int))[0]? = (List.replicate t2.length (m2 : Int))[0]? := h0
    rw [List.getElem?_replicate, List.getElem?_replicate, if_pos (by omega), if_pos (by omega)] at h0
    have := Option.some.inj h0
    exact ⟨hl, by omega⟩
  · rintro ⟨h1, h2⟩
    rw [h1, h2]
theorem lens_ok {q : Nat} {p p1 p2 : Addr} {t : List (List Int)} {m : Nat} {H : Hp} {Q : VK} (hq : ([some (.ref p1), some (.ref p2), none, none, none, none] : L2.St)[q]? = some (some (.ref p))) (h : TblAt H p t) (ok : TblOk t m)
    (hQ : ∀ (D : Addr) (H2 : Hp), H D = none → H2 D = some (.lst ((lensT t).map V.int)) → Same H H2 → Q (.ref D) H2) : tLc (iTup K (tVar q)) (gName 2) tYes (eLen K) [2] [some (.ref p1), some (.ref p2), none, none, none, none] H Q := by
  obtain ⟨ts, ht, htl, hts⟩ := h
  have n8 := ok.n8
  refine ⟨_, hq, p, rfl, ⟨_, SqT.of ht⟩, fun D hD => ?_⟩
  refine lc_it (walk_tup (xs := ts.map V.ref)) (fun i H1 => H1 D = some (.lst ((lensT (t.take i)).map V.int)) ∧ Same H H1) ⟨upd_same, same_new hD⟩ (fun i H1 _ h => SqT.of (h.2 _ _ ht)) ?_ ?_
  · rintro i x H2 H1 hi ⟨hD1, s1⟩ ⟨rfl, hx⟩
    rw [List.length_map] at hi
    rw [List.getElem?_map] at hx
    obtain ⟨a, ha, rfl⟩ := Option.map_eq_some_iff.mp hx
    obtain ⟨r, hr⟩ : ∃ r, t[i]? = some r := ⟨_, List.getElem?_eq_getElem (by omega)⟩
    have hHa := hts i a r ha hr
    refine ⟨rfl, tyes ?_⟩
    refine ⟨_, rfl, a, _, rfl, .inr (SqT.of (s1 _ _ hHa)), _, hD1, Evl.sz_lt (by unfold lensT; rw [List.length_map, List.length_map, List.length_take]; omega), ?_, Same.off s1 hD⟩
    rw [upd_same, List.length_map]
    unfold lensT
    rw [List.take_add_one, hr, List.map_append, List.map_append]
    rfl
  · rintro H1 ⟨hD1, s1⟩
    rw [List.length_map, htl, List.take_length] at hD1
    exact hQ D H1 hD hD1 s1
theorem ok_added {f CB : Addr} {fd : FuncData} (F : Fun K "added_weights" "added_weights" sAdded f fd) (T : TxtBad P w K mg base CB) : FnOk P w K mg base (L2.CX P w) 4 f fd ["first", "last"] (spAdd CB) := by
  obtain ⟨fi, fdi, iC, tI, Gi, bi⟩ := T.ini
  refine okX (k := 3) F scAd (fun vs H Q E h => ?_) (fun cdv A outer s H vs Q E hr h => ?_)
  · obtain ⟨_, _, _, _, _, _, rfl, _⟩ := h
    rfl
  obtain ⟨p1, p2, t1, t2, m1, m2, rfl, h1, h2, ok1, ok2, kq, ke⟩ := h
  have hu := hr.units
  have tk := takes_of (X := cxOf (L2.CX P w) P w K mg base nAd "added_weights" (defScope sAdded) f cdv A outer s H E) (E := E) rfl rfl rfl rfl
  refine ⟨_, Evl.pss_cut (ps_if (pt_cmpR (op_neD hu)
      (pe_lc (own := [("row", 2)]) (g := gName 2) (tt := tYes) (te := eLen K) rfl scAd.nd (pi_tup (pv 0)) (blkOk_by (N := nAd) (sc := defScope sAdded) (by decide +kernel)) (fun _ _ _ _ _ => pg_name (i := 2) scAd.nd rfl (Or.inl rfl)) (fun _ _ _ _ _ => pts_nil) (fun _ _ _ _ _ => by
        refine pe_callB call_len_seq ?z1 (by exact T.len) PySem.boot_len (pa_cons (pv 2) pa_nil)
        case z1 => rfl))
      (pe_lc (own := [("row", 2)]) (g := gName 2) (tt := tYes) (te := eLen K) rfl scAd.nd (pi_tup (pv 1)) (blkOk_by (N := nAd) (sc := defScope sAdded) (by decide +kernel)) (fun _ _ _ _ _ => pg_name (i := 2) scAd.nd rfl (Or.inl rfl)) (fun _ _ _ _ _ => pts_nil) (fun _ _ _ _ _ => by
        refine pe_callB call_len_seq ?z2 (by exact T.len) PySem.boot_len (pa_cons (pv 2) pa_nil)
        case z2 => rfl)) (nomark _))
      (pss_one (ps_raise rfl tk (pmk_oex T.oex iC tI Gi (hr.mono (by decide)) bi .nil pass0 (by rfl) T.mB (pa_cons (pe_callB call_len_seq (by rfl) T.len PySem.boot_len (pa_cons (pv 1) pa_nil)) pa_nil)))) pss_nil)
    (pss_one (ps_ret (pe_callTy call_tupL (by rfl) T.tuple (by decide +kernel) (pa_cons
      (pe_lc (own := [("row", 2), ("other", 3)]) (g := gTup K 2 (gTwo 2 3)) (tt := tYes) (te := tCB (rTupL K) (tCons (rowSum K 2 3 4 5) tNil)) rfl scAd.nd (RZ.pi_zipA (by rfl) T.zip (pa_cons (pv 0) (pa_cons (pv 1) pa_nil))) (blkOk_by (N := nAd) (sc := defScope sAdded) (by decide +kernel))
        (fun _ _ _ _ _ => pg_tup rfl (pgs_cons (pg_name (i := 2) scAd.nd rfl (.inl rfl)) (pgs_cons (pg_name (i := 3) scAd.nd rfl (.inl rfl)) pgs_nil))) (fun _ _ _ _ _ => pts_nil)
        (fun _ _ _ _ _ => by
          refine pe_callTy call_tupL ?z (by exact T.tuple) (by decide +kernel) (pa_cons ?y pa_nil)
          case z => rfl
          case y =>
            refine pe_lc (own := [("entry", 4), ("also", 5)]) (g := gTup K 2 (gTwo 4 5)) (tt := tYes) (te := tOp (rI0 fun i j => .int (i + j)) (tVar 4) (tVar 5)) rfl scAd.nd ?a ?b ?c ?d ?e
            case a => exact RZ.pi_zipA (by rfl) T.zip (pa_cons (pv 2) (pa_cons (pv 3) pa_nil))
            case b => exact (blkOk_by (N := nAd) (sc := coAd) (by decide +kernel))
            case c => intro _ _ _ _ _; exact pg_tup rfl (pgs_cons (pg_name (i := 4) scAd.nd rfl (.inl rfl)) (pgs_cons (pg_name (i := 5) scAd.nd rfl (.inl rfl)) pgs_nil))
            case d => intro _ _ _ _ _; exact pts_nil
            case e => intro _ _ _ _ _; exact pe_op op_add (pv 4) (pv 5))) pa_nil)))), ?_⟩
  have n8 := ok1.n8
  have q8 := ok2.n8
  refine ⟨fun σ H1 => (t1.length = t2.length ∧ m1 = m2) ∧ σ = [some (.ref p1), some (.ref p2), none, none, none, none] ∧ Same H H1, ?_, ?_⟩
  · refine tIfTest ?_
    refine lens_ok (K := K) (q := 0) (p1 := p1) (p2 := p2) rfl h1 ok1 fun D1 H1 hD1 hD1' s1 => ?_
    refine lens_ok (K := K) (q := 1) (p1 := p1) (p2 := p2) rfl (h2.same s1) ok2 fun D2 H2 hD2 hD2' s2 => ?_
    refine ⟨.list (dInt (lensT t1)), .list (dInt (lensT t2)), .lst (SqL.of (s2 _ _ hD1')) (dp_ints _), .lst (SqL.of hD2') (dp_ints _), shaped_ints _, shaped_ints _, _, rfl, ?_⟩
    have e : PyData.eqv (.list (dInt (lensT t1))) (.list (dInt (lensT t2))) = decide (lensT t1 = lensT t2) := (show PyData.eqv (.list (dInt (lensT t1))) (.list (dInt (lensT t2))) = PyData.eqvAll (dInt (lensT t1)) (dInt (lensT t2)) from rfl).trans (eqv_ints _ _)
    rw [e]
    have iff := lens_eq ok1 ok2
    by_cases c : lensT t1 = lensT t2
    · rw [decide_eq_true c]
      exact iteF ⟨iff.mp c, rfl, s1.trans s2⟩
    · rw [decide_eq_false c]
      obtain ⟨as2, hp2, hl2, _⟩ := h2
      have l2 : (as2.map V.ref).length = t2.length := by rw [List.length_map, hl2]
      refine iteT ⟨_, rfl, p2, _, rfl, .inr (SqT.of ((s1.trans s2) _ _ hp2)), by show (1 : Nat) ≤ 1000; decide, fun a ha => ?_⟩
      rw [l2]
      exact raise_bad (by omega) ha (s1.trans s2) fun d H' g1 g2 g3 => ke (fun z => c (iff.mpr z)) d H' g1 g2 g3
  rintro σ H1 ⟨⟨e1, e2⟩, rfl, s1⟩
  subst e2
  refine tabSum_ok (h1.same s1) (h2.same s1) ok1 ok2 e1 fun p H2 tb s2 => ?_
  exact kq e1 rfl p H2 tb (s1.trans s2)
end
end Nm
set_option maxRecDepth 100000
set_option maxHeartbeats 4000000
/-! weights_behind -/
namespace Nm
open PySem PySem.Spec PyProof.Rows L2
section
variable {P : Program} {w : World} {K : PySem.W.Frag} {mg : Str → Option Value} {base : Heap}
def spWB (CB : Addr) : Sp := fun vs H Q E => ∃ (p1 p2 : Addr) (t1 t2 : List (List Int)) (m1 m2 : Nat), vs = [.ref p1, .ref p2] ∧ TblAt H p1 t1 ∧ TblAt H p2 t2 ∧ TblOk t1 m1 ∧ TblOk t2 m2 ∧ (∀ r ∈ t1, ∀ x ∈ r, 0 ≤ x ∧ x ≤ 1000) ∧
  (m1 = t2.length → ∀ (p : Addr) (H' : Hp), TblAt H' p (prodT t1 t2 m2) → Same H H' → Q (.ref p) H') ∧
  (m1 ≠ t2.length → ∀ (d : Addr) (H' : Hp), H d = none → H' d = some (.xd [("number", .int (t2.length : Int))]) → Same H H' → E (.ref CB) (some d) H')
abbrev nWB : List Str := ["first", "last", "row", "rows", "sums", "entry", "also", "total", "behind"]
theorem scWB : FnScope nWB ["first", "last"] (defScope sWeightsBehind) := ⟨rfl, rfl, rfl, by decide +kernel, rfl, by decide +kernel, by decide +kernel⟩
abbrev eWB : TE := tOp (rI0 fun i j => .int (i + j)) (tVar 7) (tOp (rI CMul fun i j => .int (i * j)) (tVar 5) (tVar 8))
abbrev neWB (K : PySem.W.Frag) : TE := tOp rNe (tCB (rLenS K) (tCons (tVar 2) tNil)) (tCB (rLenS K) (tCons (tVar 1) tNil))
def sK (r : List Int) (t2 : List (List Int)) (m k : Nat) : List Int := (List.range m).map fun q => ((List.range k).map fun k => r.getD k 0 * (t2.getD k []).getD q 0).sum
theorem sK_at {r : List Int} {t2 : List (List Int)} {m k q : Nat} {x : Int} (h : (sK r t2 m k)[q]? = some x) : q < m ∧ x = ((List.range k).map fun k => r.getD k 0 * (t2.getD k []).getD q 0).sum := by
  unfold sK at h
  have hl := (List.getElem?_eq_some_iff.mp h).1
  rw [List.length_map, List.length_range] at hl
  rw [List.getElem?_map, List.getElem?_range hl] at h
  cases h
  exact ⟨hl, rfl⟩
theorem sum_snoc (l : List Int) (x : Int) : (l ++ [x]).sum = l.sum + x := by
  rw [List.sum_append]
  simp
theorem ok_wb {f CB : Addr} {fd : FuncData} (F : Fun K "weights_behind" "weights_behind" sWeightsBehind f fd) (T : TxtBad P w K mg base CB) : FnOk P w K mg base (L2.CX P w) 4 f fd ["first", "last"] (spWB CB) := by
  obtain ⟨fi, fdi, iC, tI, Gi, bi⟩ := T.ini
  refine okX (k := 3) F scWB (fun vs H Q E h => ?_) (fun cdv A outer s H vs Q E hr h => ?_)
  · obtain ⟨_, _, _, _, _, _, rfl, _⟩ := h
    rfl
  obtain ⟨p1, p2, t1, t2, m1, m2, rfl, h1, h2, ok1, ok2, small, kq, ke⟩ := h
  have hu := hr.units
  have tk := takes_of (X := cxOf (L2.CX P w) P w K mg base nWB "weights_behind" (defScope sWeightsBehind) f cdv A outer s H E) (E := E) rfl rfl rfl rfl
  refine ⟨_, Evl.pss_cut (ps_if (pt_val (pe_callB (cr_any rfl) (by rfl) T.any (by decide +kernel) (pa_cons
      (pe_lc (own := [("row", 2)]) (g := gName 2) (tt := tYes) (te := neWB K) rfl scWB.nd (pi_tup (pv 0)) (blkOk_by (N := nWB) (sc := defScope sWeightsBehind) (by decide +kernel)) (fun _ _ _ _ _ => pg_name (i := 2) scWB.nd rfl (Or.inl rfl)) (fun _ _ _ _ _ => pts_nil) (fun _ _ _ _ _ => by
        refine pe_cmpR op_ne (pe_callB call_len_seq ?z1 (by exact T.len) PySem.boot_len (pa_cons (pv 2) pa_nil)) (pe_callB call_len_seq ?z2 (by exact T.len) PySem.boot_len (pa_cons (pv 1) pa_nil)) (nomark _)
        all_goals rfl)) pa_nil)))
      (pss_one (ps_raise rfl tk (pmk_oex T.oex iC tI Gi (hr.mono (by decide)) bi .nil pass0 (by rfl) T.mB (pa_cons (pe_callB call_len_seq (by rfl) T.len PySem.boot_len (pa_cons (pv 1) pa_nil)) pa_nil)))) pss_nil)
    (Evl.pss_cut (ps_set (i := 3) scWB.nd rfl (Or.inl rfl) (pe_lst pa_nil))
    (Evl.pss_cut (ps_for (passes_of rfl) rfl (pi_tup (pv 0)) (pg_name (i := 2) scWB.nd rfl (Or.inl rfl))
      (Evl.pss_cut (ps_set (i := 4) scWB.nd rfl (Or.inl rfl) (pe_op op_rep (pe_lst (pa_cons pe_int pa_nil)) (pe_callB call_len_seq (by rfl) T.len PySem.boot_len (pa_cons (pe_ix ix_tup (pv 1) pe_int (fun _ _ => rfl)) pa_nil))))
      (Evl.pss_cut (ps_for (passes_of rfl) rfl (RZ.pi_zipA (by rfl) T.zip (pa_cons (pv 2) (pa_cons (pv 1) pa_nil))) (pg_tup rfl (pgs_cons (pg_name (i := 5) scWB.nd rfl (.inr rfl)) (pgs_cons (pg_name (i := 6) scWB.nd rfl (.inl rfl)) pgs_nil)))
        (pss_one (ps_if (pt_cmpR op_gt (pv 5) pe_int (nomark _))
          (pss_one (ps_setLc (i := 4) (own := [("total", 7), ("behind", 8)]) (g := gTup K 2 (gTwo 7 8)) (tt := tYes) (te := eWB) rfl scWB.nd rfl rfl (sw_true rfl rfl rfl (by decide +kernel)) (pi_zipM (by rfl) T.zip (pa_cons (pv 4) (pa_cons (pv 6) pa_nil))) (blkOk_by (N := nWB) (sc := defScope sWeightsBehind) (by decide +kernel))
            (fun _ _ _ _ _ => pg_tup rfl (pgs_cons (pg_name (i := 7) scWB.nd rfl (.inl rfl)) (pgs_cons (pg_name (i := 8) scWB.nd rfl (.inl rfl)) pgs_nil))) (fun _ _ _ _ _ => pts_nil)
            (fun _ _ _ _ _ => by exact pe_op op_add (pv 7) (pe_op op_mul (pv 5) (pv 8))))) pss_nil)))
      (pss_one (ps_expr (pe_bm PySem.F.plainAttrs_list PySem.F.slot_list_append PySem.F.type_list_append mt_append (pv 3) (pa_cons (pe_callTy call_tupL (by rfl) T.tuple (by decide +kernel) (pa_cons (pv 4) pa_nil)) pa_nil)))))))
    (pss_one (ps_ret (pe_callTy call_tupL (by rfl) T.tuple (by decide +kernel) (pa_cons (pv 3) pa_nil)))))), ?_⟩
  obtain ⟨as1, hp1, hl1, hs1⟩ := h1
  obtain ⟨as2, hp2, hl2, hs2⟩ := h2
  have n1 := ok1.n1
  have n8 := ok1.n8
  have q1 := ok2.n1
  have q8 := ok2.n8
  have m8 := ok1.m8
  have m8' := ok2.m8
  have l2 : (as2.map V.ref).length = t2.length := by rw [List.length_map, hl2]
  generalize hb0 : (!decide (V.int (m1 : Int) = V.int (t2.length : Int))) = b0
  refine ⟨fun σ H1 => m1 = t2.length ∧ σ = [some (.ref p1), some (.ref p2), none, none, none, none, none, none, none] ∧ Same H H1, ?_, ?_⟩
  · refine ⟨_, rfl, p1, rfl, ⟨_, SqT.of hp1⟩, fun D hD => ?_⟩
    refine lc_it (walk_tup (xs := as1.map V.ref)) (fun i H1 => H1 D = some (.lst ((List.replicate i b0).map V.bl)) ∧ Same H H1) ⟨upd_same, same_new hD⟩ (fun i H1 _ h => SqT.of (h.2 _ _ hp1)) ?_ ?_
    · rintro i x H2 H1 hi ⟨hD1, s1⟩ ⟨rfl, hx⟩
      rw [List.length_map] at hi
      rw [List.getElem?_map] at hx
      obtain ⟨a, ha, rfl⟩ := Option.map_eq_some_iff.mp hx
      obtain ⟨r, hr⟩ : ∃ r, t1[i]? = some r := ⟨_, List.getElem?_eq_getElem (by omega)⟩
      have hHa := hs1 i a r ha hr
      have hrm := ok1.rm r (List.mem_of_getElem? hr)
      have lr : (r.map V.int).length = m1 := by rw [List.length_map, hrm]
      refine ⟨rfl, tyes ?_⟩
      refine ⟨_, rfl, a, _, rfl, .inr (SqT.of (s1 _ _ hHa)), _, rfl, p2, _, rfl, .inr (SqT.of (s1 _ _ hp2)), rfl, _, hD1, Evl.sz_lt (by rw [List.length_map, List.length_replicate]; omega), ?_, Same.off s1 hD⟩
      rw [upd_same, lr, l2, hb0, List.replicate_succ', List.map_append]
      rfl
    · rintro H1 ⟨hD1, s1⟩
      refine ⟨D, _, rfl, SqL.of hD1, _, rfl, ?_⟩
      have ea : (List.replicate (as1.map V.ref).length b0).any id = b0 := by
        rw [List.length_map]
        have : as1.length = (as1.length - 1) + 1 := by omega
        rw [this, List.replicate_succ]
        cases b0
        · simp
        · simp
      rw [ea]
      by_cases c : m1 = t2.length
      · have : b0 = false := by
          rw [← hb0, c, decide_eq_true rfl]
          rfl
        rw [this]
        exact iteF ⟨c, rfl, s1⟩
      · have : b0 = true := by
          rw [← hb0, decide_eq_false (fun e => c (by have := V.int.inj e; omega))]
          rfl
        rw [this]
        refine iteT ⟨_, rfl, p2, _, rfl, .inr (SqT.of (s1 _ _ hp2)), by show (1 : Nat) ≤ 1000; decide, fun a ha => ?_⟩
        rw [l2]
        exact raise_bad (by omega) ha s1 fun d H' g1 g2 g3 => ke c d H' g1 g2 g3
  rintro σ H1 ⟨cm, rfl, s1⟩
  subst cm
  have row2 : ∀ (k : Nat), k < t2.length → ∃ (b : Addr) (r : List Int), as2[k]? = some b ∧ t2[k]? = some r ∧ r.length = m2 ∧ H b = some (.tup (r.map V.int)) := fun k hk => by
    obtain ⟨b, hb⟩ : ∃ b, as2[k]? = some b := ⟨_, List.getElem?_eq_getElem (by omega)⟩
    have hr := List.getElem?_eq_getElem hk
    exact ⟨b, _, hb, hr, ok2.rm _ (List.mem_of_getElem? hr), hs2 k b _ hb hr⟩
  obtain ⟨b1, r1, hb1, hr1, hrm1, hHb1⟩ := row2 0 (by omega)
  have lr1 : (r1.map V.int).length = m2 := by rw [List.length_map, hrm1]
  have pl : (prodT t1 t2 m2).length = t1.length := List.length_map _
  refine ⟨fun σ H2 => ∃ D, σ = [some (.ref p1), some (.ref p2), none, some (.ref D), none, none, none, none, none] ∧ H D = none ∧ H2 D = some (.lst []) ∧ Same H H2, ?_, ?_⟩
  · exact ⟨(by show 0 ≤ sizeLine; decide), fun D hD => ⟨D, rfl, s1.free hD, upd_same, s1.trans (same_new hD)⟩⟩
  rintro σ H2 ⟨D, rfl, hD0, hD2, s2⟩
  refine ⟨fun σ H3 => ∃ v2 v4 v5 v6 as, σ = [some (.ref p1), some (.ref p2), v2, some (.ref D), v4, v5, v6, none, none] ∧ RowsAt H3 D as (prodT t1 t2 m2) ∧ Same H H3, ?_, ?_⟩
  · refine ⟨_, rfl, p1, rfl, ⟨_, SqT.of (s2 _ _ hp1)⟩, ?_⟩
    refine for_it (walk_tup (xs := as1.map V.ref)) (fun i σ H3 => ∃ v2 v4 v5 v6 as, σ = [some (.ref p1), some (.ref p2), v2, some (.ref D), v4, v5, v6, none, none] ∧ RowsAt H3 D as ((prodT t1 t2 m2).take i) ∧ Same H H3)
      ⟨none, none, none, none, [], rfl, RowsAt.nil' hD2, s2⟩ (fun i σ H3 _ ⟨_, _, _, _, _, _, _, s⟩ => SqT.of (s _ _ hp1)) ?_ ?_
    · rintro i x σ H4 H3 hi ⟨v2, v4, v5, v6, as, rfl, R, s3⟩ ⟨rfl, hx⟩
      rw [List.length_map] at hi
      rw [List.getElem?_map] at hx
      obtain ⟨a, ha, rfl⟩ := Option.map_eq_some_iff.mp hx
      obtain ⟨r, hr⟩ : ∃ r, t1[i]? = some r := ⟨_, List.getElem?_eq_getElem (by omega)⟩
      have hHa := hs1 i a r ha hr
      have hrm := ok1.rm r (List.mem_of_getElem? hr)
      have hrs := small r (List.mem_of_getElem? hr)
      have hPi : (prodT t1 t2 m2)[i]? = some (sK r t2 m2 t2.length) := by
        unfold prodT
        rw [List.getElem?_map, hr]
        rfl
      -- sums, none yet
      refine ⟨fun σ H4 => ∃ su, σ = [some (.ref p1), some (.ref p2), some (.ref a), some (.ref D), some (.ref su), v5, v6, none, none] ∧ H4 su = some (.lst ((sK r t2 m2 0).map V.int)) ∧ RowsAt H4 D as ((prodT t1 t2 m2).take i) ∧ Same H H4, ?_, ?_⟩
      · refine ⟨(by show 1 ≤ sizeLine; decide), fun l hl => ?_⟩
        have sl := same_new (o := .lst [V.int 0]) hl
        refine ⟨_, rfl, p2, _, _, V.ref b1, rfl, rfl, SqT.of (sl _ _ (s3 _ _ hp2)), atI_nat (j := 0) (by rw [List.getElem?_map, hb1]; rfl), b1, _, rfl, .inr (SqT.of (sl _ _ (s3 _ _ hHb1))), l, _, _, rfl, rfl, upd_same, by rw [lr1]; omega, by rw [lr1]; omega, by rw [lr1]; exact Evl.sz_of (by simp; omega), fun p hp => ?_⟩
        have sp := sl.trans (same_new (o := .lst (List.replicate ((((r1.map V.int).length : Nat) : Int).toNat) [V.int 0]).flatten) hp)
        refine ⟨p, rfl, ?_, R.same sp, s3.trans sp⟩
        rw [upd_same, lr1, Int.toNat_natCast, List.flatten_replicate_singleton]
        have : sK r t2 m2 0 = List.replicate m2 0 := by
          unfold sK
          rw [List.eq_replicate_iff]
          refine ⟨by rw [List.length_map, List.length_range], fun x hx => ?_⟩
          obtain ⟨q, _, rfl⟩ := List.mem_map.mp hx
          rfl
        rw [this, List.map_replicate]
      rintro σ H4 ⟨su, rfl, hsu, R4, s4⟩
      refine ⟨fun σ H5 => ∃ su v5 v6, σ = [some (.ref p1), some (.ref p2), some (.ref a), some (.ref D), some (.ref su), v5, v6, none, none] ∧ H5 su = some (.lst ((sK r t2 m2 t2.length).map V.int)) ∧ RowsAt H5 D as ((prodT t1 t2 m2).take i) ∧ Same H H5, ?_, ?_⟩
      · refine ⟨_, rfl, _, rfl, a, p2, _, _, rfl, .inr ⟨SqT.of (s4 _ _ hHa), SqT.of (s4 _ _ hp2), ?_⟩⟩
        refine for_it (walk_zipT2 (xs := r.map V.int) (ys := as2.map V.ref) (n := t2.length) (by rw [List.length_map, List.length_map]; omega)) (fun k σ H5 => ∃ su v5 v6, σ = [some (.ref p1), some (.ref p2), some (.ref a), some (.ref D), some (.ref su), v5, v6, none, none] ∧ H5 su = some (.lst ((sK r t2 m2 k).map V.int)) ∧ RowsAt H5 D as ((prodT t1 t2 m2).take i) ∧ Same H H5)
          ⟨su, v5, v6, rfl, hsu, R4, s4⟩ (fun k σ H5 _ ⟨_, _, _, _, _, _, s⟩ => ⟨SqT.of (s _ _ hHa), SqT.of (s _ _ hp2)⟩) ?_ ?_
        · rintro k x σ H5 H6 hk ⟨su, v5, v6, rfl, hsu5, R5, s5⟩ ⟨T', x1, y1, rfl, hT, rfl, e1, e2⟩
          have e1 : (r.map V.int)[k]? = some x1 := e1
          have e2 : (as2.map V.ref)[k]? = some y1 := e2
          obtain ⟨b, r2, hb, hr2, hrm2, hHb⟩ := row2 k hk
          rw [List.getElem?_map, hb] at e2
          cases e2
          rw [List.getElem?_map] at e1
          obtain ⟨z, hz, rfl⟩ := Option.map_eq_some_iff.mp e1
          have sT : Same H5 (upd H5 T' (.tup [V.int z, V.ref b])) := same_new hT
          refine ⟨T', _, rfl, SqT.of upd_same, rfl, _, _, rfl, _, _, rfl, rfl, ?_⟩
          have hsu6 := sT _ _ hsu5
          have R6 := R5.same sT
          have s6 := s5.trans sT
          generalize upd H5 T' (.tup [V.int z, V.ref b]) = H6 at *
          have hzs := hrs z (List.mem_of_getElem? hz)
          have zk : r.getD k 0 = z := by rw [List.getD_eq_getElem?_getD, hz]; rfl
          have t2k : t2.getD k [] = r2 := by rw [List.getD_eq_getElem?_getD, hr2]; rfl
          have sl : (sK r t2 m2 k).length = m2 := by unfold sK; rw [List.length_map, List.length_range]
          have nxt : sK r t2 m2 (k + 1) = (List.range m2).map fun q => ((List.range k).map fun k => r.getD k 0 * (t2.getD k []).getD q 0).sum + z * r2.getD q 0 := by
            unfold sK
            refine List.map_congr_left fun q _ => ?_
            rw [List.range_succ, List.map_append]
            show (_ ++ [r.getD k 0 * (t2.getD k []).getD q 0]).sum = _
            rw [sum_snoc, zk, t2k]
          refine ⟨_, rfl, _, _, rfl, rfl, _, rfl, ?_⟩
          by_cases c : 0 < z
          · rw [decide_eq_true c]
            refine iteT ⟨_, rfl, _, rfl, su, b, _, _, rfl, SqL.of hsu6, SqT.of (s6 _ _ hHb), fun D2 hD2 => ?_⟩
            refine lc_it (walk_zipM (xs := (sK r t2 m2 k).map V.int) (ys := r2.map V.int) (by rw [List.length_map, List.length_map]; omega)) (fun q H7 => H7 D2 = some (.lst (((sK r t2 m2 (k + 1)).take q).map V.int)) ∧ Same H6 H7) ⟨upd_same, same_new hD2⟩ (fun q H7 _ h => ⟨SqL.of (h.2 _ _ hsu6), SqT.of (h.2 _ _ (s6 _ _ hHb))⟩) ?_ ?_
            · rintro q y H7 H8 hq ⟨hD7, s7⟩ ⟨T2, x2, y2, rfl, hT2, rfl, e3, e4⟩
              have e3 : ((sK r t2 m2 k).map V.int)[q]? = some x2 := e3
              have e4 : (r2.map V.int)[q]? = some y2 := e4
              rw [List.getElem?_map] at e3 e4
              obtain ⟨x3, hx3, rfl⟩ := Option.map_eq_some_iff.mp e3
              obtain ⟨y3, hy3, rfl⟩ := Option.map_eq_some_iff.mp e4
              obtain ⟨hqm, hx4⟩ := sK_at hx3
              have hDT : D2 ≠ T2 := ne_of_none hD7 hT2
              have s8 : Same H6 (upd H7 T2 (.tup [V.int x3, V.int y3])) := s7.trans (same_new hT2)
              have hD8 : (upd H7 T2 (.tup [V.int x3, V.int y3])) D2 = some (.lst (((sK r t2 m2 (k + 1)).take q).map V.int)) := by
                rw [upd_ne hDT]
                exact hD7
              refine ⟨T2, _, rfl, SqT.of upd_same, rfl, _, _, rfl, _, _, rfl, rfl, ?_⟩
              generalize upd H7 T2 (.tup [V.int x3, V.int y3]) = H8 at *
              refine ⟨rfl, tyes ?_⟩
              refine ⟨_, rfl, _, rfl, _, rfl, _, _, rfl, rfl, .inl ⟨by omega, by omega⟩, _, _, rfl, rfl, _, hD8, Evl.sz_lt (by rw [List.length_map, List.length_take]; omega), ?_, Same.off s8 hD2⟩
              have hy4 : r2.getD q 0 = y3 := by rw [List.getD_eq_getElem?_getD, hy3]; rfl
              have hn : (sK r t2 m2 (k + 1))[q]? = some (x3 + z * y3) := by
                rw [nxt, List.getElem?_map, List.getElem?_range hqm]
                show some (_ + z * r2.getD q 0) = _
                rw [hy4, hx4]
              rw [upd_same, List.take_add_one, hn, List.map_append]
              rfl
            · rintro H7 ⟨hD7, s7⟩
              have sl2 : (sK r t2 m2 (k + 1)).length = m2 := by unfold sK; rw [List.length_map, List.length_range]
              rw [List.length_map, sl, List.take_of_length_le (by rw [sl2]; exact Nat.le_refl _)] at hD7
              exact ⟨D2, _, _, rfl, hD7, R6.same s7, s6.trans s7⟩
          · rw [decide_eq_false c]
            refine iteF ⟨su, _, _, rfl, ?_, R6, s6⟩
            have z0 : z = 0 := by omega
            have : sK r t2 m2 (k + 1) = sK r t2 m2 k := by
              rw [nxt]
              unfold sK
              refine List.map_congr_left fun q _ => ?_
              rw [z0, Int.zero_mul, Int.add_zero]
            rw [this]
            exact hsu6
        · rintro σ H5 ⟨su, v5, v6, rfl, hsu5, R5, s5⟩
          exact ⟨su, v5, v6, rfl, hsu5, R5, s5⟩
      rintro σ H5 ⟨su, v5, v6, rfl, hsu5, R5, s5⟩
      refine ⟨_, rfl, .inl ⟨rfl, _, SqL.of R5.1⟩, _, rfl, su, _, rfl, SqL.of hsu5, fun p hp => ?_⟩
      have sp := same_new (o := .tup ((sK r t2 m2 t2.length).map V.int)) hp
      have R6 := R5.same sp
      have hl : (as.map V.ref).length ≤ 8 := by rw [R.len, List.length_take]; omega
      refine ⟨D, _, _, rfl, rfl, R6.1, Evl.sz_lt (by omega), ?_⟩
      exact ⟨some (.ref a), some (.ref su), v5, v6, as ++ [p], rfl, R6.addI hPi upd_same, Same.off (s5.trans sp) hD0⟩
    · rintro σ H3 ⟨v2, v4, v5, v6, as, rfl, R, s3⟩
      rw [List.length_map, hl1, ← pl, List.take_length] at R
      exact ⟨v2, v4, v5, v6, as, rfl, R, s3⟩
  rintro σ H3 ⟨v2, v4, v5, v6, as, rfl, R, s3⟩
  refine ⟨_, rfl, D, _, rfl, SqL.of R.1, fun p hp => ?_⟩
  have s4 := same_new (o := .tup (as.map V.ref)) hp
  exact kq rfl p _ ((R.same s4).tbl upd_same) (s3.trans s4)
end
end Nm
set_option maxRecDepth 100000
set_option maxHeartbeats 4000000
/-! repr of lists, tuples and dicts, where no repr is under way -/
namespace Nm
open PySem PySem.Spec PyProof.Rows L2
/-- a key as a datum -/
def keyD : Key → PyData
  | .inl i => .int i
  | .inr z => .str z
mutual
/-- the value shows this datum -/
inductive Sh (H : Hp) : V → PyData → Prop
  | non : Sh H .non .none
  | bl (b : Bool) : Sh H (.bl b) (.bool b)
  | int (i : Int) : Sh H (.int i) (.int i)
  | str (z : Str) : Sh H (.str z) (.str z)
  | lst {a : Addr} {xs : List V} {ds : List PyData} (e : H a = some (.lst xs)) (h : ShAll H xs ds) : Sh H (.ref a) (.list ds)
  | tup {a : Addr} {xs : List V} {ds : List PyData} (e : H a = some (.tup xs)) (h : ShAll H xs ds) : Sh H (.ref a) (.tuple ds)
inductive ShAll (H : Hp) : List V → List PyData → Prop
  | nil : ShAll H [] []
  | cons {x : V} {d : PyData} {xs : List V} {ds : List PyData} (h : Sh H x d) (t : ShAll H xs ds) : ShAll H (x :: xs) (d :: ds)
end
section
variable {H H' : Hp}
mutual
theorem Sh.ext {x : V} {d : PyData} (s : ∀ b o, H b = some o → H' b = some o) : Sh H x d → Sh H' x d
  | .non => .non
  | .bl b => .bl b
  | .int i => .int i
  | .str z => .str z
  | .lst e h => .lst (s _ _ e) (ShAll.ext s h)
  | .tup e h => .tup (s _ _ e) (ShAll.ext s h)
theorem ShAll.ext {xs : List V} {ds : List PyData} (s : ∀ b o, H b = some o → H' b = some o) : ShAll H xs ds → ShAll H' xs ds
  | .nil => .nil
  | .cons h t => .cons (Sh.ext s h) (ShAll.ext s t)
end
end
section
variable {X : Cx} {pins : List (Addr × Obj)} {σ : L2.St} {H : Hp} {s : Shared}
mutual
theorem sh_reads (I : Inv X pins σ H s) {x : V} {d : PyData} {u : Value} (r : RelV x u) : Sh H x d → ∃ as, Reads s.heap u d as
  | .non => by
    cases (show u = Value.none from r)
    exact ⟨_, .none⟩
  | .bl b => by
    cases (show u = Value.bool b from r)
    exact ⟨_, .bool b⟩
  | .int i => by
    obtain ⟨t, rfl⟩ := (show ∃ t, u = Value.int i t from r)
    exact ⟨_, .int i t⟩
  | .str z => by
    obtain ⟨t, rfl⟩ := (show ∃ t, u = Value.str z t from r)
    exact ⟨_, .str z t⟩
  | .lst (a := a) e h => by
    cases (show u = Value.ref a from r)
    obtain ⟨its, rv, p, hz⟩ := I.list (SqL.of e)
    obtain ⟨o, n, ho, hc, hd, hdat⟩ := p
    obtain ⟨as, ra⟩ := sh_readsAll I (us := its) rv h
    exact ⟨_, .list ho hc hdat (by simpa using ra)⟩
  | .tup (a := a) e h => by
    cases (show u = Value.ref a from r)
    obtain ⟨its, rv, p, hz⟩ := I.tuple (SqT.of e)
    obtain ⟨o, ho, hc, n, hdat⟩ := p
    obtain ⟨as, ra⟩ := sh_readsAll I (us := its) rv h
    exact ⟨_, .tuple ho hc hdat (by simpa using ra)⟩
theorem sh_readsAll (I : Inv X pins σ H s) {xs : List V} {ds : List PyData} {us : List Value} (r : Vals xs us) : ShAll H xs ds → ∃ as, ReadsAll s.heap us ds as
  | .nil => by
    cases r
    exact ⟨_, .nil⟩
  | .cons h t => by
    cases r with
    | cons r1 r2 =>
      obtain ⟨as, ra⟩ := sh_reads I r1 h
      obtain ⟨bs, rb⟩ := sh_readsAll I r2 t
      exact ⟨_, .cons ra rb⟩
end
/-- repr(x) of a list or a tuple: the text that shows it -/
def rRepr : List V → Hp → VK → Prop := fun xs H Q => ∃ (a : Addr) (d : PyData), xs = [.ref a] ∧ Sh H (.ref a) d ∧ d.showable = true ∧ d.hasDict = false ∧ d.depth ≤ 50 ∧ d.shown.length ≤ sizeLine ∧ Q (.str d.shown) H
theorem call_repr (hg : X.A.guards = some []) (hu : X.A.units + 64 < cLine) : CallR X (.builtin "repr") rRepr := by
  intro pins s σ H xs us Q I r h
  obtain ⟨a, d, rfl, hs, h1, h2, h3, h4, q⟩ := h
  obtain ⟨u, rfl, ru⟩ := vals1 r
  obtain ⟨as, hr⟩ := sh_reads I ru hs
  obtain rfl : u = Value.ref a := ru
  exact repr_of_reads' hr h1 (fun z => by rw [h2] at z; cases z) hg (by omega) (fun _ _ e => e) (fun h' u tk k => ⟨.str d.shown, H, I.kept (t' := tk) k, ⟨u, rfl⟩, q⟩) h4
end
end Nm
set_option maxRecDepth 100000
set_option maxHeartbeats 4000000
/-! the end of a law whose promise is told at the caller alone (so that no repr is under way) -/
namespace Nm
open PySem PySem.Spec PyProof.Rows L2 LamX
/-- the promise at the caller -/
def RunC (P : Program) (w : World) (K : PySem.W.Frag) (mg : Str → Option Value) (base : Heap) (CX : CXT) (fa : Addr) (fd : FuncData) (x : Str) (sp : Sp) : Prop :=
  ∀ (s : Shared) (H : Hp) (u : Value) (v : V) (Q : VK) (E : XK), Env0 P w K mg base callerA [] s H → BindsTo s fd ⟨[u], []⟩ [(x, u)] → RelV v u → sp [v] H Q E → codeAny (model P w) callerA (.call (.ref fa) ⟨[u], []⟩) (CR CX [] P w H s Q E) s
/-- the heap at the law's call: the tables, and the script where it is not written -/
def hpL (K : PySem.W.Frag) (cs : List (Addr × Addr)) (a : Addr) (vs : List Value) (ns : List Int) : Hp := fun b =>
  if b ∈ cs.map (·.2) then some (.tbl #[]) else if b = a ∧ K.lookup a = none then some (.frz { cls := .type "list", data := .seq vs.toArray } (.lst (ns.map V.int))) else none
section
variable {P : Program} {w : World} {K : PySem.W.Frag} {mg mb : Str → Option Value} {CX : CXT} {fa a : Addr} {cs : List (Addr × Addr)} {fd : FuncData} {x : Str} {sp : Sp} {s : Shared} {vs : List Value} {ns : List Int}
theorem hpL_tab {b : Addr} (h : b ∈ cs.map (·.2)) : hpL K cs a vs ns b = some (.tbl #[]) := if_pos h
theorem hpL_or (b : Addr) : hpL K cs a vs ns b = none ∨ (b ∈ cs.map (·.2) ∧ hpL K cs a vs ns b = some (.tbl #[])) ∨ (b ∉ cs.map (·.2) ∧ b = a ∧ K.lookup a = none ∧ hpL K cs a vs ns b = some (.frz { cls := .type "list", data := .seq vs.toArray } (.lst (ns.map V.int)))) := by
  by_cases h1 : b ∈ cs.map (·.2)
  · exact .inr (.inl ⟨h1, if_pos h1⟩)
  · by_cases h2 : b = a ∧ K.lookup a = none
    · exact .inr (.inr ⟨h1, h2.1, h2.2, (if_neg h1).trans (if_pos h2)⟩)
    · exact .inl ((if_neg h1).trans (if_neg h2))
theorem law_callG (KX : K.In s.heap) (hns : s.heap.Ns mainGlobals mg) (hb : s.heap.Ns builtinsNs mb) (hbb : ∀ x : Str, x ≠ "__name__" → mb x = bootBuiltins x) (hlim : s.heap.NoLimit) (hg : s.gens = #[])
    (hT : ∀ p ∈ cs, s.heap.get? p.2 = some { cls := .none, data := .fields #[] }) (nT : ∀ p ∈ cs, K.lookup p.2 = none) (C : ∀ p ∈ cs, PySem.W.CodeHd s.heap p.1 p.2)
    (hbm : ∃ (bm : Addr) (ob : Obj), mg "__builtins__" = some (.ref bm) ∧ bm ≠ builtinsNs ∧ s.heap.get? bm = some ob ∧ ob.cls = .type "module" ∧ ob.dict = some builtinsNs ∧ ob.data = .plain)
    (ha : s.heap.get? a = some { cls := .type "list", data := .seq vs.toArray }) (hi : IntsAre vs ns) (hl : ns.length ≤ sizeLine)
    (F : ∀ base : Heap, K.In base → base.Ns mainGlobals mg → (∀ p ∈ cs, TabB base mg p.1 p.2) → RunC P w K mg base CX fa fd x sp) (hbind : ∀ (s : Shared) (u : Value), BindsTo s fd ⟨[u], []⟩ [(x, u)])
    (hsp : ∀ H : Hp, (∀ p ∈ cs, H p.2 = some (.tbl #[])) → SqL K H a (ns.map V.int) → sp [.ref a] H (fun v _ => v = .bl true) fun _ _ _ => False)
    (hCX : ∀ H e s', CX [] H s (fun _ _ _ => False) e s' → False) :
    codeAny (model P w) callerA (.call (.ref fa) ⟨[.ref a], []⟩) (fun r s' => r = .ok (.ret (.bool true)) ∧ OldK s.heap s'.heap ∧ s'.os = s.os ∧ AllBare s'.gens) s := by
  have rv := vals_ints hi
  have tabAt : ∀ {b : Addr}, b ∈ cs.map (·.2) → s.heap.get? b = some { cls := .none, data := .fields #[] } ∧ K.lookup b = none := fun {b} hb => by
    obtain ⟨p, hp, rfl⟩ := List.mem_map.mp hb
    exact ⟨hT p hp, nT p hp⟩
  have inT : ∀ p ∈ cs, p.2 ∈ cs.map (·.2) := fun p hp => List.mem_map.mpr ⟨p, hp, rfl⟩
  generalize hH : hpL K cs a vs ns = H
  have orH : ∀ b, H b = none ∨ (b ∈ cs.map (·.2) ∧ H b = some (.tbl #[])) ∨ (b ∉ cs.map (·.2) ∧ b = a ∧ K.lookup a = none ∧ H b = some (.frz { cls := .type "list", data := .seq vs.toArray } (.lst (ns.map V.int)))) := by
    rw [← hH]
    exact hpL_or
  have tabH : ∀ p ∈ cs, H p.2 = some (.tbl #[]) := fun p hp => by
    rw [← hH]
    exact hpL_tab (inT p hp)
  -- what is tracked is no dict and nothing that is written
  have free : ∀ {b : Addr} {o : Obj}, s.heap.get? b = some o → (∀ vs n, o.data ≠ .seq vs n) → o.data ≠ .fields #[] → H b = none := fun {b o} e n1 n2 => by
    rcases orH b with z | ⟨z, _⟩ | ⟨_, z, _, _⟩
    · exact z
    · rw [(tabAt z).1] at e
      cases e
      exact absurd rfl n2
    · rw [z, ha] at e
      cases e
      exact absurd rfl (n1 _ _)
  have freeD : ∀ {b : Addr} {o : Obj} {es : Array DictEntry} {ep : Nat}, s.heap.get? b = some o → o.data = .dict es ep → H b = none := fun e q => free e (fun _ _ z => by rw [q] at z; cases z) fun z => by rw [q] at z; cases z
  have freeK : ∀ {b : Addr} {o : Obj}, K.lookup b = some o → H b = none := fun {b o} e => by
    rcases orH b with z | ⟨z, _⟩ | ⟨_, z, z2, _⟩
    · exact z
    · rw [(tabAt z).2] at e
      cases e
    · rw [z, z2] at e
      cases e
  have under : ∀ {b : Addr} {o : Obj}, s.heap.get? b = some o → H b = none → (hidT s.heap H).get? b = some o := fun e n => hidT_get e n
  have nsU : ∀ {b : Addr} {m : Str → Option Value}, s.heap.Ns b m → (hidT s.heap H).Ns b m := fun {b m} ⟨o, es, ep, e, q, r⟩ => ⟨o, es, ep, under e (freeD e q), q, r⟩
  have KU : K.In (hidT s.heap H) := fun b o e => under (KX b o e) (freeK e)
  have ok : HOk P w H s.heap := fun b o z => by
    rcases orH b with q | ⟨q, q'⟩ | ⟨_, q, _, q'⟩
    · rw [q] at z
      cases z
    · rw [q'] at z
      cases z
      exact (tabAt q).1
    · rw [q'] at z
      cases z
      subst q
      exact ⟨ha, by rw [List.length_map]; exact hl, vs, _, rv, ha⟩
  have sq : SqL K H a (ns.map V.int) := by
    cases hk : K.lookup a with
    | some o =>
      have e := KX a o hk
      rw [ha] at e
      cases e
      exact .inr ⟨_, vs.toArray, _, hk, rfl, rfl, rfl, by rw [List.size_toArray, hi.length]; exact hl, by simpa using rv⟩
    | none =>
      refine .inl (.inr ⟨{ cls := .type "list", data := .seq vs.toArray }, ?_⟩)
      rcases orH a with z | ⟨z, _⟩ | ⟨_, _, _, z⟩
      · rw [← hH] at z
        unfold hpL at z
        split at z
        · cases z
        · rw [if_pos ⟨rfl, hk⟩] at z
          cases z
      · have := (tabAt z).1
        rw [ha] at this
        cases this
      · exact z
  have mod : L2.Mod K mg (hidT s.heap H) := ⟨KU, nsU hns, ⟨mb, nsU hb, hbb⟩, let ⟨mc, h1, h2⟩ := hlim; ⟨mc, nsU h1, h2⟩⟩
  have TB : ∀ p ∈ cs, TabB (hidT s.heap H) mg p.1 p.2 := fun p hp => by
    obtain ⟨oG, esG, epG, eG, dG, _⟩ := id hns
    refine ⟨?_, ?_, fun z => ?_⟩
    · obtain ⟨o, us, file, tf, flags, tg, inF, text, tt, e1, r1, r2, r3, r⟩ := C p hp
      refine ⟨o, us, file, tf, flags, tg, inF, text, tt, under e1 (free e1 (fun _ _ z => by rw [r2] at z; cases z) fun z => ?_), r1, r2, r3, r⟩
      rw [r2] at z
      cases z
      simp at r3
    · obtain ⟨bm, ob, b1, b2, b3, b4, b5, b6⟩ := hbm
      refine ⟨bm, ob, b1, b2, fun q => ?_, fun q => ?_, under b3 (free b3 (fun _ _ z => by rw [b6] at z; cases z) fun z => by rw [b6] at z; cases z), b4, b5, b6⟩
      · rw [q, eG] at b3
        cases b3
        rw [dG] at b6
        cases b6
      · rw [q, hT p hp] at b3
        cases b3
        cases b6
    · rw [z, hT p hp] at eG
      cases eG
      cases dG
  have e0 : Env0 P w K mg (hidT s.heap H) callerA [] s H := ⟨rfl, mod, fun b o e => of_hidT e, Nat.le_of_eq (hidT_size _ _), trivial, fun b z => absurd (show b ∈ ([] : List Addr) from z) (by simp), ok, .of_eq hg⟩
  refine codeAny_mono (F _ KU (nsU hns) TB s H (.ref a) (.ref a) _ _ e0 (hbind s (.ref a)) rfl (hsp H tabH sq)) fun r s' h => ?_
  cases r with
  | error e => exact (hCX H e s' h).elim
  | ok fl =>
    cases fl with
    | next => exact False.elim h
    | brk => exact False.elim h
    | cont => exact False.elim h
    | ret u =>
      obtain ⟨v, H', os, bare, un, ok', r', q⟩ := h
      obtain rfl : v = .bl true := q
      obtain rfl : u = Value.bool true := r'
      have grown : ∀ p ∈ cs, ∃ more : Array Value, s'.heap.get? p.2 = some { cls := .none, data := .fields more } := fun p hp => by
        obtain ⟨more, z⟩ := un.tbls p.2 #[] (tabH p hp)
        exact ⟨_, ok' p.2 _ z⟩
      have rest : ∀ b o, b ∉ cs.map (·.2) → s.heap.get? b = some o → s'.heap.get? b = some o := fun b o nb e => by
        rcases orH b with z | ⟨z, _⟩ | ⟨_, _, _, z⟩
        · exact un.keep b o e z (by intro y; exact absurd (show b ∈ ([] : List Addr) from y) (by simp)) (by simp)
        · exact absurd z nb
        · obtain ⟨e1, _⟩ := ok b _ z
          obtain ⟨e2, _⟩ := ok' b _ (un.frzs b _ _ z)
          rw [e] at e1
          cases e1
          exact e2
      refine ⟨rfl, ⟨fun b o e => ?_, fun b o e => ?_⟩, os, bare⟩
      · by_cases hm : b ∈ cs.map (·.2)
        · obtain ⟨p, hp, rfl⟩ := List.mem_map.mp hm
          obtain ⟨more, hq⟩ := grown p hp
          rw [hT p hp] at e
          cases e
          exact .inr (.inl ⟨((C p hp).tab (hT p hp)).isCodeTable, rfl, #[], more, rfl, by rw [Array.empty_append]; exact hq⟩)
        · exact .inl (rest b o hm e)
      · by_cases hm : b ∈ cs.map (·.2)
        · obtain ⟨p, hp, rfl⟩ := List.mem_map.mp hm
          obtain ⟨more, hq⟩ := grown p hp
          exact ⟨_, hq⟩
        · exact ⟨o, rest b o hm e⟩
end
/-- what is known of the law's promise at the head's heap h, told at the caller -/
def LawAtG (l : PySem.W.OpenLaw) (w : World) (K : PySem.W.Frag) (CX : CXT) (n : Nat) (x : Str) (mg : Str → Option Value) (fa : Addr) (h : Heap) : Prop :=
  ∃ (fd : FuncData) (cs : List (Addr × Addr)) (sp : Sp), (∀ p ∈ cs, h.get? p.2 = some { cls := .none, data := .fields #[] }) ∧ (∀ p ∈ cs, K.lookup p.2 = none) ∧ (∀ p ∈ cs, PySem.W.CodeHd h p.1 p.2) ∧ (∀ (s : Shared) (u : Value), BindsTo s fd ⟨[u], []⟩ [(x, u)]) ∧
    (∀ (H : Hp) (a : Addr) (ns : List Int), ns.length ≤ n → (∀ p ∈ cs, H p.2 = some (.tbl #[])) → SqL K H a (ns.map V.int) → sp [.ref a] H (fun v _ => v = .bl true) fun _ _ _ => False) ∧
    ∀ base : Heap, K.In base → base.Ns mainGlobals mg → (∀ p ∈ cs, TabB base mg p.1 p.2) → RunC l.prog w K mg base CX fa fd x sp
theorem walk_G {l : PySem.W.OpenLaw} {n : Nat} {q : Program} {loose : List Str} {XP : (Str → Option Value) → Heap → Prop} {YP : World → Heap → Prop} {d : DefRec} {K : Params → PySem.W.Frag} {CX : World → CXT} {x : Str}
    (hn : l.most = some n) (hn2 : n ≤ sizeLine) (hdf : d.params.defaults = []) (hrec : ((recsOf q).any fun e => e.name == d.name) = true) (hY : ∀ (w : World) (h : Heap), YP w h → (K w.params).In h)
    (F : ∀ (w : World) (mg : Str → Option Value) (fa : Addr) (h : Heap), YP w h → (K w.params).In h → h.Ns mainGlobals mg → mg d.name = some (.ref fa) → OwnTab (K w.params) fa h → LawAtG l w (K w.params) (CX w) n x mg fa h)
    (hCX : ∀ (w : World) (H : Hp) (s : Shared) (e : Value) (s' : Shared), CX w [] H s (fun _ _ _ => False) e s' → False) :
    PySem.W.WalkO q loose XP YP l.row.toRowW d [] (fun f vs => PySem.call f vs) := by
  refine Att.attach_callB hn hdf fun w s₀ s₁ mg mb fa o pm cd doc a vs ns G Y ho hd hcd hmg hobj hints hlen _ hg => ?_
  have KX := hY w _ Y
  have own : OwnTab (K w.params) fa s₁.heap := fun c T o1 fd1 e dd us sl q1 q2 q3 q4 q5 => by
    obtain ⟨dL, hm, hnm⟩ := List.any_eq_true.mp hrec
    obtain ⟨fa', of, fdf, cf, Tf, p1, p2, p3, p4, _, p6⟩ := G.T.tab dL hm
    rw [beq_iff_eq.mp hnm, hmg] at p1
    cases p1
    have there := KX _ _ q1
    rw [there] at p2
    cases p2
    rw [q2] at p3
    cases p3
    rw [q3] at p4
    cases p4
    obtain ⟨⟨oc, ws, f1, _, f3, f4⟩, fT⟩ := p6
    have code := KX _ _ q4
    rw [code] at f1
    cases f1
    cases f3
    rw [q5] at f4
    cases f4
    exact fT
  obtain ⟨fd, cs, sp, hT, nT, C, hb, hsp, hF⟩ := F w mg fa _ Y KX G.T.g hmg own
  exact law_callG KX G.T.g G.T.b G.T.builtins G.T.nolimit hg hT nT C G.T.bmain hobj hints (Nat.le_trans hlen hn2) hF hb (fun H hH hS => hsp H a ns hlen hH hS) fun H e s' => hCX w H s₁ e s'
/-- a def's promise at the caller, from its body there -/
theorem runC_of {P : Program} {w : World} {K : PySem.W.Frag} {mg : Str → Option Value} {base : Heap} {CX : CXT} {f : Addr} {fd : FuncData} {x : Str} {st : Stmt} {qual : Str} {N : List Str} {sp : Sp} {nm : Str} (F : Fun K nm qual st f fd) (S : FnScope N [x] (defScope st))
    (hbody : ∀ (cdv : Value) (s : Shared) (H : Hp) (v : V) (Q : VK) (E : XK), (∃ oc od kV doc pm an ct osl, K.lookup f = some ⟨oc, od, .func (PySem.W.fnOf nm qual (defArgs st) (defBody st) (defScope st) .none kV doc pm an cdv ct), osl⟩) → sp [v] H Q E →
      ∃ t, PSs (cxOf CX P w K mg base N qual (defScope st) f cdv callerA [] s H E) (defBody st) t ∧ t { nx := fun _ H' => Q .non H', rt := Q } (start N [v]) H) : RunC P w K mg base CX f fd x sp := by
  obtain ⟨oc, od, kV, doc, pm, an, cdv, ct, osl, rfl, lk, hcd⟩ := F.ex
  intro s H u v Q E e0 hb r hsp
  have hr : Room 1 callerA := ⟨rfl, by decide +kernel, by decide +kernel⟩
  exact run_ofS (k := 0) (ps := [x]) (us := [u]) (vs := [v]) lk hcd S hr e0 hb (.cons r .nil) rfl fun _ => hbody cdv s H v Q E ⟨oc, od, kV, doc, pm, an, ct, osl, lk⟩ hsp
end Nm
set_option maxRecDepth 100000
set_option maxHeartbeats 4000000
/-! _law_caught(lambda: ..) -/
namespace Nm
open PySem PySem.Spec PyProof.Rows L2 LamX
/-- what a refusal is told as -/
def badV (n : Nat) : List V := [V.str "BadNumber", V.str ((toString (n : Int) : String) : Str)]
/-- told: try: return ask() / except BadNumber as e: return ["BadNumber", repr(e.number)] -/
def TCaught (K : PySem.W.Frag) (CB : Addr) : (XK → Hp → VK → Prop) → Hp → VK → Prop := fun tl H Q =>
  tl (fun cls d H' => ∃ b, PySem.W.exmOne K cls (.ref CB) = some b ∧ (b = true → cls = .ref CB ∧ ∃ (n : Nat) (dd : Addr), d = some dd ∧ H' dd = some (.xd [("number", .int (n : Int))]) ∧ n ≤ 100000 ∧ ∀ r, H' r = none → Q (.ref r) (upd H' r (.lst (badV n)))) ∧ (b = false → False)) H Q
abbrev nCt : List Str := ["_law_ask", "e"]
theorem scCt : FnScope nCt ["_law_ask"] (defScope sCaught) := ⟨rfl, rfl, rfl, by decide +kernel, rfl, by decide +kernel, by decide +kernel⟩
theorem takes_len {X : Cx} {W : WX} (t : Takes X W) : Takes X (fun cls d σ H => σ.length = X.N.length → W cls d σ H) := fun u s' ⟨a, B, sI, pins, σ, H, cls, d, e, I, nb, up, sky, na, os, ag, w⟩ => t u s' ⟨a, B, sI, pins, σ, H, cls, d, e, I, nb, up, sky, na, os, ag, w I.len⟩
theorem caught_gives {X : Cx} {g CB : Addr} {cdg : Value} {q : Str} (xf : XfC X.K CB) (nNu : PySem.W.findIn X.K (.ref CB) "number" = some none) (mB : X.mg "BadNumber" = some (.ref CB)) (mr : X.mg "repr" = none) :
    GivesTo X nCt "_law_caught" (defScope sCaught) g cdg (defBody sCaught) "_law_ask" q (TCaught X.K CB) := by
  intro f c' s H Q tl act hc h
  refine ⟨_, pss_one (ps_try_as (X := (cxOf C8.CX0 X.prog X.w X.K X.mg X.base nCt "_law_caught" (defScope sCaught) g cdg X.A X.stack s H C8.E0).nox) (c := .ref CB) (i := 1)
      (tb := fun W D σ H => ∃ Ech : XK, (∀ cls d σ' H', Ech cls d H' → σ'.length = 2 → W cls d σ' H') ∧ σ[0]? = some (some (.ref f)) ∧ H c' = some (CodeO c' q) ∧ tl Ech H D.rt)
      rfl rfl scCt.nd rfl rfl ⟨rfl, by decide, .inl mB⟩ takes0 (fun W pn xe tk _ => ?_) (fun a oe cls d pn hz hf => pss_one (ps_ret (pe_lst (pa_cons pe_str (pa_cons (pe_callB SkE.call_repr_int (by rfl) mr (by decide +kernel) (pa_cons (pe_xf (C := CB) xf nNu hz hf (pv 1)) pa_nil)) pa_nil)))))), ?_⟩
  · refine ⟨fun pins s' σ H' D I h' => ?_⟩
    obtain ⟨Ech, hW, h1, h2, h3⟩ := h'
    exact (pss_one (ps_ret (act (fun cls d σ H => σ.length = 2 → W cls d σ H) pn xe Ech _ _ (takes_len tk) hW))).run pins s' σ H' D I ⟨h1, h2, h3⟩
  · refine ⟨fun cls d H' => ∃ b, PySem.W.exmOne X.K cls (.ref CB) = some b ∧ (b = true → cls = .ref CB ∧ ∃ (n : Nat) (dd : Addr), d = some dd ∧ H' dd = some (.xd [("number", .int (n : Int))]) ∧ n ≤ 100000 ∧ ∀ r, H' r = none → Q (.ref r) (upd H' r (.lst (badV n)))) ∧ (b = false → False), fun cls d σ' H' ⟨b, e1, e2, e3⟩ hlen => ⟨b, e1, fun hb a ha => ?_, fun hb => e3 hb⟩, rfl, hc, h⟩
    obtain ⟨rfl, n, dd, rfl, hx, hn, k⟩ := e2 hb
    exact ⟨_, by rw [List.getElem?_set_self (by omega)], rfl, rfl, dd, _, _, rfl, hx, rfl, (n : Int), rfl, num_log hn, by show (2 : Nat) ≤ sizeLine; decide, fun r hr0 => k r hr0⟩
end Nm
set_option maxRecDepth 100000
set_option maxHeartbeats 4000000
/-! the text of a table -/
namespace Nm
open PySem PySem.Spec PyProof.Rows L2
def dRow (r : List Int) : PyData := .tuple (dInt r)
def dTab (tb : List (List Int)) : PyData := .tuple (tb.map dRow)
theorem int_short {i : Int} (h : i.natAbs.log2 < 1000) : (PyData.shown (.int i)).length ≤ 1010 := by
  have e := PySem.int_text_length_le (a := i) (k := 1000) (by decide) h
  show (Str.ofString (toString i)).length ≤ 1010
  rw [PySem.ofString_length]
  omega
theorem small_log {x : Int} (h0 : 0 ≤ x) (h : x ≤ 1000000) : x.natAbs.log2 < 1000 := by
  have h1 : x.natAbs ≤ 1000000 := by omega
  by_cases z : x.natAbs = 0
  · rw [z]
    decide
  · exact (Nat.log2_lt z).mpr (Nat.lt_of_le_of_lt h1 (by decide +kernel))
theorem ints_sh {H : Hp} : ∀ (l : List Int), ShAll H (l.map V.int) (dInt l)
  | [] => .nil
  | x :: l => .cons (.int _) (ints_sh l)
theorem ints_all : ∀ {l : List Int}, (∀ x ∈ l, 0 ≤ x ∧ x ≤ 1000000) → PyData.showableAll (dInt l) = true ∧ PyData.hasDictAll (dInt l) = false ∧ PyData.depthAll (dInt l) ≤ 5 ∧ PyData.leavesShortAll 1010 (dInt l) = true ∧ PyData.bulkAll (dInt l) ≤ 2 * l.length
  | [], _ => ⟨rfl, rfl, by simp [dInt, PyData.depthAll], rfl, by simp [dInt, PyData.bulkAll]⟩
  | x :: l, h => by
    obtain ⟨a1, a2, a3, a4, a5⟩ := ints_all (l := l) fun y hy => h y (List.mem_cons_of_mem _ hy)
    have hx := small_log (h x List.mem_cons_self).1 (h x List.mem_cons_self).2
    have e : dInt (x :: l) = PyData.int x :: dInt l := rfl
    have b1 : PyData.showable (.int x) = true := decide_eq_true (show x.natAbs.log2 < 1920 by omega)
    have b4 : PyData.leavesShort 1010 (.int x) = true := decide_eq_true (int_short hx)
    rw [e]
    refine ⟨?_, ?_, ?_, ?_, ?_⟩
    · simp only [PyData.showableAll, b1, a1, Bool.and_self]
    · simp only [PyData.hasDictAll, a2, Bool.or_false]
      rfl
    · simp only [PyData.depthAll]
      have : PyData.depth (.int x) ≤ 5 := by simp [PyData.depth]
      omega
    · simp only [PyData.leavesShortAll, b4, a4, Bool.and_self]
    · simp only [PyData.bulkAll, List.length_cons]
      have : PyData.bulk (.int x) ≤ 1 := by simp [PyData.bulk]
      omega
theorem rows_sh {H : Hp} : ∀ {ts : List Addr} {tb : List (List Int)}, ts.length = tb.length → (∀ (k : Nat) (a : Addr) (r : List Int), ts[k]? = some a → tb[k]? = some r → H a = some (.tup (r.map V.int))) → ShAll H (ts.map V.ref) (tb.map dRow)
  | [], [], _, _ => .nil
  | a :: ts, r :: tb, hl, h => .cons (.tup (h 0 a r rfl rfl) (ints_sh r)) (rows_sh (by simpa using hl) fun k a r h1 h2 => h (k + 1) a r h1 h2)
  | [], _ :: _, hl, _ => by simp at hl
  | _ :: _, [], hl, _ => by simp at hl
theorem tab_sh {H : Hp} {t : Addr} {tb : List (List Int)} (h : TblAt H t tb) : Sh H (.ref t) (dTab tb) := by
  obtain ⟨ts, h1, h2, h3⟩ := h
  exact .tup h1 (rows_sh h2 h3)
theorem rows_all : ∀ {tb : List (List Int)}, (∀ r ∈ tb, r.length ≤ 8 ∧ ∀ x ∈ r, 0 ≤ x ∧ x ≤ 1000000) → PyData.showableAll (tb.map dRow) = true ∧ PyData.hasDictAll (tb.map dRow) = false ∧ PyData.depthAll (tb.map dRow) ≤ 6 ∧ PyData.leavesShortAll 1010 (tb.map dRow) = true ∧ PyData.bulkAll (tb.map dRow) ≤ 20 * tb.length
  | [], _ => ⟨rfl, rfl, by simp [PyData.depthAll], rfl, by simp [PyData.bulkAll]⟩
  | r :: tb, h => by
    obtain ⟨a1, a2, a3, a4, a5⟩ := rows_all (tb := tb) fun y hy => h y (List.mem_cons_of_mem _ hy)
    obtain ⟨rl, rx⟩ := h r List.mem_cons_self
    obtain ⟨c1, c2, c3, c4, c5⟩ := ints_all rx
    have e : (r :: tb).map dRow = PyData.tuple (dInt r) :: tb.map dRow := rfl
    rw [e]
    refine ⟨?_, ?_, ?_, ?_, ?_⟩
    · simp only [PyData.showableAll, PyData.showable, c1, a1, Bool.and_self]
    · simp only [PyData.hasDictAll, PyData.hasDict, c2, a2, Bool.or_self]
    · simp only [PyData.depthAll, PyData.depth]
      omega
    · simp only [PyData.leavesShortAll, PyData.leavesShort, c4, a4, Bool.and_self]
    · simp only [PyData.bulkAll, PyData.bulk, List.length_cons]
      omega
theorem tab_ok {tb : List (List Int)} (n8 : tb.length ≤ 8) (h : ∀ r ∈ tb, r.length ≤ 8 ∧ ∀ x ∈ r, 0 ≤ x ∧ x ≤ 1000000) : (dTab tb).showable = true ∧ (dTab tb).hasDict = false ∧ (dTab tb).depth ≤ 50 ∧ (dTab tb).shown.length ≤ sizeLine := by
  obtain ⟨a1, a2, a3, a4, a5⟩ := rows_all h
  unfold dTab
  refine ⟨by simpa only [PyData.showable] using a1, by simpa only [PyData.hasDict] using a2, ?_, ?_⟩
  · simp only [PyData.depth]
    omega
  · have h3 := PyData.shown_le_bulk 1010 (by decide) (PyData.tuple (tb.map dRow)) (by simpa only [PyData.leavesShort] using a4)
    have h4 : (PyData.tuple (tb.map dRow)).bulk ≤ 2000 := by
      simp only [PyData.bulk]
      omega
    have h5 : (1010 + 2) * (PyData.tuple (tb.map dRow)).bulk ≤ 1012 * 2000 := Nat.mul_le_mul_left _ h4
    rw [sizeLine_eq]
    omega
end Nm
set_option maxRecDepth 100000
set_option maxHeartbeats 4000000
/-! the law's tables -/
namespace Nm
open PySem L2
theorem mul_ok {tb : List (List Int)} {m : Nat} {c : Int} (ok : TblOk tb m) : TblOk (mulT tb c) m := by
  refine ⟨fun r hr => ?_, ?_, ?_, ok.m8⟩
  · obtain ⟨r0, h0, rfl⟩ := List.mem_map.mp hr
    rw [List.length_map]
    exact ok.rm r0 h0
  · unfold mulT
    rw [List.length_map]
    exact ok.n1
  · unfold mulT
    rw [List.length_map]
    exact ok.n8
theorem zip_self {α β : Type} (f : α → α → β) (g : α → α) : ∀ l : List α, List.zipWith f l (l.map g) = l.map fun x => f x (g x)
  | [] => rfl
  | x :: l => by
    show f x (g x) :: List.zipWith f l (l.map g) = _
    rw [zip_self f g l]
    rfl
theorem sum_mul (tb : List (List Int)) (c : Int) : sumT tb (mulT tb c) = mulT tb (1 + c) := by
  unfold sumT mulT
  rw [zip_self]
  refine List.map_congr_left fun r _ => ?_
  unfold sumR
  rw [zip_self]
  refine List.map_congr_left fun x _ => ?_
  rw [Int.mul_add, Int.mul_one]
theorem mul_small {tb : List (List Int)} {c b : Int} (h : ∀ r ∈ tb, ∀ x ∈ r, 0 ≤ x ∧ x ≤ b) (c0 : 0 ≤ c) : ∀ r ∈ mulT tb c, ∀ x ∈ r, 0 ≤ x ∧ x ≤ b * c := fun r hr x hx => by
  obtain ⟨r0, h0, rfl⟩ := List.mem_map.mp hr
  obtain ⟨y, hy, rfl⟩ := List.mem_map.mp hx
  obtain ⟨h1, h2⟩ := h r0 h0 y hy
  exact ⟨Int.mul_nonneg h1 c0, Int.mul_le_mul_of_nonneg_right h2 c0⟩
theorem bb_1 {a b : List Nat} : ∀ r ∈ bbT a b, ∀ x ∈ r, 0 ≤ x ∧ x ≤ 1 := fun r hr x hx => by
  obtain ⟨p, _, rfl⟩ := List.mem_map.mp hr
  obtain ⟨q, _, rfl⟩ := List.mem_map.mp hx
  split <;> decide
theorem one_bb {a b : List Nat} {v : Int} (v1 : 1 ≤ v) (v1000 : v ≤ 1000) (h : ∃ x, x ∈ a ∧ x ∈ b) : OneV (mulT (bbT a b) v) v := by
  refine ⟨v1, v1000, fun r hr x hx => ?_, ?_⟩
  · obtain ⟨r0, h0, rfl⟩ := List.mem_map.mp hr
    obtain ⟨y, hy, rfl⟩ := List.mem_map.mp hx
    obtain ⟨p, _, rfl⟩ := List.mem_map.mp h0
    obtain ⟨q, _, rfl⟩ := List.mem_map.mp hy
    by_cases c : p = q
    · right
      rw [if_pos c, Int.one_mul]
    · left
      rw [if_neg c, Int.zero_mul]
  · obtain ⟨x, ha, hb⟩ := h
    refine ⟨(b.map fun q => if x = q then (1 : Int) else 0).map fun y => y * v, List.mem_map.mpr ⟨_, List.mem_map.mpr ⟨x, ha, rfl⟩, rfl⟩, List.mem_map.mpr ⟨1, List.mem_map.mpr ⟨x, hb, if_pos rfl⟩, Int.one_mul v⟩⟩
theorem gcdL_one {v : Int} : ∀ (r : List Int) (g : Nat), (∀ x ∈ r, x = 0 ∨ x = v) → (g = 0 ∨ g = v.natAbs) → gcdL r g = if v ∈ r then v.natAbs else g
  | [], g, _, _ => rfl
  | x :: r, g, h, hg => by
    have h2 := fun y hy => h y (List.mem_cons_of_mem x hy)
    have step : gcdL (x :: r) g = gcdL r (Nat.gcd g x.natAbs) := rfl
    rw [step]
    rcases h x List.mem_cons_self with rfl | rfl
    · have e : Nat.gcd g (0 : Int).natAbs = g := Nat.gcd_zero_right g
      rw [e, gcdL_one r g h2 hg]
      by_cases c : v ∈ r
      · rw [if_pos c, if_pos (List.mem_cons_of_mem _ c)]
      · rw [if_neg c]
        by_cases c2 : v = 0
        · rw [if_pos (by rw [c2]; exact List.mem_cons_self)]
          rw [c2] at hg ⊢
          rcases hg with e | e <;> rw [e] <;> rfl
        · rw [if_neg (fun z => (List.mem_cons.mp z).elim c2 c)]
    · have e : Nat.gcd g x.natAbs = x.natAbs := by
        rcases hg with rfl | rfl
        · exact Nat.gcd_zero_left _
        · exact Nat.gcd_self _
      rw [e, gcdL_one r x.natAbs h2 (.inr rfl), if_pos List.mem_cons_self, ite_self]
theorem gcdT_one {v : Int} : ∀ (tb : List (List Int)) (g : Nat), (∀ r ∈ tb, ∀ x ∈ r, x = 0 ∨ x = v) → (g = 0 ∨ g = v.natAbs) → (gcdT tb g = if (∃ r ∈ tb, v ∈ r) then v.natAbs else g)
  | [], g, _, _ => by
    show g = _
    rw [if_neg (by rintro ⟨r, hr, _⟩; exact List.not_mem_nil hr)]
  | r :: tb, g, h, hg => by
    have h2 := fun y hy => h y (List.mem_cons_of_mem r hy)
    have step : gcdT (r :: tb) g = gcdT tb (gcdL r g) := rfl
    rw [step, gcdL_one r g (h r List.mem_cons_self) hg]
    by_cases c : v ∈ r
    · rw [if_pos c, gcdT_one tb _ h2 (.inr rfl), ite_self, if_pos ⟨r, List.mem_cons_self, c⟩]
    · rw [if_neg c, gcdT_one tb g h2 hg]
      by_cases c2 : ∃ r ∈ tb, v ∈ r
      · rw [if_pos c2]
        obtain ⟨r', h1, h3⟩ := c2
        rw [if_pos ⟨r', List.mem_cons_of_mem _ h1, h3⟩]
      · rw [if_neg c2, if_neg]
        rintro ⟨r', h1, h3⟩
        rcases List.mem_cons.mp h1 with rfl | h1
        · exact c h3
        · exact c2 ⟨r', h1, h3⟩
theorem OneV.gcd {tb : List (List Int)} {v : Int} (O : OneV tb v) : gcdT tb 0 = v.toNat := by
  rw [gcdT_one tb 0 O.two (.inl rfl), if_pos O.has]
  have := O.v1
  omega
theorem OneV.less {tb : List (List Int)} {v : Int} (O : OneV tb v) : lessT tb = tb.map fun r => r.map fun x => x / v := by
  unfold lessT
  rw [O.gcd, Int.toNat_of_nonneg (by have := O.v1; omega)]
/-- the two tables of the explicit comparisons -/
theorem less_a : lessT [[2, 0, 0], [0, 1, 1], [0, 1, 1]] = [[2, 0, 0], [0, 1, 1], [0, 1, 1]] := by decide +kernel
theorem less_b : lessT [[6, 0, 0], [0, 3, 3], [0, 3, 3]] = [[2, 0, 0], [0, 1, 1], [0, 1, 1]] := by decide +kernel
theorem less_c : lessT [[6, 0, 4], [4, 6, 0], [0, 4, 6]] = [[3, 0, 2], [2, 3, 0], [0, 2, 3]] := by decide +kernel
end Nm
set_option maxRecDepth 100000
set_option maxHeartbeats 4000000
/-! what a turn of the law stands on -/
namespace Nm
open PySem PySem.Spec PyProof.Rows L2 LamX
def lamQ : Str := (envOfC "law" (defScope sLaw) 0 0 .none).qual ++ "<lambda>"
theorem ne_same {x : V} {A B : Prop} (h : B) : if (!decide (x = x)) = true then A else B := by
  rw [decide_eq_true rfl]
  exact h
theorem Src.extN {H H' : Hp} {s c : Addr} (S : Src H s c) (e : ExtN H H') : Src H' s c := by
  obtain ⟨cs, l, m, t, S⟩ := S
  exact ⟨cs, l, m, t, { S with ds := e _ _ S.ds (fun _ z => by cases z), dc := e _ _ S.dc (fun _ z => by cases z) }⟩
theorem tabS_kp {s c : Addr} {H H' : Hp} {PT : Addr} {q : Str} (t : TabS H PT q) (S : Src H s c) (k : Kp s c H H') : TabS H' PT q := by
  obtain ⟨cs, l, m, tt, S⟩ := S
  obtain ⟨ps, h1, h2, h3⟩ := t
  refine ⟨ps, k _ _ h1 (fun z => ?_) (fun z => ?_), h2, fun pos cv hc => ?_⟩
  · rw [z, S.ds] at h1
    cases h1
  · rw [z, S.dc] at h1
    cases h1
  · obtain ⟨c', e1, e2⟩ := h3 pos cv hc
    refine ⟨c', e1, k _ _ e2 (fun z => ?_) (fun z => ?_)⟩
    · rw [z, S.ds] at e2
      cases e2
    · rw [z, S.dc] at e2
      cases e2
theorem tabs_kp {s c : Addr} {H H' : Hp} {T : List (Addr × Str)} (t : Tabs T H) (S : Src H s c) (k : Kp s c H H') : Tabs T H' := fun p hp => tabS_kp (t p hp) S k
theorem TblAt.kp {H H' : Hp} {s c t : Addr} {tb : List (List Int)} (h : TblAt H t tb) (S : Src H s c) (k : Kp s c H H') : TblAt H' t tb := h.ext fun b xs e => by
  obtain ⟨cs, l, m, tt, S⟩ := S
  exact k _ _ e (ne_of e S.ds (by intro z; cases z)) (ne_of e S.dc (by intro z; cases z))
theorem TblAt.extN {H H' : Hp} {t : Addr} {tb : List (List Int)} (h : TblAt H t tb) (e : ExtN H H') : TblAt H' t tb := h.ext fun b xs z => e _ _ z fun _ q => by cases q
structure Lot (k : Nat) (H : Hp) (s c l : Addr) (led : List Nat) : Prop where
  at_ : H l = some (.lst (natV led))
  n1 : 1 ≤ led.length
  n5 : led.length ≤ 5
  all : ∀ x, x ∈ led ↔ x < k
  ns : l ≠ s
  nc : l ≠ c
theorem Lot.kp {k : Nat} {H H' : Hp} {s c l : Addr} {led : List Nat} (L : Lot k H s c l led) (e : Kp s c H H') : Lot k H' s c l led := ⟨e _ _ L.at_ L.ns L.nc, L.n1, L.n5, L.all, L.ns, L.nc⟩
theorem Lot.extN {k : Nat} {H H' : Hp} {s c l : Addr} {led : List Nat} (L : Lot k H s c l led) (e : ExtN H H') : Lot k H' s c l led := ⟨e _ _ L.at_ (fun _ z => by cases z), L.n1, L.n5, L.all, L.ns, L.nc⟩
structure Bun (PT : Addr) (H : Hp) (s c D f1 f2 l0 l1 l2 l3 : Addr) (a0 a1 a2 a3 : List Nat) (k : Nat) (c1 c2 : Int) : Prop where
  S : Src H s c
  T : Tabs [(PT, lamQ)] H
  hD : H D = some (.lst [.ref l0, .ref l1, .ref l2, .ref l3])
  nD : D ≠ s ∧ D ≠ c
  L0 : Lot k H s c l0 a0
  L1 : Lot k H s c l1 a1
  L2 : Lot k H s c l2 a2
  L3 : Lot k H s c l3 a3
  F1 : TblAt H f1 (mulT (bbT a0 a1) c1)
  F2 : TblAt H f2 (mulT (bbT a1 a2) c2)
theorem Bun.kp {PT : Addr} {H H' : Hp} {s c D f1 f2 l0 l1 l2 l3 : Addr} {a0 a1 a2 a3 : List Nat} {k : Nat} {c1 c2 : Int} (B : Bun PT H s c D f1 f2 l0 l1 l2 l3 a0 a1 a2 a3 k c1 c2) (e : Kp s c H H') (S : Src H' s c) : Bun PT H' s c D f1 f2 l0 l1 l2 l3 a0 a1 a2 a3 k c1 c2 :=
  ⟨S, tabs_kp B.T B.S e, e _ _ B.hD B.nD.1 B.nD.2, B.nD, B.L0.kp e, B.L1.kp e, B.L2.kp e, B.L3.kp e, B.F1.kp B.S e, B.F2.kp B.S e⟩
theorem Bun.same {PT : Addr} {H H' : Hp} {s c D f1 f2 l0 l1 l2 l3 : Addr} {a0 a1 a2 a3 : List Nat} {k : Nat} {c1 c2 : Int} (B : Bun PT H s c D f1 f2 l0 l1 l2 l3 a0 a1 a2 a3 k c1 c2) (e : Same H H') : Bun PT H' s c D f1 f2 l0 l1 l2 l3 a0 a1 a2 a3 k c1 c2 := B.kp (Kp.same e) (B.S.same e)
theorem Bun.extN {PT : Addr} {H H' : Hp} {s c D f1 f2 l0 l1 l2 l3 : Addr} {a0 a1 a2 a3 : List Nat} {k : Nat} {c1 c2 : Int} (B : Bun PT H s c D f1 f2 l0 l1 l2 l3 a0 a1 a2 a3 k c1 c2) (e : ExtN H H') (T : Tabs [(PT, lamQ)] H') : Bun PT H' s c D f1 f2 l0 l1 l2 l3 a0 a1 a2 a3 k c1 c2 :=
  ⟨B.S.extN e, T, e _ _ B.hD (fun _ z => by cases z), B.nD, B.L0.extN e, B.L1.extN e, B.L2.extN e, B.L3.extN e, B.F1.extN e, B.F2.extN e⟩
theorem prod_small {t1 t2 : List (List Int)} {m : Nat} (h1 : ∀ r ∈ t1, ∀ x ∈ r, 0 ≤ x ∧ x ≤ 1000) (h2 : ∀ r ∈ t2, ∀ x ∈ r, 0 ≤ x ∧ x ≤ 100) (n8 : t2.length ≤ 8) : ∀ r ∈ prodT t1 t2 m, ∀ x ∈ r, 0 ≤ x ∧ x ≤ 1000000 := fun r hr x hx => by
  obtain ⟨r0, h0, rfl⟩ := List.mem_map.mp hr
  obtain ⟨q, _, rfl⟩ := List.mem_map.mp hx
  have g1 : ∀ k, 0 ≤ r0.getD k 0 ∧ r0.getD k 0 ≤ 1000 := fun k => by
    rw [List.getD_eq_getElem?_getD]
    cases e : r0[k]? with
    | none => exact ⟨by decide, by decide⟩
    | some y => exact h1 r0 h0 y (List.mem_of_getElem? e)
  have g2 : ∀ k, 0 ≤ (t2.getD k []).getD q 0 ∧ (t2.getD k []).getD q 0 ≤ 100 := fun k => by
    rw [List.getD_eq_getElem?_getD (l := t2)]
    cases e : t2[k]? with
    | none => exact ⟨Int.le_refl 0, (by show (0 : Int) ≤ 100; decide)⟩
    | some r2 =>
      show 0 ≤ r2.getD q 0 ∧ r2.getD q 0 ≤ 100
      rw [List.getD_eq_getElem?_getD]
      cases e2 : r2[q]? with
      | none => exact ⟨by decide, by decide⟩
      | some y => exact h2 r2 (List.mem_of_getElem? e) y (List.mem_of_getElem? e2)
  have all : ∀ n : Nat, 0 ≤ ((List.range n).map fun k => r0.getD k 0 * (t2.getD k []).getD q 0).sum ∧ ((List.range n).map fun k => r0.getD k 0 * (t2.getD k []).getD q 0).sum ≤ 100000 * (n : Int) := fun n => by
    induction n with
    | zero => exact ⟨Int.le_refl 0, Int.le_refl 0⟩
    | succ n ih =>
      rw [List.range_succ, List.map_append]
      show 0 ≤ (_ ++ [r0.getD n 0 * (t2.getD n []).getD q 0]).sum ∧ (_ ++ [r0.getD n 0 * (t2.getD n []).getD q 0]).sum ≤ _
      rw [sum_snoc]
      have b1 := g1 n
      have b2 := g2 n
      have b3 := Int.mul_nonneg b1.1 b2.1
      have b4 : r0.getD n 0 * (t2.getD n []).getD q 0 ≤ 1000 * 100 := Int.mul_le_mul b1.2 b2.2 b2.1 (by decide)
      rw [Int.natCast_add]
      omega
  have := all t2.length
  refine ⟨this.1, ?_⟩
  have h3 : (t2.length : Int) ≤ 8 := by omega
  omega
end Nm
set_option maxRecDepth 100000
set_option maxHeartbeats 8000000
/-! the law -/
namespace Nm
open PySem PySem.Spec PyProof.Rows L2 LamX
theorem pass_none {X : Cx} : Passes (L2.CX X.prog X.w) X E0 := fun _ _ _ _ _ _ _ ⟨_, _, _, _, _, _, _, _, _, _, _, _, z⟩ => z.elim
theorem mem_zipW {α β γ : Type} {f : α → β → γ} : ∀ {l : List α} {m : List β} {z : γ}, z ∈ List.zipWith f l m → ∃ x ∈ l, ∃ y ∈ m, z = f x y
  | [], _, z, h => by simp at h
  | _ :: _, [], z, h => by simp at h
  | x :: l, y :: m, z, h => by
    rcases List.mem_cons.mp (show z ∈ f x y :: List.zipWith f l m from h) with e | e
    · exact ⟨x, List.mem_cons_self, y, List.mem_cons_self, e⟩
    · obtain ⟨a, ha, b, hb, e2⟩ := mem_zipW e
      exact ⟨a, List.mem_cons_of_mem _ ha, b, List.mem_cons_of_mem _ hb, e2⟩
theorem sumT_ok {F G : List (List Int)} {m : Nat} (okF : TblOk F m) (okG : TblOk G m) (hl : F.length = G.length) : TblOk (sumT F G) m := by
  refine ⟨fun r hr => ?_, ?_, ?_, okF.m8⟩
  · obtain ⟨x, hx, y, hy, rfl⟩ := mem_zipW hr
    unfold sumR
    rw [List.length_zipWith, okF.rm x hx, okG.rm y hy, Nat.min_self]
  · unfold sumT
    rw [List.length_zipWith, ← hl, Nat.min_self]
    exact okF.n1
  · unfold sumT
    rw [List.length_zipWith, ← hl, Nat.min_self]
    exact okF.n8
theorem sumT_small {F G : List (List Int)} (h1 : ∀ r ∈ F, ∀ x ∈ r, 0 ≤ x ∧ x ≤ 4) (h2 : ∀ r ∈ G, ∀ x ∈ r, 0 ≤ x ∧ x ≤ 4) : ∀ r ∈ sumT F G, ∀ x ∈ r, 0 ≤ x ∧ x ≤ 1000000 := fun r hr z hz => by
  obtain ⟨x, hx, y, hy, rfl⟩ := mem_zipW hr
  obtain ⟨u, hu, w, hw, rfl⟩ := mem_zipW hz
  have a := h1 x hx u hu
  have b := h2 y hy w hw
  omega
theorem lit3_ok {σ : L2.St} {H : Hp} {Q : VK} {a b c d e f g h i : Int} (hQ : ∀ (t : Addr) (H' : Hp), TblAt H' t [[a, b, c], [d, e, f], [g, h, i]] → Same H H' → Q (.ref t) H') :
    tTup (tCons (tTup (tCons (tC (.int a)) (tCons (tC (.int b)) (tCons (tC (.int c)) tNil)))) (tCons (tTup (tCons (tC (.int d)) (tCons (tC (.int e)) (tCons (tC (.int f)) tNil)))) (tCons (tTup (tCons (tC (.int g)) (tCons (tC (.int h)) (tCons (tC (.int i)) tNil)))) tNil))) σ H Q := by
  refine ⟨(by show 3 ≤ sizeLine; decide), fun u hu => ⟨(by show 3 ≤ sizeLine; decide), fun v hv => ⟨(by show 3 ≤ sizeLine; decide), fun w hw => ⟨(by show 3 ≤ sizeLine; decide), fun t ht => ?_⟩⟩⟩⟩
  have s1 := same_new (o := .tup [V.int a, V.int b, V.int c]) hu
  have s2 := same_new (o := .tup [V.int d, V.int e, V.int f]) hv
  have s3 := same_new (o := .tup [V.int g, V.int h, V.int i]) hw
  have s4 := same_new (o := .tup [V.ref u, V.ref v, V.ref w]) ht
  refine hQ t _ ⟨[u, v, w], upd_same, rfl, fun k x r hx hr => ?_⟩ (((s1.trans s2).trans s3).trans s4)
  match k, hx, hr with
  | 0, hx, hr =>
    cases hx
    cases hr
    exact s4 _ _ (s3 _ _ (s2 _ _ upd_same))
  | 1, hx, hr =>
    cases hx
    cases hr
    exact s4 _ _ (s3 _ _ upd_same)
  | 2, hx, hr =>
    cases hx
    cases hr
    exact s4 _ _ upd_same
theorem dp_rows {K : PySem.W.Frag} {H : Hp} : ∀ {ts : List Addr} {tb : List (List Int)}, ts.length = tb.length → (∀ (k : Nat) (a : Addr) (r : List Int), ts[k]? = some a → tb[k]? = some r → H a = some (.tup (r.map V.int))) → DpAll K H (ts.map V.ref) (tb.map dRow)
  | [], [], _, _ => .nil
  | a :: ts, r :: tb, hl, h => .cons (.tup (SqT.of (h 0 a r rfl rfl)) (dp_ints r)) (dp_rows (by simpa using hl) fun k a r h1 h2 => h (k + 1) a r h1 h2)
  | [], _ :: _, hl, _ => by simp at hl
  | _ :: _, [], hl, _ => by simp at hl
theorem dp_tab {K : PySem.W.Frag} {H : Hp} {t : Addr} {tb : List (List Int)} (h : TblAt H t tb) : Dp K H (.ref t) (dTab tb) := by
  obtain ⟨ts, h1, h2, h3⟩ := h
  exact .tup (SqT.of h1) (dp_rows h2 h3)
theorem lit_ok {a b c d e f g h i : Int} : TblOk [[a, b, c], [d, e, f], [g, h, i]] 3 := ⟨fun r hr => by
  simp only [List.mem_cons, List.not_mem_nil, or_false] at hr
  rcases hr with rfl | rfl | rfl <;> rfl, (by show 1 ≤ 3; decide), (by show 3 ≤ 8; decide), by decide⟩
theorem tTup2 {A B : TE} {σ : L2.St} {H : Hp} {Q : VK} (h : A σ H fun x H1 => B σ H1 fun y H2 => [x, y].length ≤ sizeLine ∧ ∀ p, H2 p = none → Q (.ref p) (upd H2 p (.tup [x, y]))) : tTup (tCons A (tCons B tNil)) σ H Q := h
theorem tCons1 {A : TE} {σ : L2.St} {H : Hp} {k : List V → Hp → Prop} (h : A σ H fun x H1 => k [x] H1) : tCons A tNil σ H k := h
def dBad (n : Nat) : PyData := .list [.str "BadNumber", .str ((toString (n : Int) : String) : Str)]
theorem bad_ok : ∀ n : Nat, n < 9 → (dBad n).showable = true ∧ (dBad n).hasDict = false ∧ (dBad n).depth ≤ 50 ∧ (dBad n).shown.length ≤ sizeLine := by decide +kernel
theorem bad_sh {H : Hp} {r : Addr} {n : Nat} (h : H r = some (.lst (badV n))) : Sh H (.ref r) (dBad n) := .lst h (.cons (.str _) (.cons (.str _) .nil))
/-- a def that may let exceptions out, under a name of the module -/
structure DefX (P : Program) (w : World) (K : PySem.W.Frag) (mg : Str → Option Value) (base : Heap) (x : Str) (ps : List Str) (k : Nat) (sp : Sp) : Prop where
  ex : ∃ f fd, FnOk P w K mg base (L2.CX P w) k f fd ps sp ∧ mg x = some (.ref f) ∧ PySem.W.keepIn K (.ref f) = true ∧ L2.Binds K fd ps []
structure TxtL41 (P : Program) (w : World) (K : PySem.W.Frag) (mg : Str → Option Value) (base : Heap) (CB : Addr) : Prop extends TxtBad P w K mg base CB where
  repr : mg "repr" = none
  exm : PySem.W.exmOne K (.ref CB) (.ref CB) = some true
section
variable {P : Program} {w : World} {K : PySem.W.Frag} {mg : Str → Option Value} {base : Heap}
def spLaw41 (K : PySem.W.Frag) (PT : Addr) : Sp := fun vs H Q _ => ∃ (a : Addr) (ns : List Int), vs = [.ref a] ∧ SqL K H a (ns.map V.int) ∧ ns.length ≤ 63 ∧ H PT = some (.tbl #[]) ∧ ∀ H', Q (.bl true) H'
abbrev nL41 : List Str := ["_law_script", "_law_source", "_law_time", "_law_ground", "_law_lots", "_law_first", "_law_last", "_law_both", "_law_more", "_law_divisor_here", "_law_less", "_law_other", "_law_due", "_law_fit", "_law_flat", "_law_some", "_law_side", "_law_row", "_law_entry"]
theorem scL41 : FnScope nL41 ["_law_script"] (defScope sLaw) := ⟨rfl, rfl, rfl, by decide +kernel, rfl, by decide +kernel, by decide +kernel⟩
abbrev coL41 : Scope := { kind := .function, names := [(".0", .local), ("_law_row", .local), ("tuple", .globalImplicit), ("_law_divisor_here", .cell)], isGenerator := false, isCoroutine := false }
abbrev eL41 (K : PySem.W.Frag) : TE := tLc (iTup K (tVar 17)) (gName 18) tYes (tOp (rI CDiv fun i j => .int (i / j)) (tVar 18) (tVar 9)) [18]
theorem run_law41 {f CB c PT g : Addr} {fd fdc : FuncData} (F : Fun K "law" "law" sLaw f fd) (hcode : ∀ (cdv : Value) oc od kV doc pm an ct osl, K.lookup f = some ⟨oc, od, .func (PySem.W.fnOf "law" "law" (defArgs sLaw) (defBody sLaw) (defScope sLaw) .none kV doc pm an cdv ct), osl⟩ → cdv = .ref c) (T : TxtL41 P w K mg base CB) (TB : TabB base mg c PT) (Fc : Fun K "_law_caught" "_law_caught" sCaught g fdc) (mg' : mg "_law_caught" = some (.ref g)) (bg : L2.Binds K fdc ["_law_ask"] [])
    (Gx : Def P w K mg base "_law_open_cells" ["_law_script"] 1 (spOpen K)) (Gp : Def P w K mg base "_law_pick" ["_law_source", "_law_many"] 1 (spPick)) (Gb : Def P w K mg base "_law_base" ["_law_source"] 4 (spBase)) (Go : Def P w K mg base "_law_bound_over" ["_law_source", "_law_ground", "_law_most"] 5 (spBo)) (Gd : Def P w K mg base "_law_drawn_table" ["_law_source", "_law_one", "_law_other"] 2 (spDr)) (Gh : Def P w K mg base "_law_behind_due" ["_law_first", "_law_last"] 1 (spBh)) (Gw : DefX P w K mg base "weights_behind" ["first", "last"] 4 (spWB CB)) (Gt : Def P w K mg base "turned_over" ["table"] 1 (spTurned)) (Gv : Def P w K mg base "_law_turned_over" ["_law_weighed"] 1 (spTurned)) (Gs : Def P w K mg base "_law_sum" ["_law_first", "_law_last"] 1 (spSum)) (Gm : Def P w K mg base "_law_times" ["_law_weighed", "_law_number"] 1 (spTimes)) (Ga : DefX P w K mg base "added_weights" ["first", "last"] 4 (spAdd CB)) (Gi : Def P w K mg base "_law_divisor" ["_law_weighed"] 1 (spDi)) (Gl : Def P w K mg base "lessened" ["table"] 1 (spLess)) :
    RunC P w K mg base CX0 f fd "_law_script" (spLaw41 K PT) := by
  refine runC_of F scL41 fun cdv s H v Q E hcd hsp => ?_
  obtain ⟨oc0, od0, kV0, doc0, pm0, an0, ct0, osl0, lk0⟩ := hcd
  obtain rfl := hcode _ _ _ _ _ _ _ _ _ lk0
  have hr : Room 8 (callerA.deeper (envOfC "law" (defScope sLaw) s.heap.objs.size f (.ref c))) := Room.deeper (k := 8) ⟨rfl, by decide +kernel, by decide +kernel⟩ _
  have hu := hu_of hr
  have hg : (cxOf CX0 P w K mg base nL41 "law" (defScope sLaw) f (.ref c) callerA [] s H E).nox.A.guards = some [] := rfl
  obtain ⟨fx, fdx, Gx, mx, kx, bx⟩ := Gx.ex
  obtain ⟨fp, fdp, Gp, mp, kp, bp⟩ := Gp.ex
  obtain ⟨fb, fdb, Gb, mb, kb, bb⟩ := Gb.ex
  obtain ⟨fo, fdo, Go, mo, ko, bo⟩ := Go.ex
  obtain ⟨fd, fdd, Gd, md, kd, bd⟩ := Gd.ex
  obtain ⟨fh, fdh, Gh, mh, kh, bh⟩ := Gh.ex
  obtain ⟨fw, fdw, Gw, mw, kw, bw⟩ := Gw.ex
  obtain ⟨ft, fdt, Gt, mt, kt, bt⟩ := Gt.ex
  obtain ⟨fv, fdv, Gv, mv, kv, bv⟩ := Gv.ex
  obtain ⟨fs, fds, Gs, ms, ks, bs⟩ := Gs.ex
  obtain ⟨fm, fdm, Gm, mm, km, bm⟩ := Gm.ex
  obtain ⟨fa, fda, Ga, ma, ka, ba⟩ := Ga.ex
  obtain ⟨fi, fdi, Gi, mi, ki, bi⟩ := Gi.ex
  obtain ⟨fl, fdl, Gl, ml, kl, bl⟩ := Gl.ex
  obtain ⟨oc, od, kV, doc, pm, an, cdc, ct, osl, rfl, lk, hcg⟩ := Fc.ex
  obtain ⟨sa, ns, hv, hs, hn, hPT, k⟩ := hsp
  cases hv
  refine ⟨_, PSs.nox (pss_cons (ps_set (i := 1) scL41.nd rfl (Or.inr rfl) (pe_call Gx (hr.mono (by decide)) (by rfl) mx kx bx .nil pass0 (pa_cons (pv 0) pa_nil)))
      (Evl.pss_cut (ps_for PassesOwn.never rfl (pi_range1 (by rfl) T.range (pa_cons pe_int pa_nil)) (pg_name (i := 2) scL41.nd rfl (Or.inl rfl))
    (pss_cons (ps_set (i := 3) scL41.nd rfl (Or.inr rfl) (pe_call Gb (hr.mono (by decide)) (by rfl) mb kb bb .nil pass0 (pa_cons (pv 1) pa_nil)))
      (Evl.pss_cut (ps_setLc (i := 4) (own := [("_law_side", 16)]) (g := gName 16) (tt := tYes) (te := tOp (rIxT K) (tCall spBo [] E0 (tCons (tVar 1) (tCons (tVar 3) (tCons (tC (.int 5)) tNil)))) (tC (.int 1))) rfl scL41.nd rfl rfl (sw_true rfl rfl rfl (by decide +kernel)) (pi_range1 (by rfl) T.range (pa_cons pe_int pa_nil)) (blkOk_by (N := nL41) (sc := defScope sLaw) (by decide +kernel))
          (fun _ _ _ _ _ => pg_name (i := 16) scL41.nd rfl (Or.inl rfl)) (fun _ _ _ _ _ => pts_nil)
          (fun _ _ _ _ _ => by exact pe_ix ix_tup (pe_call Go (hr.mono (by decide)) (by rfl) mo ko bo .nil pass0 (pa_cons (pv 1) (pa_cons (pv 3) (pa_cons pe_int pa_nil)))) pe_int (fun _ _ => rfl)))
      (Evl.pss_cut (ps_asg (pe_tup (pa_cons (pe_call Gd (hr.mono (by decide)) (by rfl) md kd bd .nil pass0 (pa_cons (pv 1) (pa_cons (pe_ix ix_list (pv 4) pe_int (fun _ _ => rfl)) (pa_cons (pe_ix ix_list (pv 4) pe_int (fun _ _ => rfl)) pa_nil)))) (pa_cons (pe_call Gd (hr.mono (by decide)) (by rfl) md kd bd .nil pass0 (pa_cons (pv 1) (pa_cons (pe_ix ix_list (pv 4) pe_int (fun _ _ => rfl)) (pa_cons (pe_ix ix_list (pv 4) pe_int (fun _ _ => rfl)) pa_nil)))) pa_nil))) (pg_tup rfl (pgs_cons (pg_name (i := 5) scL41.nd rfl (.inr rfl)) (pgs_cons (pg_name (i := 6) scL41.nd rfl (.inl rfl)) pgs_nil))))
      (Evl.pss_cut (ps_set (i := 7) scL41.nd rfl (Or.inl rfl) (pe_call Gh (hr.mono (by decide)) (by rfl) mh kh bh .nil pass0 (pa_cons (pv 5) (pa_cons (pv 6) pa_nil))))
      (Evl.pss_cut (ps_if (pt_cmpR op_ne (pe_callB (call_repr hg hr.units) (by rfl) T.repr (by decide +kernel) (pa_cons (pe_call Gw (hr.mono (by decide)) (by rfl) mw kw bw .nil pass_none (pa_cons (pv 5) (pa_cons (pv 6) pa_nil))) pa_nil)) (pe_callB (call_repr hg hr.units) (by rfl) T.repr (by decide +kernel) (pa_cons (pv 7) pa_nil)) (nomark _)) (pss_one (ps_ret pe_bl)) pss_nil)
      (Evl.pss_cut (ps_if (pt_cmpR op_ne (pe_callB (call_repr hg hr.units) (by rfl) T.repr (by decide +kernel) (pa_cons (pe_call Gt (hr.mono (by decide)) (by rfl) mt kt bt .nil pass0 (pa_cons (pv 5) pa_nil)) pa_nil)) (pe_callB (call_repr hg hr.units) (by rfl) T.repr (by decide +kernel) (pa_cons (pe_call Gv (hr.mono (by decide)) (by rfl) mv kv bv .nil pass0 (pa_cons (pv 5) pa_nil)) pa_nil)) (nomark _)) (pss_one (ps_ret pe_bl)) pss_nil)
      (Evl.pss_cut (ps_set (i := 8) scL41.nd rfl (Or.inl rfl) (pe_call Gs (hr.mono (by decide)) (by rfl) ms ks bs .nil pass0 (pa_cons (pv 5) (pa_cons (pe_call Gm (hr.mono (by decide)) (by rfl) mm km bm .nil pass0 (pa_cons (pv 5) (pa_cons (pe_op op_add pe_int (pe_call Gp (hr.mono (by decide)) (by rfl) mp kp bp .nil pass0 (pa_cons (pv 1) (pa_cons pe_int pa_nil)))) pa_nil))) pa_nil))))
      (Evl.pss_cut (ps_if (pt_cmpR op_ne (pe_callB (call_repr hg hr.units) (by rfl) T.repr (by decide +kernel) (pa_cons (pe_call Ga (hr.mono (by decide)) (by rfl) ma ka ba .nil pass_none (pa_cons (pv 5) (pa_cons (pe_call Gm (hr.mono (by decide)) (by rfl) mm km bm .nil pass0 (pa_cons (pv 5) (pa_cons pe_int pa_nil))) pa_nil))) pa_nil)) (pe_callB (call_repr hg hr.units) (by rfl) T.repr (by decide +kernel) (pa_cons (pe_call Gm (hr.mono (by decide)) (by rfl) mm km bm .nil pass0 (pa_cons (pv 5) (pa_cons pe_int pa_nil))) pa_nil)) (nomark _)) (pss_one (ps_ret pe_bl)) pss_nil)
      (Evl.pss_cut (ps_set (i := 9) scL41.nd rfl (Or.inr rfl) (pe_call Gi (hr.mono (by decide)) (by rfl) mi ki bi .nil pass0 (pa_cons (pv 8) pa_nil)))
      (Evl.pss_cut (ps_set (i := 10) scL41.nd rfl (Or.inl rfl) (pe_callTy call_tupL (by rfl) T.tuple (by decide +kernel) (pa_cons
      (pe_lc (own := [("_law_row", 17)]) (g := gName 17) (tt := tYes) (te := tCB (rTupL K) (tCons (eL41 K) tNil)) rfl scL41.nd (pi_tup (pv 8)) (blkOk_by (N := nL41) (sc := defScope sLaw) (by decide +kernel))
        (fun _ _ _ _ _ => pg_name (i := 17) scL41.nd rfl (Or.inl rfl)) (fun _ _ _ _ _ => pts_nil)
        (fun _ _ _ _ _ => by
          refine pe_callTy call_tupL ?z (by exact T.tuple) (by decide +kernel) (pa_cons ?y pa_nil)
          case z => rfl
          case y =>
            refine pe_lc (own := [("_law_entry", 18)]) (g := gName 18) (tt := tYes) (te := tOp (rI CDiv fun i j => .int (i / j)) (tVar 18) (tVar 9)) rfl scL41.nd ?a ?b ?c ?d ?e
            case a => exact pi_tup (pv 17)
            case b => exact (blkOk_by (N := nL41) (sc := coL41) (by decide +kernel))
            case c => intro _ _ _ _ _; exact pg_name (i := 18) scL41.nd rfl (.inl rfl)
            case d => intro _ _ _ _ _; exact pts_nil
            case e => intro _ _ _ _ _; exact pe_op op_fdiv (pv 18) (pv 9))) pa_nil)))
      (Evl.pss_cut (ps_if (pt_cmpR op_ne (pe_callB (call_repr hg hr.units) (by rfl) T.repr (by decide +kernel) (pa_cons (pe_call Gl (hr.mono (by decide)) (by rfl) ml kl bl .nil pass0 (pa_cons (pv 8) pa_nil)) pa_nil)) (pe_callB (call_repr hg hr.units) (by rfl) T.repr (by decide +kernel) (pa_cons (pv 10) pa_nil)) (nomark _)) (pss_one (ps_ret pe_bl)) pss_nil)
      (Evl.pss_cut (ps_set (i := 11) scL41.nd rfl (Or.inr rfl) (pe_call Gd (hr.mono (by decide)) (by rfl) md kd bd .nil pass0 (pa_cons (pv 1) (pa_cons (pe_ix ix_list (pv 4) pe_int (fun _ _ => rfl)) (pa_cons (pe_ix ix_list (pv 4) (pe_call Gp (hr.mono (by decide)) (by rfl) mp kp bp .nil pass0 (pa_cons (pv 1) (pa_cons pe_int pa_nil))) (fun _ _ => rfl)) pa_nil)))))
      (Evl.pss_cut (ps_set (i := 12) scL41.nd rfl (Or.inl rfl) (pe_ifExp (pt_cmpR op_eq (pe_callB call_len_seq (by rfl) T.len PySem.boot_len (pa_cons (pv 11) pa_nil)) (pe_callB call_len_seq (by rfl) T.len PySem.boot_len (pa_cons (pe_ix ix_list (pv 4) pe_int (fun _ _ => rfl)) pa_nil)) (nomark _)) (pe_call Gh (hr.mono (by decide)) (by rfl) mh kh bh .nil pass0 (pa_cons (pv 5) (pa_cons (pv 11) pa_nil))) (pe_lst (pa_cons pe_str (pa_cons (pe_callB SkE.call_repr_int (by rfl) T.repr (by decide +kernel) (pa_cons (pe_callB call_len_seq (by rfl) T.len PySem.boot_len (pa_cons (pv 11) pa_nil)) pa_nil)) pa_nil)))))
      (Evl.pss_cut (ps_if (pt_cmpR op_ne (pe_callB (call_repr hg hr.units) (by rfl) T.repr (by decide +kernel) (pa_cons (pe_lamcall (T := [(PT, (cxOf CX0 P w K mg base nL41 "law" (defScope sLaw) f (.ref c) callerA [] s H E).nox.env.qual ++ "<lambda>")]) (k := 6) (t := fun E => tCall (spWB CB) [] E (tCons (tVar 5) (tCons (tVar 11) tNil))) (by rfl) mg' Fc.kp lk hcg bg scCt rfl (.inl rfl) (caught_gives T.xf T.nNu T.mB T.repr) TB rfl
          (List.mem_singleton.mpr rfl) (fun p hp _ => by rw [List.mem_singleton.mp hp]) hr (by show LamS (defScope sLaw) _; exact lamS_by (by decide +kernel)) rfl (fun _ _ _ _ _ => rfl)
          (fun A outer s H E f c' hr' => (pe_call Gw (hr'.mono (by decide)) (by rfl) mw kw bw .nil (passes_call (takes_of rfl rfl rfl rfl) fun _ _ _ _ h => h) (pa_cons (pv 5) (pa_cons (pv 11) pa_nil))))) pa_nil)) (pe_callB (call_repr hg hr.units) (by rfl) T.repr (by decide +kernel) (pa_cons (pv 12) pa_nil)) (nomark _)) (pss_one (ps_ret pe_bl)) pss_nil)
      (Evl.pss_cut (ps_set (i := 13) scL41.nd rfl (Or.inl rfl) (pe_cmpR (op_eqD hr.units) (pe_lst (pa_cons (pe_callB call_len_seq (by rfl) T.len PySem.boot_len (pa_cons (pv 11) pa_nil)) (pa_cons (pe_callB call_len_seq (by rfl) T.len PySem.boot_len (pa_cons (pe_ix ix_tup (pv 11) pe_int (fun _ _ => rfl)) pa_nil)) pa_nil))) (pe_lst (pa_cons (pe_callB call_len_seq (by rfl) T.len PySem.boot_len (pa_cons (pv 5) pa_nil)) (pa_cons (pe_callB call_len_seq (by rfl) T.len PySem.boot_len (pa_cons (pe_ix ix_tup (pv 5) pe_int (fun _ _ => rfl)) pa_nil)) pa_nil))) (nomark _)))
      (Evl.pss_cut (ps_set (i := 12) scL41.nd rfl (Or.inl rfl) (pe_ifExp (pt_val (pv 13)) (pe_call Gs (hr.mono (by decide)) (by rfl) ms ks bs .nil pass0 (pa_cons (pv 5) (pa_cons (pv 11) pa_nil))) (pe_lst (pa_cons pe_str (pa_cons (pe_callB SkE.call_repr_int (by rfl) T.repr (by decide +kernel) (pa_cons (pe_callB call_len_seq (by rfl) T.len PySem.boot_len (pa_cons (pv 11) pa_nil)) pa_nil)) pa_nil)))))
      (pss_one (ps_if (pt_cmpR op_ne (pe_callB (call_repr hg hr.units) (by rfl) T.repr (by decide +kernel) (pa_cons (pe_lamcall (T := [(PT, (cxOf CX0 P w K mg base nL41 "law" (defScope sLaw) f (.ref c) callerA [] s H E).nox.env.qual ++ "<lambda>")]) (k := 6) (t := fun E => tCall (spAdd CB) [] E (tCons (tVar 5) (tCons (tVar 11) tNil))) (by rfl) mg' Fc.kp lk hcg bg scCt rfl (.inl rfl) (caught_gives T.xf T.nNu T.mB T.repr) TB rfl
          (List.mem_singleton.mpr rfl) (fun p hp _ => by rw [List.mem_singleton.mp hp]) hr (by show LamS (defScope sLaw) _; exact lamS_by (by decide +kernel)) rfl (fun _ _ _ _ _ => rfl)
          (fun A outer s H E f c' hr' => (pe_call Ga (hr'.mono (by decide)) (by rfl) ma ka ba .nil (passes_call (takes_of rfl rfl rfl rfl) fun _ _ _ _ h => h) (pa_cons (pv 5) (pa_cons (pv 11) pa_nil))))) pa_nil)) (pe_callB (call_repr hg hr.units) (by rfl) T.repr (by decide +kernel) (pa_cons (pv 12) pa_nil)) (nomark _)) (pss_one (ps_ret pe_bl)) pss_nil)))))))))))))))))))
      (Evl.pss_cut (ps_set (i := 14) scL41.nd rfl (Or.inr rfl) (pe_tup (pa_cons (pe_tup (pa_cons pe_int (pa_cons pe_int pa_nil))) (pa_cons (pe_tup (pa_cons pe_int (pa_cons pe_int pa_nil))) pa_nil))))
      (Evl.pss_cut (ps_if (pt_cmpR (op_neD hr.units) (pe_lamcall (T := [(PT, (cxOf CX0 P w K mg base nL41 "law" (defScope sLaw) f (.ref c) callerA [] s H E).nox.env.qual ++ "<lambda>")]) (k := 6) (t := fun E => tCall (spAdd CB) [] E (tCons (tVar 14) (tCons (tOp (rRepT K) (tTup (tCons (tTup (tCons (tC (.int 1)) (tCons (tC (.int 1)) (tCons (tC (.int 1)) tNil)))) tNil)) (tC (.int 2))) tNil))) (by rfl) mg' Fc.kp lk hcg bg scCt rfl (.inl rfl) (caught_gives T.xf T.nNu T.mB T.repr) TB rfl
          (List.mem_singleton.mpr rfl) (fun p hp _ => by rw [List.mem_singleton.mp hp]) hr (by show LamS (defScope sLaw) _; exact lamS_by (by decide +kernel)) rfl (fun _ _ _ _ _ => rfl)
          (fun A outer s H E f c' hr' => (pe_call Ga (hr'.mono (by decide)) (by rfl) ma ka ba .nil (passes_call (takes_of rfl rfl rfl rfl) fun _ _ _ _ h => h) (pa_cons (pv 14) (pa_cons (pe_op op_repT (pe_tup (pa_cons (pe_tup (pa_cons pe_int (pa_cons pe_int (pa_cons pe_int pa_nil)))) pa_nil)) pe_int) pa_nil))))) (pe_lst (pa_cons pe_str (pa_cons pe_str pa_nil))) (nomark _)) (pss_one (ps_ret pe_bl)) pss_nil)
      (Evl.pss_cut (ps_for PassesOwn.never rfl (pi_tup (pe_tup (pa_cons (pe_tup (pa_cons (pe_tup (pa_cons pe_int (pa_cons pe_int (pa_cons pe_int pa_nil)))) (pa_cons (pe_tup (pa_cons pe_int (pa_cons pe_int (pa_cons pe_int pa_nil)))) (pa_cons (pe_tup (pa_cons pe_int (pa_cons pe_int (pa_cons pe_int pa_nil)))) pa_nil)))) (pa_cons (pe_tup (pa_cons (pe_tup (pa_cons pe_int (pa_cons pe_int (pa_cons pe_int pa_nil)))) (pa_cons (pe_tup (pa_cons pe_int (pa_cons pe_int (pa_cons pe_int pa_nil)))) (pa_cons (pe_tup (pa_cons pe_int (pa_cons pe_int (pa_cons pe_int pa_nil)))) pa_nil)))) pa_nil)))) (pg_name (i := 15) scL41.nd rfl (Or.inl rfl)) (pss_one (ps_if (pt_cmpR (op_neD hr.units) (pe_call Gl (hr.mono (by decide)) (by rfl) ml kl bl .nil pass0 (pa_cons (pv 15) pa_nil)) (pe_tup (pa_cons (pe_tup (pa_cons pe_int (pa_cons pe_int (pa_cons pe_int pa_nil)))) (pa_cons (pe_tup (pa_cons pe_int (pa_cons pe_int (pa_cons pe_int pa_nil)))) (pa_cons (pe_tup (pa_cons pe_int (pa_cons pe_int (pa_cons pe_int pa_nil)))) pa_nil)))) (nomark _)) (pss_one (ps_ret pe_bl)) pss_nil)))
      (pss_one (ps_ret (pe_cmpR (op_eqD hr.units) (pe_call Gl (hr.mono (by decide)) (by rfl) ml kl bl .nil pass0 (pa_cons (pe_tup (pa_cons (pe_tup (pa_cons pe_int (pa_cons pe_int (pa_cons pe_int pa_nil)))) (pa_cons (pe_tup (pa_cons pe_int (pa_cons pe_int (pa_cons pe_int pa_nil)))) (pa_cons (pe_tup (pa_cons pe_int (pa_cons pe_int (pa_cons pe_int pa_nil)))) pa_nil)))) pa_nil)) (pe_tup (pa_cons (pe_tup (pa_cons pe_int (pa_cons pe_int (pa_cons pe_int pa_nil)))) (pa_cons (pe_tup (pa_cons pe_int (pa_cons pe_int (pa_cons pe_int pa_nil)))) (pa_cons (pe_tup (pa_cons pe_int (pa_cons pe_int (pa_cons pe_int pa_nil)))) pa_nil)))) (nomark _))))))))), ?_⟩
  have tab0 : Tabs [(PT, lamQ)] H := fun p hp => by
    rw [List.mem_singleton.mp hp]
    exact TabS.nil hPT
  refine ⟨_, rfl, sa, ns, rfl, hs, hn, fun s0 c0 H1 _ _ S1 s1 => ?_⟩
  refine ⟨fun σ H2 => Src H2 s0 c0 ∧ Tabs [(PT, lamQ)] H2 ∧ ∃ v2 v3 v4 v5 v6 v7 v8 v9 v10 v11 v12 v13 v14 v15, σ = [some (.ref sa), some (.ref s0), v2, v3, v4, v5, v6, v7, v8, v9, v10, v11, v12, v13, v14, v15, none, none, none], ?_, ?_⟩
  · refine ⟨_, rfl, by decide, by decide, ?_⟩
    refine for_range (lo := 0) (n := 4) (fun i σ H2 => Src H2 s0 c0 ∧ Tabs [(PT, lamQ)] H2 ∧ ∃ v2 v3 v4 v5 v6 v7 v8 v9 v10 v11 v12 v13 v14 v15, σ = [some (.ref sa), some (.ref s0), v2, v3, v4, v5, v6, v7, v8, v9, v10, v11, v12, v13, v14, v15, none, none, none]) ⟨S1, Tabs.ext tab0 s1, none, none, none, none, none, none, none, none, none, none, none, none, none, none, rfl⟩ ?_ (fun σ H2 h => h)
    rintro i σ H2 hi ⟨S2, T2, v2, v3, v4, v5, v6, v7, v8, v9, v10, v11, v12, v13, v14, v15, rfl⟩
    refine ⟨_, rfl, s0, c0, rfl, S2, fun wd a b t nm cl kvs H3 _ _ _ _ W3 n2 ti3 kl3 S3 kp3 => ?_⟩
    have T3 := tabs_kp T2 S2 kp3
    -- the lots
    refine ⟨fun σ H4 => ∃ D l0 l1 l2 l3 a0 a1 a2 a3, σ = [some (.ref sa), some (.ref s0), some (.int (0 + (i : Int))), some (.ref wd), some (.ref D), v5, v6, v7, v8, v9, v10, v11, v12, v13, v14, v15, none, none, none] ∧ H4 D = some (.lst [.ref l0, .ref l1, .ref l2, .ref l3]) ∧ (D ≠ s0 ∧ D ≠ c0) ∧ Lot nm.length H4 s0 c0 l0 a0 ∧ Lot nm.length H4 s0 c0 l1 a1 ∧ Lot nm.length H4 s0 c0 l2 a2 ∧ Lot nm.length H4 s0 c0 l3 a3 ∧ Src H4 s0 c0 ∧ Tabs [(PT, lamQ)] H4, ?_, ?_⟩
    · refine ⟨_, rfl, by decide, by decide, fun D hD => ?_⟩
      obtain ⟨nDs, nDc⟩ := S3.ne hD
      refine lc_range (lo := 0) (n := 4) (fun j H4 => ∃ ls : List Addr, ls.length = j ∧ H4 D = some (.lst (ls.map V.ref)) ∧ (∀ l ∈ ls, l ≠ D ∧ ∃ led, Lot nm.length H4 s0 c0 l led) ∧ Src H4 s0 c0 ∧ Kp s0 c0 H3 H4) ⟨[], rfl, upd_same, fun l hl => (List.not_mem_nil hl).elim, S3.new hD, Kp.same (same_new hD)⟩ ?_ ?_
      · rintro j H4 hj ⟨ls, hlj, hD4, hls, S4, kp4⟩
        refine ⟨rfl, tyes ?_⟩
        refine ⟨_, rfl, _, rfl, s0, c0, wd, a, b, t, nm, cl, kvs, rfl, S4, W3.kp kp4, ti3, kl3, n2, fun r wd' ld' led H5 hld0 hr5 hld5 g1 g5 gx S5 kp5 => ?_⟩
        obtain ⟨nls, nlc⟩ := S4.ne hld0
        have nlD : ld' ≠ D := fun e => by
          subst e
          rw [hD4] at hld0
          cases hld0
        refine ⟨r, _, _, V.ref ld', rfl, rfl, SqT.of hr5, atI_nat (j := 1) rfl, ?_⟩
        have hD5 := kp5 _ _ hD4 nDs nDc
        refine ⟨_, hD5, Evl.sz_lt (by rw [List.length_map]; omega), ls ++ [ld'], by rw [List.length_append, hlj]; rfl, by rw [upd_same, List.map_append]; rfl, fun l hl => ?_, S5.upd nDs nDc, (kp4.trans kp5).off hD⟩
        rcases List.mem_append.mp hl with z | z
        · obtain ⟨nD, led', L⟩ := hls l z
          have L5 := L.kp kp5
          exact ⟨nD, led', by rw [upd_ne nD]; exact L5.at_, L5.n1, L5.n5, L5.all, L5.ns, L5.nc⟩
        · rw [List.mem_singleton] at z
          subst z
          exact ⟨nlD, led, by rw [upd_ne nlD]; exact hld5, g1, g5, gx, nls, nlc⟩
      · rintro H4 ⟨ls, hlj, hD4, hls, S4, kp4⟩
        match ls, hlj, hD4, hls with
        | [l0, l1, l2, l3], _, hD4, hls =>
          obtain ⟨_, a0, L0⟩ := hls l0 (by simp)
          obtain ⟨_, a1, L1⟩ := hls l1 (by simp)
          obtain ⟨_, a2, L2⟩ := hls l2 (by simp)
          obtain ⟨_, a3, L3⟩ := hls l3 (by simp)
          exact ⟨D, l0, l1, l2, l3, a0, a1, a2, a3, rfl, hD4, ⟨nDs, nDc⟩, L0, L1, L2, L3, S4, tabs_kp T3 S3 kp4⟩
    rintro σ H4 ⟨D, l0, l1, l2, l3, a0, a1, a2, a3, rfl, hD4, nD, L0, L1, L2, L3, S4, T4⟩
    have p0 := L0.n1
    have p1 := L1.n1
    have p2 := L2.n1
    have p3 := L3.n1
    have q0 := L0.n5
    have q1 := L1.n5
    have q2 := L2.n5
    have q3 := L3.n5
    -- the first two tables
    refine ⟨fun σ H5 => ∃ (f1 f2 : Addr) (c1 c2 : Nat), 1 ≤ c1 ∧ c1 ≤ 4 ∧ 1 ≤ c2 ∧ c2 ≤ 4 ∧ σ = [some (.ref sa), some (.ref s0), some (.int (0 + (i : Int))), some (.ref wd), some (.ref D), some (.ref f1), some (.ref f2), v7, v8, v9, v10, v11, v12, v13, v14, v15, none, none, none] ∧ Bun PT H5 s0 c0 D f1 f2 l0 l1 l2 l3 a0 a1 a2 a3 nm.length (c1 : Int) (c2 : Int), ?_, ?_⟩
    · refine ⟨_, rfl, _, rfl, D, _, _, V.ref l0, rfl, rfl, SqL.of hD4, atI_nat (j := 0) rfl, _, rfl, D, _, _, V.ref l1, rfl, rfl, SqL.of hD4, atI_nat (j := 1) rfl, s0, c0, l0, l1, a0, a1, rfl, S4, L0.at_, L1.at_, p0, by omega, by omega, fun f1 c1 H5 x1 x2 tb1 S5 kp5 => ?_⟩
      have hD5 := kp5 _ _ hD4 nD.1 nD.2
      refine ⟨_, rfl, _, rfl, D, _, _, V.ref l1, rfl, rfl, SqL.of hD5, atI_nat (j := 1) rfl, _, rfl, D, _, _, V.ref l2, rfl, rfl, SqL.of hD5, atI_nat (j := 2) rfl, s0, c0, l1, l2, a1, a2, rfl, S5, (L1.kp kp5).at_, (L2.kp kp5).at_, p1, by omega, by omega, fun f2 c2 H6 y1 y2 tb2 S6 kp6 => ?_⟩
      refine ⟨(by show 2 ≤ sizeLine; decide), fun tp htp => ?_⟩
      have sT := same_new (o := .tup [V.ref f1, V.ref f2]) htp
      refine ⟨tp, _, rfl, SqT.of upd_same, rfl, _, _, rfl, _, _, rfl, rfl, ?_⟩
      have kp7 := (kp5.trans kp6).trans (Kp.same sT)
      exact ⟨f1, f2, c1, c2, x1, x2, y1, y2, rfl, S6.same sT, tabs_kp T4 S4 kp7, kp7 _ _ hD4 nD.1 nD.2, nD, L0.kp kp7, L1.kp kp7, L2.kp kp7, L3.kp kp7, (tb1.kp S5 kp6).same sT, tb2.same sT⟩
    rintro σ H5 ⟨f1, f2, c1, c2, x1, x2, y1, y2, rfl, B5⟩
    generalize hF : mulT (bbT a0 a1) (c1 : Int) = F
    generalize hL : mulT (bbT a1 a2) (c2 : Int) = L
    have okF : TblOk F a1.length := hF ▸ mul_ok (bb_ok p0 (by omega) (by omega))
    have okL : TblOk L a2.length := hL ▸ mul_ok (bb_ok p1 (by omega) (by omega))
    have lF : F.length = a0.length := by rw [← hF]; unfold mulT bbT; rw [List.length_map, List.length_map]
    have lL : L.length = a1.length := by rw [← hL]; unfold mulT bbT; rw [List.length_map, List.length_map]
    have smF : ∀ r ∈ F, ∀ x ∈ r, 0 ≤ x ∧ x ≤ 4 := fun r hr x hx => by
      rw [← hF] at hr
      obtain ⟨z1, z2⟩ := mul_small bb_1 (by omega) r hr x hx
      exact ⟨z1, by omega⟩
    have smL : ∀ r ∈ L, ∀ x ∈ r, 0 ≤ x ∧ x ≤ 4 := fun r hr x hx => by
      rw [← hL] at hr
      obtain ⟨z1, z2⟩ := mul_small bb_1 (by omega) r hr x hx
      exact ⟨z1, by omega⟩
    have bF : ∀ {H : Hp}, Bun PT H s0 c0 D f1 f2 l0 l1 l2 l3 a0 a1 a2 a3 nm.length (c1 : Int) (c2 : Int) → TblAt H f1 F := fun B => hF ▸ B.F1
    have bL : ∀ {H : Hp}, Bun PT H s0 c0 D f1 f2 l0 l1 l2 l3 a0 a1 a2 a3 nm.length (c1 : Int) (c2 : Int) → TblAt H f2 L := fun B => hL ▸ B.F2
    have txt : ∀ (tb : List (List Int)) (m : Nat), TblOk tb m → (∀ r ∈ tb, ∀ x ∈ r, 0 ≤ x ∧ x ≤ 1000000) → (dTab tb).showable = true ∧ (dTab tb).hasDict = false ∧ (dTab tb).depth ≤ 50 ∧ (dTab tb).shown.length ≤ sizeLine := fun tb m ok h => tab_ok ok.n8 fun r hr => ⟨by rw [ok.rm r hr]; exact ok.m8, h r hr⟩
    -- both
    refine ⟨fun σ H6 => ∃ bo, σ = [some (.ref sa), some (.ref s0), some (.int (0 + (i : Int))), some (.ref wd), some (.ref D), some (.ref f1), some (.ref f2), some (.ref bo), v8, v9, v10, v11, v12, v13, v14, v15, none, none, none] ∧ Bun PT H6 s0 c0 D f1 f2 l0 l1 l2 l3 a0 a1 a2 a3 nm.length (c1 : Int) (c2 : Int) ∧ TblAt H6 bo (prodT F L a2.length), ?_, ?_⟩
    · refine ⟨_, rfl, _, rfl, f1, f2, F, L, a2.length, rfl, bF B5, bL B5, by rw [lL]; exact okF, okL, fun r hr x hx => by have := smF r hr x hx; omega, fun bo H6 tb s6 => ?_⟩
      exact ⟨bo, rfl, B5.same s6, tb⟩
    rintro σ H6 ⟨bo, rfl, B6, tbo⟩
    have prS := prod_small (t1 := F) (t2 := L) (m := a2.length) (fun r hr x hx => by have := smF r hr x hx; omega) (fun r hr x hx => by have := smL r hr x hx; omega) okL.n8
    have prO : TblOk (prodT F L a2.length) a2.length := by
      refine ⟨fun r hr => ?_, ?_, ?_, okL.m8⟩
      · obtain ⟨r0, _, rfl⟩ := List.mem_map.mp hr
        rw [List.length_map, List.length_range]
      · unfold prodT
        rw [List.length_map]
        exact okF.n1
      · unfold prodT
        rw [List.length_map]
        exact okF.n8
    obtain ⟨o1, o2, o3, o4⟩ := txt _ _ prO prS
    refine ⟨fun σ H7 => σ = [some (.ref sa), some (.ref s0), some (.int (0 + (i : Int))), some (.ref wd), some (.ref D), some (.ref f1), some (.ref f2), some (.ref bo), v8, v9, v10, v11, v12, v13, v14, v15, none, none, none] ∧ Bun PT H7 s0 c0 D f1 f2 l0 l1 l2 l3 a0 a1 a2 a3 nm.length (c1 : Int) (c2 : Int), ?_, ?_⟩
    · refine ⟨_, rfl, _, rfl, f1, f2, F, L, a1.length, a2.length, rfl, bF B6, bL B6, okF, okL, fun r hr x hx => by have := smF r hr x hx; omega, fun _ p H7 tbp s7 => ?_, fun z => absurd lL.symm z⟩
      exact ⟨p, _, rfl, tab_sh tbp, o1, o2, o3, o4, _, rfl, bo, _, rfl, tab_sh (tbo.same s7), o1, o2, o3, o4, rfl, _, rfl, ne_same ⟨rfl, B6.same s7⟩⟩
    rintro σ H7 ⟨rfl, B7⟩
    -- turned over
    have tuO : TblOk (turnT F a1.length) F.length := by
      refine ⟨fun r hr => ?_, ?_, ?_, okF.n8⟩
      · obtain ⟨r0, _, rfl⟩ := List.mem_map.mp hr
        rw [List.length_map]
      · unfold turnT
        rw [List.length_map, List.length_range]
        exact p1
      · unfold turnT
        rw [List.length_map, List.length_range]
        omega
    have tuS : ∀ r ∈ turnT F a1.length, ∀ x ∈ r, 0 ≤ x ∧ x ≤ 1000000 := fun r hr x hx => by
      obtain ⟨j, _, rfl⟩ := List.mem_map.mp hr
      obtain ⟨r0, h0, rfl⟩ := List.mem_map.mp hx
      rw [List.getD_eq_getElem?_getD]
      cases e : r0[j]? with
      | none => exact ⟨by decide, by decide⟩
      | some y =>
        have := smF r0 h0 y (List.mem_of_getElem? e)
        exact ⟨this.1, by show y ≤ 1000000; omega⟩
    obtain ⟨u1, u2, u3, u4⟩ := txt _ _ tuO tuS
    refine ⟨fun σ H8 => σ = [some (.ref sa), some (.ref s0), some (.int (0 + (i : Int))), some (.ref wd), some (.ref D), some (.ref f1), some (.ref f2), some (.ref bo), v8, v9, v10, v11, v12, v13, v14, v15, none, none, none] ∧ Bun PT H8 s0 c0 D f1 f2 l0 l1 l2 l3 a0 a1 a2 a3 nm.length (c1 : Int) (c2 : Int), ?_, ?_⟩
    · refine ⟨_, rfl, f1, F, a1.length, rfl, bF B7, okF, fun p H8 _ tbp s8 => ?_⟩
      refine ⟨p, _, rfl, tab_sh tbp, u1, u2, u3, u4, _, rfl, f1, F, a1.length, rfl, (bF B7).same s8, okF, fun p2 H9 _ tbq s9 => ?_⟩
      exact ⟨p2, _, rfl, tab_sh tbq, u1, u2, u3, u4, rfl, _, rfl, ne_same ⟨rfl, B7.same (s8.trans s9)⟩⟩
    rintro σ H8 ⟨rfl, B8⟩
    -- more
    have mm : ∀ (t : List (List Int)) (x y : Int), mulT (mulT t x) y = mulT t (x * y) := fun t x y => by
      unfold mulT
      rw [List.map_map]
      refine List.map_congr_left fun r _ => ?_
      show (r.map fun z => z * x).map (fun z => z * y) = _
      rw [List.map_map]
      refine List.map_congr_left fun z _ => ?_
      show z * x * y = z * (x * y)
      rw [Int.mul_assoc]
    refine ⟨fun σ H9 => ∃ (mo : Addr) (v : Int), σ = [some (.ref sa), some (.ref s0), some (.int (0 + (i : Int))), some (.ref wd), some (.ref D), some (.ref f1), some (.ref f2), some (.ref bo), some (.ref mo), v9, v10, v11, v12, v13, v14, v15, none, none, none] ∧ 1 ≤ v ∧ v ≤ 16 ∧ TblAt H9 mo (mulT (bbT a0 a1) v) ∧ Bun PT H9 s0 c0 D f1 f2 l0 l1 l2 l3 a0 a1 a2 a3 nm.length (c1 : Int) (c2 : Int), ?_, ?_⟩
    · refine ⟨_, rfl, _, rfl, _, rfl, s0, c0, 3, rfl, B8.S, by decide, by decide, fun kk H9 k0 k1 S9 kp9 => ⟨_, _, rfl, rfl, ?_⟩⟩
      have B9 := B8.kp kp9 S9
      refine ⟨f1, F, a1.length, 1 + kk, rfl, bF B9, okF, by omega, by omega, fun p2 H10 tb2 s10 => ?_⟩
      refine ⟨f1, p2, F, mulT F (1 + kk), a1.length, rfl, (bF B9).same s10, tb2, okF, mul_ok okF, (List.length_map _).symm, fun mo H11 tbm s11 => ?_⟩
      refine ⟨mo, (c1 : Int) * (1 + (1 + kk)), rfl, ?_, ?_, ?_, B9.same (s10.trans s11)⟩
      · have h1 : (1 : Int) * 1 ≤ (c1 : Int) * (1 + (1 + kk)) := Int.mul_le_mul (by omega) (by omega) (by decide) (by omega)
        omega
      · have h1 : (c1 : Int) * (1 + (1 + kk)) ≤ 4 * 4 := Int.mul_le_mul (by omega) (by omega) (by omega) (by decide)
        omega
      · rw [sum_mul, ← hF, mm] at tbm
        exact tbm
    rintro σ H9 ⟨mo, v, rfl, v1, v16, tbm, B9⟩
    have okM : TblOk (mulT (bbT a0 a1) v) a1.length := mul_ok (bb_ok p0 (by omega) (by omega))
    have O : OneV (mulT (bbT a0 a1) v) v := one_bb v1 (by omega) (by
      obtain ⟨x, hx⟩ := List.exists_mem_of_length_pos p0
      exact ⟨x, hx, (L1.all x).mpr ((L0.all x).mp hx)⟩)
    have smM : ∀ r ∈ mulT (bbT a0 a1) v, ∀ x ∈ r, 0 ≤ x ∧ x ≤ 16 := fun r hr x hx => by
      obtain ⟨z1, z2⟩ := mul_small bb_1 (by omega) r hr x hx
      exact ⟨z1, by omega⟩
    generalize mulT (bbT a0 a1) v = M at *
    -- added
    have t3 : ∀ r ∈ mulT F 3, ∀ x ∈ r, 0 ≤ x ∧ x ≤ 1000000 := fun r hr x hx => by
      obtain ⟨z1, z2⟩ := mul_small smF (by decide) r hr x hx
      exact ⟨z1, by omega⟩
    obtain ⟨w1, w2, w3, w4⟩ := txt _ _ (mul_ok (c := 3) okF) t3
    refine ⟨fun σ H10 => σ = [some (.ref sa), some (.ref s0), some (.int (0 + (i : Int))), some (.ref wd), some (.ref D), some (.ref f1), some (.ref f2), some (.ref bo), some (.ref mo), v9, v10, v11, v12, v13, v14, v15, none, none, none] ∧ TblAt H10 mo M ∧ Bun PT H10 s0 c0 D f1 f2 l0 l1 l2 l3 a0 a1 a2 a3 nm.length (c1 : Int) (c2 : Int), ?_, ?_⟩
    · refine ⟨_, rfl, _, rfl, f1, F, a1.length, 2, rfl, bF B9, okF, by decide, by decide, fun p2 H10 tb2 s10 => ?_⟩
      have B10 := B9.same s10
      refine ⟨f1, p2, F, mulT F 2, a1.length, a1.length, rfl, bF B10, tb2, okF, mul_ok okF, fun _ _ p H11 tbp s11 => ?_, fun z => absurd ⟨(List.length_map _).symm, rfl⟩ z⟩
      rw [sum_mul] at tbp
      have B11 := B10.same s11
      refine ⟨p, dTab (mulT F 3), rfl, tab_sh tbp, w1, w2, w3, w4, _, rfl, f1, F, a1.length, 3, rfl, bF B11, okF, by decide, by decide, fun p3 H12 tb3 s12 => ?_⟩
      exact ⟨p3, _, rfl, tab_sh tb3, w1, w2, w3, w4, rfl, _, rfl, ne_same ⟨rfl, tbm.same ((s10.trans s11).trans s12), B11.same s12⟩⟩
    rintro σ H10 ⟨rfl, tbm, B10⟩
    -- the divisor
    refine ⟨fun σ H11 => σ = [some (.ref sa), some (.ref s0), some (.int (0 + (i : Int))), some (.ref wd), some (.ref D), some (.ref f1), some (.ref f2), some (.ref bo), some (.ref mo), some (.int v), v10, v11, v12, v13, v14, v15, none, none, none] ∧ TblAt H11 mo M ∧ Bun PT H11 s0 c0 D f1 f2 l0 l1 l2 l3 a0 a1 a2 a3 nm.length (c1 : Int) (c2 : Int), ?_, ?_⟩
    · exact ⟨_, rfl, mo, M, a1.length, v, rfl, tbm, okM, O, fun H11 s11 => ⟨rfl, tbm.same s11, B10.same s11⟩⟩
    rintro σ H11 ⟨rfl, tbm, B11⟩
    -- what is left
    have leO : TblOk (lessT M) a1.length := by
      refine ⟨fun r hr => ?_, ?_, ?_, okM.m8⟩
      · obtain ⟨r0, h0, rfl⟩ := List.mem_map.mp hr
        rw [List.length_map]
        exact okM.rm r0 h0
      · unfold lessT
        rw [List.length_map]
        exact okM.n1
      · unfold lessT
        rw [List.length_map]
        exact okM.n8
    have leS : ∀ r ∈ lessT M, ∀ x ∈ r, 0 ≤ x ∧ x ≤ 1000000 := fun r hr x hx => by
      rw [O.less] at hr
      obtain ⟨r0, h0, rfl⟩ := List.mem_map.mp hr
      obtain ⟨y, hy, rfl⟩ := List.mem_map.mp hx
      obtain ⟨z1, z2⟩ := smM r0 h0 y hy
      have h1 := Int.ediv_nonneg z1 (show 0 ≤ v by omega)
      have h2 := Int.ediv_le_self v z1
      exact ⟨h1, by omega⟩
    obtain ⟨g1, g2, g3, g4⟩ := txt _ _ leO leS
    refine ⟨fun σ H12 => ∃ le, σ = [some (.ref sa), some (.ref s0), some (.int (0 + (i : Int))), some (.ref wd), some (.ref D), some (.ref f1), some (.ref f2), some (.ref bo), some (.ref mo), some (.int v), some (.ref le), v11, v12, v13, v14, v15, none, none, none] ∧ TblAt H12 mo M ∧ TblAt H12 le (lessT M) ∧ Bun PT H12 s0 c0 D f1 f2 l0 l1 l2 l3 a0 a1 a2 a3 nm.length (c1 : Int) (c2 : Int), ?_, ?_⟩
    · obtain ⟨ms, hm, hml, hms⟩ := id tbm
      have n8 := okM.n8
      have m8 := okM.m8
      refine ⟨_, rfl, mo, rfl, ⟨_, SqT.of hm⟩, fun D0 hD0 => ?_⟩
      refine lc_it (walk_tup (xs := ms.map V.ref)) (fun i H2 => ∃ as, RowsAt H2 D0 as ((lessT M).take i) ∧ Same H11 H2) ⟨[], RowsAt.nil, same_new hD0⟩ (fun i H2 _ ⟨_, _, s⟩ => SqT.of (s _ _ hm)) ?_ ?_
      · rintro i x H3 H2 hi ⟨as, R, s1⟩ ⟨rfl, hx⟩
        rw [List.length_map] at hi
        rw [List.getElem?_map] at hx
        obtain ⟨a, ha, rfl⟩ := Option.map_eq_some_iff.mp hx
        obtain ⟨r, hr⟩ : ∃ r, M[i]? = some r := ⟨_, List.getElem?_eq_getElem (by omega)⟩
        have hHa := hms i a r ha hr
        have hrm := okM.rm r (List.mem_of_getElem? hr)
        refine ⟨rfl, tyes ?_⟩
        refine ⟨_, rfl, a, rfl, ⟨_, SqT.of (s1 _ _ hHa)⟩, fun D2 hD2 => ?_⟩
        refine lc_it (walk_tup (xs := r.map V.int)) (fun j H4 => H4 D2 = some (.lst (((r.take j).map fun x : Int => x / v).map V.int)) ∧ Same H2 H4) ⟨upd_same, same_new hD2⟩ (fun j H4 _ h => SqT.of (h.2 _ _ (s1 _ _ hHa))) ?_ ?_
        · rintro j y H5 H4 hj ⟨hD4, s4⟩ ⟨rfl, hy⟩
          rw [List.getElem?_map] at hy
          obtain ⟨z, hz, rfl⟩ := Option.map_eq_some_iff.mp hy
          refine ⟨rfl, tyes ?_⟩
          refine ⟨_, rfl, _, rfl, _, _, rfl, rfl, ⟨by omega, by omega⟩, _, hD4, Evl.sz_lt (by rw [List.length_map, List.length_map, List.length_take]; omega), ?_, Same.off s4 hD2⟩
          rw [upd_same, List.take_add_one, hz, List.map_append, List.map_append]
          rfl
        · rintro H4 ⟨hD4, s4⟩
          rw [List.length_map, List.take_length] at hD4
          refine ⟨D2, _, rfl, SqL.of hD4, fun p hp => ?_⟩
          have s5 := s4.trans (same_new (o := .tup ((r.map fun x : Int => x / v).map V.int)) hp)
          have R4 := (R.same s5)
          have hl : (as.map V.ref).length ≤ 8 := by rw [R.len, List.length_take, O.less, List.length_map]; omega
          exact ⟨_, R4.1, Evl.sz_lt (by omega), as ++ [p], R4.addI (by rw [O.less, List.getElem?_map, hr]; rfl) upd_same, Same.off (s1.trans s5) hD0⟩
      · rintro H2 ⟨as, R, s1⟩
        rw [List.length_map, List.take_of_length_le (by rw [O.less, List.length_map]; omega)] at R
        refine ⟨D0, _, rfl, SqL.of R.1, fun p hp => ?_⟩
        have s2 := s1.trans (same_new (o := .tup (as.map V.ref)) hp)
        exact ⟨p, rfl, tbm.same s2, (R.same (same_new hp)).tbl upd_same, B11.same s2⟩
    rintro σ H12 ⟨le, rfl, tbm, tbl, B12⟩
    refine ⟨fun σ H13 => σ = [some (.ref sa), some (.ref s0), some (.int (0 + (i : Int))), some (.ref wd), some (.ref D), some (.ref f1), some (.ref f2), some (.ref bo), some (.ref mo), some (.int v), some (.ref le), v11, v12, v13, v14, v15, none, none, none] ∧ Bun PT H13 s0 c0 D f1 f2 l0 l1 l2 l3 a0 a1 a2 a3 nm.length (c1 : Int) (c2 : Int), ?_, ?_⟩
    · have gd := O.gcd
      refine ⟨_, rfl, mo, M, a1.length, rfl, tbm, okM, by rw [gd]; omega, by rw [gd]; omega, fun p H13 tbp s13 => ?_⟩
      exact ⟨p, _, rfl, tab_sh tbp, g1, g2, g3, g4, _, rfl, le, _, rfl, tab_sh (tbl.same s13), g1, g2, g3, g4, rfl, _, rfl, ne_same ⟨rfl, B12.same s13⟩⟩
    rintro σ H13 ⟨rfl, B13⟩
    -- another
    refine ⟨fun σ H14 => ∃ (ot : Addr) (ax : List Nat) (c3 : Nat), 1 ≤ ax.length ∧ ax.length ≤ 5 ∧ 1 ≤ c3 ∧ c3 ≤ 4 ∧ σ = [some (.ref sa), some (.ref s0), some (.int (0 + (i : Int))), some (.ref wd), some (.ref D), some (.ref f1), some (.ref f2), some (.ref bo), some (.ref mo), some (.int v), some (.ref le), some (.ref ot), v12, v13, v14, v15, none, none, none] ∧ TblAt H14 ot (mulT (bbT a3 ax) (c3 : Int)) ∧ Bun PT H14 s0 c0 D f1 f2 l0 l1 l2 l3 a0 a1 a2 a3 nm.length (c1 : Int) (c2 : Int), ?_, ?_⟩
    · refine ⟨_, rfl, _, rfl, D, _, _, V.ref l3, rfl, rfl, SqL.of B13.hD, atI_nat (j := 3) rfl, _, rfl, _, rfl, s0, c0, 4, rfl, B13.S, by decide, by decide, fun kk H14 k0 k1 S14 kp14 => ?_⟩
      have B14 := B13.kp kp14 S14
      obtain ⟨lx, ax, hat, LX⟩ : ∃ lx ax, atI [V.ref l0, .ref l1, .ref l2, .ref l3] kk = some (V.ref lx) ∧ Lot nm.length H14 s0 c0 lx ax := by
        have : kk = 0 ∨ kk = 1 ∨ kk = 2 ∨ kk = 3 := by omega
        rcases this with rfl | rfl | rfl | rfl
        · exact ⟨l0, a0, atI_nat (j := 0) rfl, B14.L0⟩
        · exact ⟨l1, a1, atI_nat (j := 1) rfl, B14.L1⟩
        · exact ⟨l2, a2, atI_nat (j := 2) rfl, B14.L2⟩
        · exact ⟨l3, a3, atI_nat (j := 3) rfl, B14.L3⟩
      have n5 := LX.n5
      refine ⟨D, _, _, V.ref lx, rfl, rfl, SqL.of B14.hD, hat, s0, c0, l3, lx, a3, ax, rfl, S14, B14.L3.at_, LX.at_, p3, by omega, by omega, fun ot c3 H15 z1 z2 tbo S15 kp15 => ?_⟩
      exact ⟨ot, ax, c3, LX.n1, LX.n5, z1, z2, rfl, tbo, B14.kp kp15 S15⟩
    rintro σ H14 ⟨ot, ax, c3, n1x, n5x, z1, z2, rfl, tbG, B14⟩
    have okG : TblOk (mulT (bbT a3 ax) (c3 : Int)) ax.length := mul_ok (bb_ok p3 (by omega) (by omega))
    have lG : (mulT (bbT a3 ax) (c3 : Int)).length = a3.length := by unfold mulT bbT; rw [List.length_map, List.length_map]
    have smG : ∀ r ∈ mulT (bbT a3 ax) (c3 : Int), ∀ x ∈ r, 0 ≤ x ∧ x ≤ 4 := fun r hr x hx => by
      obtain ⟨z1, z2⟩ := mul_small bb_1 (by omega) r hr x hx
      exact ⟨z1, by omega⟩
    generalize mulT (bbT a3 ax) (c3 : Int) = G at *
    obtain ⟨b1, b2, b3, b4⟩ := bad_ok G.length (by omega)
    -- what is due behind it
    refine ⟨fun σ H15 => ∃ du, σ = [some (.ref sa), some (.ref s0), some (.int (0 + (i : Int))), some (.ref wd), some (.ref D), some (.ref f1), some (.ref f2), some (.ref bo), some (.ref mo), some (.int v), some (.ref le), some (.ref ot), some (.ref du), v13, v14, v15, none, none, none] ∧ ((G.length = a1.length ∧ TblAt H15 du (prodT F G ax.length)) ∨ (G.length ≠ a1.length ∧ H15 du = some (.lst (badV G.length)))) ∧ TblAt H15 ot G ∧ Bun PT H15 s0 c0 D f1 f2 l0 l1 l2 l3 a0 a1 a2 a3 nm.length (c1 : Int) (c2 : Int), ?_, ?_⟩
    · obtain ⟨gs, hgs, hgl, _⟩ := id tbG
      have lg : (gs.map V.ref).length = G.length := by rw [List.length_map, hgl]
      have la1 : (natV a1).length = a1.length := List.length_map _
      refine ⟨_, rfl, ot, _, rfl, .inr (SqT.of hgs), _, rfl, D, _, _, V.ref l1, rfl, rfl, SqL.of B14.hD, atI_nat (j := 1) rfl, l1, _, rfl, .inl (SqL.of B14.L1.at_), rfl, _, rfl, ?_⟩
      rw [lg, la1]
      by_cases c : G.length = a1.length
      · rw [decide_eq_true (show V.int ((G.length : Nat) : Int) = V.int ((a1.length : Nat) : Int) by rw [c])]
        refine iteT ⟨_, rfl, _, rfl, f1, ot, F, G, ax.length, rfl, bF B14, tbG, by rw [c]; exact okF, okG, fun r hr x hx => by have := smF r hr x hx; omega, fun du H15 tb s15 => ?_⟩
        exact ⟨du, rfl, .inl ⟨c, tb⟩, tbG.same s15, B14.same s15⟩
      · rw [decide_eq_false (fun e => c (by have := V.int.inj e; omega))]
        refine iteF ⟨_, rfl, ot, _, rfl, .inr (SqT.of hgs), _, rfl, ?_, (by show 2 ≤ sizeLine; decide), fun du hdu => ?_⟩
        · rw [lg]
          exact num_log (by omega)
        · rw [lg]
          have s15 := same_new (o := .lst (badV G.length)) hdu
          exact ⟨du, rfl, .inr ⟨c, upd_same⟩, tbG.same s15, B14.same s15⟩
    rintro σ H15 ⟨du, rfl, hdu, tbG, B15⟩
    have pgS := prod_small (t1 := F) (t2 := G) (m := ax.length) (fun r hr x hx => by have := smF r hr x hx; omega) (fun r hr x hx => by have := smG r hr x hx; omega) okG.n8
    have pgO : TblOk (prodT F G ax.length) ax.length := by
      refine ⟨fun r hr => ?_, ?_, ?_, okG.m8⟩
      · obtain ⟨r0, _, rfl⟩ := List.mem_map.mp hr
        rw [List.length_map, List.length_range]
      · unfold prodT
        rw [List.length_map]
        exact okF.n1
      · unfold prodT
        rw [List.length_map]
        exact okF.n8
    obtain ⟨e1, e2, e3, e4⟩ := txt _ _ pgO pgS
    refine ⟨fun σ H16 => σ = [some (.ref sa), some (.ref s0), some (.int (0 + (i : Int))), some (.ref wd), some (.ref D), some (.ref f1), some (.ref f2), some (.ref bo), some (.ref mo), some (.int v), some (.ref le), some (.ref ot), some (.ref du), v13, v14, v15, none, none, none] ∧ TblAt H16 ot G ∧ Bun PT H16 s0 c0 D f1 f2 l0 l1 l2 l3 a0 a1 a2 a3 nm.length (c1 : Int) (c2 : Int), ?_, ?_⟩
    · refine ⟨B15.T, fun H16 e16 T16 => ?_⟩
      have B16 := B15.extN e16 T16
      refine ⟨_, rfl, _, rfl, f1, ot, F, G, a1.length, ax.length, rfl, bF B16, tbG.extN e16, okF, okG, fun r hr x hx => by have := smF r hr x hx; omega, fun hlen p H17 tbp s17 => ?_, fun hne d H17 hd hdd s17 => ?_⟩
      · obtain ⟨_, tbd⟩ := hdu.resolve_right fun z => z.1 hlen.symm
        exact ⟨p, _, rfl, tab_sh tbp, e1, e2, e3, e4, _, rfl, du, _, rfl, tab_sh ((tbd.extN e16).same s17), e1, e2, e3, e4, rfl, _, rfl, ne_same ⟨rfl, (tbG.extN e16).same s17, B16.same s17⟩⟩
      · obtain ⟨_, hbd⟩ := hdu.resolve_left fun z => hne z.1.symm
        refine ⟨true, T.exm, fun _ => ⟨rfl, G.length, d, rfl, hdd, by omega, fun r hr => ?_⟩, fun z => by cases z⟩
        have s18 := s17.trans (same_new (o := .lst (badV G.length)) hr)
        exact ⟨r, dBad G.length, rfl, bad_sh upd_same, b1, b2, b3, b4, _, rfl, du, dBad G.length, rfl, bad_sh (s18 _ _ (e16 _ _ hbd fun _ z => by cases z)), b1, b2, b3, b4, rfl, _, rfl, ne_same ⟨rfl, (tbG.extN e16).same s18, B16.same s18⟩⟩
    rintro σ H16 ⟨rfl, tbG, B16⟩
    -- does it fit
    generalize hfb : decide ([((G.length : Nat) : Int), ((ax.length : Nat) : Int)] = [((F.length : Nat) : Int), ((a1.length : Nat) : Int)]) = fb
    have fbT : fb = true ↔ F.length = G.length ∧ a1.length = ax.length := by
      rw [← hfb, decide_eq_true_eq]
      constructor
      · intro e
        have e1 := List.cons.inj e
        have e2 := List.cons.inj e1.2
        have h1 := e1.1
        have h2 := e2.1
        exact ⟨by omega, by omega⟩
      · rintro ⟨h1, h2⟩
        rw [h1, h2]
    refine ⟨fun σ H17 => σ = [some (.ref sa), some (.ref s0), some (.int (0 + (i : Int))), some (.ref wd), some (.ref D), some (.ref f1), some (.ref f2), some (.ref bo), some (.ref mo), some (.int v), some (.ref le), some (.ref ot), some (.ref du), some (.bl fb), v14, v15, none, none, none] ∧ TblAt H17 ot G ∧ Bun PT H17 s0 c0 D f1 f2 l0 l1 l2 l3 a0 a1 a2 a3 nm.length (c1 : Int) (c2 : Int), ?_, ?_⟩
    · obtain ⟨gs, hgs, hgl, hgr⟩ := id tbG
      obtain ⟨fs, hfs, hfl, hfr⟩ := bF B16
      have nG := okG.n1
      have nF := okF.n1
      have lg : (gs.map V.ref).length = G.length := by rw [List.length_map, hgl]
      have lf : (fs.map V.ref).length = F.length := by rw [List.length_map, hfl]
      obtain ⟨g0, hg0⟩ : ∃ a, gs[0]? = some a := ⟨_, List.getElem?_eq_getElem (by omega)⟩
      obtain ⟨r0, hr0⟩ : ∃ a, G[0]? = some a := ⟨_, List.getElem?_eq_getElem (by omega)⟩
      obtain ⟨f0, hf0⟩ : ∃ a, fs[0]? = some a := ⟨_, List.getElem?_eq_getElem (by omega)⟩
      obtain ⟨q0', hq0⟩ : ∃ a, F[0]? = some a := ⟨_, List.getElem?_eq_getElem (by omega)⟩
      have hG0 := hgr 0 g0 r0 hg0 hr0
      have hF0 := hfr 0 f0 q0' hf0 hq0
      have lr0 : (r0.map V.int).length = ax.length := by rw [List.length_map, okG.rm r0 (List.mem_of_getElem? hr0)]
      have lq0 : (q0'.map V.int).length = a1.length := by rw [List.length_map, okF.rm q0' (List.mem_of_getElem? hq0)]
      refine ⟨_, rfl, ot, _, rfl, .inr (SqT.of hgs), _, rfl, ot, _, _, V.ref g0, rfl, rfl, SqT.of hgs, atI_nat (j := 0) (by rw [List.getElem?_map, hg0]; rfl), g0, _, rfl, .inr (SqT.of hG0), (by show 2 ≤ sizeLine; decide), fun x hx => ?_⟩
      rw [lg, lr0]
      have sx := same_new (o := .lst [V.int (G.length : Nat), V.int (ax.length : Nat)]) hx
      refine ⟨_, rfl, f1, _, rfl, .inr (SqT.of (sx _ _ hfs)), _, rfl, f1, _, _, V.ref f0, rfl, rfl, SqT.of (sx _ _ hfs), atI_nat (j := 0) (by rw [List.getElem?_map, hf0]; rfl), f0, _, rfl, .inr (SqT.of (sx _ _ hF0)), (by show 2 ≤ sizeLine; decide), fun y hy => ?_⟩
      rw [lf, lq0]
      have sy := sx.trans (same_new (o := .lst [V.int (F.length : Nat), V.int (a1.length : Nat)]) hy)
      have hxy : (upd (upd H16 x (.lst [V.int (G.length : Nat), V.int (ax.length : Nat)])) y (.lst [V.int (F.length : Nat), V.int (a1.length : Nat)])) x = some (.lst [V.int (G.length : Nat), V.int (ax.length : Nat)]) := by
        rw [upd_ne (ne_of_none upd_same hy)]
        exact upd_same
      refine ⟨.list (dInt [((G.length : Nat) : Int), ((ax.length : Nat) : Int)]), .list (dInt [((F.length : Nat) : Int), ((a1.length : Nat) : Int)]), .lst (SqL.of hxy) (dp_ints [((G.length : Nat) : Int), ((ax.length : Nat) : Int)]), .lst (SqL.of upd_same) (dp_ints [((F.length : Nat) : Int), ((a1.length : Nat) : Int)]), shaped_ints _, shaped_ints _, ?_, tbG.same sy, B16.same sy⟩
      have ee : PyData.eqv (.list (dInt [((G.length : Nat) : Int), ((ax.length : Nat) : Int)])) (.list (dInt [((F.length : Nat) : Int), ((a1.length : Nat) : Int)])) = fb := ((show PyData.eqv (.list (dInt [((G.length : Nat) : Int), ((ax.length : Nat) : Int)])) (.list (dInt [((F.length : Nat) : Int), ((a1.length : Nat) : Int)])) = PyData.eqvAll (dInt _) (dInt _) from rfl).trans (eqv_ints _ _)).trans hfb
      rw [ee]
      rfl
    rintro σ H17 ⟨rfl, tbG, B17⟩
    -- what is due of the sum
    refine ⟨fun σ H18 => ∃ du2, σ = [some (.ref sa), some (.ref s0), some (.int (0 + (i : Int))), some (.ref wd), some (.ref D), some (.ref f1), some (.ref f2), some (.ref bo), some (.ref mo), some (.int v), some (.ref le), some (.ref ot), some (.ref du2), some (.bl fb), v14, v15, none, none, none] ∧ (((F.length = G.length ∧ a1.length = ax.length) ∧ TblAt H18 du2 (sumT F G)) ∨ (¬ (F.length = G.length ∧ a1.length = ax.length) ∧ H18 du2 = some (.lst (badV G.length)))) ∧ TblAt H18 ot G ∧ Bun PT H18 s0 c0 D f1 f2 l0 l1 l2 l3 a0 a1 a2 a3 nm.length (c1 : Int) (c2 : Int), ?_, ?_⟩
    · obtain ⟨gs, hgs, hgl, _⟩ := id tbG
      have lg : (gs.map V.ref).length = G.length := by rw [List.length_map, hgl]
      refine ⟨_, rfl, _, rfl, ?_⟩
      by_cases c : F.length = G.length ∧ a1.length = ax.length
      · rw [fbT.mpr c]
        refine iteT ⟨_, rfl, _, rfl, f1, ot, F, G, a1.length, rfl, bF B17, tbG, okF, by rw [c.2]; exact okG, c.1, fun du2 H18 tb s18 => ?_⟩
        exact ⟨du2, rfl, .inl ⟨c, tb⟩, tbG.same s18, B17.same s18⟩
      · rw [show fb = false from Bool.eq_false_iff.mpr fun z => c (fbT.mp z)]
        refine iteF ⟨_, rfl, ot, _, rfl, .inr (SqT.of hgs), _, rfl, ?_, (by show 2 ≤ sizeLine; decide), fun du2 hdu2 => ?_⟩
        · rw [lg]
          exact num_log (by omega)
        · rw [lg]
          have s18 := same_new (o := .lst (badV G.length)) hdu2
          exact ⟨du2, rfl, .inr ⟨c, upd_same⟩, tbG.same s18, B17.same s18⟩
    rintro σ H18 ⟨du2, rfl, hdu2, tbG, B18⟩
    refine ⟨B18.T, fun H19 e19 T19 => ?_⟩
    have B19 := B18.extN e19 T19
    refine ⟨_, rfl, _, rfl, f1, ot, F, G, a1.length, ax.length, rfl, bF B19, tbG.extN e19, okF, okG, fun h1 h2 p H20 tbp s20 => ?_, fun hne d H20 hd hdd s20 => ?_⟩
    · obtain ⟨_, tbd⟩ := hdu2.resolve_right fun z => z.1 ⟨h1, h2⟩
      obtain ⟨t1, t2, t3', t4⟩ := txt _ _ (sumT_ok okF (h2 ▸ okG) h1) (sumT_small smF smG)
      exact ⟨p, _, rfl, tab_sh tbp, t1, t2, t3', t4, _, rfl, du2, _, rfl, tab_sh ((tbd.extN e19).same s20), t1, t2, t3', t4, rfl, _, rfl, ne_same ⟨(B19.same s20).S, (B19.same s20).T, _, _, _, _, _, _, _, _, _, _, _, _, _, _, rfl⟩⟩
    · obtain ⟨_, hbd⟩ := hdu2.resolve_left fun z => hne z.1
      refine ⟨true, T.exm, fun _ => ⟨rfl, G.length, d, rfl, hdd, by omega, fun r hr => ?_⟩, fun z => by cases z⟩
      have s21 := s20.trans (same_new (o := .lst (badV G.length)) hr)
      exact ⟨r, dBad G.length, rfl, bad_sh upd_same, b1, b2, b3, b4, _, rfl, du2, dBad G.length, rfl, bad_sh (s21 _ _ (e19 _ _ hbd fun _ z => by cases z)), b1, b2, b3, b4, rfl, _, rfl, ne_same ⟨(B19.same s21).S, (B19.same s21).T, _, _, _, _, _, _, _, _, _, _, _, _, _, _, rfl⟩⟩
  rintro σ H2 ⟨S2, T2, v2, v3, v4, v5, v6, v7, v8, v9, v10, v11, v12, v13, v14, v15, rfl⟩
  -- a flat table
  refine ⟨fun σ H3 => ∃ fl, σ = [some (.ref sa), some (.ref s0), v2, v3, v4, v5, v6, v7, v8, v9, v10, v11, v12, v13, some (.ref fl), v15, none, none, none] ∧ TblAt H3 fl [[1, 1], [1, 1]] ∧ Tabs [(PT, lamQ)] H3, ?_, ?_⟩
  · refine ⟨(by show 2 ≤ sizeLine; decide), fun u hu => ⟨(by show 2 ≤ sizeLine; decide), fun w hw => ⟨(by show 2 ≤ sizeLine; decide), fun fl hfl => ?_⟩⟩⟩
    have s1 := same_new (o := .tup [V.int 1, V.int 1]) hu
    have s2 := same_new (o := .tup [V.int 1, V.int 1]) hw
    have s3 := same_new (o := .tup [V.ref u, V.ref w]) hfl
    refine ⟨fl, rfl, ⟨[u, w], upd_same, rfl, fun k x r hx hr => ?_⟩, Tabs.ext T2 ((s1.trans s2).trans s3)⟩
    match k, hx, hr with
    | 0, hx, hr =>
      cases hx
      cases hr
      exact s3 _ _ (s2 _ _ upd_same)
    | 1, hx, hr =>
      cases hx
      cases hr
      exact s3 _ _ upd_same
  rintro σ H3 ⟨fl, rfl, tbf, T3⟩
  have okf : TblOk [[1, 1], [1, 1]] 2 := ⟨fun r hr => by
    simp only [List.mem_cons, List.not_mem_nil, or_false] at hr
    rcases hr with rfl | rfl <;> rfl, by decide, by decide, by decide⟩
  have ok3 : TblOk [[1, 1, 1], [1, 1, 1]] 3 := ⟨fun r hr => by
    simp only [List.mem_cons, List.not_mem_nil, or_false] at hr
    rcases hr with rfl | rfl <;> rfl, by decide, by decide, by decide⟩
  refine ⟨fun σ H4 => σ = [some (.ref sa), some (.ref s0), v2, v3, v4, v5, v6, v7, v8, v9, v10, v11, v12, v13, some (.ref fl), v15, none, none, none], ?_, ?_⟩
  · refine ⟨T3, fun H4 e4 T4 => ?_⟩
    refine ⟨_, rfl, (by show 3 ≤ sizeLine; decide), fun u hu => ⟨(by show 1 ≤ sizeLine; decide), fun x hx => ?_⟩⟩
    have s1 := same_new (o := .tup [V.int 1, V.int 1, V.int 1]) hu
    have s2 := same_new (o := .tup [V.ref u]) hx
    refine ⟨x, 2, [V.ref u], rfl, rfl, SqT.of upd_same, (fun z => by cases z), by decide, by decide, (by show 1 ≤ 1000; decide), fun y hy => ?_⟩
    have s3 := same_new (o := .tup (List.replicate (2 : Int).toNat [V.ref u]).flatten) hy
    have tb3 : TblAt (upd (upd (upd H4 u (.tup [V.int 1, V.int 1, V.int 1])) x (.tup [V.ref u])) y (.tup (List.replicate (2 : Int).toNat [V.ref u]).flatten)) y [[1, 1, 1], [1, 1, 1]] := by
      refine ⟨[u, u], upd_same, rfl, fun k z r hz hr => ?_⟩
      match k, hz, hr with
      | 0, hz, hr =>
        cases hz
        cases hr
        exact s3 _ _ (s2 _ _ upd_same)
      | 1, hz, hr =>
        cases hz
        cases hr
        exact s3 _ _ (s2 _ _ upd_same)
    refine ⟨fl, y, [[1, 1], [1, 1]], [[1, 1, 1], [1, 1, 1]], 2, 3, rfl, (tbf.extN e4).same ((s1.trans s2).trans s3), tb3, okf, ok3, fun _ h => absurd h (by decide), fun _ d H5 hd hdd s5 => ?_⟩
    refine ⟨true, T.exm, fun _ => ⟨rfl, 2, d, rfl, hdd, by decide, fun r hr => ⟨(by show 2 ≤ sizeLine; decide), fun q hq => ?_⟩⟩, fun z => by cases z⟩
    have sq := same_new (o := .lst [V.str "BadNumber", V.str "2"]) hq
    refine ⟨dBad 2, .list [.str "BadNumber", .str "2"], .lst (SqL.of (sq _ _ upd_same)) (.cons (.str _) (.cons (.str _) .nil)), .lst (SqL.of upd_same) (.cons (.str _) (.cons (.str _) .nil)), by decide +kernel, by decide +kernel, _, rfl, ?_⟩
    rw [show PyData.eqv (dBad 2) (.list [.str "BadNumber", .str "2"]) = true by decide +kernel]
    exact iteF rfl
  rintro σ H4 rfl
  refine ⟨fun σ H5 => ∃ w15, σ = [some (.ref sa), some (.ref s0), v2, v3, v4, v5, v6, v7, v8, v9, v10, v11, v12, v13, some (.ref fl), w15, none, none, none], ?_, ?_⟩
  · unfold tFor iTup
    refine tTup2 ?_
    refine lit3_ok fun ta H5 tba s5 => ?_
    refine lit3_ok fun tb' H6 tbb s6 => ?_
    refine ⟨(by show 2 ≤ sizeLine; decide), fun t ht => ⟨t, rfl, ⟨_, SqT.of upd_same⟩, ?_⟩⟩
    have s7 := same_new (o := .tup [V.ref ta, V.ref tb']) ht
    have ht7 : (upd H6 t (.tup [V.ref ta, V.ref tb'])) t = some (.tup [V.ref ta, V.ref tb']) := upd_same
    have tba7 := (tba.same s6).same s7
    have tbb7 := tbb.same s7
    generalize upd H6 t (.tup [V.ref ta, V.ref tb']) = H7 at *
    have each : ∀ x ∈ [V.ref ta, V.ref tb'], ∃ (t : Addr) (tb : List (List Int)), x = V.ref t ∧ TblAt H7 t tb ∧ TblOk tb 3 ∧ 1 ≤ gcdT tb 0 ∧ gcdT tb 0 ≤ 1000 ∧ lessT tb = [[2, 0, 0], [0, 1, 1], [0, 1, 1]] := fun x hx => by
      simp only [List.mem_cons, List.not_mem_nil, or_false] at hx
      rcases hx with rfl | rfl
      · exact ⟨_, _, rfl, tba7, lit_ok, by decide +kernel, by decide +kernel, less_a⟩
      · exact ⟨_, _, rfl, tbb7, lit_ok, by decide +kernel, by decide +kernel, less_b⟩
    refine for_it (walk_tup (xs := [V.ref ta, V.ref tb'])) (fun j σ H8 => ∃ w15, σ = [some (.ref sa), some (.ref s0), v2, v3, v4, v5, v6, v7, v8, v9, v10, v11, v12, v13, some (.ref fl), w15, none, none, none] ∧ Same H7 H8) ⟨v15, rfl, Same.refl _⟩ (fun j σ H8 _ ⟨_, _, s⟩ => SqT.of (s _ _ ht7)) ?_ (fun σ H8 ⟨w15, e, _⟩ => ⟨w15, e⟩)
    rintro j x σ H9 H8 hj ⟨w15, rfl, s8⟩ ⟨rfl, hx⟩
    obtain ⟨t', tb, rfl, tb8, ok, gg1, gg2, el⟩ := each x (List.mem_of_getElem? hx)
    refine ⟨_, rfl, t', tb, 3, rfl, tb8.same s8, ok, gg1, gg2, fun p H10 tbp s10 => ?_⟩
    rw [el] at tbp
    refine lit3_ok fun t2 H11 tb2 s11 => ?_
    refine ⟨_, _, dp_tab (tbp.same s11), dp_tab tb2, by decide +kernel, by decide +kernel, _, rfl, ?_⟩
    rw [show PyData.eqv (dTab [[2, 0, 0], [0, 1, 1], [0, 1, 1]]) (dTab [[2, 0, 0], [0, 1, 1], [0, 1, 1]]) = true by decide +kernel]
    exact iteF ⟨some (.ref t'), rfl, (s8.trans s10).trans s11⟩
  rintro σ H5 ⟨w15, rfl⟩
  unfold tRet tOp tCall
  refine tCons1 ?_
  refine lit3_ok fun ta H6 tba s6 => ?_
  refine ⟨ta, _, 3, rfl, tba, lit_ok, by decide +kernel, by decide +kernel, fun p H7 tbp s7 => ?_⟩
  rw [less_c] at tbp
  refine lit3_ok fun t2 H8 tb2 s8 => ?_
  refine ⟨_, _, dp_tab (tbp.same s8), dp_tab tb2, by decide +kernel, by decide +kernel, ?_⟩
  rw [show PyData.eqv (dTab [[3, 0, 2], [2, 3, 0], [0, 2, 3]]) (dTab [[3, 0, 2], [2, 3, 0], [0, 2, 3]]) = true by decide +kernel]
  exact k _
end
end Nm
set_option maxRecDepth 100000
set_option maxHeartbeats 8000000
/-! what the top has written, and the law -/
namespace Nm
open PySem PySem.Spec PyProof.Rows L2 LamX
section
variable {P : Program} {w : World} {K : PySem.W.Frag} {mg : Str → Option Value} {base : Heap}
theorem def_mk {x : Str} {ps : List Str} {k : Nat} {sp : Sp} {f : Addr} {fd : FuncData} (G : FnOk P w K mg base CX0 k f fd ps sp) (a : mg x = some (.ref f)) (kp : PySem.W.keepIn K (.ref f) = true) (b : Binds K fd ps []) : Def P w K mg base x ps k sp := ⟨f, fd, G, a, kp, b⟩
theorem defx_mk {x : Str} {ps : List Str} {k : Nat} {sp : Sp} {f : Addr} {fd : FuncData} (G : FnOk P w K mg base (L2.CX P w) k f fd ps sp) (a : mg x = some (.ref f)) (kp : PySem.W.keepIn K (.ref f) = true) (b : Binds K fd ps []) : DefX P w K mg base x ps k sp := ⟨f, fd, G, a, kp, b⟩
/-- a code object's fields as its head's word asks for them -/
def hdV (vs : Array Value) (c P : Addr) : Bool := (match (vs[11]? : Option Value) with | some (.ref P') => P' == P | _ => false) &&
  (match vs.getD 18 .none with | .str _ _ => true | _ => false) && (match vs.getD 7 .none with | .int _ _ => true | _ => false) &&
  (match vs.getD 9 .none with | .bool _ => true | _ => false) && (match vs.getD 10 .none with | .int _ _ => true | _ => false) && c != P
theorem hdV_ok {c PT : Addr} {dd : Option Addr} {vs : Array Value} {sl : Array (Option Value)} (l : K.lookup c = some ⟨.type "code", dd, .fields vs, sl⟩) (h : hdV vs c PT = true) : PySem.W.codeHdIn K c PT = true := by
  unfold PySem.W.codeHdIn
  rw [l]
  exact h
theorem exm_self {C : Addr} {cd : PySem.ClassData} (b : PySem.W.subIn K (.ref C) (.type "BaseException") = some true) (d : PySem.W.clsIn K C = some cd) (t : PySem.W.typeIn K (.ref C) = some (.type "type")) (s : PySem.W.subIn K (.ref C) (.ref C) = some true) : PySem.W.exmOne K (.ref C) (.ref C) = some true := by
  have kc : PySem.W.kitCls K (.ref C) (.ref C) = some true := by
    show (if ((PySem.W.clsIn K C).isSome && PySem.W.typeIn K (.ref C) == some (.type "type")) = true then PySem.W.subIn K (.ref C) (.ref C) else none) = some true
    rw [d, t, s]
    rfl
  unfold PySem.W.exmOne
  rw [b, kc]
  rfl
theorem hdV_11 {c PT : Addr} {vs : Array Value} (h : hdV vs c PT = true) : vs[11]? = some (.ref PT) := by
  unfold hdV at h
  simp only [Bool.and_eq_true] at h
  obtain ⟨⟨⟨⟨⟨e1, _⟩, _⟩, _⟩, _⟩, _⟩ := h
  split at e1
  · rename_i P' h11
    rw [h11, beq_iff_eq.mp e1]
  · cases e1
end
theorem all_mk {l : PySem.W.OpenLaw} {w : World} {K : PySem.W.Frag} {h : Heap} {mg : Str → Option Value} {fa CB c PT : Addr} (X : K.In h) (G : h.Ns mainGlobals mg) (hfa : mg "law" = some (.ref fa)) (own : OwnTab K fa h)
    {f_ke : Addr} {kV_ke dc_ke pm_ke cd_ke ct_ke : Value} {an_ke : Option Addr} {oc_ke : Value} {od_ke : Option Addr} {sl_ke : Array (Option Value)} (a_ke : PySem.W.nsIn K mainGlobals "kept" = some (some (.ref f_ke))) (l_ke : K.lookup f_ke = some ⟨oc_ke, od_ke, .func (PySem.W.fnOf "kept" "kept" (defArgs sKept) (defBody sKept) (defScope sKept) .none kV_ke dc_ke pm_ke an_ke cd_ke ct_ke), sl_ke⟩) (c_ke : PySem.W.codeIn K cd_ke "kept" = true) (k_ke : PySem.W.keepIn K (.ref f_ke) = true)
    {f_wb : Addr} {kV_wb dc_wb pm_wb cd_wb ct_wb : Value} {an_wb : Option Addr} {oc_wb : Value} {od_wb : Option Addr} {sl_wb : Array (Option Value)} (a_wb : PySem.W.nsIn K mainGlobals "weights_behind" = some (some (.ref f_wb))) (l_wb : K.lookup f_wb = some ⟨oc_wb, od_wb, .func (PySem.W.fnOf "weights_behind" "weights_behind" (defArgs sWeightsBehind) (defBody sWeightsBehind) (defScope sWeightsBehind) .none kV_wb dc_wb pm_wb an_wb cd_wb ct_wb), sl_wb⟩) (c_wb : PySem.W.codeIn K cd_wb "weights_behind" = true) (k_wb : PySem.W.keepIn K (.ref f_wb) = true)
    {f_tu : Addr} {kV_tu dc_tu pm_tu cd_tu ct_tu : Value} {an_tu : Option Addr} {oc_tu : Value} {od_tu : Option Addr} {sl_tu : Array (Option Value)} (a_tu : PySem.W.nsIn K mainGlobals "turned_over" = some (some (.ref f_tu))) (l_tu : K.lookup f_tu = some ⟨oc_tu, od_tu, .func (PySem.W.fnOf "turned_over" "turned_over" (defArgs sTurned) (defBody sTurned) (defScope sTurned) .none kV_tu dc_tu pm_tu an_tu cd_tu ct_tu), sl_tu⟩) (c_tu : PySem.W.codeIn K cd_tu "turned_over" = true) (k_tu : PySem.W.keepIn K (.ref f_tu) = true)
    {f_ad : Addr} {kV_ad dc_ad pm_ad cd_ad ct_ad : Value} {an_ad : Option Addr} {oc_ad : Value} {od_ad : Option Addr} {sl_ad : Array (Option Value)} (a_ad : PySem.W.nsIn K mainGlobals "added_weights" = some (some (.ref f_ad))) (l_ad : K.lookup f_ad = some ⟨oc_ad, od_ad, .func (PySem.W.fnOf "added_weights" "added_weights" (defArgs sAdded) (defBody sAdded) (defScope sAdded) .none kV_ad dc_ad pm_ad an_ad cd_ad ct_ad), sl_ad⟩) (c_ad : PySem.W.codeIn K cd_ad "added_weights" = true) (k_ad : PySem.W.keepIn K (.ref f_ad) = true)
    {f_ls : Addr} {kV_ls dc_ls pm_ls cd_ls ct_ls : Value} {an_ls : Option Addr} {oc_ls : Value} {od_ls : Option Addr} {sl_ls : Array (Option Value)} (a_ls : PySem.W.nsIn K mainGlobals "lessened" = some (some (.ref f_ls))) (l_ls : K.lookup f_ls = some ⟨oc_ls, od_ls, .func (PySem.W.fnOf "lessened" "lessened" (defArgs sLessened) (defBody sLessened) (defScope sLessened) .none kV_ls dc_ls pm_ls an_ls cd_ls ct_ls), sl_ls⟩) (c_ls : PySem.W.codeIn K cd_ls "lessened" = true) (k_ls : PySem.W.keepIn K (.ref f_ls) = true)
    {f_oc : Addr} {kV_oc dc_oc pm_oc cd_oc ct_oc : Value} {an_oc : Option Addr} {oc_oc : Value} {od_oc : Option Addr} {sl_oc : Array (Option Value)} (a_oc : PySem.W.nsIn K mainGlobals "_law_open_cells" = some (some (.ref f_oc))) (l_oc : K.lookup f_oc = some ⟨oc_oc, od_oc, .func (PySem.W.fnOf "_law_open_cells" "_law_open_cells" (defArgs sOpenCells) (defBody sOpenCells) (defScope sOpenCells) .none kV_oc dc_oc pm_oc an_oc cd_oc ct_oc), sl_oc⟩) (c_oc : PySem.W.codeIn K cd_oc "_law_open_cells" = true) (k_oc : PySem.W.keepIn K (.ref f_oc) = true)
    {f_pk : Addr} {kV_pk dc_pk pm_pk cd_pk ct_pk : Value} {an_pk : Option Addr} {oc_pk : Value} {od_pk : Option Addr} {sl_pk : Array (Option Value)} (a_pk : PySem.W.nsIn K mainGlobals "_law_pick" = some (some (.ref f_pk))) (l_pk : K.lookup f_pk = some ⟨oc_pk, od_pk, .func (PySem.W.fnOf "_law_pick" "_law_pick" (defArgs sPick) (defBody sPick) (defScope sPick) .none kV_pk dc_pk pm_pk an_pk cd_pk ct_pk), sl_pk⟩) (c_pk : PySem.W.codeIn K cd_pk "_law_pick" = true) (k_pk : PySem.W.keepIn K (.ref f_pk) = true)
    {f_ao : Addr} {kV_ao dc_ao pm_ao cd_ao ct_ao : Value} {an_ao : Option Addr} {oc_ao : Value} {od_ao : Option Addr} {sl_ao : Array (Option Value)} (a_ao : PySem.W.nsIn K mainGlobals "_law_any_order" = some (some (.ref f_ao))) (l_ao : K.lookup f_ao = some ⟨oc_ao, od_ao, .func (PySem.W.fnOf "_law_any_order" "_law_any_order" (defArgs sAnyOrder) (defBody sAnyOrder) (defScope sAnyOrder) .none kV_ao dc_ao pm_ao an_ao cd_ao ct_ao), sl_ao⟩) (c_ao : PySem.W.codeIn K cd_ao "_law_any_order" = true) (k_ao : PySem.W.keepIn K (.ref f_ao) = true)
    {f_ch : Addr} {kV_ch dc_ch pm_ch cd_ch ct_ch : Value} {an_ch : Option Addr} {oc_ch : Value} {od_ch : Option Addr} {sl_ch : Array (Option Value)} (a_ch : PySem.W.nsIn K mainGlobals "_law_choice_of" = some (some (.ref f_ch))) (l_ch : K.lookup f_ch = some ⟨oc_ch, od_ch, .func (PySem.W.fnOf "_law_choice_of" "_law_choice_of" (defArgs sChoiceOf) (defBody sChoiceOf) (defScope sChoiceOf) .none kV_ch dc_ch pm_ch an_ch cd_ch ct_ch), sl_ch⟩) (c_ch : PySem.W.codeIn K cd_ch "_law_choice_of" = true) (k_ch : PySem.W.keepIn K (.ref f_ch) = true)
    {f_sh : Addr} {kV_sh dc_sh pm_sh cd_sh ct_sh : Value} {an_sh : Option Addr} {oc_sh : Value} {od_sh : Option Addr} {sl_sh : Array (Option Value)} (a_sh : PySem.W.nsIn K mainGlobals "_law_shape_pairs" = some (some (.ref f_sh))) (l_sh : K.lookup f_sh = some ⟨oc_sh, od_sh, .func (PySem.W.fnOf "_law_shape_pairs" "_law_shape_pairs" (defArgs sShapePairs) (defBody sShapePairs) (defScope sShapePairs) .none kV_sh dc_sh pm_sh an_sh cd_sh ct_sh), sl_sh⟩) (c_sh : PySem.W.codeIn K cd_sh "_law_shape_pairs" = true) (k_sh : PySem.W.keepIn K (.ref f_sh) = true)
    {f_dw : Addr} {kV_dw dc_dw pm_dw cd_dw ct_dw : Value} {an_dw : Option Addr} {oc_dw : Value} {od_dw : Option Addr} {sl_dw : Array (Option Value)} (a_dw : PySem.W.nsIn K mainGlobals "_law_draw_world" = some (some (.ref f_dw))) (l_dw : K.lookup f_dw = some ⟨oc_dw, od_dw, .func (PySem.W.fnOf "_law_draw_world" "_law_draw_world" (defArgs sDrawWorld) (defBody sDrawWorld) (defScope sDrawWorld) .none kV_dw dc_dw pm_dw an_dw cd_dw ct_dw), sl_dw⟩) (c_dw : PySem.W.codeIn K cd_dw "_law_draw_world" = true) (k_dw : PySem.W.keepIn K (.ref f_dw) = true)
    {f_pa : Addr} {kV_pa dc_pa pm_pa cd_pa ct_pa : Value} {an_pa : Option Addr} {oc_pa : Value} {od_pa : Option Addr} {sl_pa : Array (Option Value)} (a_pa : PySem.W.nsIn K mainGlobals "_law_parts" = some (some (.ref f_pa))) (l_pa : K.lookup f_pa = some ⟨oc_pa, od_pa, .func (PySem.W.fnOf "_law_parts" "_law_parts" (defArgs sParts) (defBody sParts) (defScope sParts) .none kV_pa dc_pa pm_pa an_pa cd_pa ct_pa), sl_pa⟩) (c_pa : PySem.W.codeIn K cd_pa "_law_parts" = true) (k_pa : PySem.W.keepIn K (.ref f_pa) = true)
    {f_se : Addr} {kV_se dc_se pm_se cd_se ct_se : Value} {an_se : Option Addr} {oc_se : Value} {od_se : Option Addr} {sl_se : Array (Option Value)} (a_se : PySem.W.nsIn K mainGlobals "_law_seated" = some (some (.ref f_se))) (l_se : K.lookup f_se = some ⟨oc_se, od_se, .func (PySem.W.fnOf "_law_seated" "_law_seated" (defArgs sSeated) (defBody sSeated) (defScope sSeated) .none kV_se dc_se pm_se an_se cd_se ct_se), sl_se⟩) (c_se : PySem.W.codeIn K cd_se "_law_seated" = true) (k_se : PySem.W.keepIn K (.ref f_se) = true)
    {f_ov : Addr} {kV_ov dc_ov pm_ov cd_ov ct_ov : Value} {an_ov : Option Addr} {oc_ov : Value} {od_ov : Option Addr} {sl_ov : Array (Option Value)} (a_ov : PySem.W.nsIn K mainGlobals "_law_over" = some (some (.ref f_ov))) (l_ov : K.lookup f_ov = some ⟨oc_ov, od_ov, .func (PySem.W.fnOf "_law_over" "_law_over" (defArgs sOver) (defBody sOver) (defScope sOver) .none kV_ov dc_ov pm_ov an_ov cd_ov ct_ov), sl_ov⟩) (c_ov : PySem.W.codeIn K cd_ov "_law_over" = true) (k_ov : PySem.W.keepIn K (.ref f_ov) = true)
    {f_ti : Addr} {kV_ti dc_ti pm_ti cd_ti ct_ti : Value} {an_ti : Option Addr} {oc_ti : Value} {od_ti : Option Addr} {sl_ti : Array (Option Value)} (a_ti : PySem.W.nsIn K mainGlobals "_law_times" = some (some (.ref f_ti))) (l_ti : K.lookup f_ti = some ⟨oc_ti, od_ti, .func (PySem.W.fnOf "_law_times" "_law_times" (defArgs sTimes) (defBody sTimes) (defScope sTimes) .none kV_ti dc_ti pm_ti an_ti cd_ti ct_ti), sl_ti⟩) (c_ti : PySem.W.codeIn K cd_ti "_law_times" = true) (k_ti : PySem.W.keepIn K (.ref f_ti) = true)
    {f_bh : Addr} {kV_bh dc_bh pm_bh cd_bh ct_bh : Value} {an_bh : Option Addr} {oc_bh : Value} {od_bh : Option Addr} {sl_bh : Array (Option Value)} (a_bh : PySem.W.nsIn K mainGlobals "_law_behind_due" = some (some (.ref f_bh))) (l_bh : K.lookup f_bh = some ⟨oc_bh, od_bh, .func (PySem.W.fnOf "_law_behind_due" "_law_behind_due" (defArgs sBehind) (defBody sBehind) (defScope sBehind) .none kV_bh dc_bh pm_bh an_bh cd_bh ct_bh), sl_bh⟩) (c_bh : PySem.W.codeIn K cd_bh "_law_behind_due" = true) (k_bh : PySem.W.keepIn K (.ref f_bh) = true)
    {f_to : Addr} {kV_to dc_to pm_to cd_to ct_to : Value} {an_to : Option Addr} {oc_to : Value} {od_to : Option Addr} {sl_to : Array (Option Value)} (a_to : PySem.W.nsIn K mainGlobals "_law_turned_over" = some (some (.ref f_to))) (l_to : K.lookup f_to = some ⟨oc_to, od_to, .func (PySem.W.fnOf "_law_turned_over" "_law_turned_over" (defArgs sTurnedLaw) (defBody sTurnedLaw) (defScope sTurnedLaw) .none kV_to dc_to pm_to an_to cd_to ct_to), sl_to⟩) (c_to : PySem.W.codeIn K cd_to "_law_turned_over" = true) (k_to : PySem.W.keepIn K (.ref f_to) = true)
    {f_bo : Addr} {kV_bo dc_bo pm_bo cd_bo ct_bo : Value} {an_bo : Option Addr} {oc_bo : Value} {od_bo : Option Addr} {sl_bo : Array (Option Value)} (a_bo : PySem.W.nsIn K mainGlobals "_law_bound_over" = some (some (.ref f_bo))) (l_bo : K.lookup f_bo = some ⟨oc_bo, od_bo, .func (PySem.W.fnOf "_law_bound_over" "_law_bound_over" (defArgs sBoundOver) (defBody sBoundOver) (defScope sBoundOver) .none kV_bo dc_bo pm_bo an_bo cd_bo ct_bo), sl_bo⟩) (c_bo : PySem.W.codeIn K cd_bo "_law_bound_over" = true) (k_bo : PySem.W.keepIn K (.ref f_bo) = true)
    {f_ba : Addr} {kV_ba dc_ba pm_ba cd_ba ct_ba : Value} {an_ba : Option Addr} {oc_ba : Value} {od_ba : Option Addr} {sl_ba : Array (Option Value)} (a_ba : PySem.W.nsIn K mainGlobals "_law_base" = some (some (.ref f_ba))) (l_ba : K.lookup f_ba = some ⟨oc_ba, od_ba, .func (PySem.W.fnOf "_law_base" "_law_base" (defArgs sBase) (defBody sBase) (defScope sBase) .none kV_ba dc_ba pm_ba an_ba cd_ba ct_ba), sl_ba⟩) (c_ba : PySem.W.codeIn K cd_ba "_law_base" = true) (k_ba : PySem.W.keepIn K (.ref f_ba) = true)
    {f_bb : Addr} {kV_bb dc_bb pm_bb cd_bb ct_bb : Value} {an_bb : Option Addr} {oc_bb : Value} {od_bb : Option Addr} {sl_bb : Array (Option Value)} (a_bb : PySem.W.nsIn K mainGlobals "_law_by_base" = some (some (.ref f_bb))) (l_bb : K.lookup f_bb = some ⟨oc_bb, od_bb, .func (PySem.W.fnOf "_law_by_base" "_law_by_base" (defArgs sByBase) (defBody sByBase) (defScope sByBase) .none kV_bb dc_bb pm_bb an_bb cd_bb ct_bb), sl_bb⟩) (c_bb : PySem.W.codeIn K cd_bb "_law_by_base" = true) (k_bb : PySem.W.keepIn K (.ref f_bb) = true)
    {f_ca : Addr} {kV_ca dc_ca pm_ca cd_ca ct_ca : Value} {an_ca : Option Addr} {oc_ca : Value} {od_ca : Option Addr} {sl_ca : Array (Option Value)} (a_ca : PySem.W.nsIn K mainGlobals "_law_caught" = some (some (.ref f_ca))) (l_ca : K.lookup f_ca = some ⟨oc_ca, od_ca, .func (PySem.W.fnOf "_law_caught" "_law_caught" (defArgs sCaught) (defBody sCaught) (defScope sCaught) .none kV_ca dc_ca pm_ca an_ca cd_ca ct_ca), sl_ca⟩) (c_ca : PySem.W.codeIn K cd_ca "_law_caught" = true) (k_ca : PySem.W.keepIn K (.ref f_ca) = true)
    {f_di : Addr} {kV_di dc_di pm_di cd_di ct_di : Value} {an_di : Option Addr} {oc_di : Value} {od_di : Option Addr} {sl_di : Array (Option Value)} (a_di : PySem.W.nsIn K mainGlobals "_law_divisor" = some (some (.ref f_di))) (l_di : K.lookup f_di = some ⟨oc_di, od_di, .func (PySem.W.fnOf "_law_divisor" "_law_divisor" (defArgs sDivisor) (defBody sDivisor) (defScope sDivisor) .none kV_di dc_di pm_di an_di cd_di ct_di), sl_di⟩) (c_di : PySem.W.codeIn K cd_di "_law_divisor" = true) (k_di : PySem.W.keepIn K (.ref f_di) = true)
    {f_su : Addr} {kV_su dc_su pm_su cd_su ct_su : Value} {an_su : Option Addr} {oc_su : Value} {od_su : Option Addr} {sl_su : Array (Option Value)} (a_su : PySem.W.nsIn K mainGlobals "_law_sum" = some (some (.ref f_su))) (l_su : K.lookup f_su = some ⟨oc_su, od_su, .func (PySem.W.fnOf "_law_sum" "_law_sum" (defArgs sSum) (defBody sSum) (defScope sSum) .none kV_su dc_su pm_su an_su cd_su ct_su), sl_su⟩) (c_su : PySem.W.codeIn K cd_su "_law_sum" = true) (k_su : PySem.W.keepIn K (.ref f_su) = true)
    {f_dr : Addr} {kV_dr dc_dr pm_dr cd_dr ct_dr : Value} {an_dr : Option Addr} {oc_dr : Value} {od_dr : Option Addr} {sl_dr : Array (Option Value)} (a_dr : PySem.W.nsIn K mainGlobals "_law_drawn_table" = some (some (.ref f_dr))) (l_dr : K.lookup f_dr = some ⟨oc_dr, od_dr, .func (PySem.W.fnOf "_law_drawn_table" "_law_drawn_table" (defArgs sDrawnTable) (defBody sDrawnTable) (defScope sDrawnTable) .none kV_dr dc_dr pm_dr an_dr cd_dr ct_dr), sl_dr⟩) (c_dr : PySem.W.codeIn K cd_dr "_law_drawn_table" = true) (k_dr : PySem.W.keepIn K (.ref f_dr) = true)
    {kV_la dc_la pm_la ct_la : Value} {an_la : Option Addr} {oc_la : Value} {od_la : Option Addr} {sl_la : Array (Option Value)} {f_la : Addr} (a_la : PySem.W.nsIn K mainGlobals "law" = some (some (.ref f_la))) (l_la : K.lookup f_la = some ⟨oc_la, od_la, .func (PySem.W.fnOf "law" "law" (defArgs sLaw) (defBody sLaw) (defScope sLaw) .none kV_la dc_la pm_la an_la (.ref c) ct_la), sl_la⟩) (c_la : PySem.W.codeIn K (.ref c) "law" = true) (k_la : PySem.W.keepIn K (.ref f_la) = true)
    {dd_c : Option Addr} {vs_c : Array Value} {sl_c : Array (Option Value)} (l_c : K.lookup c = some ⟨.type "code", dd_c, .fields vs_c, sl_c⟩) (v_11 : vs_c[11]? = some (.ref PT)) (hd_c : hdV vs_c c PT = true) (n_t : K.lookup PT = none)
    {f_bi cda cc : Addr} {kV_bi dc_bi pm_bi ct_bi : Value} {an_bi : Option Addr} {oc_bi : Value} {od_bi : Option Addr} {sl_bi : Array (Option Value)} (a_bi : PySem.W.findIn K (.ref CB) "__init__" = some (some (.ref f_bi))) (t_bi : PySem.W.typeIn K (.ref f_bi) = some (.type "function"))
    (l_bi : K.lookup f_bi = some ⟨oc_bi, od_bi, .func (PySem.W.ksFn "__init__" "BadNumber.__init__" (defArgs sBadNumberInit) (defBody sBadNumberInit) (defScope sBadNumberInit) .none kV_bi dc_bi pm_bi an_bi (.ref cda) ct_bi cc), sl_bi⟩) (c_bi : PySem.W.codeIn K (.ref cda) "BadNumber.__init__" = true)
    {ccl : Value} {cdd : Option Addr} {vs_b : Array Value} {ccs : Array (Option Value)} (l_b : K.lookup cda = some ⟨ccl, cdd, .fields vs_b, ccs⟩) {file : Str} {tf : Tok} (v_b : vs_b[2]? = some (.str file tf)) (fi_b : ((l.prog.main.file : Str) == file) = true)
    {cl : Value} {cld : Option Addr} {csl : Array (Option Value)} (l_cc : K.lookup cc = some ⟨cl, cld, .cell (some (.ref CB)), csl⟩) {cdB : PySem.ClassData} (d_B : PySem.W.clsIn K CB = some cdB) (m_B : PySem.W.mroIn K CB (.ref CB) = some true) (sV : PySem.W.subIn K (.ref CB) (.type "ValueError") = some true)
    (su_B : PySem.W.ks_superIn K CB CB "__init__" = some (some (.builtin "ValueError.__init__"))) (opq : PySem.W.nsIn K PySem.cStatics "thirdparty.any" = some none) (top_s : (l.prog.main.scope.names.lookup ("super" : Str)).isSome = false)
    {nm_B q_B : Str} {N_B : Addr} {bs_B : List Value} {bm_B : List Value} {sn_B sub_B ab_B col_B dd_B k0_B k1_B k2_B k3_B k5_B : _} (l_B : K.lookup CB = some (excClassObj nm_B q_B CB N_B bs_B bm_B true sn_B sub_B ab_B col_B dd_B k0_B k1_B k2_B k3_B k5_B "ValueError.__new__")) (r_B : PySem.HandSPX.refsVE bm_B = true)
    (sa_B : PySem.W.findIn K (.ref CB) "__setattr__" = some (some (.builtin "object.__setattr__"))) (ex_B : PySem.W.subIn K (.ref CB) (.type "BaseException") = some true) (ty_B : PySem.W.typeIn K (.ref CB) = some (.type "type")) (kp_B : PySem.W.keepIn K (.ref CB) = true) (sb_B : PySem.W.subIn K (.ref CB) (.ref CB) = some true)
    (ga_B : PySem.W.findIn K (.ref CB) "__getattribute__" = some (some (.builtin "BaseException.__getattribute__"))) (gg_B : PySem.W.findIn K (.ref CB) "__getattr__" = some none) (hd_B : PySem.W.hasDictIn K CB = true) (nu_B : PySem.W.findIn K (.ref CB) "number" = some none) (z_B : PySem.W.nsIn K mainGlobals "BadNumber" = some (some (.ref CB)))
    (z_len : PySem.W.nsIn K mainGlobals "len" = some none)
    (z_int : PySem.W.nsIn K mainGlobals "int" = some none)
    (z_list : PySem.W.nsIn K mainGlobals "list" = some none)
    (z_range : PySem.W.nsIn K mainGlobals "range" = some none)
    (z_abs : PySem.W.nsIn K mainGlobals "abs" = some none)
    (z_sorted : PySem.W.nsIn K mainGlobals "sorted" = some none)
    (z_dict : PySem.W.nsIn K mainGlobals "dict" = some none)
    (z_enumerate : PySem.W.nsIn K mainGlobals "enumerate" = some none)
    (z_str : PySem.W.nsIn K mainGlobals "str" = some none)
    (z_max : PySem.W.nsIn K mainGlobals "max" = some none)
    (z_min : PySem.W.nsIn K mainGlobals "min" = some none)
    (z_sum : PySem.W.nsIn K mainGlobals "sum" = some none)
    (z_zip : PySem.W.nsIn K mainGlobals "zip" = some none)
    (z_isinstance : PySem.W.nsIn K mainGlobals "isinstance" = some none)
    (z_any : PySem.W.nsIn K mainGlobals "any" = some none)
    (z_tuple : PySem.W.nsIn K mainGlobals "tuple" = some none)
    (z_repr : PySem.W.nsIn K mainGlobals "repr" = some none)
    (z_super : PySem.W.nsIn K mainGlobals "super" = some none)
    (z_gcd : PySem.W.nsIn K mainGlobals "gcd" = some (some (.builtin "math.gcd"))) :
    LawAtG l w K CX0 63 "_law_script" mg fa h := by
  have e := hfa.symm.trans (PySem.W.mg_of X G a_la)
  cases e
  have none_ := fun {x : Str} (z : PySem.W.nsIn K mainGlobals x = some none) => PySem.W.mg_none_of X G z
  have TA : TxtA mg := ⟨none_ z_len, none_ z_int⟩
  have TB : TxtB mg := ⟨TA, none_ z_list, none_ z_range, none_ z_abs⟩
  have TC : TxtC mg := ⟨TB, none_ z_sorted⟩
  have TD : TxtD mg := ⟨TC, none_ z_dict, none_ z_enumerate, none_ z_str⟩
  have TZ : TxtZ mg := ⟨none_ z_zip, none_ z_tuple⟩
  have TR : TxtR mg := ⟨TZ, none_ z_len, none_ z_range, none_ z_enumerate, none_ z_list, none_ z_int, none_ z_sum⟩
  have TS : TxtS mg := ⟨TR, none_ z_max⟩
  have TM1 : TxtM1 mg := ⟨TR, PySem.W.mg_of X G z_gcd⟩
  have TN1 : TxtN1 mg := ⟨TM1, none_ z_min⟩
  have TKe : TxtKe mg := ⟨none_ z_isinstance, none_ z_list, none_ z_tuple, none_ z_dict⟩
  have XF : XfC K CB := ⟨ga_B, gg_B, ex_B, hd_B⟩
  have mB := PySem.W.mg_of X G z_B
  have OX : OexC K CB := ⟨⟨_, _, _, _, _, _, _, _, _, _, _, _, _, _, _, l_B, r_B⟩, sa_B, ex_B, ty_B, kp_B⟩
  have SF : SupF l.prog K CB f_bi cda cc _ "BadNumber.__init__" sBadNumberInit "self" := ⟨OX, ⟨_, _, _, _, _, _, _, _, rfl, l_bi⟩, ⟨_, rfl, rfl⟩, ⟨_, _, _, _, _, _, l_b, v_b, fi_b⟩, c_bi, ⟨_, _, _, l_cc⟩, ⟨_, d_B⟩, m_B, sV, su_B, opq, top_s⟩
  have F_ke := fun_mk (st := sKept) l_ke c_ke k_ke
  have b_ke := F_ke.binds (ps := ["value"]) fun _ _ _ _ _ _ us hl => match us, hl with | [_], _ => rfl
  have m_ke := PySem.W.mg_of X G a_ke
  have F_wb := fun_mk (st := sWeightsBehind) l_wb c_wb k_wb
  have b_wb := F_wb.binds (ps := ["first", "last"]) fun _ _ _ _ _ _ us hl => match us, hl with | [_, _], _ => rfl
  have m_wb := PySem.W.mg_of X G a_wb
  have F_tu := fun_mk (st := sTurned) l_tu c_tu k_tu
  have b_tu := F_tu.binds (ps := ["table"]) fun _ _ _ _ _ _ us hl => match us, hl with | [_], _ => rfl
  have m_tu := PySem.W.mg_of X G a_tu
  have F_ad := fun_mk (st := sAdded) l_ad c_ad k_ad
  have b_ad := F_ad.binds (ps := ["first", "last"]) fun _ _ _ _ _ _ us hl => match us, hl with | [_, _], _ => rfl
  have m_ad := PySem.W.mg_of X G a_ad
  have F_ls := fun_mk (st := sLessened) l_ls c_ls k_ls
  have b_ls := F_ls.binds (ps := ["table"]) fun _ _ _ _ _ _ us hl => match us, hl with | [_], _ => rfl
  have m_ls := PySem.W.mg_of X G a_ls
  have F_oc := fun_mk (st := sOpenCells) l_oc c_oc k_oc
  have b_oc := F_oc.binds (ps := ["_law_script"]) fun _ _ _ _ _ _ us hl => match us, hl with | [_], _ => rfl
  have m_oc := PySem.W.mg_of X G a_oc
  have F_pk := fun_mk (st := sPick) l_pk c_pk k_pk
  have b_pk := F_pk.binds (ps := ["_law_source", "_law_many"]) fun _ _ _ _ _ _ us hl => match us, hl with | [_, _], _ => rfl
  have m_pk := PySem.W.mg_of X G a_pk
  have F_ao := fun_mk (st := sAnyOrder) l_ao c_ao k_ao
  have b_ao := F_ao.binds (ps := ["_law_source", "_law_items"]) fun _ _ _ _ _ _ us hl => match us, hl with | [_, _], _ => rfl
  have m_ao := PySem.W.mg_of X G a_ao
  have F_ch := fun_mk (st := sChoiceOf) l_ch c_ch k_ch
  have b_ch := F_ch.binds (ps := ["_law_source", "_law_items"]) fun _ _ _ _ _ _ us hl => match us, hl with | [_, _], _ => rfl
  have m_ch := PySem.W.mg_of X G a_ch
  have F_sh := fun_mk (st := sShapePairs) l_sh c_sh k_sh
  have b_sh := F_sh.binds (ps := ["_law_source", "_law_count"]) fun _ _ _ _ _ _ us hl => match us, hl with | [_, _], _ => rfl
  have m_sh := PySem.W.mg_of X G a_sh
  have F_dw := fun_mk (st := sDrawWorld) l_dw c_dw k_dw
  have b_dw := F_dw.binds (ps := ["_law_source", "_law_most"]) fun _ _ _ _ _ _ us hl => match us, hl with | [_, _], _ => rfl
  have m_dw := PySem.W.mg_of X G a_dw
  have F_pa := fun_mk (st := sParts) l_pa c_pa k_pa
  have b_pa := F_pa.binds (ps := ["_law_world"]) fun _ _ _ _ _ _ us hl => match us, hl with | [_], _ => rfl
  have m_pa := PySem.W.mg_of X G a_pa
  have F_se := fun_mk (st := sSeated) l_se c_se k_se
  have b_se := F_se.binds (ps := ["_law_source", "_law_world", "_law_led"]) fun _ _ _ _ _ _ us hl => match us, hl with | [_, _, _], _ => rfl
  have m_se := PySem.W.mg_of X G a_se
  have F_ov := fun_mk (st := sOver) l_ov c_ov k_ov
  have b_ov := F_ov.binds (ps := ["_law_source", "_law_world", "_law_numbers"]) fun _ _ _ _ _ _ us hl => match us, hl with | [_, _, _], _ => rfl
  have m_ov := PySem.W.mg_of X G a_ov
  have F_ti := fun_mk (st := sTimes) l_ti c_ti k_ti
  have b_ti := F_ti.binds (ps := ["_law_weighed", "_law_number"]) fun _ _ _ _ _ _ us hl => match us, hl with | [_, _], _ => rfl
  have m_ti := PySem.W.mg_of X G a_ti
  have F_bh := fun_mk (st := sBehind) l_bh c_bh k_bh
  have b_bh := F_bh.binds (ps := ["_law_first", "_law_last"]) fun _ _ _ _ _ _ us hl => match us, hl with | [_, _], _ => rfl
  have m_bh := PySem.W.mg_of X G a_bh
  have F_to := fun_mk (st := sTurnedLaw) l_to c_to k_to
  have b_to := F_to.binds (ps := ["_law_weighed"]) fun _ _ _ _ _ _ us hl => match us, hl with | [_], _ => rfl
  have m_to := PySem.W.mg_of X G a_to
  have F_bo := fun_mk (st := sBoundOver) l_bo c_bo k_bo
  have b_bo := F_bo.binds (ps := ["_law_source", "_law_ground", "_law_most"]) fun _ _ _ _ _ _ us hl => match us, hl with | [_, _, _], _ => rfl
  have m_bo := PySem.W.mg_of X G a_bo
  have F_ba := fun_mk (st := sBase) l_ba c_ba k_ba
  have b_ba := F_ba.binds (ps := ["_law_source"]) fun _ _ _ _ _ _ us hl => match us, hl with | [_], _ => rfl
  have m_ba := PySem.W.mg_of X G a_ba
  have F_bb := fun_mk (st := sByBase) l_bb c_bb k_bb
  have b_bb := F_bb.binds (ps := ["_law_one", "_law_other"]) fun _ _ _ _ _ _ us hl => match us, hl with | [_, _], _ => rfl
  have m_bb := PySem.W.mg_of X G a_bb
  have F_ca := fun_mk (st := sCaught) l_ca c_ca k_ca
  have b_ca := F_ca.binds (ps := ["_law_ask"]) fun _ _ _ _ _ _ us hl => match us, hl with | [_], _ => rfl
  have m_ca := PySem.W.mg_of X G a_ca
  have F_di := fun_mk (st := sDivisor) l_di c_di k_di
  have b_di := F_di.binds (ps := ["_law_weighed"]) fun _ _ _ _ _ _ us hl => match us, hl with | [_], _ => rfl
  have m_di := PySem.W.mg_of X G a_di
  have F_su := fun_mk (st := sSum) l_su c_su k_su
  have b_su := F_su.binds (ps := ["_law_first", "_law_last"]) fun _ _ _ _ _ _ us hl => match us, hl with | [_, _], _ => rfl
  have m_su := PySem.W.mg_of X G a_su
  have F_dr := fun_mk (st := sDrawnTable) l_dr c_dr k_dr
  have b_dr := F_dr.binds (ps := ["_law_source", "_law_one", "_law_other"]) fun _ _ _ _ _ _ us hl => match us, hl with | [_, _, _], _ => rfl
  have m_dr := PySem.W.mg_of X G a_dr
  have F_la := fun_mk (st := sLaw) l_la c_la k_la
  have b_bi : Binds K (PySem.W.ksFn "__init__" "BadNumber.__init__" (defArgs sBadNumberInit) (defBody sBadNumberInit) (defScope sBadNumberInit) .none kV_bi dc_bi pm_bi an_bi (.ref cda) ct_bi cc) ["self", "number"] [] := .all fun us hl => match us, hl with | [_, _], _ => rfl
  have ht := own c PT _ _ _ _ _ _ l_la rfl rfl l_c v_11
  refine ⟨PySem.W.fnOf "law" "law" (defArgs sLaw) (defBody sLaw) (defScope sLaw) .none kV_la dc_la pm_la an_la (.ref c) ct_la, [(c, PT)], spLaw41 K PT, fun p hp => by rw [List.mem_singleton.mp hp]; exact ht, fun p hp => by rw [List.mem_singleton.mp hp]; exact n_t, fun p hp => by rw [List.mem_singleton.mp hp]; exact PySem.W.codeHd_of_K X (hdV_ok l_c hd_c), (fun s v => .of_eq rfl), fun H a ns hl hT hS => ⟨a, ns, rfl, hS, hl, hT _ (List.mem_singleton.mpr rfl), fun _ => rfl⟩, fun base _ _ tb => ?_⟩
  have TBc := tb _ (List.mem_singleton.mpr rfl)
  have G_pk := def_mk (ok_pick (P := l.prog) (w := w) (base := base) F_pk TA) m_pk k_pk b_pk
  have G_pz := def_mk (ok_pickZ (P := l.prog) (w := w) (base := base) F_pk TA) m_pk k_pk b_pk
  have G_ao := def_mk (ok_any F_ao TB G_pk) m_ao k_ao b_ao
  have G_ch := def_mk (ok_choice F_ch TB G_pk) m_ch k_ch b_ch
  have G_oc := def_mk (ok_open (P := l.prog) (w := w) (base := base) F_oc TB) m_oc k_oc b_oc
  have G_sh := def_mk (ok_shape F_sh TB G_pk) m_sh k_sh b_sh
  have G_dw := def_mk (ok_draw F_dw TB G_pk G_ao G_sh G_ch) m_dw k_dw b_dw
  have G_pa := def_mk (ok_parts (P := l.prog) (w := w) (base := base) F_pa TC) m_pa k_pa b_pa
  have G_se := def_mk (ok_seat F_se TD G_ao) m_se k_se b_se
  have G_ov := def_mk (ok_over F_ov TD G_pz G_pa G_se) m_ov k_ov b_ov
  have G_tu := def_mk (ok_turned (P := l.prog) (w := w) (base := base) F_tu TZ) m_tu k_tu b_tu
  have G_ti := def_mk (ok_times (P := l.prog) (w := w) (base := base) F_ti TR) m_ti k_ti b_ti
  have G_bh := def_mk (ok_bh (P := l.prog) (w := w) (base := base) F_bh TR) m_bh k_bh b_bh
  have G_to := def_mk (ok_turnedL (P := l.prog) (w := w) (base := base) F_to TR) m_to k_to b_to
  have G_bo := def_mk (ok_bo F_bo TS G_pk G_ov) m_bo k_bo b_bo
  have G_ba := def_mk (ok_base F_ba G_dw) m_ba k_ba b_ba
  have G_bb := def_mk (ok_bb (P := l.prog) (w := w) (base := base) F_bb TR) m_bb k_bb b_bb
  have G_di := def_mk (ok_div (P := l.prog) (w := w) (base := base) F_di TN1) m_di k_di b_di
  have G_su := def_mk (ok_sum (P := l.prog) (w := w) (base := base) F_su TR) m_su k_su b_su
  have G_dr := def_mk (ok_drawn F_dr G_bb G_pk G_ti) m_dr k_dr b_dr
  have G_ls := def_mk (ok_less (P := l.prog) (w := w) (base := base) F_ls TM1) m_ls k_ls b_ls
  have G_ke := def_mk (ok_kept (P := l.prog) (w := w) (base := base) F_ke TKe) m_ke k_ke b_ke
  have TBad : TxtBad l.prog w K mg base CB := ⟨TN1, none_ z_any, mB, OX, XF, nu_B, ⟨f_bi, _, a_bi, t_bi, ok_badI SF XF nu_B (none_ z_super) G_ke, b_bi⟩⟩
  have TL : TxtL41 l.prog w K mg base CB := ⟨TBad, none_ z_repr, exm_self ex_B d_B ty_B sb_B⟩
  have G_wb := defx_mk (ok_wb F_wb TBad) m_wb k_wb b_wb
  have G_ad := defx_mk (ok_added F_ad TBad) m_ad k_ad b_ad
  refine run_law41 F_la (fun cdv oc od kV doc pm an ct osl lk => ?_) TL TBc F_ca m_ca b_ca G_oc G_pk G_ba G_bo G_dr G_bh G_wb G_tu G_to G_su G_ti G_ad G_di G_ls
  rw [l_la] at lk
  cases lk
  rfl
end Nm
open PySem PySem.W PyProof.Rows in
set_option maxRecDepth 100000 in
set_option maxHeartbeats 0 in
theorem PySem.Challenge.cw_namelessly_k41_tables_made_from_tables_holds : PySem.Challenge.rw_namelessly_k41_tables_made_from_tables.Holds := by
  w_on; o_law; k_head; (case hw => w_witness2)
  k_fill
  refine Nm.walk_G (l := PySem.Challenge.rw_namelessly_k41_tables_made_from_tables) (n := 63) (x := "_law_script") (CX := fun _ => L2.CX0) rfl (by decide) rfl (by decide +kernel) (fun w h Y => PySem.W.km_in_of Y) ?F (fun _ _ _ _ _ z => z)
  case F =>
    intro w mg fa h _ KX G hmg own
    refine' Nm.all_mk KX G hmg own ?a_ke ?l_ke ?c_ke ?k_ke ?a_wb ?l_wb ?c_wb ?k_wb ?a_tu ?l_tu ?c_tu ?k_tu ?a_ad ?l_ad ?c_ad ?k_ad ?a_ls ?l_ls ?c_ls ?k_ls ?a_oc ?l_oc ?c_oc ?k_oc ?a_pk ?l_pk ?c_pk ?k_pk ?a_ao ?l_ao ?c_ao ?k_ao ?a_ch ?l_ch ?c_ch ?k_ch ?a_sh ?l_sh ?c_sh ?k_sh ?a_dw ?l_dw ?c_dw ?k_dw ?a_pa ?l_pa ?c_pa ?k_pa ?a_se ?l_se ?c_se ?k_se ?a_ov ?l_ov ?c_ov ?k_ov ?a_ti ?l_ti ?c_ti ?k_ti ?a_bh ?l_bh ?c_bh ?k_bh ?a_to ?l_to ?c_to ?k_to ?a_bo ?l_bo ?c_bo ?k_bo ?a_ba ?l_ba ?c_ba ?k_ba ?a_bb ?l_bb ?c_bb ?k_bb ?a_ca ?l_ca ?c_ca ?k_ca ?a_di ?l_di ?c_di ?k_di ?a_su ?l_su ?c_su ?k_su ?a_dr ?l_dr ?c_dr ?k_dr ?a_la ?l_la ?c_la ?k_la ?l_c ?v_11 ?hd_c ?n_t ?a_bi ?t_bi ?l_bi ?c_bi ?l_b ?v_b ?fi_b ?l_cc ?d_B ?m_B ?sV ?su_B ?opq ?top_s ?l_B ?r_B ?sa_B ?ex_B ?ty_B ?kp_B ?sb_B ?ga_B ?gg_B ?hd_B ?nu_B ?z_B ?z_len ?z_int ?z_list ?z_range ?z_abs ?z_sorted ?z_dict ?z_enumerate ?z_str ?z_max ?z_min ?z_sum ?z_zip ?z_isinstance ?z_any ?z_tuple ?z_repr ?z_super ?z_gcd
    (case z_B => k_is)
    (case a_ke => k_is)
    (case l_ke => k_is)
    (case c_ke => k_is)
    (case k_ke => k_is)
    (case a_wb => k_is)
    (case l_wb => k_is)
    (case c_wb => k_is)
    (case k_wb => k_is)
    (case a_tu => k_is)
    (case l_tu => k_is)
    (case c_tu => k_is)
    (case k_tu => k_is)
    (case a_ad => k_is)
    (case l_ad => k_is)
    (case c_ad => k_is)
    (case k_ad => k_is)
    (case a_ls => k_is)
    (case l_ls => k_is)
    (case c_ls => k_is)
    (case k_ls => k_is)
    (case a_oc => k_is)
    (case l_oc => k_is)
    (case c_oc => k_is)
    (case k_oc => k_is)
    (case a_pk => k_is)
    (case l_pk => k_is)
    (case c_pk => k_is)
    (case k_pk => k_is)
    (case a_ao => k_is)
    (case l_ao => k_is)
    (case c_ao => k_is)
    (case k_ao => k_is)
    (case a_ch => k_is)
    (case l_ch => k_is)
    (case c_ch => k_is)
    (case k_ch => k_is)
    (case a_sh => k_is)
    (case l_sh => k_is)
    (case c_sh => k_is)
    (case k_sh => k_is)
    (case a_dw => k_is)
    (case l_dw => k_is)
    (case c_dw => k_is)
    (case k_dw => k_is)
    (case a_pa => k_is)
    (case l_pa => k_is)
    (case c_pa => k_is)
    (case k_pa => k_is)
    (case a_se => k_is)
    (case l_se => k_is)
    (case c_se => k_is)
    (case k_se => k_is)
    (case a_ov => k_is)
    (case l_ov => k_is)
    (case c_ov => k_is)
    (case k_ov => k_is)
    (case a_ti => k_is)
    (case l_ti => k_is)
    (case c_ti => k_is)
    (case k_ti => k_is)
    (case a_bh => k_is)
    (case l_bh => k_is)
    (case c_bh => k_is)
    (case k_bh => k_is)
    (case a_to => k_is)
    (case l_to => k_is)
    (case c_to => k_is)
    (case k_to => k_is)
    (case a_bo => k_is)
    (case l_bo => k_is)
    (case c_bo => k_is)
    (case k_bo => k_is)
    (case a_ba => k_is)
    (case l_ba => k_is)
    (case c_ba => k_is)
    (case k_ba => k_is)
    (case a_bb => k_is)
    (case l_bb => k_is)
    (case c_bb => k_is)
    (case k_bb => k_is)
    (case a_ca => k_is)
    (case l_ca => k_is)
    (case c_ca => k_is)
    (case k_ca => k_is)
    (case a_di => k_is)
    (case l_di => k_is)
    (case c_di => k_is)
    (case k_di => k_is)
    (case a_su => k_is)
    (case l_su => k_is)
    (case c_su => k_is)
    (case k_su => k_is)
    (case a_dr => k_is)
    (case l_dr => k_is)
    (case c_dr => k_is)
    (case k_dr => k_is)
    (case a_la => k_is)
    (case l_la => k_is)
    (case c_la => k_is)
    (case k_la => k_is)
    (case l_c => k_is)
    (case v_11 => rfl)
    (case hd_c => rfl)
    (case n_t => kernel_rfl)
    (case a_bi => k_is)
    (case t_bi => k_is)
    (case l_bi => k_is)
    (case c_bi => k_is)
    (case l_b => k_is)
    (case v_b => rfl)
    (case fi_b => decide +kernel)
    (case l_cc => k_is)
    (case d_B => k_is)
    (case m_B => k_is)
    (case sV => k_is)
    (case su_B => ks_is)
    (case opq => k_is)
    (case top_s => decide +kernel)
    (case l_B => k_is)
    (case r_B => decide +kernel)
    (case sa_B => k_is)
    (case ex_B => k_is)
    (case ty_B => k_is)
    (case kp_B => k_is)
    (case sb_B => k_is)
    (case ga_B => k_is)
    (case gg_B => k_is)
    (case hd_B => k_is)
    (case nu_B => k_is)
    (case z_len => k_is)
    (case z_int => k_is)
    (case z_list => k_is)
    (case z_range => k_is)
    (case z_abs => k_is)
    (case z_sorted => k_is)
    (case z_dict => k_is)
    (case z_enumerate => k_is)
    (case z_str => k_is)
    (case z_max => k_is)
    (case z_min => k_is)
    (case z_sum => k_is)
    (case z_zip => k_is)
    (case z_isinstance => k_is)
    (case z_any => k_is)
    (case z_tuple => k_is)
    (case z_repr => k_is)
    (case z_super => k_is)
    (case z_gcd => k_is)
