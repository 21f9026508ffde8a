import PyProof.Rows.All
import Wide.All
import OpenK.AllK
import Wide.FinOn
import HandS.ForMost
import PySem.Challenge.RW_namelessly_k45_weights_of_overs
import HandS.ExcInit
import HandS.ExcField
import HandS.FStr
import KE.KExcSuper
import KE.KExcInit
import HandS.Exc
import HandS.Evl
import HandS.Style
import HandS.StrMore
import HandS.Sort
import HandS.SortRule
import HandS.Walk
import HandS.Conv
import HandS.Zip
import HandS.IsInst
import HandS.SetKeys
import HandS.DictComp
import KE.KDictZip
import PyProof.ListNew
import PyProof.Rows.StrCut
import PyProof.StrLawsRepr
import PyProof.ReprBulk
import HandS.RaiseMore
import PyProof.EqKinds
import HandS.SetFor
import HandS.DictEq
import OpenK.KOps
import HandS.EndTab
import HandS.EndOwn
import HandS.DeepEq
import KE.KEqDict
import PyProof.CallFns
import PyProof.NeKinds
import HandS.Dict
import PyProof.DictFindH
import PyProof.P3Eq
import HandS.Lambda
import HandS.TupMul
import HandS.TupSets
set_option Elab.async false
set_option maxRecDepth 100000
set_option maxHeartbeats 4000000
/-! The text by places -/
namespace Nm
open PySem L2
def top (i : Nat) : Stmt := PySem.Challenge.pw_namelessly_k45_weights_of_overs.main.body.getD i (.Pass ⟨0, 0, 0, 0⟩)
abbrev sIsWord : Stmt := top 4
abbrev sIsInteger : Stmt := top 5
abbrev sIsNumber : Stmt := top 6
abbrev sKept : Stmt := top 7
abbrev sUnknownInit : Stmt := inClass (top 15) 0
abbrev sNeedWord : Stmt := top 17
abbrev sNeedOnce : Stmt := top 18
abbrev sNeedPlaces : Stmt := top 19
abbrev sTieSpot : Stmt := top 20
abbrev sNeedTies : Stmt := top 21
abbrev sOrderedTies : Stmt := top 22
abbrev sWebInit : Stmt := inClass (top 23) 0
abbrev sWebPlaces : Stmt := inClass (top 23) 1
abbrev sWebHas : Stmt := inClass (top 23) 7
abbrev sPairsOver : Stmt := top 25
abbrev sWeightsOver : Stmt := top 27
abbrev sOpenCells : Stmt := top 29
abbrev sPick : Stmt := top 30
abbrev sAnyOrder : Stmt := top 31
abbrev sChoiceOf : Stmt := top 32
abbrev sShapePairs : Stmt := top 33
abbrev sDrawWorld : Stmt := top 34
abbrev sMade : Stmt := top 35
abbrev sParts : Stmt := top 36
abbrev sSeated : Stmt := top 37
abbrev sOver : Stmt := top 38
abbrev sDict : Stmt := top 39
abbrev sBoundOver : Stmt := top 40
abbrev sBase : Stmt := top 41
abbrev sAnyDict : Stmt := top 42
abbrev sCaught : Stmt := top 43
abbrev sDue : Stmt := top 44
abbrev sSpoilt : Stmt := top 45
abbrev sLaw : Stmt := top 46
end Nm
set_option maxRecDepth 100000
set_option maxHeartbeats 4000000
/-! super().__init__(e) in the __init__ of an own exception over ValueError -/
namespace Nm
open PySem PySem.Spec PyProof.Rows L2
section
variable {X : Cx} {pins : List (Addr × Obj)} {σ : L2.St} {H : Hp} {s : Shared} {a C dx u : Addr} {fs : List (Str × V)} {E : Value → Shared → Prop} {A : Around}
/-- super().__init__, bound at u, called: nothing of it is told -/
theorem mw_call {us : List Value} {Q : Value → Shared → Prop} (T : OexC X.K C) (I : Inv X pins σ H s) (hu : s.heap.get? u = some (PySem.W.kxs_mw "ValueError.__init__" a)) (e : H a = some (exo a C (some dx))) (hl : us.length ≤ sizeLine)
    (h : ∀ s', Inv X pins σ H s' → Q .none s') : wpAny (model X.prog X.w) A (call (.ref u) us) Q E s := by
  obtain ⟨nm, q, N, bs, bm, sn, sub, ab, col, dd, k0, k1, k2, k3, k5, hC, hbm⟩ := T.cls
  obtain ⟨t1, ho⟩ := exo_at I.hok e
  have fin : ∀ h', (∀ b o, b ≠ a → s.heap.get? b = some o → h'.get? b = some o) → h'.get? a = some ({ cls := .ref C, dict := some dx, data := .fields #[.ref s.heap.objs.size, .none, .none, .none, .bool false, .none] } : Obj) → Inv X pins σ H { s with heap := h', toks := s.toks } := fun h' k e' => by
    have J := I.write (t' := s.toks) (x := a) (e := a) (o := exo a C (some dx)) (by rw [e]; exact True.intro) (.inl rfl) k ⟨_, e'⟩ (exo_ok e')
    have eu : upd H a (exo a C (some dx)) = H := by
      funext b
      by_cases hb : b = a
      · rw [hb, upd_same, e]
      · rw [upd_ne hb]
    rw [eu] at J
    exact J
  have hCC := I.kIn _ _ hC
  obtain ⟨hp, g, d, t, os⟩ := s
  refine wpAny_call (codeAny_of_tree ?_)
  show wpAny _ A.in1 (callAny (.ref u) ⟨us, []⟩) _ _ _
  simp only [callAny]
  refine wpAny_bind (wpAny_load hu ?_)
  simp only [PySem.W.kxs_mw, show (Value.type "method-wrapper" == Value.type "method" || Value.type "method-wrapper" == Value.type "builtin_function_or_method" || Value.type "method-wrapper" == Value.type "method-wrapper") = true by decide, if_true]
  refine PySem.W.KFB.if_so (by decide) ?_
  refine wpAny_bind (PySem.W.check_bound_init F.excBase_ValueError.toExcCallFacts hCC ho rfl ?_)
  refine wpAny_bind (wpAny_pure (wpAny_pure ?_))
  refine ⟨plainId_quiet F.excBase_ValueError.init.plain _, codeAny_builtin F.excBase_ValueError.initEntry ?_⟩
  exact PySem.W.exc_init_tree (cls := .ref C) (t0 := t1) (dv := some dx) (c2 := .none) (c3 := .none) (b4 := .bool false) ho hl fun h' k e' _ => h _ (fin h' k e')
end
/-- what the written part says of the class at C, its __init__ at f, the code at cda, the cell __class__ at cc -/
structure SupF (P : Program) (K : PySem.W.Frag) (C f cda cc : Addr) (fd : FuncData) (qual : Str) (st : Stmt) (a0 : Str) : Prop where
  oex : OexC K C
  lk : ∃ oc od kV doc pm an ct osl, fd = PySem.W.ksFn "__init__" qual (defArgs st) (defBody st) (defScope st) .none kV doc pm an (.ref cda) ct cc ∧ K.lookup f = some ⟨oc, od, .func fd, osl⟩
  hd : ∃ ar, ((defArgs st).posonlyargs ++ (defArgs st).args).head? = some ar ∧ ar.arg = a0
  code : ∃ ccl cdd vs ccs file tf, K.lookup cda = some ⟨ccl, cdd, .fields vs, ccs⟩ ∧ vs[2]? = some (.str file tf) ∧ ((P.main.file : Str) == file) = true
  recd : PySem.W.codeIn K (.ref cda) qual = true
  cell : ∃ cl cld csl, K.lookup cc = some ⟨cl, cld, .cell (some (.ref C)), csl⟩
  cd : ∃ cd, PySem.W.clsIn K C = some cd
  sub : PySem.W.mroIn K C (.ref C) = some true
  subV : PySem.W.subIn K (.ref C) (.type "ValueError") = some true
  sup : PySem.W.ks_superIn K C C "__init__" = some (some (.builtin "ValueError.__init__"))
  opq : PySem.W.nsIn K cStatics "thirdparty.any" = some none
  top : (P.main.scope.names.lookup ("super" : Str)).isSome = false
section
variable {X : Cx} {pins : List (Addr × Obj)} {σ : L2.St} {H : Hp} {s : Shared} {a C dx f cda cc L : Addr} {fd : FuncData} {qual a0 : Str} {st : Stmt}
/-- super().__init__(e ..), the code known -/
theorem sup_expr {body : List Stmt} {e : Expr} {es : List Expr} {ta : TA} {i : Nat} {p0 p1 p2 pos : Pos} {Q : Value → Shared → Prop} {pl : Sem Bool} (F : SupF X.prog X.K C f cda cc fd qual st a0)
    (hX : X.env = PySem.W.ksEnv qual (defScope st) L f (.ref cda) cc) (hms : X.mg "super" = none)
    (hks : (defScope st).names.lookup ("super" : Str) = some .globalImplicit) (hkc : (defScope st).names.lookup ("__class__" : Str) = some .free) (hN : X.N[i]? = some a0) (hka : (defScope st).names.lookup a0 = some .local) (ha : PA X (e :: es) ta)
    (I : Inv X pins σ H s) (hσ : σ[i]? = some (some (.ref a))) (hH : H a = some (exo a C (some dx)))
    (q : ta σ H fun vs H1 => vs.length ≤ 1000 ∧ H1 a = some (exo a C (some dx)) ∧ ∀ s', Inv X pins σ H1 s' → Q .none s')
    (he : starEach (e :: es) X.env = (false, eval e X.env) :: starEach es X.env := by rfl) (hpl : (backTo pos (starEach es X.env)).any (·.1) = false := by rfl)
    (hc : eval (.Call (.Attribute (.Call (.Name "super" p0) [] [] p1) "__init__" p2) (e :: es) [] pos) X.env = (do
      let ov ← attributeBase (.Call (.Name "super" p0) [] [] p1) "__init__" X.env (eval (.Call (.Name "super" p0) [] [] p1) X.env)
      standAt p2.atName
      let (f, first) ← holding [ov] (getMethod ov "__init__" pl)
      callWith pos f first (backTo pos (starEach (e :: es) X.env)) []) := by rfl) :
    _root_.PySem.wpAt (model X.prog X.w) X.A (.func body X.env) (eval (.Call (.Attribute (.Call (.Name "super" p0) [] [] p1) "__init__" p2) (e :: es) [] pos) X.env) Q X.xe s := by
  have KX := I.kIn
  obtain ⟨oc, od, kV, doc, pm, an, ct, osl, rfl, lk⟩ := F.lk
  obtain ⟨ar, har, hara⟩ := F.hd
  obtain ⟨ccl, cdd, vs, ccs, file, tf, hcode, hvs, hfile⟩ := F.code
  obtain ⟨cl, cld, csl, hcell⟩ := F.cell
  obtain ⟨cd, hcd⟩ := F.cd
  obtain ⟨oD, hD1, hD2⟩ : ∃ oD, s.heap.get? C = some oD ∧ oD.data = .cls cd := by
    unfold PySem.W.clsIn at hcd
    split at hcd
    · rename_i c d cd' sl ho
      cases hcd
      exact ⟨_, KX _ _ ho, rfl⟩
    · cases hcd
  obtain ⟨t1, ho⟩ := exo_at I.hok hH
  obtain ⟨mb, hmb, hmv⟩ := I.mod.blt
  have naC : a ≠ C := fun z => by
    rw [z, hD1] at ho
    cases ho
    cases hD2
  refine PySem.ks_wpAt_MethodCall (pl := pl) ?_ hc
  rw [hX]
  obtain ⟨hp, g, d, t, os⟩ := s
  refine PySem.ks_wpAt_super_base (env := PySem.W.ksEnv qual (defScope st) L f (.ref cda) cc) hks hkc (by decide) rfl (KX _ _ lk) rfl har rfl (KX _ _ hcode) rfl hvs hfile F.top ?_
  have hk : (defScope st).kind = .function := by
    have z := I.ok.kind
    rw [hX] at z
    exact z
  refine PySem.W.ks_loadName_global (env := PySem.W.ksEnv qual (defScope st) L f (.ref cda) cc) hk hks (PySem.Calls.loadGlobal_builtin (env := PySem.W.ksEnv qual (defScope st) L f (.ref cda) cc) (I.mod.glob.keeps I.bk) hms (hmb.keeps I.bk) ((hmv _ (by decide)).trans PyProof.Rows.Boot.«super») ⟨rfl, ?_⟩)
  refine wpAny_loadName_free (env := PySem.W.ksEnv qual (defScope st) L f (.ref cda) cc) hk hkc rfl ⟨_, KX _ _ hcell, rfl⟩ ?_
  obtain ⟨m, hn, hl⟩ := I.loc
  obtain ⟨u0, r0, l0⟩ := hl i a0 (.ref a) hN hσ (by rw [hX]; exact .inl hka)
  obtain rfl : u0 = Value.ref a := r0
  rw [hX] at l0 hn
  have hm0 : m a0 = some (.ref a) := by
    rcases l0 with ⟨_, z⟩ | ⟨z, _⟩
    · exact z
    · have z' : (defScope st).names.lookup a0 = some .cell ∨ (defScope st).names.lookup a0 = some .free := z
      rw [hka] at z'
      rcases z' with z' | z' <;> cases z'
  rw [hara]
  refine wpAny_loadName_local (env := PySem.W.ksEnv qual (defScope st) L f (.ref cda) cc) hk hka hn hm0 ?_
  refine PySem.ks_wpAny_isType_cls hD1 hD2 ⟨rfl, ?_⟩
  refine PySem.ks_wpAny_call_super hD1 hD2 ho rfl (fun c z => by cases z) (PySem.W.looks_mroIn KX F.sub) (fun h' e' k => ?_)
  have I1 : Inv X pins σ H ⟨h', g, d, t, os⟩ := I.kept (t' := t) k
  have KX1 := I1.kIn
  have ho1 := k _ _ ho
  have LT : PySem.W.Looks (model X.prog X.w) h' (typeOf (.ref a)) (.ref C) := fun A Q E s k q => wpAny_typeOf_ref (k _ _ ho1) q
  have hfs := F.sup
  unfold PySem.W.ks_superIn at hfs
  rw [hcd] at hfs
  refine PySem.W.kxs_getMethod PySem.W.kxs_ValueError e' (PySem.W.looks_opaque KX1 F.opq) (l₀ := cd.mro) (fun A Q E s k q => wpAny_bind ((PySem.W.looks_clsIn KX1 hcd) A _ E s k (wpAny_pure q))) rfl KX1 hfs (LT.andThen (PySem.W.looks_subIn KX1 F.subV)) naC (by decide) ?_
  have I2 : Inv X pins σ H ⟨h'.push (PySem.W.kxs_mw "ValueError.__init__" a), g, d, t + 1, os⟩ := I1.kept (t' := t + 1) fun b o z => Heap.get?_push_of_some _ z
  have I3 : Inv X ((h'.objs.size, PySem.W.kxs_mw "ValueError.__init__" a) :: pins) σ H ⟨h'.push (PySem.W.kxs_mw "ValueError.__init__" a), g, d, t + 1, os⟩ := I2.pins_of fun p hp => by
    rcases List.mem_cons.mp hp with z | z
    · subst z
      exact ⟨Heap.get?_push_at rfl rfl, I1.hok.fresh (Nat.le_refl _), Nat.ne_of_gt I1.lt, I1.nofs (Nat.le_refl _), fun v z => by cases z⟩
    · exact I2.pin p (List.mem_append_right _ z)
  show wpAny _ _ (callWith pos (.ref h'.objs.size) [] (backTo pos (starEach (e :: es) (PySem.W.ksEnv qual (defScope st) L f (.ref cda) cc))) []) _ _ _
  rw [← hX]
  have HA : wpAny (model X.prog X.w) X.A (spliced (backTo pos (starEach (e :: es) X.env))) (fun us s1 => PySem.W.KxsAt "ValueError.__init__" h'.objs.size a s1.heap ∧ wpAny (model X.prog X.w) X.A (call (.ref h'.objs.size) us) Q X.xe s1) X.xe ⟨h'.push (PySem.W.kxs_mw "ValueError.__init__" a), g, d, t + 1, os⟩ := by
    refine thn (ha.run pos _ _ σ H _ I3 q) fun us s1 hs1 => ?_
    obtain ⟨vs, H1, I4, r, hl1, hH1, kq⟩ := hs1
    have pu := (I4.pin (h'.objs.size, PySem.W.kxs_mw "ValueError.__init__" a) (List.mem_append_right _ List.mem_cons_self)).1
    exact ⟨pu, mw_call F.oex I4 pu hH1 (by rw [← Paired.length r, sizeLine_eq]; omega) fun s' J => kq s' (J.pins_of fun p hp => J.pin p (List.mem_append_right _ (List.mem_cons_of_mem _ hp)))⟩
  rw [he] at HA ⊢
  refine PySem.W.kxs_callWith (i := "ValueError.__init__") (x := a) (by show (false || (backTo pos (starEach es X.env)).any (·.1)) = false; rw [hpl]; rfl) ?_
  exact PySem.Calls.evalArgs_plain HA
end
/-- the context of such an __init__ -/
def supCx (P : Program) (w : World) (K : PySem.W.Frag) (mg : Str → Option Value) (base : Heap) (N : List Str) (qual : Str) (scope : Scope) (f cda cc : Addr) (A : Around) (outer : List Env) (s : Shared) (H : Hp) (E : XK) : Cx where
  prog := P
  w := w
  K := K
  mg := mg
  base := base
  A := A.deeper (PySem.W.ksEnv qual scope s.heap.objs.size f (.ref cda) cc)
  N := N
  s_0 := s
  H_0 := H
  env := PySem.W.ksEnv qual scope s.heap.objs.size f (.ref cda) cc
  outer := outer
  stack := PySem.W.ksEnv qual scope s.heap.objs.size f (.ref cda) cc :: outer
  ex := []
  fn := fun _ => false
  calm := true
  pn := []
  xe := fun e s' => wpAny (model P w) (A.deeper (PySem.W.ksEnv qual scope s.heap.objs.size f (.ref cda) cc)) (leaving (PySem.W.ksEnv qual scope s.heap.objs.size f (.ref cda) cc) e) (fun _ s'' => CX0 outer H s E e s'') (fun e' s'' => CX0 outer H s E e' s'') s'
/-- what such an __init__'s scope must be -/
structure SupS (p0 p1 : Str) (sc : Scope) : Prop where
  kind : sc.kind = .function
  co : sc.isCoroutine = false
  gen : sc.isGenerator = false
  ne : p0 ≠ p1
  l0 : sc.names.lookup p0 = some .local
  l1 : sc.names.lookup p1 = some .local
  nocell : ∀ x ∈ sc.names, x.2 ≠ .cell
  free : ∀ x ∈ sc.names, x.2 = .free → x.1 = ("__class__" : Str)
  sup : sc.names.lookup ("super" : Str) = some .globalImplicit
  cls : sc.names.lookup ("__class__" : Str) = some .free
section
variable {P : Program} {w : World} {K : PySem.W.Frag} {mg : Str → Option Value} {base : Heap} {A : Around} {outer : List Env} {s : Shared} {H : Hp} {E : XK} {C f cda cc : Addr} {fd : FuncData} {qual p0 p1 : Str} {st : Stmt}
theorem sup_start {h₁ : Heap} {tk : Nat} {x0 x1 : V} {u0 u1 : Value} (S : SupS p0 p1 (defScope st)) (hd : A.handled = none) (e0 : Env0 P w K mg base A outer s H) (hc : ∃ cl cld csl, K.lookup cc = some ⟨cl, cld, .cell (some (.ref C)), csl⟩) (r0 : RelV x0 u0) (r1 : RelV x1 u1)
    (hns : h₁.Ns s.heap.objs.size fun x => [(p0, u0), (p1, u1)].reverse.lookup x) (hk : ∀ b o, s.heap.get? b = some o → h₁.get? b = some o) :
    Inv (supCx P w K mg base [p0, p1] qual (defScope st) f cda cc A outer s H E) [] (start [p0, p1] [x0, x1]) H { s with heap := h₁, toks := tk } := by
  obtain ⟨cl, cld, csl, hcell⟩ := hc
  have hbc := e0.bs _ _ (e0.mod.kin _ _ hcell)
  have noA : ∀ b : Addr, b ∉ (supCx P w K mg base [p0, p1] qual (defScope st) f cda cc A outer s H E).ex := fun b z => absurd (show b ∈ ([] : List Addr) from z) (by simp)
  have cl1 : ∀ {y : Str} {c : Addr}, List.lookup y [(("__class__" : Str), cc)] = some c → y = "__class__" ∧ c = cc := fun {y c} e => by
    have hm := PySem.mem_of_lookup e
    rw [List.mem_singleton] at hm
    cases hm
    exact ⟨rfl, rfl⟩
  refine ⟨⟨e0.mod, S.kind, rfl, rfl, Nat.le_refl _, fun y z c h1 h2 => ?_, fun y hy => ?_, fun y c z _ => (Bool.false_ne_true z).elim, fun _ => hd, Around.frames_deeper e0.frames, .inr ⟨rfl, rfl⟩, fun b z => absurd z (noA b), e0.bs, e0.bsz, fun b _ _ => noA b, fun b z => absurd z (noA b), e0.funs, e0.frf⟩,
    rfl, e0.bare, Un.kept hk, ⟨_, hns, fun i y v h1 h2 h3 => ?_⟩, fun y c h => ?_, e0.hok.fresh (Nat.le_refl _), fun y c h => ?_, fun p hp => absurd (show p ∈ ([] : List (Addr × Obj)) from hp) (by simp), e0.hok.kept hk, rfl⟩
  · exact (cl1 h1).1.trans (cl1 h2).1.symm
  · have hy : (defScope st).names.lookup y = some .cell ∨ (defScope st).names.lookup y = some .free := hy
    rcases hy with hy | hy
    · exact absurd rfl (S.nocell _ (PySem.mem_of_lookup hy))
    · have := S.free _ (PySem.mem_of_lookup hy) rfl
      obtain rfl : y = "__class__" := this
      exact ⟨cc, rfl⟩
  · have h1 : ([p0, p1] : List Str)[i]? = some y := h1
    have h2 : ([some x0, some x1] : List (Option V))[i]? = some (some v) := h2
    have n01 := S.ne
    match i, h1, h2 with
    | 0, h1, h2 =>
      cases h1
      cases h2
      exact ⟨u0, r0, .inl ⟨S.l0, by simp [List.lookup, (show (p0 == p1) = false from by simpa using n01)]⟩⟩
    | 1, h1, h2 =>
      cases h1
      cases h2
      exact ⟨u1, r1, .inl ⟨S.l1, by simp [List.lookup]⟩⟩
    | (n + 2), h1, h2 => simp at h1
  · obtain ⟨_, rfl⟩ := cl1 h
    exact ⟨_, _, hk _ _ hbc.1, rfl⟩
  · obtain ⟨_, rfl⟩ := cl1 h
    exact hbc.2
/-- THE RULE: def __init__(p0, p1): one statement; super().__init__(e ..) -/
theorem sup_def {sp : Sp} {k : Nat} {s1 : Stmt} {e : Expr} {es : List Expr} {q0 q1 q2 q3 q4 : Pos} (F : SupF P K C f cda cc fd qual st p0) (S : SupS p0 p1 (defScope st)) (hms : mg "super" = none)
    (hb : defBody st = [s1, .Expr (.Call (.Attribute (.Call (.Name "super" q0) [] [] q1) "__init__" q2) (e :: es) [] q3) q4]) (len : ∀ vs H Q E, sp vs H Q E → vs.length = 2)
    (hbody : ∀ (A : Around) (outer : List Env) (s : Shared) (H : Hp) (vs : List V) (Q : VK) (E : XK), Room k (A.deeper (PySem.W.ksEnv qual (defScope st) s.heap.objs.size f (.ref cda) cc)) → sp vs H Q E →
      ∃ (a : Addr) (t : TS) (ta : TA), PS (supCx P w K mg base [p0, p1] qual (defScope st) f cda cc A outer s H E) s1 t ∧ PA (supCx P w K mg base [p0, p1] qual (defScope st) f cda cc A outer s H E) (e :: es) ta ∧
        t { nx := fun σ H' => σ[0]? = some (some (.ref a)) ∧ ∃ dx, H' a = some (exo a C (some dx)) ∧ ∀ R : List V → Hp → Prop, (∀ vs H1, vs.length ≤ 1000 → H1 a = some (exo a C (some dx)) → Q .non H1 → R vs H1) → ta σ H' R, rt := fun _ _ => False } (start [p0, p1] vs) H)
    (hsw : ∀ env : Env, swapsWith (.Call (.Attribute (.Call (.Name "super" q0) [] [] q1) "__init__" q2) (e :: es) [] q3) none q4.line env = pure false := by intro env; rfl)
    {pl : Sem Bool} (he : ∀ env : Env, starEach (e :: es) env = (false, eval e env) :: starEach es env := by intro env; rfl) (hpl : ∀ env : Env, (backTo q3 (starEach es env)).any (·.1) = false := by intro env; rfl)
    (hc : ∀ env : Env, eval (.Call (.Attribute (.Call (.Name "super" q0) [] [] q1) "__init__" q2) (e :: es) [] q3) env = (do
      let ov ← attributeBase (.Call (.Name "super" q0) [] [] q1) "__init__" env (eval (.Call (.Name "super" q0) [] [] q1) env)
      standAt q2.atName
      let (f, first) ← holding [ov] (getMethod ov "__init__" pl)
      callWith q3 f first (backTo q3 (starEach (e :: es) env)) []) := by intro env; rfl) : FnOk P w K mg base CX0 (k + 1) f fd [p0, p1] sp := by
  refine ⟨len, fun A outer s H args us vs Q E hr e0 hbd r hsp => ?_⟩
  have F' := F
  obtain ⟨oc, od, kV, doc, pm, an, ct, osl, rfl, lk⟩ := F'.lk
  have KX : K.In s.heap := e0.mod.kin.keeps fun b o e => (e0.bs b o e).1
  have lim : s.heap.NoLimit := e0.mod.nolimit.keeps fun b o e => (e0.bs b o e).1
  have hl2 := len _ _ _ _ hsp
  obtain ⟨a, t, ta, h1, h2, hq⟩ := hbody A outer s H vs Q E (hr.deeper _) hsp
  match vs, us, r, hl2 with
  | [x0, x1], [u0, u1], .cons r0 (.cons r1 .nil), _ =>
    refine PySem.ks_codeAny_call_defAt (binds := [(p0, u0), (p1, u1)]) hr.depth (KX _ _ lk) rfl lim (PySem.W.codeRec_of KX F.recd) rfl hbd S.nocell (fun x hx => ?_) (fun h₁ hns hk₁ => ?_) S.co S.gen S.kind
    · rcases List.mem_cons.mp hx with z | z
      · subst z
        exact S.l0
      · rw [List.mem_singleton] at z
        subst z
        exact S.l1
    · have I := sup_start (qual := qual) (f := f) (cda := cda) (E := E) (tk := s.toks + 2) S hr.hd e0 F.cell r0 r1 hns hk₁
      have hrun := h1.run [] _ _ H _ I hq
      show _root_.PySem.wpAt (model P w) (A.deeper (PySem.W.ksEnv qual (defScope st) s.heap.objs.size f (.ref cda) cc)) (.func (defBody st) (PySem.W.ksEnv qual (defScope st) s.heap.objs.size f (.ref cda) cc)) (execs (defBody st) (PySem.W.ksEnv qual (defScope st) s.heap.objs.size f (.ref cda) cc)) _ _ _
      generalize defBody st = bd at hb ⊢
      rw [show execs bd (PySem.W.ksEnv qual (defScope st) s.heap.objs.size f (.ref cda) cc) = execs [s1, .Expr (.Call (.Attribute (.Call (.Name "super" q0) [] [] q1) "__init__" q2) (e :: es) [] q3) q4] (PySem.W.ksEnv qual (defScope st) s.heap.objs.size f (.ref cda) cc) from by rw [hb]]
      refine PySem.ks_wpAt_execs_cons (PySem.wpAt_of_wpAny (wpAny_mono hrun (fun fl s' hs => ?_) fun e s' hs => hs))
      cases fl with
      | next =>
        obtain ⟨σ', H', J, hσ, dx, hH, hta⟩ := hs
        refine PySem.ks_wpAt_execs_cons (PySem.ks_wpAt_Expr_any (sup_expr (pl := pl) F rfl hms S.sup S.cls (i := 0) rfl S.l0 h2 J hσ hH (hta _ fun vs H1 hl hH1 q => ⟨hl, hH1, fun s2 J2 => ?_⟩) (he _) (hpl _) (hc _)) (hi := J.quiet) (hs := hsw _))
        exact PySem.wpAt_of_wpAny (wpAny_execs_nil ⟨.non, H1, J2.os, J2.bare, J2.base, J2.hok, rfl, q⟩)
      | brk =>
        obtain ⟨_, _, _, z⟩ := hs
        exact False.elim z
      | cont =>
        obtain ⟨_, _, _, z⟩ := hs
        exact False.elim z
      | ret u =>
        obtain ⟨_, _, _, _, _, z⟩ := hs
        exact False.elim z
end
end Nm
set_option maxRecDepth 100000
set_option maxHeartbeats 4000000
/-! exceptions over LookupError: self.name = .., super().__init__(f"..") -/
namespace Nm
open PySem PySem.Spec PyProof.Rows L2
abbrev leTail : List Value := [.type "LookupError", .type "Exception", .type "BaseException", .type "object"]
def LE (l : List Value) : Prop := ∃ cs : List Addr, l = cs.map Value.ref ++ leTail
def leB : List Value → Bool
  | .ref _ :: r => leB r
  | l => l == leTail
theorem le_of : ∀ l : List Value, leB l = true → LE l := fun l => by
  induction l with
  | nil => intro e; exact absurd e (by decide)
  | cons a r ih =>
    intro e
    cases a
    case ref c =>
      obtain ⟨cs, h⟩ := ih e
      exact ⟨c :: cs, by rw [h]; rfl⟩
    all_goals exact ⟨[], beq_iff_eq.mp e⟩
theorem LE.has {l : List Value} (h : LE l) (X : String) : l.contains (.type X) = leTail.contains (.type X) := by
  obtain ⟨cs, rfl⟩ := h
  induction cs with
  | nil => rfl
  | cons c cs ih =>
    rw [List.map_cons, List.cons_append, List.contains_cons, ih]
    rfl
theorem LE.cons {l : List Value} (h : LE l) (c : Addr) : LE (.ref c :: l) := by
  obtain ⟨cs, rfl⟩ := h
  exact ⟨c :: cs, rfl⟩
theorem LE.ne {l : List Value} (h : LE l) : l.isEmpty = false := by
  obtain ⟨cs, rfl⟩ := h
  cases cs <;> rfl
section
open Builtin Builtin.ObjectAttr PySem.HandSPX
theorem LE.pass {l : List Value} (h : LE l) (self : Value) : refuseLoop self "__setattr__" l = pure () := by
  obtain ⟨cs, rfl⟩ := h
  induction cs with
  | nil => exact F.store_LookupError.passes self
  | cons c cs ih =>
    rw [List.map_cons, List.cons_append, refuseLoop_ref]
    exact ih
variable {prog : Program} {w : World} {A : Around} {R : Result → Shared → Prop} {hp : Heap} {g : Array GenState} {d : Drawn} {t : Nat} {os : OsState}
theorem le_osa {K : PySem.W.Frag} {name : Str} {tk : Tok} {v : Value} {x C : Addr} {fv : Array Value} {cd : ClassData} (KX : K.In hp) (ox : hp.get? x = some { cls := .ref C, data := .fields fv })
    (cc : PySem.W.clsIn K C = some cd) (lm : LE cd.mro) (dh : cd.hasDict = true) (no : PySem.W.findIn K (.ref C) name = some none)
    (fin : ∀ h' tk' dx, (∀ b o, b ≠ x → hp.get? b = some o → h'.get? b = some o) → hp.objs.size ≤ dx → dx ≠ x → h'.get? x = some { cls := .ref C, dict := some dx, data := .fields fv } → h'.Ns1 dx (fun y => if y = name then some v else none) → R (.ok (.ret .none)) ⟨h', g, d, tk', os⟩) :
    codeAny (model prog w) A (.call (.builtin "object.__setattr__") ⟨[.ref x, .str name tk, v], []⟩) R ⟨hp, g, d, t, os⟩ := by
  have J : PySem.W.InstAt hp x { cls := .ref C, data := .fields fv } C none := ⟨ox, rfl, rfl, trivial⟩
  have G := F.store_object
  have noE := lm.ne
  have objIn : cd.mro.contains (.type "object") = true := (lm.has "object").trans (by decide +kernel)
  have far : x ≠ hp.objs.size := Nat.ne_of_lt (Heap.lt_size ox)
  have isO : PySem.W.Looks (model prog w) hp (isInstance (.ref x) (.type "object")) true := J.type.andThen (PySem.W.looks_mroIn KX (by unfold PySem.W.mroIn; rw [cc, Option.bind_some, if_neg (by rw [noE]; decide), objIn]))
  have three := G.args (.ref x) (.str name tk) v
  refine codeAny_call_builtin G.slot.plain G.entry (@PySem.W.check_slot (model prog w) _ _ ⟨hp, g, d, t, os⟩ "object.__setattr__" "object" "__setattr__" (.ref x) [.str name tk, v] [] _ G.kind G.split isO three ?_)
  have mr : PySem.W.Looks (model prog w) hp (mroOf (.ref C)) cd.mro := (PySem.W.looks_clsIn KX cc).andThen .now
  have tk3 : PySem.W.Looks (model prog w) hp (storeTaker? none) none := .now
  have lc : PySem.W.Looks (model prog w) hp (classData C) cd := PySem.W.looks_clsIn KX cc
  rw [PySem.W.osa_eq, refuse_eq]
  refine wpAny_bind (wpAny_bind (J.type.at (wpAny_bind (mr.at ?_))))
  rw [lm.pass]
  refine wpAny_pure (wpAny_bind (J.type.at (wpAny_bind ((PySem.W.looks_findIn KX no).at (wpAny_bind (tk3.at ?_))))))
  show wpAny _ _ (storeInOwnDict (.ref x) (.ref C) (.str name tk) name v false) _ _ _
  obtain ⟨c1, c2, c3, c4, c5, c6, c7, c8, c9, c10, c11⟩ := cd
  dsimp only at dh; subst dh; unfold storeInOwnDict ownDictForStores
  repeat (first | with_reducible refine store_in_new ?_ ?_ | with_reducible refine wpAny_loadPart_at ox ?_ | with_reducible refine lc.at ?_ | wp_step)
  · exact ⟨_, #[], _, (Heap.get?_update_ne _ _ _ _ far.symm).trans (Heap.get?_push_at rfl rfl), rfl, fun e he => absurd he (by simp), fun _ => rfl⟩
  · intro h' tk' ns sb
    have ox1 : (hp.push { cls := .type "dict", data := .dict #[] }).get? x = some { cls := .ref C, data := .fields fv } := Heap.get?_push_of_some _ ox
    refine fin h' tk' hp.objs.size (fun b o hb ho => ?_) (Nat.le_refl _) far.symm ?_ ns
    · have nb := Nat.ne_of_lt (Heap.lt_size ho)
      exact (sb.2 b nb).trans ((Heap.get?_update_ne _ _ _ _ hb).trans (Heap.get?_push_of_some _ ho))
    · exact (sb.2 x far).trans (Heap.get?_update_self _ ox1 rfl)
end
/-- what the written part says of such a class -/
structure OexL (K : PySem.W.Frag) (C : Addr) : Prop where
  known : ∃ nm q N bs bm sn sub ab col dd k0 k1 k2 k3 k5, K.lookup C = some (excClassObj nm q C N bs bm true sn sub ab col dd k0 k1 k2 k3 k5 "LookupError.__new__") ∧ LE bm
  sets : PySem.W.findIn K (.ref C) "__setattr__" = some (some (.builtin "object.__setattr__"))
  isE : PySem.W.subIn K (.ref C) (.type "BaseException") = some true
  isT : PySem.W.typeIn K (.ref C) = some (.type "type")
  kept : PySem.W.keepIn K (.ref C) = true
section
variable {X : Cx} {pins : List (Addr × Obj)} {σ : L2.St} {H : Hp} {s : Shared} {a C dx : Addr} {f : Str} {y : V} {u : Value} {fs : List (Str × V)} {E : Value → Shared → Prop} {A : Around}
theorem ostL {Q : Unit → Shared → Prop} (T : OexL X.K C) (I : Inv X pins σ H s) (e : H a = some (exo a C none)) (no : PySem.W.findIn X.K (.ref C) f = some none) (ry : RelV y u)
    (h : ∀ dx s', H dx = none → dx ≠ a → Inv X pins σ (upd (upd H dx (exd dx [(f, y)])) a (exo a C (some dx))) s' → Q () s') : wpAny (model X.prog X.w) A (setAttr (.ref a) f u) Q E s := by
  obtain ⟨nm, q, N, bs, bm, sn, sub, ab, col, dd, k0, k1, k2, k3, k5, hC, hbm⟩ := T.known
  have cc : PySem.W.clsIn X.K C = some { name := nm, bases := bs, mro := .ref C :: bm, ns := N, qualname := q, hasDict := true, slotNames := sn, subclasses := sub, abstract := ab, collection := col, hasDel := false } := by
    unfold PySem.W.clsIn; rw [hC] <;> rfl
  obtain ⟨t1, ho⟩ := exo_at I.hok e
  obtain ⟨hp, g, d, t, os⟩ := s
  refine PySem.W.set_plain I.kIn (ox := { cls := .ref C, dict := none, data := .fields #[.ref t1, .none, .none, .none, .bool false, .none] }) (od := none) ⟨ho, rfl, rfl, trivial⟩ T.sets ?_
  refine le_osa I.kIn ho cc (hbm.cons C) rfl no (fun h' tk' dx k dn dne hx hn => ?_)
  have hnd : H dx = none := I.hok.fresh dn
  have nd : ∀ {b : Addr} {o : Obj}, hp.get? b = some o → b ≠ dx := fun {b o} q => Nat.ne_of_lt (Nat.lt_of_lt_of_le (Heap.lt_size q) dn)
  have na : ∀ {b : Addr}, H b = none → b ≠ a := fun {b} n z => by rw [z, e] at n; cases n
  have U : Un X.fs [] H (upd (upd H dx (exd dx [(f, y)])) a (exo a C (some dx))) hp h' := {
    keep := fun b o q n _ _ => k b o (na n) q
    slot := fun b o q n _ _ => ⟨o.slots, k b o (na n) q⟩
    free := fun b o q n _ => by rw [upd_ne (na n), upd_ne (nd q)]; exact n
    there := fun b o q _ => by
      by_cases hb : b = a
      · exact ⟨_, by rw [hb]; exact hx⟩
      · exact ⟨o, k b o hb q⟩
    tups := fun b xs q => by rw [upd_ne (at_ne e q exo_tup), upd_ne (ne_of_none q hnd)]; exact q
    frzs := fun b o v q => by rw [upd_ne (at_ne e q exo_frz), upd_ne (ne_of_none q hnd)]; exact q
    tbls := fun b ps q => ⟨#[], by rw [upd_ne (at_ne e q exo_tbl), upd_ne (ne_of_none q hnd), q]; simp⟩ }
  refine h dx _ hnd dne (I.un (t' := tk') U fun b o q => ?_)
  by_cases hb : b = a
  · subst hb
    rw [upd_same] at q
    cases q
    exact exo_ok hx
  · rw [upd_ne hb] at q
    by_cases hd : b = dx
    · subst hd
      rw [upd_same] at q
      cases q
      exact exd_ok hn (relO_put (fs := []) ry fun g => True.intro)
    · rw [upd_ne hd] at q
      have stays : ∀ (c : Addr), (c = b ∨ H c = some (.own b)) → c ≠ a := fun c hc => by
        rcases hc with hc | hc
        · rw [hc]; exact hb
        · exact at_ne e hc exo_own
      exact (I.hok b o q).stay (fun c v hc z => k c v (stays c hc) z) (fun c hc => by rw [upd_ne (at_ne e hc exo_own), upd_ne (ne_of_none hc hnd)]; exact hc) (fun c xs hc => by rw [upd_ne (at_ne e hc exo_tup), upd_ne (ne_of_none hc hnd)]; exact hc)
/-- super().__init__, bound at u, called: nothing of it is told -/
theorem mw_callL {us : List Value} {Q : Value → Shared → Prop} {u : Addr} (T : OexL X.K C) (I : Inv X pins σ H s) (hu : s.heap.get? u = some (PySem.W.kxs_mw "LookupError.__init__" a)) (e : H a = some (exo a C (some dx))) (hl : us.length ≤ sizeLine)
    (h : ∀ s', Inv X pins σ H s' → Q .none s') : wpAny (model X.prog X.w) A (call (.ref u) us) Q E s := by
  obtain ⟨nm, q, N, bs, bm, sn, sub, ab, col, dd, k0, k1, k2, k3, k5, hC, hbm⟩ := T.known
  obtain ⟨t1, ho⟩ := exo_at I.hok e
  have fin : ∀ h', (∀ b o, b ≠ a → s.heap.get? b = some o → h'.get? b = some o) → h'.get? a = some ({ cls := .ref C, dict := some dx, data := .fields #[.ref s.heap.objs.size, .none, .none, .none, .bool false, .none] } : Obj) → Inv X pins σ H { s with heap := h', toks := s.toks } := fun h' k e' => by
    have J := I.write (t' := s.toks) (x := a) (e := a) (o := exo a C (some dx)) (by rw [e]; exact True.intro) (.inl rfl) k ⟨_, e'⟩ (exo_ok e')
    have eu : upd H a (exo a C (some dx)) = H := by
      funext b
      by_cases hb : b = a
      · rw [hb, upd_same, e]
      · rw [upd_ne hb]
    rw [eu] at J
    exact J
  have hCC := I.kIn _ _ hC
  obtain ⟨hp, g, d, t, os⟩ := s
  refine wpAny_call (codeAny_of_tree ?_)
  show wpAny _ A.in1 (callAny (.ref u) ⟨us, []⟩) _ _ _
  simp only [callAny]
  refine wpAny_bind (wpAny_load hu ?_)
  simp only [PySem.W.kxs_mw, show (Value.type "method-wrapper" == Value.type "method" || Value.type "method-wrapper" == Value.type "builtin_function_or_method" || Value.type "method-wrapper" == Value.type "method-wrapper") = true by decide, if_true]
  refine PySem.W.KFB.if_so (by decide) ?_
  refine wpAny_bind (PySem.W.check_bound_init F.excBase_LookupError.toExcCallFacts hCC ho rfl ?_)
  refine wpAny_bind (wpAny_pure (wpAny_pure ?_))
  refine ⟨plainId_quiet F.excBase_LookupError.init.plain _, codeAny_builtin F.excBase_LookupError.initEntry ?_⟩
  exact PySem.W.exc_init_tree (cls := .ref C) (t0 := t1) (dv := some dx) (c2 := .none) (c3 := .none) (b4 := .bool false) ho hl fun h' k e' _ => h _ (fin h' k e')
end
/-- self.f = e, the first field -/
def tOstL (K : PySem.W.Frag) (f : Str) (to te : TE) : TS := fun D σ H => te σ H fun y H1 => to σ H1 fun x H2 => ∃ a C : Addr, x = .ref a ∧ OexL K C ∧ PySem.W.findIn K (.ref C) f = some none ∧ H2 a = some (exo a C none) ∧
  ∀ dx, H2 dx = none → dx ≠ a → D.nx σ (upd (upd H2 dx (exd dx [(f, y)])) a (exo a C (some dx)))
section
variable {X : Cx} {o e : Expr} {es : List Expr} {to te : TE} {ta : TA} {f : Str} {p p' p1 p2 pos : Pos}
theorem ps_ostL (ho : PE X o to) (he : PE X e te) (hs : swapsWith e (some (.Attribute o f p')) pos.line X.env = pure false := by rfl) : PS X (.Assign [.Attribute o f p'] e pos) (tOstL X.K f to te) := by
  refine ⟨fun pins s σ H D I h => ?_⟩
  refine plainObj_wpAny_Assign_Attribute (thn (he.run pins s σ H _ I h) fun v s1 ⟨y, H1, I1, r1, q1⟩ => ?_) hs
  refine thn (ho.run pins s1 σ H1 _ I1 q1) fun u s2 ⟨x, H2, I2, r2, a, C, ex, T, no, ea, q⟩ => ?_
  subst ex
  obtain rfl : u = Value.ref a := r2
  exact ostL T I2 ea no r1 fun dx s' n ne J => ⟨σ, _, J, q dx n ne⟩
/-- C(e, ..) of such a class -/
theorem pmk_oexL {CX : CXT} {x : Str} {C fI : Addr} {k : Nat} {fd : FuncData} {ps : List Str} {sp : Sp} (T : OexL X.K C) (iC : PySem.W.findIn X.K (.ref C) "__init__" = some (some (.ref fI))) (tI : PySem.W.typeIn X.K (.ref fI) = some (.type "function"))
    (G : FnOk X.prog X.w X.K X.mg X.base CX k fI fd ps sp) (hr : Room (k + 1) X.A) (hb : Binds X.K fd ps []) (hx : Passes CX X (fun _ _ _ => False)) (hg : Gl X x) (hm : X.mg x = some (.ref C)) (ha : PA X (e :: es) ta)
    (hdb : (x == ("__debug__" : Str)) = false := by decide) (hst : starEach (e :: es) X.env = (false, eval e X.env) :: starEach es X.env := by rfl) (hpl : (backTo pos (starEach es X.env)).any (·.1) = false := by rfl) :
    PMk X (.Call (.Name x p) (e :: es) [] pos) (tMkO C sp [] ta) := by
  intro pins s σ H Q I h
  obtain ⟨nm, q, N, bs, bm, sn, sub, ab, col, dd, k0, k1, k2, k3, k5, hC, hbm⟩ := T.known
  refine wpAny_Call_Name_kw (ld_glob I hg hm ?_ hdb)
  refine PySem.W.callWith_K (h₀ := X.base) I.ok.mod.kin T.kept (thn (ha.run pos pins s σ H _ I h) fun us s1 ⟨vs, H1, I1, r1, hz, q1⟩ => ⟨I1.kIn, ?_⟩) hst hpl
  show wpAny _ _ (call (.ref C) us) _ _ _
  obtain ⟨hp, g, dr, tk, os⟩ := s1
  have up : hp.objs.size ≤ hp.objs.size + 1 := Nat.le_succ _
  have new : H1 (hp.objs.size + 1) = none := I1.hok.fresh up
  have hq := q1 (hp.objs.size + 1) new
  have kk : ∀ b o, hp.get? b = some o → ((hp.push (PySem.W.kdv_tup us)).push (PySem.HandSPX.excO C hp.objs.size)).get? b = some o := fun b o z => Heap.get?_push_of_some _ (Heap.get?_push_of_some _ z)
  have laid : ((hp.push (PySem.W.kdv_tup us)).push (PySem.HandSPX.excO C hp.objs.size)).get? (hp.objs.size + 1) = some (PySem.HandSPX.excO C hp.objs.size) := by heap_get
  have I2 : Inv X pins σ (upd H1 (hp.objs.size + 1) (exo (hp.objs.size + 1) C none)) ⟨(hp.push (PySem.W.kdv_tup us)).push (PySem.HandSPX.excO C hp.objs.size), g, dr, tk, os⟩ := by
    exact I1.laid (t' := tk) (a := hp.objs.size + 1) (o := exo (hp.objs.size + 1) C none) (h' := (hp.push (PySem.W.kdv_tup us)).push (PySem.HandSPX.excO C hp.objs.size)) kk up (exo_ok laid)
  have r2 : Vals (V.ref (hp.objs.size + 1) :: (vs ++ [])) (Value.ref (hp.objs.size + 1) :: (us ++ [])) := .cons rfl (r1.append .nil)
  have hl : (Value.ref (hp.objs.size + 1) :: us ++ []).length = ps.length := by
    have z := r2.length
    rw [G.len _ _ _ _ hq] at z
    exact z.symm
  have short : us.length ≤ sizeLine := by rw [← Paired.length r1, sizeLine_eq]; omega
  have bnd := hb (⟨(hp.push (PySem.W.kdv_tup us)).push (PySem.HandSPX.excO C hp.objs.size), g, dr, tk, os⟩ : Shared) (Value.ref (hp.objs.size + 1) :: us) I2.kIn hl
  rw [List.cons_append] at bnd
  have body := G.run _ X.stack _ _ ⟨Value.ref (hp.objs.size + 1) :: us, []⟩ (Value.ref (hp.objs.size + 1) :: (us ++ [])) _ _ (fun _ _ _ => False) (hr.make C us []) (I2.env0.make C us []) bnd r2 hq
  refine wpAny_call (PySem.HandSPX.call_own F.excBase_LookupError (fun Y => hbm.has Y) (I1.kIn _ _ hC) (PySem.W.looks_findIn I1.kIn iC) (fun self => PySem.W.bind_fn I1.kIn self tI) short (codeAny_mono body fun r s' hq' => ?_))
  cases r with
  | error er => exact hx pins σ _ _ er s' I2 hq'
  | ok fl =>
    cases fl with
    | ret u =>
      obtain ⟨v, H2, os2, bare2, un2, hok2, rv, ev, d, fs, ea, ed, hd1, q2⟩ := hq'
      subst ev
      obtain ⟨h2, g2, d2, t2, os'⟩ := s'
      exact ⟨rv, mk_end (raises_own T.isE T.isT) I1 up kk un2 hok2 os2 bare2 ea ed hd1 q2⟩
    | next => exact False.elim hq'
    | brk => exact False.elim hq'
    | cont => exact False.elim hq'
end
end Nm
set_option maxRecDepth 100000
set_option maxHeartbeats 4000000
/-! super().__init__(e) in the __init__ of an own exception over LookupError -/
namespace Nm
open PySem PySem.Spec PyProof.Rows L2
/-- what the written part says of the class at C, its __init__ at f, the code at cda, the cell __class__ at cc -/
structure SupL (P : Program) (K : PySem.W.Frag) (C f cda cc : Addr) (fd : FuncData) (qual : Str) (st : Stmt) (a0 : Str) : Prop where
  oex : OexL K C
  lk : ∃ oc od kV doc pm an ct osl, fd = PySem.W.ksFn "__init__" qual (defArgs st) (defBody st) (defScope st) .none kV doc pm an (.ref cda) ct cc ∧ K.lookup f = some ⟨oc, od, .func fd, osl⟩
  hd : ∃ ar, ((defArgs st).posonlyargs ++ (defArgs st).args).head? = some ar ∧ ar.arg = a0
  code : ∃ ccl cdd vs ccs file tf, K.lookup cda = some ⟨ccl, cdd, .fields vs, ccs⟩ ∧ vs[2]? = some (.str file tf) ∧ ((P.main.file : Str) == file) = true
  recd : PySem.W.codeIn K (.ref cda) qual = true
  cell : ∃ cl cld csl, K.lookup cc = some ⟨cl, cld, .cell (some (.ref C)), csl⟩
  cd : ∃ cd, PySem.W.clsIn K C = some cd
  sub : PySem.W.mroIn K C (.ref C) = some true
  subV : PySem.W.subIn K (.ref C) (.type "LookupError") = some true
  sup : PySem.W.ks_superIn K C C "__init__" = some (some (.builtin "LookupError.__init__"))
  opq : PySem.W.nsIn K cStatics "thirdparty.any" = some none
  top : (P.main.scope.names.lookup ("super" : Str)).isSome = false
section
variable {X : Cx} {pins : List (Addr × Obj)} {σ : L2.St} {H : Hp} {s : Shared} {a C dx f cda cc L : Addr} {fd : FuncData} {qual a0 : Str} {st : Stmt}
/-- super().__init__(e ..), the code known -/
theorem sup_exprL {body : List Stmt} {e : Expr} {es : List Expr} {ta : TA} {i : Nat} {p0 p1 p2 pos : Pos} {Q : Value → Shared → Prop} {pl : Sem Bool} (F : SupL X.prog X.K C f cda cc fd qual st a0)
    (hX : X.env = PySem.W.ksEnv qual (defScope st) L f (.ref cda) cc) (hms : X.mg "super" = none)
    (hks : (defScope st).names.lookup ("super" : Str) = some .globalImplicit) (hkc : (defScope st).names.lookup ("__class__" : Str) = some .free) (hN : X.N[i]? = some a0) (hka : (defScope st).names.lookup a0 = some .local) (ha : PA X (e :: es) ta)
    (I : Inv X pins σ H s) (hσ : σ[i]? = some (some (.ref a))) (hH : H a = some (exo a C (some dx)))
    (q : ta σ H fun vs H1 => vs.length ≤ 1000 ∧ H1 a = some (exo a C (some dx)) ∧ ∀ s', Inv X pins σ H1 s' → Q .none s')
    (he : starEach (e :: es) X.env = (false, eval e X.env) :: starEach es X.env := by rfl) (hpl : (backTo pos (starEach es X.env)).any (·.1) = false := by rfl)
    (hc : eval (.Call (.Attribute (.Call (.Name "super" p0) [] [] p1) "__init__" p2) (e :: es) [] pos) X.env = (do
      let ov ← attributeBase (.Call (.Name "super" p0) [] [] p1) "__init__" X.env (eval (.Call (.Name "super" p0) [] [] p1) X.env)
      standAt p2.atName
      let (f, first) ← holding [ov] (getMethod ov "__init__" pl)
      callWith pos f first (backTo pos (starEach (e :: es) X.env)) []) := by rfl) :
    _root_.PySem.wpAt (model X.prog X.w) X.A (.func body X.env) (eval (.Call (.Attribute (.Call (.Name "super" p0) [] [] p1) "__init__" p2) (e :: es) [] pos) X.env) Q X.xe s := by
  have KX := I.kIn
  obtain ⟨oc, od, kV, doc, pm, an, ct, osl, rfl, lk⟩ := F.lk
  obtain ⟨ar, har, hara⟩ := F.hd
  obtain ⟨ccl, cdd, vs, ccs, file, tf, hcode, hvs, hfile⟩ := F.code
  obtain ⟨cl, cld, csl, hcell⟩ := F.cell
  obtain ⟨cd, hcd⟩ := F.cd
  obtain ⟨oD, hD1, hD2⟩ : ∃ oD, s.heap.get? C = some oD ∧ oD.data = .cls cd := by
    unfold PySem.W.clsIn at hcd
    split at hcd
    · rename_i c d cd' sl ho
      cases hcd
      exact ⟨_, KX _ _ ho, rfl⟩
    · cases hcd
  obtain ⟨t1, ho⟩ := exo_at I.hok hH
  obtain ⟨mb, hmb, hmv⟩ := I.mod.blt
  have naC : a ≠ C := fun z => by
    rw [z, hD1] at ho
    cases ho
    cases hD2
  refine PySem.ks_wpAt_MethodCall (pl := pl) ?_ hc
  rw [hX]
  obtain ⟨hp, g, d, t, os⟩ := s
  refine PySem.ks_wpAt_super_base (env := PySem.W.ksEnv qual (defScope st) L f (.ref cda) cc) hks hkc (by decide) rfl (KX _ _ lk) rfl har rfl (KX _ _ hcode) rfl hvs hfile F.top ?_
  have hk : (defScope st).kind = .function := by
    have z := I.ok.kind
    rw [hX] at z
    exact z
  refine PySem.W.ks_loadName_global (env := PySem.W.ksEnv qual (defScope st) L f (.ref cda) cc) hk hks (PySem.Calls.loadGlobal_builtin (env := PySem.W.ksEnv qual (defScope st) L f (.ref cda) cc) (I.mod.glob.keeps I.bk) hms (hmb.keeps I.bk) ((hmv _ (by decide)).trans PyProof.Rows.Boot.«super») ⟨rfl, ?_⟩)
  refine wpAny_loadName_free (env := PySem.W.ksEnv qual (defScope st) L f (.ref cda) cc) hk hkc rfl ⟨_, KX _ _ hcell, rfl⟩ ?_
  obtain ⟨m, hn, hl⟩ := I.loc
  obtain ⟨u0, r0, l0⟩ := hl i a0 (.ref a) hN hσ (by rw [hX]; exact .inl hka)
  obtain rfl : u0 = Value.ref a := r0
  rw [hX] at l0 hn
  have hm0 : m a0 = some (.ref a) := by
    rcases l0 with ⟨_, z⟩ | ⟨z, _⟩
    · exact z
    · have z' : (defScope st).names.lookup a0 = some .cell ∨ (defScope st).names.lookup a0 = some .free := z
      rw [hka] at z'
      rcases z' with z' | z' <;> cases z'
  rw [hara]
  refine wpAny_loadName_local (env := PySem.W.ksEnv qual (defScope st) L f (.ref cda) cc) hk hka hn hm0 ?_
  refine PySem.ks_wpAny_isType_cls hD1 hD2 ⟨rfl, ?_⟩
  refine PySem.ks_wpAny_call_super hD1 hD2 ho rfl (fun c z => by cases z) (PySem.W.looks_mroIn KX F.sub) (fun h' e' k => ?_)
  have I1 : Inv X pins σ H ⟨h', g, d, t, os⟩ := I.kept (t' := t) k
  have KX1 := I1.kIn
  have ho1 := k _ _ ho
  have LT : PySem.W.Looks (model X.prog X.w) h' (typeOf (.ref a)) (.ref C) := fun A Q E s k q => wpAny_typeOf_ref (k _ _ ho1) q
  have hfs := F.sup
  unfold PySem.W.ks_superIn at hfs
  rw [hcd] at hfs
  refine PySem.W.kxs_getMethod PySem.W.kxs_LookupError e' (PySem.W.looks_opaque KX1 F.opq) (l₀ := cd.mro) (fun A Q E s k q => wpAny_bind ((PySem.W.looks_clsIn KX1 hcd) A _ E s k (wpAny_pure q))) rfl KX1 hfs (LT.andThen (PySem.W.looks_subIn KX1 F.subV)) naC (by decide) ?_
  have I2 : Inv X pins σ H ⟨h'.push (PySem.W.kxs_mw "LookupError.__init__" a), g, d, t + 1, os⟩ := I1.kept (t' := t + 1) fun b o z => Heap.get?_push_of_some _ z
  have I3 : Inv X ((h'.objs.size, PySem.W.kxs_mw "LookupError.__init__" a) :: pins) σ H ⟨h'.push (PySem.W.kxs_mw "LookupError.__init__" a), g, d, t + 1, os⟩ := I2.pins_of fun p hp => by
    rcases List.mem_cons.mp hp with z | z
    · subst z
      exact ⟨Heap.get?_push_at rfl rfl, I1.hok.fresh (Nat.le_refl _), Nat.ne_of_gt I1.lt, I1.nofs (Nat.le_refl _), fun v z => by cases z⟩
    · exact I2.pin p (List.mem_append_right _ z)
  show wpAny _ _ (callWith pos (.ref h'.objs.size) [] (backTo pos (starEach (e :: es) (PySem.W.ksEnv qual (defScope st) L f (.ref cda) cc))) []) _ _ _
  rw [← hX]
  have HA : wpAny (model X.prog X.w) X.A (spliced (backTo pos (starEach (e :: es) X.env))) (fun us s1 => PySem.W.KxsAt "LookupError.__init__" h'.objs.size a s1.heap ∧ wpAny (model X.prog X.w) X.A (call (.ref h'.objs.size) us) Q X.xe s1) X.xe ⟨h'.push (PySem.W.kxs_mw "LookupError.__init__" a), g, d, t + 1, os⟩ := by
    refine thn (ha.run pos _ _ σ H _ I3 q) fun us s1 hs1 => ?_
    obtain ⟨vs, H1, I4, r, hl1, hH1, kq⟩ := hs1
    have pu := (I4.pin (h'.objs.size, PySem.W.kxs_mw "LookupError.__init__" a) (List.mem_append_right _ List.mem_cons_self)).1
    exact ⟨pu, mw_callL F.oex I4 pu hH1 (by rw [← Paired.length r, sizeLine_eq]; omega) fun s' J => kq s' (J.pins_of fun p hp => J.pin p (List.mem_append_right _ (List.mem_cons_of_mem _ hp)))⟩
  rw [he] at HA ⊢
  refine PySem.W.kxs_callWith (i := "LookupError.__init__") (x := a) (by show (false || (backTo pos (starEach es X.env)).any (·.1)) = false; rw [hpl]; rfl) ?_
  exact PySem.Calls.evalArgs_plain HA
end
section
variable {P : Program} {w : World} {K : PySem.W.Frag} {mg : Str → Option Value} {base : Heap} {A : Around} {outer : List Env} {s : Shared} {H : Hp} {E : XK} {C f cda cc : Addr} {fd : FuncData} {qual p0 p1 : Str} {st : Stmt}
/-- THE RULE: def __init__(p0, p1): one statement; super().__init__(e ..) -/
theorem sup_defL {sp : Sp} {k : Nat} {s1 : Stmt} {e : Expr} {es : List Expr} {q0 q1 q2 q3 q4 : Pos} (F : SupL P K C f cda cc fd qual st p0) (S : SupS p0 p1 (defScope st)) (hms : mg "super" = none)
    (hb : defBody st = [s1, .Expr (.Call (.Attribute (.Call (.Name "super" q0) [] [] q1) "__init__" q2) (e :: es) [] q3) q4]) (len : ∀ vs H Q E, sp vs H Q E → vs.length = 2)
    (hbody : ∀ (A : Around) (outer : List Env) (s : Shared) (H : Hp) (vs : List V) (Q : VK) (E : XK), Room k (A.deeper (PySem.W.ksEnv qual (defScope st) s.heap.objs.size f (.ref cda) cc)) → sp vs H Q E →
      ∃ (a : Addr) (t : TS) (ta : TA), PS (supCx P w K mg base [p0, p1] qual (defScope st) f cda cc A outer s H E) s1 t ∧ PA (supCx P w K mg base [p0, p1] qual (defScope st) f cda cc A outer s H E) (e :: es) ta ∧
        t { nx := fun σ H' => σ[0]? = some (some (.ref a)) ∧ ∃ dx, H' a = some (exo a C (some dx)) ∧ ∀ R : List V → Hp → Prop, (∀ vs H1, vs.length ≤ 1000 → H1 a = some (exo a C (some dx)) → Q .non H1 → R vs H1) → ta σ H' R, rt := fun _ _ => False } (start [p0, p1] vs) H)
    (hsw : ∀ env : Env, swapsWith (.Call (.Attribute (.Call (.Name "super" q0) [] [] q1) "__init__" q2) (e :: es) [] q3) none q4.line env = pure false := by intro env; rfl)
    {pl : Sem Bool} (he : ∀ env : Env, starEach (e :: es) env = (false, eval e env) :: starEach es env := by intro env; rfl) (hpl : ∀ env : Env, (backTo q3 (starEach es env)).any (·.1) = false := by intro env; rfl)
    (hc : ∀ env : Env, eval (.Call (.Attribute (.Call (.Name "super" q0) [] [] q1) "__init__" q2) (e :: es) [] q3) env = (do
      let ov ← attributeBase (.Call (.Name "super" q0) [] [] q1) "__init__" env (eval (.Call (.Name "super" q0) [] [] q1) env)
      standAt q2.atName
      let (f, first) ← holding [ov] (getMethod ov "__init__" pl)
      callWith q3 f first (backTo q3 (starEach (e :: es) env)) []) := by intro env; rfl) : FnOk P w K mg base CX0 (k + 1) f fd [p0, p1] sp := by
  refine ⟨len, fun A outer s H args us vs Q E hr e0 hbd r hsp => ?_⟩
  have F' := F
  obtain ⟨oc, od, kV, doc, pm, an, ct, osl, rfl, lk⟩ := F'.lk
  have KX : K.In s.heap := e0.mod.kin.keeps fun b o e => (e0.bs b o e).1
  have lim : s.heap.NoLimit := e0.mod.nolimit.keeps fun b o e => (e0.bs b o e).1
  have hl2 := len _ _ _ _ hsp
  obtain ⟨a, t, ta, h1, h2, hq⟩ := hbody A outer s H vs Q E (hr.deeper _) hsp
  match vs, us, r, hl2 with
  | [x0, x1], [u0, u1], .cons r0 (.cons r1 .nil), _ =>
    refine PySem.ks_codeAny_call_defAt (binds := [(p0, u0), (p1, u1)]) hr.depth (KX _ _ lk) rfl lim (PySem.W.codeRec_of KX F.recd) rfl hbd S.nocell (fun x hx => ?_) (fun h₁ hns hk₁ => ?_) S.co S.gen S.kind
    · rcases List.mem_cons.mp hx with z | z
      · subst z
        exact S.l0
      · rw [List.mem_singleton] at z
        subst z
        exact S.l1
    · have I := sup_start (qual := qual) (f := f) (cda := cda) (E := E) (tk := s.toks + 2) S hr.hd e0 F.cell r0 r1 hns hk₁
      have hrun := h1.run [] _ _ H _ I hq
      show _root_.PySem.wpAt (model P w) (A.deeper (PySem.W.ksEnv qual (defScope st) s.heap.objs.size f (.ref cda) cc)) (.func (defBody st) (PySem.W.ksEnv qual (defScope st) s.heap.objs.size f (.ref cda) cc)) (execs (defBody st) (PySem.W.ksEnv qual (defScope st) s.heap.objs.size f (.ref cda) cc)) _ _ _
      generalize defBody st = bd at hb ⊢
      rw [show execs bd (PySem.W.ksEnv qual (defScope st) s.heap.objs.size f (.ref cda) cc) = execs [s1, .Expr (.Call (.Attribute (.Call (.Name "super" q0) [] [] q1) "__init__" q2) (e :: es) [] q3) q4] (PySem.W.ksEnv qual (defScope st) s.heap.objs.size f (.ref cda) cc) from by rw [hb]]
      refine PySem.ks_wpAt_execs_cons (PySem.wpAt_of_wpAny (wpAny_mono hrun (fun fl s' hs => ?_) fun e s' hs => hs))
      cases fl with
      | next =>
        obtain ⟨σ', H', J, hσ, dx, hH, hta⟩ := hs
        refine PySem.ks_wpAt_execs_cons (PySem.ks_wpAt_Expr_any (sup_exprL (pl := pl) F rfl hms S.sup S.cls (i := 0) rfl S.l0 h2 J hσ hH (hta _ fun vs H1 hl hH1 q => ⟨hl, hH1, fun s2 J2 => ?_⟩) (he _) (hpl _) (hc _)) (hi := J.quiet) (hs := hsw _))
        exact PySem.wpAt_of_wpAny (wpAny_execs_nil ⟨.non, H1, J2.os, J2.bare, J2.base, J2.hok, rfl, q⟩)
      | brk =>
        obtain ⟨_, _, _, z⟩ := hs
        exact False.elim z
      | cont =>
        obtain ⟨_, _, _, z⟩ := hs
        exact False.elim z
      | ret u =>
        obtain ⟨_, _, _, _, _, z⟩ := hs
        exact False.elim z
end
end Nm
set_option maxRecDepth 100000
set_option maxHeartbeats 4000000
namespace Nm
open PySem L2
/-! ### the source of draws -/
def srcD (c : Addr) (left mixed turn : Int) : List (Key × V) :=
  [(Sum.inr "cells", V.ref c), (Sum.inr "left", V.int left), (Sum.inr "mixed", V.int mixed), (Sum.inr "turn", V.int turn)]
structure SrcOk (H : Hp) (s c : Addr) (cs : List Int) (left mixed turn : Int) : Prop where
  ds : H s = some (.dK (srcD c left mixed turn))
  dc : H c = some (.lst (cs.map V.int))
  nn : ∀ x ∈ cs, 0 ≤ x
  len : cs.length ≤ 63
  l0 : 0 ≤ left
  m0 : 0 ≤ mixed
  m1 : mixed < 2147483629
  t0 : 0 ≤ turn
def Src (H : Hp) (s c : Addr) : Prop := ∃ cs left mixed turn, SrcOk H s c cs left mixed turn
/-- all but the source stays -/
def Kp (s c : Addr) (H H' : Hp) : Prop := ∀ b o, H b = some o → b ≠ s → b ≠ c → H' b = some o
theorem Kp.refl {s c : Addr} (H : Hp) : Kp s c H H := fun _ _ h _ _ => h
theorem Kp.trans {s c : Addr} {H H1 H2 : Hp} (a : Kp s c H H1) (b : Kp s c H1 H2) : Kp s c H H2 := fun x o h h1 h2 => b x o (a x o h h1 h2) h1 h2
theorem Kp.same {s c : Addr} {H H1 : Hp} (a : Same H H1) : Kp s c H H1 := fun x o h _ _ => a x o h
theorem Kp.new {s c : Addr} {H H1 : Hp} (a : Kp s c H H1) {p : Addr} {o : HO} (h : H1 p = none) : Kp s c H (upd H1 p o) := fun x u e h1 h2 => by
  have := a x u e h1 h2
  rw [upd_ne (ne_of_none this h)]
  exact this
theorem Src.upd {H : Hp} {s c p : Addr} {o : HO} (S : Src H s c) (h1 : p ≠ s) (h2 : p ≠ c) : Src (upd H p o) s c := by
  obtain ⟨cs, l, m, t, S⟩ := S
  exact ⟨cs, l, m, t, ⟨by rw [upd_ne h1.symm]; exact S.ds, by rw [upd_ne h2.symm]; exact S.dc, S.nn, S.len, S.l0, S.m0, S.m1, S.t0⟩⟩
theorem Src.same {H H' : Hp} {s c : Addr} (S : Src H s c) (e : Same H H') : Src H' s c := by
  obtain ⟨cs, l, m, t, S⟩ := S
  exact ⟨cs, l, m, t, ⟨e _ _ S.ds, e _ _ S.dc, S.nn, S.len, S.l0, S.m0, S.m1, S.t0⟩⟩
theorem Src.ne {H : Hp} {s c p : Addr} (S : Src H s c) (h : H p = none) : p ≠ s ∧ p ≠ c := by
  obtain ⟨cs, l, m, t, S⟩ := S
  exact ⟨(ne_of_none S.ds h).symm, (ne_of_none S.dc h).symm⟩
theorem Src.new {H : Hp} {s c p : Addr} {o : HO} (S : Src H s c) (h : H p = none) : Src (L2.upd H p o) s c := S.upd (S.ne h).1 (S.ne h).2
theorem tyes {σ : St} {H : Hp} {A B : Hp → Prop} (h : A H) : tYes σ H (fun b H3 => if b = true then A H3 else B H3) := by
  show (if true = true then A H else B H)
  rw [if_pos rfl]
  exact h
/-- what is new since H, and stays where only the source changes -/
theorem Kp.off {H H1 : Hp} {s c p : Addr} {o : HO} (a : Kp s c H H1) (h : H p = none) : Kp s c H (L2.upd H1 p o) := fun b u e h1 h2 => by
  rw [upd_ne (ne_of_none e h)]
  exact a b u e h1 h2
theorem Kp.free {H H1 : Hp} {s c p : Addr} (a : Kp s c H H1) (S : Src H1 s c) (h : H1 p = none) : H p = none := by
  cases q : H p with
  | none => rfl
  | some o =>
    obtain ⟨n1, n2⟩ := S.ne h
    rw [a p o q n1 n2] at h
    cases h
theorem same_new {H : Hp} {p : Addr} {o : HO} (h : H p = none) : Same H (upd H p o) := fun x u e => by
  rw [upd_ne (ne_of_none e h)]
  exact e
theorem k1 : ¬ (("cells" : Str) = "left") := by decide +kernel
theorem k2 : ¬ (("cells" : Str) = "mixed") := by decide +kernel
theorem k3 : ¬ (("cells" : Str) = "turn") := by decide +kernel
theorem k4 : ¬ (("left" : Str) = "mixed") := by decide +kernel
theorem k5 : ¬ (("left" : Str) = "turn") := by decide +kernel
theorem k6 : ¬ (("mixed" : Str) = "turn") := by decide +kernel
theorem k4' : ¬ (("mixed" : Str) = "left") := by decide +kernel
theorem k5' : ¬ (("turn" : Str) = "left") := by decide +kernel
section
variable {c : Addr} {l m t : Int}
theorem src_cells : valV (srcD c l m t) (Sum.inr "cells" : Key) = some (.ref c) := valV_pos rfl
theorem inr_ne {x y : Str} (h : ¬ x = y) : ¬ (Sum.inr x : Key) = Sum.inr y := fun e => h (Sum.inr.inj e)
theorem src_left : valV (srcD c l m t) (Sum.inr "left" : Key) = some (.int l) := by
  unfold srcD
  rw [valV_neg (inr_ne k1)]
  exact valV_pos rfl
theorem src_mixed : valV (srcD c l m t) (Sum.inr "mixed" : Key) = some (.int m) := by
  unfold srcD
  rw [valV_neg (inr_ne k2), valV_neg (inr_ne k4)]
  exact valV_pos rfl
theorem src_turn : valV (srcD c l m t) (Sum.inr "turn" : Key) = some (.int t) := by
  unfold srcD
  rw [valV_neg (inr_ne k3), valV_neg (inr_ne k5), valV_neg (inr_ne k6)]
  exact valV_pos rfl
theorem put_left {z : Int} : putK (srcD c l m t) (Sum.inr "left" : Key) (.int z) = srcD c z m t := by
  unfold putK srcD
  simp [k1, k4', k5']
theorem put_turn {z : Int} : putK (srcD c l m t) (Sum.inr "turn" : Key) (.int z) = srcD c l m z := by
  unfold putK srcD
  simp [k3, k5, k6]
theorem src_len : (srcD c l m t).length < sizeLine := by show 4 < sizeLine; decide
end
/-! ### _law_pick -/
def spPick : Sp := fun vs H Q _ => ∃ (s c : Addr) (n : Int), vs = [.ref s, .int n] ∧ Src H s c ∧ 1 ≤ n ∧ n < 1073741824 ∧
  ∀ (k : Int) (H' : Hp), 0 ≤ k → k < n → Src H' s c → Kp s c H H' → Q (.int k) H'
theorem scPick : FnScope ["_law_source", "_law_many", "_law_cells", "_law_left", "_law_turn", "_law_mixed"] ["_law_source", "_law_many"] (defScope sPick) := ⟨rfl, rfl, rfl, by decide +kernel, rfl, by decide +kernel, by decide +kernel⟩
structure TxtA (mg : Str → Option Value) : Prop where
  len : mg "len" = none
  int : mg "int" = none
section
variable {P : Program} {w : World} {K : PySem.W.Frag} {mg : Str → Option Value} {base : Heap}
theorem ok_pick {f : Addr} {fd : FuncData} (F : Fun K "_law_pick" "_law_pick" sPick f fd) (T : TxtA mg) : FnOk P w K mg base CX0 1 f fd ["_law_source", "_law_many"] spPick := by
  refine F.ok scPick (fun vs H Q E h => ?_) (fun cdv A outer s H vs Q E hr h => ?_)
  · obtain ⟨p, dx, n, rfl, _⟩ := h
    rfl
  · obtain ⟨sa, ca, n, rfl, ⟨cs, l, m, t, S⟩, n1, n2, k⟩ := h
    have hu := hu_of hr
    refine ⟨_, pss_cons (ps_if (pt_cmpR op_lt (pv 1) pe_int (nomark _)) (pss_one (ps_ret pe_int)) pss_nil)
      (pss_cons (ps_set (i := 2) scPick.nd rfl (Or.inl rfl) (pe_dget hu (pv 0) pe_str (fun _ _ => rfl)))
      (Evl.pss_cut (ps_while PassesOwn.never (PW.pt (pw_and (pt_cmpR op_lt (pe_dget hu (pv 0) pe_str (fun _ _ => rfl)) pe_int (nomark _)) (pw_and1 (pt_cmpR op_gt (pe_callB call_len_seq (by rfl) T.len PySem.boot_len (pa_cons (pv 2) pa_nil)) pe_int (nomark _)))))
        (pss_one (ps_dput hu (pv 0) pe_str (pe_bm0 PySem.F.plainAttrs_list PySem.F.slot_list_pop PySem.F.type_list_pop mt_pop (pv 2)) rfl)))
      (pss_cons (ps_set (i := 3) scPick.nd rfl (Or.inl rfl) (pe_dget hu (pv 0) pe_str (fun _ _ => rfl)))
      (pss_cons (ps_if (pt_cmpR op_gt (pv 3) pe_int (nomark _))
        (pss_cons (ps_dput hu (pv 0) pe_str (pe_op op_fdiv (pv 3) (pv 1)) rfl) (pss_one (ps_ret (pe_op op_mod (pe_callTy call_int1 (by rfl) T.int (by decide +kernel) (pa_cons (pv 3) pa_nil)) (pv 1))))) pss_nil)
      (pss_cons (ps_dput hu (pv 0) pe_str (pe_op op_add (pe_dget hu (pv 0) pe_str (fun _ _ => rfl)) pe_int) rfl)
      (pss_cons (ps_set (i := 4) scPick.nd rfl (Or.inl rfl) (pe_dget hu (pv 0) pe_str (fun _ _ => rfl)))
      (pss_cons (ps_set (i := 5) scPick.nd rfl (Or.inl rfl) (pe_op op_mod (pe_callTy call_int1 (by rfl) T.int (by decide +kernel) (pa_cons (pe_op op_add (pe_dget hu (pv 0) pe_str (fun _ _ => rfl)) (pe_op op_mul (pv 4) pe_int)) pa_nil)) pe_int))
      (pss_cons (ps_set (i := 5) scPick.nd rfl (Or.inl rfl) (pe_op op_mod (pe_callTy call_int1 (by rfl) T.int (by decide +kernel) (pa_cons (pe_op op_add (pe_op op_mul (pv 5) (pv 5)) (pe_op op_mul (pv 4) pe_int)) pa_nil)) pe_int))
      (pss_one (ps_ret (pe_op op_mod (pe_callTy call_int1 (by rfl) T.int (by decide +kernel) (pa_cons (pe_op op_fdiv (pv 5) pe_int) pa_nil)) (pv 1)))))))))))), ?_⟩
    -- if many < 2: return 0
    refine ⟨_, rfl, _, _, rfl, rfl, _, rfl, ?_⟩
    refine ite2 (fun h1 => k 0 H (by omega) (by omega) ⟨cs, l, m, t, S⟩ (Kp.refl H)) (fun h1 => ?_)
    have hn2 : 2 ≤ n := by
      have := of_decide_eq_false (Bool.eq_false_iff.mpr h1)
      omega
    have hsc : sa ≠ ca := ne_of S.ds S.dc (by intro z; cases z)
    -- cells
    refine ⟨_, rfl, sa, _, rfl, (by rw [← src_cells (l := l) (m := m) (t := t)]; exact DGet.k (k := Sum.inr "cells") S.ds), ?_⟩
    -- while
    refine ⟨fun σ H' => ∃ cs' l', σ = [some (.ref sa), some (.int n), some (.ref ca), none, none, none] ∧ SrcOk H' sa ca cs' l' m t ∧ Kp sa ca H H', ?_, ?_⟩
    · refine ⟨fun mm σ H' => ∃ cs' l', mm = cs'.length ∧ σ = [some (.ref sa), some (.int n), some (.ref ca), none, none, none] ∧ SrcOk H' sa ca cs' l' m t ∧ Kp sa ca H H', ⟨_, cs, l, rfl, rfl, S, Kp.refl H⟩, ?_⟩
      rintro mm σ H1 ⟨cs', l', rfl, rfl, S1, kp⟩
      have dl : DGet H1 sa (V.str "left") (some (.int l')) := by rw [← src_left (c := ca) (m := m) (t := t)]; exact DGet.k (k := Sum.inr "left") S1.ds
      refine ⟨_, rfl, sa, _, rfl, dl, _, _, rfl, rfl, _, rfl, ?_⟩
      refine ite2 (fun hl => ?_) (fun hl => iteF ⟨cs', l', rfl, S1, kp⟩)
      refine ⟨_, rfl, ca, _, rfl, .inl (SqL.of S1.dc), _, _, rfl, rfl, _, rfl, ?_⟩
      refine ite2 (fun hc => ?_) (fun hc => ⟨cs', l', rfl, S1, kp⟩)
      have hc' : 0 < cs'.length := by
        have := of_decide_eq_true hc
        rw [List.length_map] at this
        omega
      obtain ⟨y, hy⟩ : ∃ y, cs'[cs'.length - 1]? = some y := ⟨_, List.getElem?_eq_getElem (by omega)⟩
      have hym : y ∈ cs' := List.mem_of_getElem? hy
      refine ⟨fun σ H' => ∃ cs2 l2, cs2.length < cs'.length ∧ σ = [some (.ref sa), some (.int n), some (.ref ca), none, none, none] ∧ SrcOk H' sa ca cs2 l2 m t ∧ Kp sa ca H H', fun σ' H' ⟨cs2, l2, a1, a2, a3, a4⟩ => ⟨_, a1, cs2, l2, rfl, a2, a3, a4⟩, ?_⟩
      refine ⟨_, rfl, .inl ⟨rfl, _, SqL.of S1.dc⟩, ca, _, .int y, rfl, rfl, S1.dc, (by rw [List.length_map, List.getElem?_map, hy]; rfl), ?_⟩
      have ds2 : (upd H1 ca (.lst (cs'.map V.int).dropLast)) sa = some (.dK (srcD ca l' m t)) := by rw [upd_ne hsc]; exact S1.ds
      refine ⟨_, rfl, sa, _, rfl, DPut.k (k := Sum.inr "left") ds2 src_len, ?_⟩
      refine ⟨cs'.dropLast, y, (by rw [List.length_dropLast]; omega), rfl, ⟨by rw [upd_same, put_left], by rw [upd_ne hsc.symm, upd_same, List.map_dropLast], fun x hx => S1.nn x ((List.dropLast_sublist cs').subset hx), (by rw [List.length_dropLast]; have := S1.len; omega), S1.nn y hym, S1.m0, S1.m1, S1.t0⟩, fun b o e h1 h2 => ?_⟩
      rw [upd_ne h1, upd_ne h2]
      exact kp b o e h1 h2
    rintro σ H1 ⟨cs', l', rfl, S1, kp⟩
    have dl : DGet H1 sa (V.str "left") (some (.int l')) := by rw [← src_left (c := ca) (m := m) (t := t)]; exact DGet.k (k := Sum.inr "left") S1.ds
    refine ⟨_, rfl, sa, _, rfl, dl, ?_⟩
    refine ⟨_, rfl, _, _, rfl, rfl, _, rfl, ?_⟩
    refine ite2 (fun h2 => ?_) (fun h2 => ?_)
    · -- left // many
      have hl2 : 1 < l' := of_decide_eq_true h2
      refine ⟨_, rfl, _, rfl, _, _, rfl, rfl, ⟨by omega, by omega⟩, _, rfl, sa, _, rfl, DPut.k (k := Sum.inr "left") S1.ds src_len, ?_⟩
      refine ⟨_, rfl, .inl ⟨_, rfl, _, rfl, _, _, rfl, rfl, by omega, ?_⟩⟩
      refine k _ _ (Int.emod_nonneg _ (by omega)) (Int.emod_lt_of_pos _ (by omega)) ⟨cs', l' / n, m, t, ⟨by rw [upd_same, put_left], by rw [upd_ne hsc.symm]; exact S1.dc, S1.nn, S1.len, Int.ediv_nonneg (by omega) (by omega), S1.m0, S1.m1, S1.t0⟩⟩ fun b o e h1 h2 => ?_
      rw [upd_ne h1]
      exact kp b o e h1 h2
    · have dt : DGet H1 sa (V.str "turn") (some (.int t)) := by rw [← src_turn (c := ca) (m := m) (l := l')]; exact DGet.k (k := Sum.inr "turn") S1.ds
      refine ⟨_, rfl, sa, _, rfl, dt, _, _, rfl, rfl, _, rfl, sa, _, rfl, DPut.k (k := Sum.inr "turn") S1.ds src_len, ?_⟩
      rw [put_turn]
      have S2 : SrcOk (upd H1 sa (.dK (srcD ca l' m (t + 1)))) sa ca cs' l' m (t + 1) := ⟨upd_same, by rw [upd_ne hsc.symm]; exact S1.dc, S1.nn, S1.len, S1.l0, S1.m0, S1.m1, by have := S1.t0; omega⟩
      have dt2 : DGet (upd H1 sa (.dK (srcD ca l' m (t + 1)))) sa (V.str "turn") (some (.int (t + 1))) := by rw [← src_turn (c := ca) (m := m) (l := l')]; exact DGet.k (k := Sum.inr "turn") S2.ds
      have dm2 : DGet (upd H1 sa (.dK (srcD ca l' m (t + 1)))) sa (V.str "mixed") (some (.int m)) := by rw [← src_mixed (c := ca) (t := t + 1) (l := l')]; exact DGet.k (k := Sum.inr "mixed") S2.ds
      refine ⟨_, rfl, sa, _, rfl, dt2, ?_⟩
      have hm2 : 0 ≤ (m + (t + 1) * 104729) % 998244353 := Int.emod_nonneg _ (by decide)
      have hm3 : (m + (t + 1) * 104729) % 998244353 < 998244353 := Int.emod_lt_of_pos _ (by decide)
      refine ⟨_, rfl, sa, _, rfl, dm2, _, rfl, _, _, rfl, rfl, .inr ⟨by decide, by decide⟩, _, _, rfl, rfl, .inl ⟨_, rfl, _, _, rfl, rfl, (by show (0 : Int) < 998244353; decide), ?_⟩⟩
      refine ⟨_, rfl, _, rfl, _, _, rfl, rfl, .inl ⟨by show -(2 ^ 64 : Int) < _; omega, by show _ < (2 ^ 64 : Int); omega⟩, _, rfl, _, _, rfl, rfl, .inr ⟨by decide, by decide⟩, _, _, rfl, rfl, .inl ⟨_, rfl, _, _, rfl, rfl, (by show (0 : Int) < 2147483647; decide), ?_⟩⟩
      refine ⟨_, rfl, _, _, rfl, rfl, ⟨by decide, by decide⟩, .inl ⟨_, rfl, _, rfl, _, _, rfl, rfl, by show 0 < n; omega, ?_⟩⟩
      refine k _ _ (Int.emod_nonneg _ (by omega)) (Int.emod_lt_of_pos _ (by omega)) ⟨cs', l', m, t + 1, S2⟩ fun b o e h1 h2 => ?_
      rw [upd_ne h1]
      exact kp b o e h1 h2
end
end Nm
set_option maxRecDepth 100000
set_option maxHeartbeats 4000000
namespace Nm
open PySem L2
structure TxtB (mg : Str → Option Value) : Prop extends TxtA mg where
  list : mg "list" = none
  range : mg "range" = none
  abs : mg "abs" = none
/-- a def that stands under a name of the module, with its promise -/
structure Def (P : Program) (w : World) (K : PySem.W.Frag) (mg : Str → Option Value) (base : Heap) (x : Str) (ps : List Str) (k : Nat) (sp : Sp) : Prop where
  ex : ∃ f fd, FnOk P w K mg base CX0 k f fd ps sp ∧ mg x = some (.ref f) ∧ PySem.W.keepIn K (.ref f) = true ∧ Binds K fd ps []
section
variable {P : Program} {w : World} {K : PySem.W.Frag} {mg : Str → Option Value} {base : Heap}
theorem erase_perm {α : Type} {y : α} : ∀ {zs : List α} {i : Nat}, zs[i]? = some y → ([y] ++ zs.eraseIdx i).Perm zs
  | z :: zs, 0, h => by
    simp at h
    subst h
    exact List.Perm.refl _
  | z :: zs, i + 1, h => by
    simp at h
    have := erase_perm (zs := zs) (i := i) h
    show (y :: z :: zs.eraseIdx i).Perm (z :: zs)
    exact (List.Perm.swap z y _).trans (this.cons z)
/-! ### _law_any_order -/
def spAny (K : PySem.W.Frag) : Sp := fun vs H Q _ => ∃ (s c a : Addr) (xs : List V), vs = [.ref s, .ref a] ∧ Src H s c ∧ SqL K H a xs ∧ xs.length ≤ 10000 ∧
  ∀ (p : Addr) (ys : List V) (H' : Hp), H p = none → ys.Perm xs → H' p = some (.lst ys) → Src H' s c → Kp s c H H' → Q (.ref p) H'
theorem scAny : FnScope ["_law_source", "_law_items", "_law_rest", "_law_lap"] ["_law_source", "_law_items"] (defScope sAnyOrder) := ⟨rfl, rfl, rfl, by decide +kernel, rfl, by decide +kernel, by decide +kernel⟩
theorem ok_any {f : Addr} {fd : FuncData} (F : Fun K "_law_any_order" "_law_any_order" sAnyOrder f fd) (T : TxtB mg) (Gp : Def P w K mg base "_law_pick" ["_law_source", "_law_many"] 1 spPick) : FnOk P w K mg base CX0 2 f fd ["_law_source", "_law_items"] (spAny K) := by
  obtain ⟨fp, fdp, Gp, mp, kp, bp⟩ := Gp.ex
  refine F.ok scAny (fun vs H Q E h => ?_) (fun cdv A outer s H vs Q E hr h => ?_)
  · obtain ⟨p, dx, n, xs, rfl, _⟩ := h
    rfl
  · obtain ⟨sa, ca, ia, xs, rfl, S, hx, hl, k⟩ := h
    have hu := hu_of hr
    refine ⟨_, pss_cons (ps_set (i := 2) scAny.nd rfl (Or.inr rfl) (pe_callTy call_list_of (by rfl) T.list (by decide +kernel) (pa_cons (pv 1) pa_nil)))
      (pss_one (ps_ret (pe_lc (own := [("_law_lap", 3)]) (g := gName 3) (tt := tYes) (te := tBM K "list" rPopAt (tVar 2) (tCons (tCall spPick [] E0 (tCons (tVar 0) (tCons (tCB (Evl.rLenS K) (tCons (tVar 2) tNil)) tNil))) tNil)) rfl scAny.nd (pi_range1 (by rfl) T.range (pa_cons (pe_callB call_len_seq (by rfl) T.len PySem.boot_len (pa_cons (pv 2) pa_nil)) pa_nil))
        (blkOk_by (N := ["_law_source", "_law_items", "_law_rest", "_law_lap"]) (sc := defScope sAnyOrder) (by decide +kernel)) (fun _ _ _ _ _ => pg_name (i := 3) scAny.nd rfl (Or.inl rfl)) (fun _ _ _ _ _ => pts_nil)
        (fun _ _ _ _ _ => by exact pe_bm PySem.F.plainAttrs_list PySem.F.slot_list_pop PySem.F.type_list_pop mt_popAt (pv 2) (pa_cons (pe_call Gp hr (by rfl) mp kp bp .nil pass0 (pa_cons (pv 0) (pa_cons (pe_callB call_len_seq (by rfl) T.len PySem.boot_len (pa_cons (pv 2) pa_nil)) pa_nil))) pa_nil))))), ?_⟩
    refine ⟨_, rfl, ia, _, rfl, .inl hx, fun r hr0 => ?_⟩
    refine ⟨_, rfl, r, _, rfl, .inl (SqL.of upd_same), _, rfl, by omega, by omega, fun D hD => ?_⟩
    have hDr : D ≠ r := fun e => by subst e; rw [upd_same] at hD; cases hD
    have hD0 : H D = none := by rw [upd_ne hDr] at hD; exact hD
    obtain ⟨nrs, nrc⟩ := S.ne hr0
    obtain ⟨nDs, nDc⟩ := S.ne hD0
    refine lc_range (lo := 0) (n := xs.length) (fun i H' => ∃ ys zs, (ys ++ zs).Perm xs ∧ ys.length = i ∧ H' D = some (.lst ys) ∧ H' r = some (.lst zs) ∧ Src H' sa ca ∧ Kp sa ca H H') ?_ ?_ ?_
    · exact ⟨[], xs, List.Perm.refl _, rfl, upd_same, by rw [upd_ne hDr.symm, upd_same], (S.new hr0).upd nDs nDc, ((Kp.refl H).off hr0).off hD0⟩
    · rintro i H1 hi ⟨ys, zs, pm, hyl, hy, hz, S1, kp1⟩
      have hlen : ys.length + zs.length = xs.length := by rw [← List.length_append]; exact pm.length_eq
      refine ⟨rfl, tyes ?_⟩
      refine ⟨_, rfl, .inl ⟨rfl, _, SqL.of hz⟩, _, rfl, _, rfl, r, _, rfl, .inl (SqL.of hz), sa, ca, _, rfl, S1, by omega, by omega, fun kk H2 k0 k1 S2 kp2 => ?_⟩
      have hz2 := kp2 _ _ hz nrs nrc
      have hy2 := kp2 _ _ hy nDs nDc
      obtain ⟨y, hyy⟩ : ∃ y, zs[kk.toNat]? = some y := ⟨_, List.getElem?_eq_getElem (by omega)⟩
      refine ⟨r, zs, kk, kk.toNat, y, rfl, rfl, hz2, by omega, by omega, ?_, hyy, ?_⟩
      · exact seqIndex_of k0 k1
      · refine ⟨ys, by rw [upd_ne hDr]; exact hy2, Evl.sz_lt (by omega), ys ++ [y], zs.eraseIdx kk.toNat, ?_, by simp; omega, upd_same, by rw [upd_ne hDr.symm, upd_same], ?_, ?_⟩
        · refine List.Perm.trans ?_ pm
          rw [List.append_assoc]
          refine List.Perm.append_left ys ?_
          exact erase_perm hyy
        · exact (S2.upd nrs nrc).upd nDs nDc
        · exact ((kp1.trans kp2).off hr0).off hD0
    · rintro H1 ⟨ys, zs, pm, hyl, hy, hz, S1, kp1⟩
      have hlen : ys.length + zs.length = xs.length := by rw [← List.length_append]; exact pm.length_eq
      have hz0 : zs = [] := List.length_eq_zero_iff.mp (by omega)
      subst hz0
      rw [List.append_nil] at pm
      exact k D ys H1 hD0 pm hy S1 kp1
end
end Nm
set_option maxRecDepth 100000
set_option maxHeartbeats 4000000
/-! Rules that the layer lacks -/
namespace Nm
open PySem PySem.Spec PyProof.Rows L2
/-- the places that xs[::st] takes -/
def stepIx (st : Int) (n : Nat) : List Nat := sliceRange (sliceBounds none none (some st) n).1 (sliceBounds none none (some st) n).2.1 (sliceBounds none none (some st) n).2.2
def stepV (xs : List V) (st : Int) : List V := (stepIx st xs.length).filterMap (xs[·]?)
theorem stepV_mem {xs : List V} {st : Int} {v : V} (h : v ∈ stepV xs st) : v ∈ xs := by
  obtain ⟨i, _, e⟩ := List.mem_filterMap.mp h
  exact List.mem_of_getElem? e
theorem vals_filter : ∀ (is : List Nat) {xs : List V} {us : List Value}, Vals xs us → Vals (is.filterMap (xs[·]?)) (is.filterMap (us[·]?))
  | [], _, _, _ => .nil
  | i :: is, xs, us, r => by
    rw [List.filterMap_cons, List.filterMap_cons]
    cases e : xs[i]? with
    | none =>
      rw [r.none_of e]
      exact vals_filter is r
    | some x =>
      obtain ⟨u, e2, r2⟩ := r.get e
      rw [e2]
      exact .cons r2 (vals_filter is r)
theorem fm_len {α β : Type} : ∀ (is : List Nat) {xs : List α} {us : List β}, xs.length = us.length → (is.filterMap (xs[·]?)).length = (is.filterMap (us[·]?)).length
  | [], _, _, _ => rfl
  | i :: is, xs, us, h => by
    rw [List.filterMap_cons, List.filterMap_cons]
    have ih := fm_len is h
    by_cases hi : i < xs.length
    · rw [List.getElem?_eq_getElem hi, List.getElem?_eq_getElem (by omega)]
      simp only [List.length_cons]
      omega
    · rw [List.getElem?_eq_none (by omega), List.getElem?_eq_none (by omega)]
      exact ih
theorem stepV_len (xs : List V) (st : Int) : (stepV xs st).length ≤ xs.length := by
  have h := slicePick_size_le (List.replicate xs.length Value.none).toArray none none (some st)
  unfold slicePick at h
  rw [List.size_toArray, List.size_toArray, List.length_replicate] at h
  have e := fm_len (stepIx st xs.length) (xs := xs) (us := List.replicate xs.length Value.none) (by simp)
  unfold stepV
  rw [e]
  have e2 : (stepIx st xs.length).filterMap ((List.replicate xs.length Value.none)[·]?) = (stepIx st xs.length).filterMap ((List.replicate xs.length Value.none).toArray[·]?) := by simp only [List.getElem?_toArray]
  rw [e2]
  exact h
def tStepL (K : PySem.W.Frag) (te ts : TE) : TE := fun σ H Q => te σ H fun x H1 => ts σ H1 fun y H2 => ∃ st, y = .int st ∧ ∃ a xs, x = .ref a ∧ (some st).getD 1 ≠ 0 ∧ (some st).isSome = true ∧ SqL K H2 a xs ∧ ∀ p, H2 p = none → Q (.ref p) (upd H2 p (.lst (stepV xs ((some st).getD 1))))
section
variable {X : Cx}
theorem pe_stepL {e es : PySem.Expr} {te ts : TE} {p3 pos : Pos} (he : PE X e te) (hs : PE X es ts) : PE X (.Subscript e (.Slice none none (some es) p3) pos) (tStepL X.K te ts) := by
  refine ⟨fun pins s σ H Q I h => ?_⟩
  refine Subscript_ (thn (he.run pins s σ H _ I h) fun v s1 ⟨x, H1, I1, r1, q1⟩ => ?_)
  refine wpAny_Slice (thn (po_none.run pins s1 σ H1 (fun o H2 => o = none ∧ H2 = H1) I1 ⟨rfl, rfl⟩) fun vl s2 ⟨l, H2, I2, pl, el, e2⟩ => ?_)
  subst el e2
  refine thn (po_none.run pins s2 σ H2 (fun o H3 => o = none ∧ H3 = H2) I2 ⟨rfl, rfl⟩) fun vu s3 ⟨u, H3, I3, pu, eu, e3⟩ => ?_
  subst eu e3
  refine thn ((po_some hs).run pins s3 σ H3 (fun o H4 => ∃ a xs, x = .ref a ∧ o.getD 1 ≠ 0 ∧ o.isSome = true ∧ SqL X.K H4 a xs ∧ ∀ p, H4 p = none → Q (.ref p) (upd H4 p (.lst (stepV xs (o.getD 1))))) I3 ?_) fun vs s4 ⟨o, H4, I4, ps, a, xs, ex, hst, ho, hx, q⟩ => ?_
  · exact q1
  obtain ⟨st, rfl⟩ := Option.isSome_iff_exists.mp ho
  subst ex
  cases r1
  have I5 : Inv X pins σ H4 { s4 with heap := s4.heap.push { cls := .type "slice", data := .fields #[vl, vu, vs] } } := I4.kept (t' := s4.toks) fun b ob q => Heap.get?_push_of_some _ q
  obtain ⟨its, r, ht, hz⟩ := I5.list hx
  have hlen := r.length
  show wpAny (model X.prog X.w) X.A (subscriptTail e (.Slice none none (some es) p3) (.ref a) (.ref s4.heap.objs.size)) (EP X pins σ Q) X.xe { s4 with heap := s4.heap.push { cls := .type "slice", data := .fields #[vl, vu, vs] } }
  refine tail_any (ops := [.ref a, .ref s4.heap.objs.size]) ht.isList.typeIs (PySem.slot_list_getitem.lookup) ?_ (by with_unfolding_all rfl)
  refine wpAny_getItem_list_slice ht.isList (Heap.IsSliceOf.new _ vl vu vs) pl pu ps (fun z => hst (Option.some.inj z)) ?_ (by rw [List.size_toArray]; omega)
  refine ⟨.ref _, _, I5.laid (t' := s4.toks) (o := .lst (stepV xs st)) (fun b ob q => Heap.get?_push_of_some _ q) (Nat.le_refl _) ?_, rfl, q _ (I5.hok.fresh (Nat.le_refl _))⟩
  have r2 : Vals (stepV xs st) ((stepIx st xs.length).filterMap (its[·]?)) := vals_filter _ r
  refine ⟨?_, _, 0, r2, ?_⟩
  · have h1 := r2.length
    have h2 := slicePick_size_le its.toArray none none (some st)
    have h3 : slicePick its.toArray none none (some st) = ((stepIx st its.length).filterMap (its[·]?)).toArray := by
      unfold slicePick stepIx
      rw [List.size_toArray]
      simp
    rw [h3, List.size_toArray, List.size_toArray] at h2
    rw [hlen] at h1
    show (stepV xs st).length ≤ sizeLine
    omega
  · rw [Heap.get?_push_size _ rfl]
    have h3 : slicePick its.toArray none none (some st) = ((stepIx st its.length).filterMap (its[·]?)).toArray := by
      unfold slicePick stepIx
      rw [List.size_toArray]
      simp
    rw [h3, hlen]
end
end Nm
set_option maxRecDepth 100000
set_option maxHeartbeats 4000000
namespace Nm
open PySem L2
theorem Kp.seq {K : PySem.W.Frag} {s c a : Addr} {H H' : Hp} {xs : List V} (e : Kp s c H H') (h1 : a ≠ s) (h2 : a ≠ c) (h : SqL K H a xs) : SqL K H' a xs := by
  rcases h with (h | ⟨o, h⟩) | h
  · exact .inl (.inl (e _ _ h h1 h2))
  · exact .inl (.inr ⟨o, e _ _ h h1 h2⟩)
  · exact .inr h
theorem merge_src {c : Addr} {l m t : Int} : mergeK [] (srcD c l m t) = srcD c l m t := by
  unfold mergeK srcD
  simp [putK, k1, k2, k3, k4, k5, k6]
section
variable {P : Program} {w : World} {K : PySem.W.Frag} {mg : Str → Option Value} {base : Heap}
/-! ### _law_choice_of -/
def spChoice (K : PySem.W.Frag) : Sp := fun vs H Q _ => ∃ (s c a : Addr) (xs : List V), vs = [.ref s, .ref a] ∧ Src H s c ∧ a ≠ s ∧ a ≠ c ∧ SqL K H a xs ∧ 1 ≤ xs.length ∧ xs.length ≤ 1000 ∧
  ∀ (v : V) (H' : Hp), v ∈ xs → Src H' s c → Kp s c H H' → Q v H'
theorem scChoice : FnScope ["_law_source", "_law_items"] ["_law_source", "_law_items"] (defScope sChoiceOf) := ⟨rfl, rfl, rfl, by decide +kernel, rfl, by decide +kernel, by decide +kernel⟩
theorem ok_choice {f : Addr} {fd : FuncData} (F : Fun K "_law_choice_of" "_law_choice_of" sChoiceOf f fd) (T : TxtB mg) (Gp : Def P w K mg base "_law_pick" ["_law_source", "_law_many"] 1 spPick) : FnOk P w K mg base CX0 2 f fd ["_law_source", "_law_items"] (spChoice K) := by
  obtain ⟨fp, fdp, Gp, mp, kp, bp⟩ := Gp.ex
  refine F.ok scChoice (fun vs H Q E h => ?_) (fun cdv A outer s H vs Q E hr h => ?_)
  · obtain ⟨p, dx, n, xs, rfl, _⟩ := h
    rfl
  · obtain ⟨sa, ca, ia, xs, rfl, S, n1, n2, hx, hl1, hl, k⟩ := h
    refine ⟨_, pss_one (ps_ret (pe_ix ix_list (pv 1) (pe_call Gp hr (by rfl) mp kp bp .nil pass0 (pa_cons (pv 0) (pa_cons (pe_callB call_len_seq (by rfl) T.len PySem.boot_len (pa_cons (pv 1) pa_nil)) pa_nil))) (fun _ _ => rfl))), ?_⟩
    refine ⟨_, rfl, _, rfl, _, rfl, ia, _, rfl, .inl hx, sa, ca, _, rfl, S, by omega, by omega, fun kk H2 k0 k1 S2 kp2 => ?_⟩
    obtain ⟨v, hv⟩ : ∃ v, xs[kk.toNat]? = some v := ⟨_, List.getElem?_eq_getElem (by omega)⟩
    refine ⟨ia, xs, kk, v, rfl, rfl, kp2.seq n1 n2 hx, ?_, k v H2 (List.mem_of_getElem? hv) S2 kp2⟩
    have := atI_nat hv
    rw [Int.toNat_of_nonneg k0] at this
    exact this
/-! ### _law_open_cells -/
def spOpen (K : PySem.W.Frag) : Sp := fun vs H Q _ => ∃ (a : Addr) (ns : List Int), vs = [.ref a] ∧ SqL K H a (ns.map V.int) ∧ ns.length ≤ 63 ∧
  ∀ (s c : Addr) (H' : Hp), H s = none → H c = none → Src H' s c → Same H H' → Q (.ref s) H'
theorem scOpen : FnScope ["_law_script", "_law_mixed", "_law_cell", "_law_cells"] ["_law_script"] (defScope sOpenCells) := ⟨rfl, rfl, rfl, by decide +kernel, rfl, by decide +kernel, by decide +kernel⟩
theorem ok_open {f : Addr} {fd : FuncData} (F : Fun K "_law_open_cells" "_law_open_cells" sOpenCells f fd) (T : TxtB mg) : FnOk P w K mg base CX0 1 f fd ["_law_script"] (spOpen K) := by
  refine F.ok scOpen (fun vs H Q E h => ?_) (fun cdv A outer s H vs Q E hr h => ?_)
  · obtain ⟨p, dx, rfl, _⟩ := h
    rfl
  · obtain ⟨sa, ns, rfl, hx, hl, k⟩ := h
    refine ⟨_, pss_cons (ps_set (i := 1) scOpen.nd rfl (Or.inl rfl) pe_int)
      (pss_cons (ps_for PassesOwn.never rfl (pi_list (pv 0)) (pg_name (i := 2) scOpen.nd rfl (Or.inl rfl))
        (pss_one (ps_set (i := 1) scOpen.nd rfl (Or.inl rfl) (pe_op op_mod (pe_callTy call_int1 (by rfl) T.int (by decide +kernel) (pa_cons (pe_op op_add (pe_op op_add (pe_op op_mul (pv 1) pe_int) (pe_op op_mul (pv 2) pe_int)) pe_int) pa_nil)) pe_int))))
      (pss_cons (ps_setLc (i := 3) (own := [("_law_cell", 2)]) (g := gName 2) (tt := tYes) rfl scOpen.nd rfl rfl (sw_true rfl rfl rfl (by decide +kernel)) (pi_list (pv 0))
        (blkOk_by (N := ["_law_script", "_law_mixed", "_law_cell", "_law_cells"]) (sc := defScope sOpenCells) (by decide +kernel)) (fun _ _ _ _ _ => pg_name (i := 2) scOpen.nd rfl (Or.inl rfl)) (fun _ _ _ _ _ => pts_nil)
        (fun _ _ _ _ _ => pe_callB call_abs (by rfl) T.abs (by decide +kernel) (pa_cons (pv 2) pa_nil)))
      (pss_one (ps_ret (pe_disp (pps_cons pe_str (pe_revL (pv 3)) (pps_cons pe_str pe_int (pps_cons pe_str (pv 1) (pps_cons pe_str pe_int pps_nil)))) (by rfl) (by rfl) (fun z => by cases z) (by decide)))))), ?_⟩
    refine ⟨_, rfl, sa, rfl, ⟨_, hx⟩, ?_⟩
    refine for_list (xs := ns.map V.int) (fun i σ H' => H' = H ∧ ∃ (m : Int) (v : Option V), 0 ≤ m ∧ m < 2147483629 ∧ σ = [some (.ref sa), some (.int m), v, none]) ⟨rfl, 11, none, by decide, by decide, rfl⟩ (fun i σ H' _ h => by rw [h.1]; exact hx) ?_ ?_
    · rintro i x σ H' hi ⟨rfl, m, v, m0, m1, rfl⟩
      rw [List.getElem?_map] at hi
      obtain ⟨y, _, rfl⟩ := Option.map_eq_some_iff.mp hi
      refine ⟨_, rfl, _, _, rfl, rfl, .inr ⟨by decide, by decide⟩, _, rfl, _, _, rfl, rfl, .inr ⟨by decide, by decide⟩, _, _, rfl, rfl, _, _, rfl, rfl, .inl ⟨_, rfl, _, _, rfl, rfl, (by show (0 : Int) < 2147483629; decide), ?_⟩⟩
      exact ⟨rfl, _, some (.int y), Int.emod_nonneg _ (by decide), Int.emod_lt_of_pos _ (by decide), rfl⟩
    · rintro σ H' ⟨rfl, m, v, m0, m1, rfl⟩
      refine ⟨_, rfl, sa, rfl, ⟨_, hx⟩, fun D hD => ?_⟩
      refine lc_list (xs := ns.map V.int) (fun i H1 => Same H' H1 ∧ ∃ cs : List Int, cs.length = i ∧ (∀ x ∈ cs, 0 ≤ x) ∧ H1 D = some (.lst (cs.map V.int))) ⟨same_new hD, [], rfl, by simp, upd_same⟩ (fun i H1 _ h => h.1.seq hx) ?_ ?_
      · rintro i x H1 hi ⟨sm, cs, hcl, hc0, hcD⟩
        have hil := (List.getElem?_eq_some_iff.mp hi).1
        rw [List.length_map] at hil
        rw [List.getElem?_map] at hi
        obtain ⟨y, _, rfl⟩ := Option.map_eq_some_iff.mp hi
        refine ⟨rfl, tyes ?_⟩
        refine ⟨_, rfl, y, rfl, _, hcD, Evl.sz_lt (by rw [List.length_map]; omega), ?_, cs ++ [if y < 0 then -y else y], by simp [hcl], ?_, by rw [upd_same, List.map_append]; rfl⟩
        · intro b o e
          rw [upd_ne (ne_of_none e hD)]
          exact sm b o e
        · intro x hx
          rcases List.mem_append.mp hx with h | h
          · exact hc0 x h
          · rw [List.mem_singleton] at h
            subst h
            split <;> omega
      · rintro H1 ⟨sm, cs, hcl, hc0, hcD⟩
        rw [List.length_map] at hcl
        intro p hp
        have hp0 : H' p = none := sm.free hp
        refine ⟨_, rfl, D, _, rfl, SqL.of (by rw [upd_ne (ne_of_none hcD hp)]; exact hcD), fun q hq => ?_⟩
        have hqp : q ≠ p := fun e => by subst e; rw [upd_same] at hq; cases hq
        have hq1 : H1 q = none := by rw [upd_ne hqp] at hq; exact hq
        have hq0 : H' q = none := sm.free hq1
        refine ⟨_, rfl, by rw [upd_ne hqp.symm, upd_same], srcD q 1 m 0, rfl, (by show 4 ≤ 15; decide), ?_⟩
        rw [merge_src]
        refine k p q _ hp0 hq0 ⟨cs.reverse, 1, m, 0, ⟨upd_same, by rw [upd_ne hqp, upd_same, List.map_reverse], fun x hx => hc0 x (List.mem_reverse.mp hx), by rw [List.length_reverse]; omega, by decide, m0, m1, by decide⟩⟩ fun b o e => ?_
        rw [upd_ne (ne_of_none e hp0), upd_ne (ne_of_none e hq0), upd_ne (ne_of_none e hp0)]
        exact sm b o e
end
end Nm
set_option maxRecDepth 100000
set_option maxHeartbeats 4000000
namespace Nm
open PySem L2
/-- each of xs is a pair of numbers i < j below n -/
def PairsAt (n : Int) (H : Hp) (xs : List V) : Prop := ∀ v ∈ xs, ∃ t i j, v = V.ref t ∧ H t = some (.tup [.int i, .int j]) ∧ 0 ≤ i ∧ i < j ∧ j < n
theorem PairsAt.same {n : Int} {H H' : Hp} {xs : List V} (h : PairsAt n H xs) (e : Same H H') : PairsAt n H' xs := fun v hv => by
  obtain ⟨t, i, j, a, b, c⟩ := h v hv
  exact ⟨t, i, j, a, e _ _ b, c⟩
theorem PairsAt.kp {n : Int} {H H' : Hp} {xs : List V} {s c : Addr} (h : PairsAt n H xs) (S : Src H s c) (e : Kp s c H H') : PairsAt n H' xs := fun v hv => by
  obtain ⟨t, i, j, a, b, r⟩ := h v hv
  obtain ⟨cs, l, m, tt, S⟩ := S
  exact ⟨t, i, j, a, e _ _ b (ne_of b S.ds (by intro z; cases z)) (ne_of b S.dc (by intro z; cases z)), r⟩
theorem PairsAt.snoc {n : Int} {H : Hp} {xs : List V} {t : Addr} {i j : Int} (h : PairsAt n H xs) (e : H t = some (.tup [.int i, .int j])) (h0 : 0 ≤ i) (h1 : i < j) (h2 : j < n) : PairsAt n H (xs ++ [.ref t]) := fun v hv => by
  rcases List.mem_append.mp hv with q | q
  · exact h v q
  · rw [List.mem_singleton] at q
    exact ⟨t, i, j, q, e, h0, h1, h2⟩
theorem PairsAt.sub {n : Int} {H : Hp} {xs ys : List V} (h : PairsAt n H xs) (e : ∀ v ∈ ys, v ∈ xs) : PairsAt n H ys := fun v hv => h v (e v hv)
theorem sq_le {n : Int} (h1 : 1 ≤ n) (h2 : n ≤ 7) : 1 ≤ n * n ∧ n * n ≤ 49 := by
  have h : n = 1 ∨ n = 2 ∨ n = 3 ∨ n = 4 ∨ n = 5 ∨ n = 6 ∨ n = 7 := by omega
  rcases h with rfl | rfl | rfl | rfl | rfl | rfl | rfl <;> decide
section
variable {P : Program} {w : World} {K : PySem.W.Frag} {mg : Str → Option Value} {base : Heap}
/-! ### _law_shape_pairs -/
def spShape : Sp := fun vs H Q _ => ∃ (s c : Addr) (n : Int), vs = [.ref s, .int n] ∧ Src H s c ∧ 1 ≤ n ∧ n ≤ 7 ∧
  ∀ (p : Addr) (xs : List V) (H' : Hp), H p = none → H' p = some (.lst xs) → PairsAt n H' xs → (xs.length ≤ 100 ∧ ∀ N : Nat, n = (N : Int) → xs.length ≤ N * N + N) → Src H' s c → Kp s c H H' → Q (.ref p) H'
abbrev nShape : List Str := ["_law_source", "_law_count", "_law_every", "_law_road", "_law_rows", "_law_n", "_law_pair", "_law_k"]
theorem scShape : FnScope nShape ["_law_source", "_law_count"] (defScope sShapePairs) := ⟨rfl, rfl, rfl, by decide +kernel, rfl, by decide +kernel, by decide +kernel⟩
theorem ok_shape {f : Addr} {fd : FuncData} (F : Fun K "_law_shape_pairs" "_law_shape_pairs" sShapePairs f fd) (T : TxtB mg) (Gp : Def P w K mg base "_law_pick" ["_law_source", "_law_many"] 1 spPick) : FnOk P w K mg base CX0 2 f fd ["_law_source", "_law_count"] spShape := by
  obtain ⟨fp, fdp, Gp, mp, kp, bp⟩ := Gp.ex
  refine F.ok scShape (fun vs H Q E h => ?_) (fun cdv A outer s H vs Q E hr h => ?_)
  · obtain ⟨p, dx, n, rfl, _⟩ := h
    rfl
  · obtain ⟨sa, ca, n, rfl, S, n1, n2, k⟩ := h
    refine ⟨_, pss_cons (ps_setLc (i := 2) (own := [("_law_n", 5)]) (g := gName 5) rfl scShape.nd rfl rfl (sw_true rfl rfl rfl (by decide +kernel)) (pi_range1 (by rfl) T.range (pa_cons (pe_op op_mul (pv 1) (pv 1)) pa_nil))
        (blkOk_by (N := nShape) (sc := defScope sShapePairs) (by decide +kernel)) (fun _ _ _ _ _ => pg_name (i := 5) scShape.nd rfl (Or.inl rfl))
        (fun _ _ _ _ _ => pts_one (pt_cmpR op_lt (pe_callTy call_int1 (by rfl) T.int (by decide +kernel) (pa_cons (pe_op op_fdiv (pv 5) (pv 1)) pa_nil)) (pe_op op_mod (pe_callTy call_int1 (by rfl) T.int (by decide +kernel) (pa_cons (pv 5) pa_nil)) (pv 1)) (nomark _)))
        (fun _ _ _ _ _ => pe_tup (pa_cons (pe_callTy call_int1 (by rfl) T.int (by decide +kernel) (pa_cons (pe_op op_fdiv (pv 5) (pv 1)) pa_nil)) (pa_cons (pe_op op_mod (pe_callTy call_int1 (by rfl) T.int (by decide +kernel) (pa_cons (pv 5) pa_nil)) (pv 1)) pa_nil))))
      (pss_cons (ps_set (i := 3) scShape.nd rfl (Or.inl rfl) (pe_call Gp hr (by rfl) mp kp bp .nil pass0 (pa_cons (pv 0) (pa_cons pe_int pa_nil))))
      (pss_cons (ps_if (pt_cmpR op_eq (pv 3) pe_int (nomark _)) (pss_one (ps_ret (pe_lc (own := [("_law_pair", 6)]) (g := gName 6) rfl scShape.nd (pi_list (pv 2))
          (blkOk_by (N := nShape) (sc := defScope sShapePairs) (by decide +kernel)) (fun _ _ _ _ _ => pg_name (i := 6) scShape.nd rfl (Or.inl rfl))
          (fun _ _ _ _ _ => pts_one (by exact pt_cmpR op_eq (pe_call Gp hr (by rfl) mp kp bp .nil pass0 (pa_cons (pv 0) (pa_cons pe_int pa_nil))) pe_int (nomark _))) (fun _ _ _ _ _ => pv 6)))) pss_nil)
      (pss_cons (ps_if (pt_cmpR op_eq (pv 3) pe_int (nomark _)) (pss_one (ps_ret (pe_lc (own := [("_law_pair", 6)]) (g := gName 6) rfl scShape.nd (pi_list (pv 2))
          (blkOk_by (N := nShape) (sc := defScope sShapePairs) (by decide +kernel)) (fun _ _ _ _ _ => pg_name (i := 6) scShape.nd rfl (Or.inl rfl))
          (fun _ _ _ _ _ => pts_one (by exact pt_cmpR op_gt (pe_call Gp hr (by rfl) mp kp bp .nil pass0 (pa_cons (pv 0) (pa_cons pe_int pa_nil))) pe_int (nomark _))) (fun _ _ _ _ _ => pv 6)))) pss_nil)
      (pss_cons (ps_if (pt_cmpR op_eq (pv 3) pe_int (nomark _)) (pss_one (ps_ret (pv 2))) pss_nil)
      (pss_cons (ps_setLc (i := 4) (own := [("_law_k", 7)]) (g := gName 7) (tt := tYes) rfl scShape.nd rfl rfl (sw_true rfl rfl rfl (by decide +kernel)) (pi_range1 (by rfl) T.range (pa_cons (pe_op op_sub (pv 1) pe_int) pa_nil))
        (blkOk_by (N := nShape) (sc := defScope sShapePairs) (by decide +kernel)) (fun _ _ _ _ _ => pg_name (i := 7) scShape.nd rfl (Or.inl rfl)) (fun _ _ _ _ _ => pts_nil)
        (fun _ _ _ _ _ => pe_tup (pa_cons (pv 7) (pa_cons (pe_op op_add (pv 7) pe_int) pa_nil))))
      (Evl.pss_cut (ps_if (PW.pt (pw_and (pt_cmpR op_eq (pv 3) pe_int (nomark _)) (pw_and1 (pt_cmpR op_gt (pv 1) pe_int (nomark _))))) (pss_one (ps_ret (pe_op op_cat (pv 4) (pe_lst (pa_cons (pe_tup (pa_cons pe_int (pa_cons (pe_op op_sub (pv 1) pe_int) pa_nil))) pa_nil))))) pss_nil)
      (pss_cons (ps_if (pt_cmpR op_eq (pv 3) pe_int (nomark _)) (pss_one (ps_ret (pe_lc (own := [("_law_k", 7)]) (g := gName 7) (tt := tYes) rfl scShape.nd (pi_range2 (by rfl) T.range (pa_cons pe_int (pa_cons (pv 1) pa_nil)))
          (blkOk_by (N := nShape) (sc := defScope sShapePairs) (by decide +kernel)) (fun _ _ _ _ _ => pg_name (i := 7) scShape.nd rfl (Or.inl rfl)) (fun _ _ _ _ _ => pts_nil)
          (fun _ _ _ _ _ => pe_tup (pa_cons pe_int (pa_cons (pv 7) pa_nil)))))) pss_nil)
      (pss_one (ps_ret (pe_stepL (pv 4) (pe_op op_add pe_int (pe_callTy call_int1 (by rfl) T.int (by decide +kernel) (pa_cons (pe_cmpR op_eq (pv 3) pe_int (nomark _)) pa_nil))))))))))))), ?_⟩
    obtain ⟨q1, q2⟩ := sq_le n1 n2
    refine ⟨_, rfl, _, rfl, _, _, rfl, rfl, .inl ⟨by show -(2 ^ 64 : Int) < _; omega, by show _ < (2 ^ 64 : Int); omega⟩, _, rfl, by omega, by omega, fun D hD => ?_⟩
    refine lc_range (lo := 0) (n := (n * n).toNat) (fun i H' => ∃ xs, H' D = some (.lst xs) ∧ xs.length ≤ i ∧ PairsAt n H' xs ∧ Same H H') ⟨[], upd_same, Nat.le_refl _, (fun v hv => by cases hv), same_new hD⟩ ?_ ?_
    · rintro i H1 hi ⟨xs, hxD, hxl, hxp, sm⟩
      refine ⟨rfl, ?_⟩
      refine ⟨_, rfl, _, rfl, _, _, rfl, rfl, ⟨by omega, by omega⟩, .inl ⟨_, rfl, _, rfl, .inl ⟨_, rfl, _, rfl, _, _, rfl, rfl, by omega, _, _, rfl, rfl, _, rfl, ?_⟩⟩⟩
      refine ite2 (fun hlt => ?_) (fun hlt => ⟨xs, hxD, by omega, hxp, sm⟩)
      refine ⟨_, rfl, _, rfl, _, _, rfl, rfl, ⟨by omega, by omega⟩, .inl ⟨_, rfl, _, rfl, .inl ⟨_, rfl, _, rfl, _, _, rfl, rfl, by omega, (by show 2 ≤ sizeLine; decide), fun t ht => ?_⟩⟩⟩
      have hlt' := of_decide_eq_true hlt
      refine ⟨xs, by rw [upd_ne (ne_of_none hxD ht)]; exact hxD, Evl.sz_lt (by omega), xs ++ [.ref t], upd_same, by simp; omega, ?_, ?_⟩
      · have hDt : t ≠ D := fun e => by subst e; rw [ht] at hxD; cases hxD
        refine PairsAt.snoc (i := (0 + (i : Int)) / n) (j := (0 + (i : Int)) % n) ?_ (by rw [upd_ne hDt, upd_same]) (Int.ediv_nonneg (by omega) (by omega)) hlt' (Int.emod_lt_of_pos _ (by omega))
        refine fun v hv => ?_
        obtain ⟨u, i', j', a, b, r⟩ := hxp v hv
        refine ⟨u, i', j', a, ?_, r⟩
        rw [upd_ne (ne_of b hxD (by intro z; cases z)), upd_ne (ne_of_none b ht)]
        exact b
      · intro b o e
        have := sm b o e
        rw [upd_ne (ne_of_none e hD), upd_ne (ne_of_none this ht)]
        exact this
    rintro H1 ⟨xs, hxD, hxl, hxp, sm⟩
    have S1 := S.same sm
    have hxl' : xs.length ≤ 49 := by omega
    obtain ⟨nDs, nDc⟩ := S.ne hD
    -- road
    refine ⟨_, rfl, sa, ca, 7, rfl, S1, by decide, by decide, fun road H2 r0 r1 S2 kp2 => ?_⟩
    have hxD2 := kp2 _ _ hxD nDs nDc
    have hxp2 := hxp.kp S1 kp2
    have kp02 : Kp sa ca H H2 := (Kp.same sm).trans kp2
    -- a part of every, by draws
    refine ⟨_, rfl, rfl, _, rfl, ?_⟩
    refine ite2 (fun h0 => ?_) (fun h0 => ?_)
    · refine ⟨_, rfl, D, rfl, ⟨xs, SqL.of hxD2⟩, fun E hE => ?_⟩
      obtain ⟨nEs, nEc⟩ := S2.ne hE
      refine lc_list (xs := xs) (fun i H' => ∃ ys, H' E = some (.lst ys) ∧ ys.length ≤ i ∧ (∀ v ∈ ys, v ∈ xs) ∧ H' D = some (.lst xs) ∧ PairsAt n H' xs ∧ Src H' sa ca ∧ Kp sa ca H2 H') ⟨[], upd_same, Nat.le_refl _, (fun v hv => by cases hv), by rw [upd_ne (ne_of_none hxD2 hE)]; exact hxD2, hxp2.same (same_new hE), S2.new hE, (Kp.refl H2).off hE⟩ (fun i H' _ ⟨ys, _, _, _, h, _⟩ => SqL.of h) ?_ ?_
      · rintro i x H3 hi ⟨ys, hyE, hyl, hyx, hxD3, hxp3, S3, kp3⟩
        have hil := (List.getElem?_eq_some_iff.mp hi).1
        refine ⟨rfl, ?_⟩
        refine ⟨_, rfl, sa, ca, 3, rfl, S3, by decide, by decide, fun kk H4 k0 k1 S4 kp4 => ⟨rfl, _, rfl, ?_⟩⟩
        have hyE4 := kp4 _ _ hyE nEs nEc
        have hxD4 := kp4 _ _ hxD3 nDs nDc
        have hxp4 := hxp3.kp S3 kp4
        refine ite2 (fun _ => ?_) (fun _ => ⟨ys, hyE4, by omega, hyx, hxD4, hxp4, S4, kp3.trans kp4⟩)
        have hDE : D ≠ E := ne_of_none hxD2 hE
        refine ⟨_, rfl, ys, hyE4, Evl.sz_lt (by omega), ys ++ [x], upd_same, by simp; omega, ?_, by rw [upd_ne hDE]; exact hxD4, ?_, S4.upd nEs nEc, (kp3.trans kp4).off hE⟩
        · intro v hv
          rcases List.mem_append.mp hv with q | q
          · exact hyx v q
          · rw [List.mem_singleton] at q
            subst q
            exact List.mem_of_getElem? hi
        · refine fun v hv => ?_
          obtain ⟨u, i', j', a, b, r⟩ := hxp4 v hv
          refine ⟨u, i', j', a, ?_, r⟩
          rw [upd_ne (ne_of b hyE4 (by intro z; cases z))]
          exact b
      · rintro H3 ⟨ys, hyE, hyl, hyx, hxD3, hxp3, S3, kp3⟩
        exact k E ys H3 (kp02.free S2 hE) hyE (hxp3.sub hyx) ⟨by omega, fun N e => by subst e; omega⟩ S3 (kp02.trans kp3)
    refine ⟨_, rfl, rfl, _, rfl, ?_⟩
    refine ite2 (fun h1 => ?_) (fun h1 => ?_)
    · refine ⟨_, rfl, D, rfl, ⟨xs, SqL.of hxD2⟩, fun E hE => ?_⟩
      obtain ⟨nEs, nEc⟩ := S2.ne hE
      refine lc_list (xs := xs) (fun i H' => ∃ ys, H' E = some (.lst ys) ∧ ys.length ≤ i ∧ (∀ v ∈ ys, v ∈ xs) ∧ H' D = some (.lst xs) ∧ PairsAt n H' xs ∧ Src H' sa ca ∧ Kp sa ca H2 H') ⟨[], upd_same, Nat.le_refl _, (fun v hv => by cases hv), by rw [upd_ne (ne_of_none hxD2 hE)]; exact hxD2, hxp2.same (same_new hE), S2.new hE, (Kp.refl H2).off hE⟩ (fun i H' _ ⟨ys, _, _, _, h, _⟩ => SqL.of h) ?_ ?_
      · rintro i x H3 hi ⟨ys, hyE, hyl, hyx, hxD3, hxp3, S3, kp3⟩
        have hil := (List.getElem?_eq_some_iff.mp hi).1
        refine ⟨rfl, ?_⟩
        refine ⟨_, rfl, sa, ca, 3, rfl, S3, by decide, by decide, fun kk H4 k0 k1 S4 kp4 => ⟨_, _, rfl, rfl, _, rfl, ?_⟩⟩
        have hyE4 := kp4 _ _ hyE nEs nEc
        have hxD4 := kp4 _ _ hxD3 nDs nDc
        have hxp4 := hxp3.kp S3 kp4
        refine ite2 (fun _ => ?_) (fun _ => ⟨ys, hyE4, by omega, hyx, hxD4, hxp4, S4, kp3.trans kp4⟩)
        have hDE : D ≠ E := ne_of_none hxD2 hE
        refine ⟨_, rfl, ys, hyE4, Evl.sz_lt (by omega), ys ++ [x], upd_same, by simp; omega, ?_, by rw [upd_ne hDE]; exact hxD4, ?_, S4.upd nEs nEc, (kp3.trans kp4).off hE⟩
        · intro v hv
          rcases List.mem_append.mp hv with q | q
          · exact hyx v q
          · rw [List.mem_singleton] at q
            subst q
            exact List.mem_of_getElem? hi
        · refine fun v hv => ?_
          obtain ⟨u, i', j', a, b, r⟩ := hxp4 v hv
          refine ⟨u, i', j', a, ?_, r⟩
          rw [upd_ne (ne_of b hyE4 (by intro z; cases z))]
          exact b
      · rintro H3 ⟨ys, hyE, hyl, hyx, hxD3, hxp3, S3, kp3⟩
        exact k E ys H3 (kp02.free S2 hE) hyE (hxp3.sub hyx) ⟨by omega, fun N e => by subst e; omega⟩ S3 (kp02.trans kp3)
    refine ⟨_, rfl, rfl, _, rfl, ?_⟩
    refine ite2 (fun h2 => ?_) (fun h2 => ?_)
    · exact ⟨_, rfl, k D xs H2 hD hxD2 hxp2 ⟨by omega, fun N e => by subst e; omega⟩ S2 kp02⟩
    -- rows
    refine ⟨_, rfl, _, _, rfl, rfl, _, rfl, by omega, by omega, fun R hR => ?_⟩
    refine lc_range (lo := 0) (n := (n - 1).toNat) (fun i H' => ∃ ys, H' R = some (.lst ys) ∧ ys.length ≤ i ∧ PairsAt n H' ys ∧ Same H2 H') ⟨[], upd_same, Nat.le_refl _, (fun v hv => by cases hv), same_new hR⟩ ?_ ?_
    · rintro i H3 hi ⟨ys, hyR, hyl, hyp, sm3⟩
      refine ⟨rfl, tyes ?_⟩
      refine ⟨_, rfl, _, rfl, _, _, rfl, rfl, (by show 2 ≤ sizeLine; decide), fun t ht => ?_⟩
      refine ⟨ys, by rw [upd_ne (ne_of_none hyR ht)]; exact hyR, Evl.sz_lt (by omega), ys ++ [.ref t], upd_same, by simp; omega, ?_, ?_⟩
      · have hDt : t ≠ R := fun e => by subst e; rw [ht] at hyR; cases hyR
        refine PairsAt.snoc (i := 0 + (i : Int)) (j := 0 + (i : Int) + 1) ?_ (by rw [upd_ne hDt, upd_same]) (by omega) (by omega) (by omega)
        refine fun v hv => ?_
        obtain ⟨u, i', j', a, b, r⟩ := hyp v hv
        refine ⟨u, i', j', a, ?_, r⟩
        rw [upd_ne (ne_of b hyR (by intro z; cases z)), upd_ne (ne_of_none b ht)]
        exact b
      · intro b o e
        have := sm3 b o e
        rw [upd_ne (ne_of_none e hR), upd_ne (ne_of_none this ht)]
        exact this
    rintro H3 ⟨ys, hyR, hyl, hyp, sm3⟩
    have hR0 : H R = none := kp02.free S2 hR
    have S3 := S2.same sm3
    have kp03 : Kp sa ca H H3 := kp02.trans (Kp.same sm3)
    refine ⟨fun σ H' => σ = [some (.ref sa), some (.int n), some (.ref D), some (.int road), some (.ref R), none, none, none] ∧ H' = H3, ?_, ?_⟩
    · refine ⟨_, rfl, rfl, _, rfl, ?_⟩
      refine ite2 (fun h3 => ?_) (fun h3 => iteF ⟨rfl, rfl⟩)
      refine ⟨_, rfl, _, _, rfl, rfl, _, rfl, ?_⟩
      refine ite2 (fun h4 => ?_) (fun h4 => ⟨rfl, rfl⟩)
      have hn2 := of_decide_eq_true h4
      refine ⟨_, rfl, _, rfl, _, _, rfl, rfl, (by show 2 ≤ sizeLine; decide), fun t ht => ?_⟩
      refine ⟨(by show 1 ≤ sizeLine; decide), fun l hl => ?_⟩
      have hlt : l ≠ t := fun e => by subst e; rw [upd_same] at hl; cases hl
      have hRt : R ≠ t := ne_of_none hyR ht
      have hl3 : H3 l = none := by rw [upd_ne hlt] at hl; exact hl
      have hRl : R ≠ l := ne_of_none hyR hl3
      refine ⟨R, l, _, _, rfl, rfl, (by rw [upd_ne hRl, upd_ne hRt]; exact hyR), upd_same, ?_, fun p hp => ?_⟩
      · show ys.length + 1 ≤ sizeLine
        exact Evl.sz_of (by omega)
      · have hpl : p ≠ l := fun e => by subst e; rw [upd_same] at hp; cases hp
        rw [upd_ne hpl] at hp
        have hpt : p ≠ t := fun e => by subst e; rw [upd_same] at hp; cases hp
        rw [upd_ne hpt] at hp
        have sm4 : Same H3 (upd (upd (upd H3 t (.tup [.int 0, .int (n - 1)])) l (.lst [.ref t])) p (.lst (ys ++ [.ref t]))) := fun b o e => by
          rw [upd_ne (ne_of_none e hp), upd_ne (ne_of_none e hl3), upd_ne (ne_of_none e ht)]
          exact e
        refine k p _ _ (kp03.free S3 hp) upd_same ?_ ⟨by simp; omega, fun N e => by subst e; simp; omega⟩ (S3.same sm4) (kp03.trans (Kp.same sm4))
        refine PairsAt.snoc (i := 0) (j := n - 1) (hyp.same sm4) (by rw [upd_ne hpt.symm, upd_ne hlt.symm, upd_same]) (by omega) (by omega) (by omega)
    rintro σ H' ⟨rfl, rfl⟩
    refine ⟨_, rfl, rfl, _, rfl, ?_⟩
    refine ite2 (fun h3 => ?_) (fun h3 => ?_)
    · refine ⟨_, rfl, _, _, rfl, by omega, fun E hE => ?_⟩
      refine lc_range (lo := 1) (n := (n - 1).toNat) (fun i H3 => ∃ zs, H3 E = some (.lst zs) ∧ zs.length ≤ i ∧ PairsAt n H3 zs ∧ Same H' H3) ⟨[], upd_same, Nat.le_refl _, (fun v hv => by cases hv), same_new hE⟩ ?_ ?_
      · rintro i H4 hi ⟨zs, hzE, hzl, hzp, sm4⟩
        refine ⟨rfl, tyes ?_⟩
        refine ⟨_, rfl, (by show 2 ≤ sizeLine; decide), fun t ht => ?_⟩
        refine ⟨zs, by rw [upd_ne (ne_of_none hzE ht)]; exact hzE, Evl.sz_lt (by omega), zs ++ [.ref t], upd_same, by simp; omega, ?_, ?_⟩
        · have hDt : t ≠ E := fun e => by subst e; rw [ht] at hzE; cases hzE
          refine PairsAt.snoc (i := 0) (j := 1 + (i : Int)) ?_ (by rw [upd_ne hDt, upd_same]) (by omega) (by omega) (by omega)
          refine fun v hv => ?_
          obtain ⟨u, i', j', a, b, r⟩ := hzp v hv
          refine ⟨u, i', j', a, ?_, r⟩
          rw [upd_ne (ne_of b hzE (by intro z; cases z)), upd_ne (ne_of_none b ht)]
          exact b
        · intro b o e
          have := sm4 b o e
          rw [upd_ne (ne_of_none e hE), upd_ne (ne_of_none this ht)]
          exact this
      · rintro H4 ⟨zs, hzE, hzl, hzp, sm4⟩
        exact k E zs H4 (kp03.free S3 hE) hzE hzp ⟨by omega, fun N e => by subst e; omega⟩ (S3.same sm4) (kp03.trans (Kp.same sm4))
    · refine ⟨_, rfl, _, rfl, rfl, .inr ⟨_, rfl, _, _, rfl, rfl, _, rfl, R, ys, rfl, ?_, rfl, SqL.of hyR, fun p hp => ?_⟩⟩
      · show (1 + (if decide (V.int road = V.int 5) = true then (1 : Int) else 0)) ≠ 0
        split <;> decide
      · have sm4 := same_new (o := .lst (stepV ys ((some (1 + (if decide (V.int road = V.int 5) = true then (1 : Int) else 0))).getD 1))) hp
        refine k p _ _ (kp03.free S3 hp) upd_same ((hyp.same sm4).sub fun v hv => stepV_mem hv) ?_ (S3.same sm4) (kp03.trans (Kp.same sm4))
        exact ⟨Nat.le_trans (stepV_len _ _) (by omega), fun N e => Nat.le_trans (stepV_len _ _) (by subst e; omega)⟩
end
end Nm
set_option maxRecDepth 100000
set_option maxHeartbeats 4000000
namespace Nm
open PySem L2
theorem nx {H : Hp} {p q : Addr} {o : HO} (h : upd H p o q = none) : q ≠ p ∧ H q = none := by
  by_cases e : q = p
  · subst e; rw [upd_same] at h; cases h
  · rw [upd_ne e] at h; exact ⟨e, h⟩
def strOf : V → Str
  | .str x => x
  | _ => ""
def intOf : V → Int
  | .int x => x
  | _ => 0
theorem perm_str {ys : List V} {xs : List Str} (h : ys.Perm (xs.map V.str)) : ∃ zs : List Str, ys = zs.map V.str ∧ zs.Perm xs := by
  refine ⟨ys.map strOf, ?_, ?_⟩
  · rw [List.map_map]
    conv => lhs; rw [← List.map_id ys]
    refine List.map_congr_left fun v hv => ?_
    obtain ⟨x, _, rfl⟩ := List.mem_map.mp (h.subset hv)
    rfl
  · have := h.map strOf
    rw [List.map_map] at this
    have e : xs.map (strOf ∘ V.str) = xs := by
      conv => rhs; rw [← List.map_id xs]
      rfl
    rw [e] at this
    exact this
theorem perm_int {ys : List V} {xs : List Int} (h : ys.Perm (xs.map V.int)) : ∃ zs : List Int, ys = zs.map V.int ∧ zs.Perm xs := by
  refine ⟨ys.map intOf, ?_, ?_⟩
  · rw [List.map_map]
    conv => lhs; rw [← List.map_id ys]
    refine List.map_congr_left fun v hv => ?_
    obtain ⟨x, _, rfl⟩ := List.mem_map.mp (h.subset hv)
    rfl
  · have := h.map intOf
    rw [List.map_map] at this
    have e : xs.map (intOf ∘ V.int) = xs := by
      conv => rhs; rw [← List.map_id xs]
      rfl
    rw [e] at this
    exact this
theorem cut_upto (xs : List V) (n : Nat) : cutV xs none (some (n : Int)) = xs.take n := by
  unfold cutV
  have e1 : HT.sIx xs.length 0 none = 0 := rfl
  have e2 : HT.sIx xs.length xs.length (some (n : Int)) = min n xs.length := by
    unfold HT.sIx
    simp
    try omega
  rw [e1, e2]
  simp
section
variable {κ : Type} [DecidableEq κ]
theorem keys_put (kvs : List (κ × V)) (k : κ) (v : V) : (putK kvs k v).map (·.1) = if k ∈ kvs.map (·.1) then kvs.map (·.1) else kvs.map (·.1) ++ [k] := by
  unfold putK
  by_cases h : (kvs.any fun kv => decide (kv.1 = k)) = true
  · have hm : k ∈ kvs.map (·.1) := by
      obtain ⟨kv, h1, h2⟩ := List.any_eq_true.mp h
      exact List.mem_map.mpr ⟨kv, h1, of_decide_eq_true h2⟩
    rw [if_pos h, if_pos hm, List.map_map]
    refine List.map_congr_left fun kv _ => ?_
    show (if kv.1 = k then (kv.1, v) else kv).1 = kv.1
    split <;> rfl
  · have hm : ¬ k ∈ kvs.map (·.1) := fun hm => by
      obtain ⟨kv, h1, h2⟩ := List.mem_map.mp hm
      exact h (List.any_eq_true.mpr ⟨kv, h1, decide_eq_true h2⟩)
    rw [if_neg h, if_neg hm, List.map_append]
    rfl
theorem val_of_mem : ∀ {kvs : List (κ × V)} {k : κ} {v : V}, (kvs.map (·.1)).Nodup → (k, v) ∈ kvs → valV kvs k = some v
  | kv :: r, k, v, nd, h => by
    rw [List.map_cons, List.nodup_cons] at nd
    rcases List.mem_cons.mp h with e | e
    · subst e
      exact valV_pos rfl
    · have hne : ¬ kv.1 = k := fun z => nd.1 (z ▸ List.mem_map.mpr ⟨(k, v), e, rfl⟩)
      rw [valV_neg hne]
      exact val_of_mem nd.2 e
theorem nodup_put {kvs : List (κ × V)} (k : κ) (v : V) (h : (kvs.map (·.1)).Nodup) : ((putK kvs k v).map (·.1)).Nodup := by
  rw [keys_put]
  split
  · exact h
  · rename_i hn
    rw [List.nodup_append]
    refine ⟨h, by simp, fun a ha b hb => ?_⟩
    rw [List.mem_singleton] at hb
    subst hb
    exact fun e => hn (e ▸ ha)
theorem mem_put {kvs : List (κ × V)} {k : κ} {v : V} {p : κ × V} (h : p ∈ putK kvs k v) : p = (k, v) ∨ (p ∈ kvs ∧ p.1 ≠ k) := by
  unfold putK at h
  by_cases h0 : (kvs.any fun kv => decide (kv.1 = k)) = true
  · rw [if_pos h0] at h
    obtain ⟨kv, h1, h2⟩ := List.mem_map.mp h
    by_cases e : kv.1 = k
    · rw [if_pos e] at h2
      left
      rw [← h2, e]
    · rw [if_neg e] at h2
      right
      subst h2
      exact ⟨h1, e⟩
  · rw [if_neg h0] at h
    rcases List.mem_append.mp h with q | q
    · right
      refine ⟨q, fun e => h0 (List.any_eq_true.mpr ⟨p, q, decide_eq_true e⟩)⟩
    · left
      exact List.mem_singleton.mp q
end
end Nm
set_option maxRecDepth 100000
set_option maxHeartbeats 4000000
namespace Nm
open PySem L2
/-! ### words, ties, worlds -/
def letB (z : Str) : Str := Txt.rstripChars z "0123456789"
def isWordB (z : Str) : Bool := decide (z.length ≤ 100) && decide (1 ≤ (letB z).length) && decide ((letB z).length ≤ 8) && decide (z.length ≤ (letB z).length + 4) && (letB z).cps.toList.all (fun c => decide (c ∈ ("abcdefghijklmnopqrstuvwxyz" : Str).cps.toList))
def TieK (n : Nat) (k : List Key) : Prop := ∃ (i j : Nat) (kd : Str), k = [Sum.inl (i : Int), Sum.inl (j : Int), Sum.inr kd] ∧ i < j ∧ j < n ∧ isWordB kd = true
structure Ties (n m : Nat) (kvs : List (List Key × V)) : Prop where
  key : ∀ kv ∈ kvs, TieK n kv.1
  val : ∀ kv ∈ kvs, ∃ x : Nat, kv.2 = V.int (x : Int) ∧ 1 ≤ x ∧ x ≤ m
  nd : (kvs.map (·.1)).Nodup
theorem Ties.nil (n m : Nat) : Ties n m [] := ⟨fun _ h => (List.not_mem_nil h).elim, fun _ h => (List.not_mem_nil h).elim, List.nodup_nil⟩
theorem Ties.put {n m : Nat} {kvs : List (List Key × V)} (h : Ties n m kvs) {k : List Key} {x : Nat} (hk : TieK n k) (h1 : 1 ≤ x) (h2 : x ≤ m) : Ties n m (putK kvs k (V.int (x : Int))) := by
  refine ⟨fun kv hm => ?_, fun kv hm => ?_, nodup_put _ _ h.nd⟩
  · rcases mem_put hm with e | e
    · rw [e]; exact hk
    · exact h.key kv e.1
  · rcases mem_put hm with e | e
    · rw [e]; exact ⟨x, rfl, h1, h2⟩
    · exact h.val kv e.1
/-- all but the source and one thing more stays -/
def Kp3 (s c t : Addr) (H H' : Hp) : Prop := ∀ b o, H b = some o → b ≠ s → b ≠ c → b ≠ t → H' b = some o
theorem Kp3.refl {s c t : Addr} (H : Hp) : Kp3 s c t H H := fun _ _ h _ _ _ => h
theorem Kp3.kp {s c t : Addr} {H H1 H2 : Hp} (a : Kp3 s c t H H1) (b : Kp s c H1 H2) : Kp3 s c t H H2 := fun x o h h1 h2 h3 => b x o (a x o h h1 h2 h3) h1 h2
theorem Kp3.off {s c t : Addr} {H H1 : Hp} {p : Addr} {o : HO} (a : Kp3 s c t H H1) (h : H1 p = none) : Kp3 s c t H (upd H1 p o) := fun x u e h1 h2 h3 => by
  have := a x u e h1 h2 h3
  rw [upd_ne (ne_of_none this h)]
  exact this
theorem Kp3.put {s c t : Addr} {H H1 : Hp} {o : HO} (a : Kp3 s c t H H1) : Kp3 s c t H (upd H1 t o) := fun x u e h1 h2 h3 => by
  rw [upd_ne h3]
  exact a x u e h1 h2 h3
theorem PairsAt.put {n : Int} {H : Hp} {xs : List V} {t : Addr} {o u : HO} (h : PairsAt n H xs) (e : H t = some u) (hu : ∀ ys, u ≠ .tup ys) : PairsAt n (upd H t o) xs := fun v hv => by
  obtain ⟨q, i, j, a, b, r⟩ := h v hv
  refine ⟨q, i, j, a, ?_, r⟩
  rw [upd_ne (ne_of b e (fun z => hu _ z.symm))]
  exact b
/-- a list of one to three words, new since H -/
def WordL (H0 H : Hp) (v : V) : Prop := ∃ e es, v = V.ref e ∧ H0 e = none ∧ H e = some (.lst (List.map V.str es)) ∧ 1 ≤ es.length ∧ es.length ≤ 3 ∧ ∀ x ∈ es, isWordB x = true
theorem WordL.kp {H0 H H' : Hp} {s c : Addr} {v : V} (S : Src H0 s c) (h : WordL H0 H v) (k : Kp s c H H') : WordL H0 H' v := by
  obtain ⟨e, es, a, b, d, r⟩ := h
  obtain ⟨n1, n2⟩ := S.ne b
  exact ⟨e, es, a, b, k _ _ d n1 n2, r⟩
theorem WordL.same {H0 H H' : Hp} {v : V} (h : WordL H0 H v) (k : Same H H') : WordL H0 H' v := by
  obtain ⟨e, es, a, b, d, r⟩ := h
  exact ⟨e, es, a, b, k _ _ d, r⟩
theorem WordL.mk {H0 H : Hp} {l : Addr} (es : List Str) (h0 : Same H0 H) (h : H l = none) (h1 : (decide (1 ≤ es.length) && decide (es.length ≤ 3) && es.all isWordB) = true) : WordL H0 (upd H l (.lst (es.map V.str))) (.ref l) := by
  simp only [Bool.and_eq_true, decide_eq_true_eq, List.all_eq_true] at h1
  exact ⟨l, es, rfl, h0.free h, upd_same, h1.1.1, h1.1.2, h1.2⟩
def seven : List Str := ["a", "b", "c", "d", "e", "p0", "north"]
theorem seven_nd : seven.Nodup := by decide +kernel
theorem seven_w : ∀ x ∈ seven, isWordB x = true := by decide +kernel
def worldD (a b t : Addr) : List (Key × V) := [(Sum.inr "names", V.ref a), (Sum.inr "colours", V.ref b), (Sum.inr "ties", V.ref t)]
structure WorldOk (H : Hp) (s c wd a b t : Addr) (nm cl : List Str) (kvs : List (List Key × V)) : Prop where
  d : H wd = some (.dK (worldD a b t))
  hn : H a = some (.lst (nm.map V.str))
  hc : H b = some (.lst (cl.map V.str))
  ht : H t = some (.dT kvs)
  ds : wd ≠ s ∧ wd ≠ c
  as : a ≠ s ∧ a ≠ c
  bs : b ≠ s ∧ b ≠ c
  ts : t ≠ s ∧ t ≠ c
  nn : nm.Nodup
  nw : ∀ x ∈ nm, isWordB x = true
  cw : ∀ x ∈ cl, isWordB x = true
  cn : cl.length = nm.length
  n1 : 1 ≤ nm.length
theorem WorldOk.kp {H H' : Hp} {s c wd a b t : Addr} {nm cl : List Str} {kvs : List (List Key × V)} (W : WorldOk H s c wd a b t nm cl kvs) (e : Kp s c H H') : WorldOk H' s c wd a b t nm cl kvs :=
  ⟨e _ _ W.d W.ds.1 W.ds.2, e _ _ W.hn W.as.1 W.as.2, e _ _ W.hc W.bs.1 W.bs.2, e _ _ W.ht W.ts.1 W.ts.2, W.ds, W.as, W.bs, W.ts, W.nn, W.nw, W.cw, W.cn, W.n1⟩
theorem WorldOk.same {H H' : Hp} {s c wd a b t : Addr} {nm cl : List Str} {kvs : List (List Key × V)} (W : WorldOk H s c wd a b t nm cl kvs) (e : Same H H') : WorldOk H' s c wd a b t nm cl kvs := W.kp (Kp.same e)
theorem w1 : ¬ (("names" : Str) = "colours") := by decide +kernel
theorem w2 : ¬ (("names" : Str) = "ties") := by decide +kernel
theorem w3 : ¬ (("colours" : Str) = "ties") := by decide +kernel
section
variable {a b t : Addr}
theorem wd_names : valV (worldD a b t) (Sum.inr "names" : Key) = some (.ref a) := valV_pos rfl
theorem wd_colours : valV (worldD a b t) (Sum.inr "colours" : Key) = some (.ref b) := by
  unfold worldD
  rw [valV_neg (inr_ne w1)]
  exact valV_pos rfl
theorem wd_ties : valV (worldD a b t) (Sum.inr "ties" : Key) = some (.ref t) := by
  unfold worldD
  rw [valV_neg (inr_ne w2), valV_neg (inr_ne w3)]
  exact valV_pos rfl
theorem merge_wd : mergeK [] (worldD a b t) = worldD a b t := by
  unfold mergeK worldD
  simp [putK, w1, w2, w3]
theorem dg_names {H : Hp} {wd : Addr} (h : H wd = some (.dK (worldD a b t))) : DGet H wd (V.str "names") (some (.ref a)) := by rw [← wd_names (a := a) (b := b) (t := t)]; exact DGet.k (k := Sum.inr "names") h
theorem dg_colours {H : Hp} {wd : Addr} (h : H wd = some (.dK (worldD a b t))) : DGet H wd (V.str "colours") (some (.ref b)) := by rw [← wd_colours (a := a) (b := b) (t := t)]; exact DGet.k (k := Sum.inr "colours") h
theorem dg_ties {H : Hp} {wd : Addr} (h : H wd = some (.dK (worldD a b t))) : DGet H wd (V.str "ties") (some (.ref t)) := by rw [← wd_ties (a := a) (b := b) (t := t)]; exact DGet.k (k := Sum.inr "ties") h
end
section
variable {P : Program} {w : World} {K : PySem.W.Frag} {mg : Str → Option Value} {base : Heap}
/-! ### _law_draw_world -/
def spDraw : Sp := fun vs H Q _ => ∃ (s c : Addr) (m : Int), vs = [.ref s, .int m] ∧ Src H s c ∧ 1 ≤ m ∧ m ≤ 7 ∧
  ∀ (wd a b t : Addr) (nm cl : List Str) (kvs : List (List Key × V)) (H' : Hp), H wd = none → H a = none → H b = none → H t = none → WorldOk H' s c wd a b t nm cl kvs → (nm.length : Int) ≤ m → Ties nm.length 2 kvs → (kvs.length ≤ 300 ∧ kvs.length ≤ 3 * (nm.length * nm.length + nm.length)) → Src H' s c → Kp s c H H' → Q (.ref wd) H'
abbrev nDraw : List Str := ["_law_source", "_law_most", "_law_count", "_law_names", "_law_every", "_law_kinds", "_law_ties", "_law_wide", "_law_kind", "_law_one", "_law_other", "_law_name"]
theorem scDraw : FnScope nDraw ["_law_source", "_law_most"] (defScope sDrawWorld) := ⟨rfl, rfl, rfl, by decide +kernel, rfl, by decide +kernel, by decide +kernel⟩
theorem ok_draw {f : Addr} {fd : FuncData} (F : Fun K "_law_draw_world" "_law_draw_world" sDrawWorld f fd) (T : TxtB mg) (Gp : Def P w K mg base "_law_pick" ["_law_source", "_law_many"] 1 spPick)
    (Ga : Def P w K mg base "_law_any_order" ["_law_source", "_law_items"] 2 (spAny K)) (Gs : Def P w K mg base "_law_shape_pairs" ["_law_source", "_law_count"] 2 spShape) (Gc : Def P w K mg base "_law_choice_of" ["_law_source", "_law_items"] 2 (spChoice K)) :
    FnOk P w K mg base CX0 3 f fd ["_law_source", "_law_most"] spDraw := by
  obtain ⟨fp, fdp, Gp, mp, kp, bp⟩ := Gp.ex
  obtain ⟨fa, fda, Ga, ma, ka, ba⟩ := Ga.ex
  obtain ⟨fs, fds, Gs, ms, ks, bs⟩ := Gs.ex
  obtain ⟨fc, fdc, Gc, mc, kc, bc⟩ := Gc.ex
  refine F.ok scDraw (fun vs H Q E h => ?_) (fun cdv A outer s H vs Q E hr h => ?_)
  · obtain ⟨p, dx, n, rfl, _⟩ := h
    rfl
  · obtain ⟨sa, ca, m, rfl, S, n1, n2, k⟩ := h
    have hu := hu_of hr
    have hr1 := hr.mono (by decide : 1 ≤ 2)
    refine ⟨_, Evl.pss_cut (ps_set (i := 2) scDraw.nd rfl (Or.inl rfl) (pe_op op_add pe_int (pe_call Gp hr1 (by rfl) mp kp bp .nil pass0 (pa_cons (pv 0) (pa_cons (pv 1) pa_nil)))))
      (Evl.pss_cut (ps_set (i := 3) scDraw.nd rfl (Or.inl rfl) (pe_slice sl_list (pe_call Ga hr (by rfl) ma ka ba .nil pass0 (pa_cons (pv 0) (pa_cons (pe_lst (pa_cons pe_str (pa_cons pe_str (pa_cons pe_str (pa_cons pe_str (pa_cons pe_str (pa_cons pe_str (pa_cons pe_str pa_nil)))))))) pa_nil))) po_none (po_some (pv 2))))
      (Evl.pss_cut (ps_set (i := 4) scDraw.nd rfl (Or.inr rfl) (pe_ix ix_list (pe_lst (pa_cons (pe_lst (pa_cons pe_str pa_nil)) (pa_cons (pe_lst (pa_cons pe_str pa_nil)) (pa_cons (pe_lst (pa_cons pe_str (pa_cons pe_str pa_nil))) (pa_cons (pe_lst (pa_cons pe_str (pa_cons pe_str (pa_cons pe_str pa_nil)))) (pa_cons (pe_lst (pa_cons pe_str (pa_cons pe_str pa_nil))) pa_nil)))))) (pe_call Gp hr1 (by rfl) mp kp bp .nil pass0 (pa_cons (pv 0) (pa_cons pe_int pa_nil))) (fun _ _ => rfl)))
      (Evl.pss_cut (ps_set (i := 5) scDraw.nd rfl (Or.inl rfl) (pe_ix ix_list (pe_lst (pa_cons (pe_lst (pa_cons pe_str pa_nil)) (pa_cons (pe_lst (pa_cons pe_str pa_nil)) (pa_cons (pe_lst (pa_cons pe_str (pa_cons pe_str pa_nil))) (pa_cons (pe_lst (pa_cons pe_str (pa_cons pe_str pa_nil))) pa_nil))))) (pe_call Gp hr1 (by rfl) mp kp bp .nil pass0 (pa_cons (pv 0) (pa_cons pe_int pa_nil))) (fun _ _ => rfl)))
      (Evl.pss_cut (ps_par (i := 6) (j := 7) (by rfl) scDraw.nd rfl rfl (by decide) rfl rfl (pa_cons pe_dnewT (pa_cons (pe_call Gp hr1 (by rfl) mp kp bp .nil pass0 (pa_cons (pv 0) (pa_cons pe_int pa_nil))) pa_nil)) (by rfl))
      (Evl.pss_cut (ps_for PassesOwn.never rfl (pi_list (pv 5)) (pg_name (i := 8) scDraw.nd rfl (Or.inl rfl))
        (pss_one (ps_for PassesOwn.never rfl (pi_list (pe_call Gs hr (by rfl) ms ks bs .nil pass0 (pa_cons (pv 0) (pa_cons (pv 2) pa_nil)))) (pg_tup rfl (pgs_cons (pg_name (i := 9) scDraw.nd rfl (.inl rfl)) (pgs_cons (pg_name (i := 10) scDraw.nd rfl (.inl rfl)) pgs_nil)))
          (pss_one (ps_dput hu (pv 6) (pe_tup (pa_cons (pv 9) (pa_cons (pv 10) (pa_cons (pv 8) pa_nil)))) (pe_ix ix_list (pe_lst (pa_cons pe_int (pa_cons pe_int (pa_cons (pe_op op_add pe_int (pe_call Gp hr1 (by rfl) mp kp bp .nil pass0 (pa_cons (pv 0) (pa_cons pe_int pa_nil)))) pa_nil)))) (pv 7) (fun _ _ => rfl)) rfl)))))
      (pss_one (ps_ret (pe_disp (pps_cons pe_str (pv 3) (pps_cons pe_str (pe_lc (own := [("_law_name", 11)]) (g := gName 11) (tt := tYes) (te := tCall (spChoice K) [] E0 (tCons (tVar 0) (tCons (tVar 4) tNil))) rfl scDraw.nd (pi_list (pv 3))
          (blkOk_by (N := nDraw) (sc := defScope sDrawWorld) (by decide +kernel)) (fun _ _ _ _ _ => pg_name (i := 11) scDraw.nd rfl (Or.inl rfl)) (fun _ _ _ _ _ => pts_nil)
          (fun _ _ _ _ _ => by exact pe_call Gc hr (by rfl) mc kc bc .nil pass0 (pa_cons (pv 0) (pa_cons (pv 4) pa_nil))))
          (pps_cons pe_str (pv 6) pps_nil))) (by rfl) (by rfl) (fun z => by cases z) (by decide))))))))), ?_⟩
    -- count
    refine ⟨fun σ H1 => ∃ n : Nat, σ = [some (.ref sa), some (.int m), some (.int (n : Int)), none, none, none, none, none, none, none, none, none] ∧ 1 ≤ n ∧ (n : Int) ≤ m ∧ Src H1 sa ca ∧ Kp sa ca H H1, ?_, ?_⟩
    · refine ⟨_, rfl, _, rfl, sa, ca, m, rfl, S, n1, by omega, fun kk H1 k0 k1 S1 kp1 => ⟨_, _, rfl, rfl, ?_⟩⟩
      refine ⟨(1 + kk).toNat, ?_, by omega, by omega, S1, kp1⟩
      rw [Int.toNat_of_nonneg (by omega)]
      rfl
    rintro σ H1 ⟨n, rfl, hn1, hn7, S1, kp1⟩
    -- names
    refine ⟨fun σ H3 => ∃ q nm, σ = [some (.ref sa), some (.int m), some (.int (n : Int)), some (.ref q), none, none, none, none, none, none, none, none] ∧ H q = none ∧ H3 q = some (.lst (List.map V.str nm)) ∧ nm.length = n ∧ nm.Nodup ∧ (∀ x ∈ nm, isWordB x = true) ∧ Src H3 sa ca ∧ Kp sa ca H H3, ?_, ?_⟩
    · refine ⟨_, rfl, (by show 7 ≤ sizeLine; decide), fun l hl => ?_⟩
      refine ⟨sa, ca, l, _, rfl, S1.new hl, SqL.of upd_same, (by show 7 ≤ 10000; decide), fun p ys H2 hp pm hpl S2 kp2 => ?_⟩
      refine ⟨_, rfl, _, rfl, p, ys, rfl, SqL.of hpl, fun q hq => ?_⟩
      obtain ⟨zs, rfl, pz⟩ := perm_str (xs := seven) pm
      have hzl : zs.length = 7 := pz.length_eq
      have kp02 : Kp sa ca H H2 := kp1.trans ((Kp.same (same_new hl)).trans kp2)
      have hq0 : H q = none := kp02.free S2 hq
      refine ⟨q, zs.take n, rfl, hq0, by rw [upd_same, cut_upto, ← List.map_take], by rw [List.length_take]; omega, ((List.take_sublist n zs).nodup (pz.nodup_iff.mpr seven_nd)), fun x hx => seven_w x (pz.subset ((List.take_sublist n zs).subset hx)), S2.new hq, kp02.off hq0⟩
    rintro σ H3 ⟨q, nm, rfl, hq0, hq, hlen, hnd, hwd, S3, kp3⟩
    -- every
    refine ⟨fun σ H4 => ∃ v, σ = [some (.ref sa), some (.int m), some (.int (n : Int)), some (.ref q), some v, none, none, none, none, none, none, none] ∧ WordL H3 H4 v ∧ Src H4 sa ca ∧ Kp sa ca H3 H4, ?_, ?_⟩
    · refine ⟨(by show 1 ≤ sizeLine; decide), fun l1 h1 => ⟨(by show 1 ≤ sizeLine; decide), fun l2 h2 => ⟨(by show 2 ≤ sizeLine; decide), fun l3 h3 => ⟨(by show 3 ≤ sizeLine; decide), fun l4 h4 => ⟨(by show 2 ≤ sizeLine; decide), fun l5 h5 => ⟨(by show 5 ≤ sizeLine; decide), fun l6 h6 => ?_⟩⟩⟩⟩⟩⟩
      have s1 := same_new (o := .lst ((["o"] : List Str).map V.str)) h1
      have s2 := s1.trans (same_new (o := .lst ((["o"] : List Str).map V.str)) h2)
      have s3 := s2.trans (same_new (o := .lst ((["red", "blue"] : List Str).map V.str)) h3)
      have s4 := s3.trans (same_new (o := .lst ((["x", "y", "z"] : List Str).map V.str)) h4)
      have s5 := s4.trans (same_new (o := .lst ((["m10", "m2"] : List Str).map V.str)) h5)
      have s6 := same_new (o := .lst [.ref l1, .ref l2, .ref l3, .ref l4, .ref l5]) h6
      have a5 := (WordL.mk ["m10", "m2"] s4 h5 (by decide +kernel)).same s6
      have a4 := ((WordL.mk ["x", "y", "z"] s3 h4 (by decide +kernel)).same (same_new h5)).same s6
      have a3 := (((WordL.mk ["red", "blue"] s2 h3 (by decide +kernel)).same (same_new h4)).same (same_new h5)).same s6
      have a2 := ((((WordL.mk ["o"] s1 h2 (by decide +kernel)).same (same_new h3)).same (same_new h4)).same (same_new h5)).same s6
      have a1 := (((((WordL.mk ["o"] (Same.refl H3) h1 (by decide +kernel)).same (same_new h2)).same (same_new h3)).same (same_new h4)).same (same_new h5)).same s6
      have all : ∀ v ∈ [V.ref l1, V.ref l2, V.ref l3, V.ref l4, V.ref l5], WordL H3 _ v := fun v hv => by
        rcases List.mem_cons.mp hv with rfl | hv
        · exact a1
        rcases List.mem_cons.mp hv with rfl | hv
        · exact a2
        rcases List.mem_cons.mp hv with rfl | hv
        · exact a3
        rcases List.mem_cons.mp hv with rfl | hv
        · exact a4
        rcases List.mem_cons.mp hv with rfl | hv
        · exact a5
        cases hv
      have s06 := s5.trans s6
      refine ⟨_, rfl, sa, ca, 5, rfl, S3.same s06, by decide, by decide, fun kk H4 k0 k1 S4 kp4 => ?_⟩
      obtain ⟨n6s, n6c⟩ := S3.ne (s5.free h6)
      have hl6 := kp4 _ _ upd_same n6s n6c
      obtain ⟨v, hv⟩ : ∃ v, [V.ref l1, V.ref l2, V.ref l3, V.ref l4, V.ref l5][kk.toNat]? = some v := ⟨_, List.getElem?_eq_getElem (by show kk.toNat < 5; omega)⟩
      refine ⟨l6, _, kk, v, rfl, rfl, SqL.of hl6, ?_, v, rfl, (all v (List.mem_of_getElem? hv)).kp S3 kp4, S4, (Kp.same s06).trans kp4⟩
      have := atI_nat hv
      rw [Int.toNat_of_nonneg k0] at this
      exact this
    rintro σ H4 ⟨ev, rfl, hev, S4, kp4⟩
    -- kinds
    refine ⟨fun σ H5 => ∃ v, σ = [some (.ref sa), some (.int m), some (.int (n : Int)), some (.ref q), some ev, some v, none, none, none, none, none, none] ∧ WordL H4 H5 v ∧ Src H5 sa ca ∧ Kp sa ca H4 H5, ?_, ?_⟩
    · refine ⟨(by show 1 ≤ sizeLine; decide), fun l1 h1 => ⟨(by show 1 ≤ sizeLine; decide), fun l2 h2 => ⟨(by show 2 ≤ sizeLine; decide), fun l3 h3 => ⟨(by show 2 ≤ sizeLine; decide), fun l4 h4 => ⟨(by show 4 ≤ sizeLine; decide), fun l6 h6 => ?_⟩⟩⟩⟩⟩
      have s1 := same_new (o := .lst ((["c"] : List Str).map V.str)) h1
      have s2 := s1.trans (same_new (o := .lst ((["c"] : List Str).map V.str)) h2)
      have s3 := s2.trans (same_new (o := .lst ((["k", "c"] : List Str).map V.str)) h3)
      have s4 := s3.trans (same_new (o := .lst ((["k2", "k10"] : List Str).map V.str)) h4)
      have s6 := same_new (o := .lst [.ref l1, .ref l2, .ref l3, .ref l4]) h6
      have a4 := (WordL.mk ["k2", "k10"] s3 h4 (by decide +kernel)).same s6
      have a3 := ((WordL.mk ["k", "c"] s2 h3 (by decide +kernel)).same (same_new h4)).same s6
      have a2 := (((WordL.mk ["c"] s1 h2 (by decide +kernel)).same (same_new h3)).same (same_new h4)).same s6
      have a1 := ((((WordL.mk ["c"] (Same.refl H4) h1 (by decide +kernel)).same (same_new h2)).same (same_new h3)).same (same_new h4)).same s6
      have all : ∀ v ∈ [V.ref l1, V.ref l2, V.ref l3, V.ref l4], WordL H4 _ v := fun v hv => by
        rcases List.mem_cons.mp hv with rfl | hv
        · exact a1
        rcases List.mem_cons.mp hv with rfl | hv
        · exact a2
        rcases List.mem_cons.mp hv with rfl | hv
        · exact a3
        rcases List.mem_cons.mp hv with rfl | hv
        · exact a4
        cases hv
      have s06 := s4.trans s6
      refine ⟨_, rfl, sa, ca, 4, rfl, S4.same s06, by decide, by decide, fun kk H5 k0 k1 S5 kp5 => ?_⟩
      obtain ⟨n6s, n6c⟩ := S4.ne (s4.free h6)
      have hl6 := kp5 _ _ upd_same n6s n6c
      obtain ⟨v, hv⟩ : ∃ v, [V.ref l1, V.ref l2, V.ref l3, V.ref l4][kk.toNat]? = some v := ⟨_, List.getElem?_eq_getElem (by show kk.toNat < 4; omega)⟩
      refine ⟨l6, _, kk, v, rfl, rfl, SqL.of hl6, ?_, v, rfl, (all v (List.mem_of_getElem? hv)).kp S4 kp5, S5, (Kp.same s06).trans kp5⟩
      have := atI_nat hv
      rw [Int.toNat_of_nonneg k0] at this
      exact this
    rintro σ H5 ⟨kv, rfl, hkv, S5, kp5⟩
    have hev5 := hev.kp S3 kp5
    obtain ⟨ea, es, rfl, ea0, hea, e1, e2, ew⟩ := hev5
    obtain ⟨ka', ks', rfl, ka0, hka, kk1, kk2, kw⟩ := hkv
    have kp05 : Kp sa ca H H5 := (kp3.trans kp4).trans kp5
    obtain ⟨nqs, nqc⟩ := S.ne hq0
    have hq5 : H5 q = some (.lst (List.map V.str nm)) := kp5 _ _ (kp4 _ _ hq nqs nqc) nqs nqc
    obtain ⟨nes, nec⟩ := S3.ne ea0
    obtain ⟨nks, nkc⟩ := S4.ne ka0
    -- ties, wide
    refine ⟨fun σ H6 => ∃ t wi, σ = [some (.ref sa), some (.int m), some (.int (n : Int)), some (.ref q), some (.ref ea), some (.ref ka'), some (.ref t), some (.int wi), none, none, none, none] ∧ H5 t = none ∧ 0 ≤ wi ∧ wi < 3 ∧ H6 t = some (.dT []) ∧ Src H6 sa ca ∧ Kp sa ca H5 H6, ?_, ?_⟩
    · intro t ht
      obtain ⟨nts, ntc⟩ := S5.ne ht
      refine ⟨_, rfl, sa, ca, 3, rfl, S5.new ht, by decide, by decide, fun kk H6 k0 k1 S6 kp6 => ?_⟩
      exact ⟨_, _, rfl, t, kk, rfl, ht, k0, k1, kp6 _ _ upd_same nts ntc, S6, (Kp.same (same_new ht)).trans kp6⟩
    rintro σ H6 ⟨t, wi, rfl, ht0, wi0, wi1, ht, S6, kp6⟩
    obtain ⟨nts, ntc⟩ := S5.ne ht0
    have nkt : ka' ≠ t := ne_of_none hka ht0
    have net : ea ≠ t := ne_of_none hea ht0
    have nqt : q ≠ t := ne_of_none hq5 ht0
    refine ⟨fun σ H7 => ∃ vk v9 v10 kvs, σ = [some (.ref sa), some (.int m), some (.int (n : Int)), some (.ref q), some (.ref ea), some (.ref ka'), some (.ref t), some (.int wi), vk, v9, v10, none] ∧ H7 t = some (.dT kvs) ∧ Ties n 2 kvs ∧ (kvs.length ≤ 300 ∧ kvs.length ≤ 3 * (n * n + n)) ∧ Src H7 sa ca ∧ Kp3 sa ca t H6 H7, ?_, ?_⟩
    · refine ⟨_, rfl, ka', rfl, ⟨_, SqL.of (kp6 _ _ hka nks nkc)⟩, ?_⟩
      refine for_list (xs := ks'.map V.str) (fun i σ H7 => ∃ vk v9 v10 kvs, σ = [some (.ref sa), some (.int m), some (.int (n : Int)), some (.ref q), some (.ref ea), some (.ref ka'), some (.ref t), some (.int wi), vk, v9, v10, none] ∧ H7 t = some (.dT kvs) ∧ Ties n 2 kvs ∧ (kvs.length ≤ 100 * i ∧ kvs.length ≤ (n * n + n) * i) ∧ Src H7 sa ca ∧ Kp3 sa ca t H6 H7)
        ⟨none, none, none, [], rfl, ht, Ties.nil n 2, ⟨by simp, by simp⟩, S6, Kp3.refl H6⟩ (fun i σ H7 _ ⟨_, _, _, _, _, _, _, _, _, kp7⟩ => SqL.of (kp7 _ _ (kp6 _ _ hka nks nkc) nks nkc nkt)) ?_ ?_
      · rintro i x σ H7 hi ⟨vk, v9, v10, kvs, rfl, ht7, ti7, ⟨hl7, hl7b⟩, S7, kp7⟩
        have hil := (List.getElem?_eq_some_iff.mp hi).1
        rw [List.length_map] at hil
        rw [List.getElem?_map] at hi
        obtain ⟨kd, hkd, rfl⟩ := Option.map_eq_some_iff.mp hi
        have kdw := kw kd (List.mem_of_getElem? hkd)
        refine ⟨_, rfl, _, rfl, sa, ca, n, rfl, S7, by omega, by omega, fun p xs H8 hp hpl hpr hxl2 S8 kp8 => ?_⟩
        have hxl := hxl2.1
        have hxB := hxl2.2 n rfl
        have ht8 := kp8 _ _ ht7 nts ntc
        have npt : p ≠ t := fun e => by subst e; rw [hp] at ht7; cases ht7
        obtain ⟨nps, npc⟩ := S7.ne hp
        refine ⟨p, rfl, ⟨_, SqL.of hpl⟩, ?_⟩
        refine for_list (xs := xs) (fun j σ H9 => ∃ v9 v10 kvs', σ = [some (.ref sa), some (.int m), some (.int (n : Int)), some (.ref q), some (.ref ea), some (.ref ka'), some (.ref t), some (.int wi), some (.str kd), v9, v10, none] ∧ H9 t = some (.dT kvs') ∧ Ties n 2 kvs' ∧ kvs'.length ≤ kvs.length + j ∧ H9 p = some (.lst xs) ∧ PairsAt n H9 xs ∧ Src H9 sa ca ∧ Kp3 sa ca t H6 H9)
          ⟨v9, v10, kvs, rfl, ht8, ti7, by omega, hpl, hpr, S8, kp7.kp kp8⟩ (fun j σ H9 _ ⟨_, _, _, _, _, _, _, h, _⟩ => SqL.of h) ?_ ?_
        · rintro j x σ H9 hj ⟨v9, v10, kvs', rfl, ht9, ti9, hl9, hp9, hpr9, S9, kp9⟩
          have hjl := (List.getElem?_eq_some_iff.mp hj).1
          obtain ⟨tt, i1, j1, rfl, htt, hi0, hij, hjn⟩ := hpr9 x (List.mem_of_getElem? hj)
          refine ⟨tt, _, rfl, SqT.of htt, rfl, _, _, rfl, _, _, rfl, rfl, ?_⟩
          refine ⟨_, rfl, sa, ca, 2, rfl, S9, by decide, by decide, fun kk H10 k0 k1 S10 kp10 => ⟨_, _, rfl, rfl, (by show 3 ≤ sizeLine; decide), fun l hl => ?_⟩⟩
          have ht10 := kp10 _ _ ht9 nts ntc
          have hp10 := kp10 _ _ hp9 nps npc
          have hpr10 := hpr9.kp S9 kp10
          obtain ⟨x, hx, hx1, hx2⟩ : ∃ x : Nat, atI [V.int 1, V.int 2, V.int (1 + kk)] wi = some (V.int (x : Int)) ∧ 1 ≤ x ∧ x ≤ 2 := by
            have hw : wi = 0 ∨ wi = 1 ∨ wi = 2 := by omega
            rcases hw with rfl | rfl | rfl
            · exact ⟨1, atI_nat (j := 0) rfl, by decide, by decide⟩
            · exact ⟨2, atI_nat (j := 1) rfl, by decide, by decide⟩
            · refine ⟨(1 + kk).toNat, ?_, by omega, by omega⟩
              rw [Int.toNat_of_nonneg (by omega)]
              exact atI_nat (j := 2) rfl
          refine ⟨_, rfl, l, _, wi, _, rfl, rfl, SqL.of upd_same, hx, ?_⟩
          have ht11 : (upd H10 l (.lst [V.int 1, V.int 2, V.int (1 + kk)])) t = some (.dT kvs') := by rw [upd_ne (ne_of_none ht10 hl)]; exact ht10
          refine ⟨_, rfl, _, rfl, _, rfl, _, rfl, (by show 3 ≤ sizeLine; decide), fun u hu => ?_⟩
          have ht12 : (upd (upd H10 l (.lst [V.int 1, V.int 2, V.int (1 + kk)])) u (.tup [.int i1, .int j1, .str kd])) t = some (.dT kvs') := by rw [upd_ne (ne_of_none ht11 hu)]; exact ht11
          have sm12 : Same H10 (upd (upd H10 l (.lst [V.int 1, V.int 2, V.int (1 + kk)])) u (.tup [.int i1, .int j1, .str kd])) := (same_new hl).trans (same_new hu)
          refine ⟨t, _, rfl, DPut.t (k := [Sum.inl i1, Sum.inl j1, Sum.inr kd]) ht12 upd_same (Evl.sz_lt (by omega)), ?_⟩
          refine ⟨some (.int i1), some (.int j1), _, rfl, upd_same, ti9.put ⟨i1.toNat, j1.toNat, kd, by rw [Int.toNat_of_nonneg hi0, Int.toNat_of_nonneg (by omega)], by omega, by omega, kdw⟩ hx1 hx2, by have := length_putK kvs' [Sum.inl i1, Sum.inl j1, Sum.inr kd] (V.int (x : Int)); omega, ?_, ?_, (S10.same sm12).upd nts.symm.symm ntc, ((kp9.kp kp10).kp (Kp.same sm12)).put⟩
          · rw [upd_ne npt]
            exact sm12 _ _ hp10
          · exact (hpr10.same sm12).put ht12 (by intro ys z; cases z)
        · rintro σ H9 ⟨v9, v10, kvs', rfl, ht9, ti9, hl9, hp9, hpr9, S9, kp9⟩
          exact ⟨some (.str kd), v9, v10, kvs', rfl, ht9, ti9, ⟨by omega, by rw [Nat.mul_succ]; omega⟩, S9, kp9⟩
      · rintro σ H7 ⟨vk, v9, v10, kvs, rfl, ht7, ti7, hl7, S7, kp7⟩
        rw [List.length_map] at hl7
        exact ⟨vk, v9, v10, kvs, rfl, ht7, ti7, ⟨by omega, by have := Nat.mul_le_mul_left (n * n + n) (show ks'.length ≤ 3 by omega); omega⟩, S7, kp7⟩
    rintro σ H7 ⟨vk, v9, v10, kvs, rfl, ht7, ti7, hl7, S7, kp7⟩
    have hq7 := kp7 _ _ (kp6 _ _ hq5 nqs nqc) nqs nqc nqt
    have hea7 := kp7 _ _ (kp6 _ _ hea nes nec) nes nec net
    have kp07 : Kp sa ca H H7 := fun b o e h1 h2 => kp7 b o (kp6 b o (kp05 b o e h1 h2) h1 h2) h1 h2 (ne_of_none (kp05 b o e h1 h2) ht0)
    have ht00 : H t = none := kp05.free S5 ht0
    intro p hp
    have hp0 : H p = none := kp07.free S7 hp
    obtain ⟨nps, npc⟩ := S7.ne hp
    have npq : p ≠ q := fun e => by subst e; rw [hq7] at hp; cases hp
    have npe : p ≠ ea := fun e => by subst e; rw [hea7] at hp; cases hp
    have npt : p ≠ t := fun e => by subst e; rw [ht7] at hp; cases hp
    have sp := same_new (o := .dK []) hp
    refine ⟨_, rfl, _, rfl, q, rfl, ⟨_, SqL.of (sp _ _ hq7)⟩, fun D hD => ?_⟩
    obtain ⟨nDp, hD7⟩ := nx hD
    have hD0 : H D = none := kp07.free S7 hD7
    obtain ⟨nDs, nDc⟩ := S7.ne hD7
    have sD := same_new (o := .lst []) hD
    have sDp := sp.trans sD
    refine lc_list (xs := nm.map V.str) (fun i H8 => ∃ cl, H8 D = some (.lst (List.map V.str cl)) ∧ cl.length = i ∧ (∀ x ∈ cl, isWordB x = true) ∧ H8 p = some (.dK []) ∧ Src H8 sa ca ∧ Kp sa ca H7 H8)
      ⟨[], upd_same, rfl, (fun x hx => (List.not_mem_nil hx).elim), sD _ _ upd_same, S7.same sDp, Kp.same sDp⟩ (fun i H8 _ ⟨_, _, _, _, _, _, k8⟩ => SqL.of (k8 _ _ hq7 nqs nqc)) ?_ ?_
    · rintro i x H8 hi ⟨cl, hcD, hcl, hcw, hp8, S8, kp8⟩
      have hil := (List.getElem?_eq_some_iff.mp hi).1
      rw [List.length_map] at hil
      refine ⟨rfl, tyes ?_⟩
      refine ⟨_, rfl, _, rfl, sa, ca, ea, _, rfl, S8, nes, nec, SqL.of (kp8 _ _ hea7 nes nec), by rw [List.length_map]; exact e1, by rw [List.length_map]; omega, fun v H9 hv S9 kp9 => ?_⟩
      obtain ⟨x, hx, rfl⟩ := List.mem_map.mp hv
      refine ⟨_, kp9 _ _ hcD nDs nDc, Evl.sz_lt (by rw [List.length_map]; omega), cl ++ [x], by rw [upd_same, List.map_append]; rfl, by simp [hcl], ?_, ?_, S9.upd nDs nDc, ?_⟩
      · intro y hy
        rcases List.mem_append.mp hy with z | z
        · exact hcw y z
        · rw [List.mem_singleton] at z
          subst z
          exact ew y hx
      · rw [upd_ne nDp.symm]
        exact kp9 _ _ hp8 nps npc
      · exact (kp8.trans kp9).off hD7
    · rintro H8 ⟨cl, hcD, hcl, hcw, hp8, S8, kp8⟩
      rw [List.length_map] at hcl
      refine ⟨_, rfl, hp8, worldD q D t, rfl, (by show 3 ≤ 15; decide), ?_⟩
      rw [merge_wd]
      have nDt : D ≠ t := fun e => by subst e; rw [ht7] at hD7; cases hD7
      refine k p q D t nm cl kvs _ hp0 hq0 hD0 ht00 ⟨upd_same, ?_, ?_, ?_, ⟨nps, npc⟩, ⟨nqs, nqc⟩, ⟨nDs, nDc⟩, ⟨nts, ntc⟩, hnd, hwd, hcw, hcl, by omega⟩ (by omega) (by rw [hlen]; exact ti7) (by rw [hlen]; exact hl7) (S8.upd nps npc) ((kp07.trans kp8).off hp0)
      · rw [upd_ne npq.symm]; exact kp8 _ _ hq7 nqs nqc
      · rw [upd_ne nDp]; exact hcD
      · rw [upd_ne npt.symm]; exact kp8 _ _ ht7 nts ntc
end
end Nm
set_option maxRecDepth 100000
set_option maxHeartbeats 4000000
/-! sorted of a list of tuples of ints and texts, the first of each an int: a rearrangement -/
namespace Nm
open PySem PySem.Spec PyProof.Rows L2
/-- two rows of keys that are of one kind place by place -/
inductive SameK : List Key → List Key → Prop
  | nil : SameK [] []
  | int {i j : Int} {r q : List Key} : SameK r q → SameK (Sum.inl i :: r) (Sum.inl j :: q)
  | str {x y : Str} {r q : List Key} : SameK r q → SameK (Sum.inr x :: r) (Sum.inr y :: q)
def IsRow (h : Heap) (v : Value) (ks : List Key) : Prop := ∃ a o its n, v = .ref a ∧ h.get? a = some o ∧ o.cls = .type "tuple" ∧ o.data = .seq (List.toArray its) n ∧ Vals (ks.map kV) its
theorem IsRow.keeps {h h' : Heap} {v : Value} {ks : List Key} (p : IsRow h v ks) (k : ∀ b o, h.get? b = some o → o.cls = .type "tuple" → h'.get? b = some o) : IsRow h' v ks := by
  obtain ⟨a, o, its, n, e, ho, hc, hd⟩ := p
  exact ⟨a, o, its, n, e, k _ _ ho hc, hc, hd⟩
section
variable {prog : Program} {w : World} {A : Around} {E : Value → Shared → Prop} {s : Shared}
theorem lex_tot {fin : Bool} : ∀ {ks qs : List Key} {its jts : List Value} (i : Nat), SameK ks qs → Vals (ks.map kV) its → Vals (qs.map kV) jts → 0 < i → ∃ b : Bool, PySem.W.KatLex prog w A true fin (fun r s' => s' = s ∧ r = b) (its.zip jts) i s
  | _, _, _, _, i, .nil, .nil, .nil, _ => ⟨fin, PySem.W.kat_nil ⟨rfl, rfl⟩⟩
  | _, _, _, _, i, .int (i := x) (j := y) sk, .cons (a := _) r1 t1, .cons r2 t2, hi => by
    obtain ⟨t, rfl⟩ := r1
    obtain ⟨u, rfl⟩ := r2
    obtain ⟨b, hb⟩ := lex_tot (i + 1) sk t1 t2 (Nat.succ_pos _)
    by_cases e : x = y
    · refine ⟨b, PySem.W.kat_cons (SeqAt.EqAt.int_int x t y u prog w _ _ ?_)⟩
      refine PySem.W.kat_go (fun _ => PySem.W.kat_yes hb) (fun e1 => absurd e (by simpa using e1))
    · refine ⟨decide (x < y), PySem.W.kat_cons (SeqAt.EqAt.int_int x t y u prog w _ _ ?_)⟩
      refine PySem.W.kat_go (fun e1 => absurd (by simpa using e1) e) (fun _ => PySem.W.kat_no (TS.oneLt_ints _ ⟨rfl, rfl⟩))
  | _, _, _, _, i, .str (x := x) (y := y) sk, .cons r1 t1, .cons r2 t2, hi => by
    obtain ⟨t, rfl⟩ := r1
    obtain ⟨u, rfl⟩ := r2
    obtain ⟨b, hb⟩ := lex_tot (i + 1) sk t1 t2 (Nat.succ_pos _)
    by_cases e : x = y
    · refine ⟨b, PySem.W.kat_cons (SeqAt.EqAt.str_str x t y u prog w _ _ ?_)⟩
      refine PySem.W.kat_go (fun _ => PySem.W.kat_yes hb) (fun e1 => absurd e (by simpa using e1))
    · refine ⟨decide (x.cps.toList < y.cps.toList), PySem.W.kat_cons (SeqAt.EqAt.str_str x t y u prog w _ _ ?_)⟩
      refine PySem.W.kat_go (fun e1 => absurd (by simpa using e1) e) (fun _ => PySem.W.kat_no ?_)
      have hi0 : (true && i == 0) = false := by simp; omega
      rw [hi0]
      exact PySem.W.kat_one _ _ (PyProof.Rows.lt_str (Q := PySem.W.BoolBack (fun r s' => s' = s ∧ r = decide (x.cps.toList < y.cps.toList))) (show s = s ∧ decide (x.cps.toList < y.cps.toList) = decide (x.cps.toList < y.cps.toList) from ⟨rfl, rfl⟩))
theorem row_tot {vs : List Value} {k : Value → Int × List Key} (hp : ∀ v ∈ vs, IsRow s.heap v (Sum.inl (k v).1 :: (k v).2)) (hs : ∀ v ∈ vs, ∀ u ∈ vs, SameK (k v).2 (k u).2) : Srt.Tot prog w A s (tuples' true) (fun p => p.1 ∈ vs) := by
  intro p q hm hm'
  obtain ⟨a, o, its, n, e, ho, hc, hd, hv⟩ := hp _ hm
  obtain ⟨a', o', jts, n', e', ho', hc', hd', hv'⟩ := hp _ hm'
  have sk := hs _ hm _ hm'
  rw [e, e']
  generalize k p.1 = kp at *
  generalize k q.1 = kq at *
  obtain ⟨x, ks⟩ := kp
  obtain ⟨y, qs⟩ := kq
  cases hv with
  | cons r1 t1 =>
    cases hv' with
    | cons r2 t2 =>
      obtain ⟨t, rfl⟩ := r1
      obtain ⟨u, rfl⟩ := r2
      rename_i it jt
      obtain ⟨b, hb⟩ := lex_tot (prog := prog) (w := w) (A := A) (s := s) (fin := decide ((List.toArray (Value.int x t :: it)).size < (List.toArray (Value.int y u :: jt)).size)) 1 sk t1 t2 (by decide)
      by_cases e : x = y
      · refine ⟨b, PySem.W.kat_lt ho hd ho' hd' (PySem.W.kat_cons (SeqAt.EqAt.int_int x t y u prog w _ _ ?_))⟩
        refine PySem.W.kat_go (fun _ => PySem.W.kat_yes hb) (fun e1 => absurd e (by simpa using e1))
      · refine ⟨decide (x < y), PySem.W.kat_lt ho hd ho' hd' (PySem.W.kat_cons (SeqAt.EqAt.int_int x t y u prog w _ _ ?_))⟩
        refine PySem.W.kat_go (fun e1 => absurd (by simpa using e1) e) (fun _ => PySem.W.kat_no (TS.oneLt_ints _ ⟨rfl, rfl⟩))
theorem firsts_row {h : Heap} {k : Value → Int × List Key} : ∀ {vs : List Value}, (∀ v ∈ vs, IsRow h v (Sum.inl (k v).1 :: (k v).2)) → ∃ fs : List Value, PySem.W.KatTups h vs fs ∧ fs.length = vs.length ∧ ∀ f ∈ fs, ∃ x t, f = Value.int x t
  | [], _ => ⟨[], PySem.W.KatTups.nil, rfl, fun _ hm => by simp at hm⟩
  | v :: vs, hp => by
    obtain ⟨fs, h1, h2, h3⟩ := firsts_row (vs := vs) fun v' hm => hp v' (List.mem_cons_of_mem _ hm)
    obtain ⟨a, o, its, n, e, ho, hc, hd, hv⟩ := hp v (List.mem_cons_self ..)
    subst e
    cases hv with
    | cons r1 t1 =>
      obtain ⟨t, rfl⟩ := r1
      refine ⟨.int (k (.ref a)).1 t :: fs, PySem.W.KatTups.cons ho hc hd rfl h1, by rw [List.length_cons, List.length_cons, h2], fun f hm => ?_⟩
      rcases List.mem_cons.mp hm with rfl | hm
      · exact ⟨_, t, rfl⟩
      · exact h3 f hm
theorem rows_sortable {a : Addr} {vs : List Value} {k : Value → Int × List Key} (h0 : 0 < vs.length) (hp : ∀ v ∈ vs, IsRow s.heap v (Sum.inl (k v).1 :: (k v).2)) (hs : ∀ v ∈ vs, ∀ u ∈ vs, SameK (k v).2 (k u).2) (ha : ∀ o, s.heap.get? a = some o → o.cls ≠ .type "tuple") : Srt.Sortable prog w A s a vs := by
  intro h' keep
  have hp' : ∀ v ∈ vs, IsRow h' v (Sum.inl (k v).1 :: (k v).2) := fun v hm => (hp v hm).keeps fun b o e c => keep b o (fun z => by subst z; exact ha o e c) e
  obtain ⟨fs, h1, h2, h3⟩ := firsts_row hp'
  refine ⟨tuples' true, fun Q E hq => ?_, row_tot (s := { s with heap := h' }) hp' hs⟩
  refine PySem.W.kat_kind (T := .type "int") h1 (by omega) (fun f hm => ?_) (by rfl) ?_
  · obtain ⟨x, t, rfl⟩ := h3 f hm
    exact PySem.W.Looks.now
  · have e : (Value.type "int" != Value.type "tuple") = true := by decide +kernel
    rw [e]
    exact hq
theorem sorted_rows {l : Addr} {vs : List Value} {k : Value → Int × List Key} {Q : Value → Shared → Prop} (hl : s.heap.IsList l vs.toArray) (hz : vs.length ≤ sizeLine) (hp : ∀ v ∈ vs, IsRow s.heap v (Sum.inl (k v).1 :: (k v).2)) (hs : ∀ v ∈ vs, ∀ u ∈ vs, SameK (k v).2 (k u).2)
    (h : ∀ (h' : Heap) (d : Addr) (out : List Value), out.Perm vs → (∀ b o, s.heap.get? b = some o → h'.get? b = some o) → s.heap.objs.size ≤ d → (∃ n, h'.get? d = some (seqObj "list" out.toArray n)) → Q (.ref d) { s with heap := h' }) :
    wpAny (model prog w) A (call (.builtin "sorted") [.ref l]) Q E s := by
  refine Srt.sorted_any hl hz (fun h2 h₁ a ha kk => ?_) fun out ho => ?_
  · refine rows_sortable (s := { s with heap := h₁ }) (by omega) (fun v hm => (hp v hm).keeps fun b o e _ => (kk b o e).2) hs fun o e => ?_
    have e' : some o = some (seqObj "list" vs.toArray 0) := e.symm.trans ha
    cases e'
    intro c
    exact absurd (Value.type.inj c) (by decide)
  · exact h _ _ out ho (fun b o e => sortedAll_old e) (Nat.le_succ _) (sortedAll_at s.heap vs out.toArray)
end
/-- sorted(xs): a new list of the same tuples, in some order -/
def rSortedR (K : PySem.W.Frag) : List V → Hp → VK → Prop := fun vs H Q => ∃ a xs, ∃ k : V → Int × List Key, vs = [V.ref a] ∧ SqL K H a xs ∧ (∀ x ∈ xs, ∃ t, x = V.ref t ∧ H t = some (.tup (V.int (k x).1 :: (k x).2.map kV))) ∧ (∀ x ∈ xs, ∀ y ∈ xs, SameK (k x).2 (k y).2) ∧
  ∀ ys p, ys.Perm xs → H p = none → Q (.ref p) (upd H p (.lst ys))
section
variable {X : Cx}
theorem cr_sortedR : CallR X (.builtin "sorted") (rSortedR X.K) := by
  intro pins s σ H vs us Q I r h
  obtain ⟨a, xs, k, rfl, hs, hx, hk, q⟩ := h
  obtain ⟨its, rv, hl, hz⟩ := I.list hs
  obtain ⟨u, rfl, ru⟩ := vals1 r
  obtain rfl : u = Value.ref a := ru
  obtain ⟨e1, e2⟩ := refs_back rv fun x m => by
    obtain ⟨t, e, _⟩ := hx x m
    exact ⟨t, e⟩
  have inx : ∀ v ∈ its, backV v ∈ xs := fun v hv => by rw [e1]; exact List.mem_map.mpr ⟨_, hv, rfl⟩
  refine sorted_rows (k := fun u => k (backV u)) hl.isList (by rw [← rv.length]; exact hz) (fun v hv => ?_) (fun v hv u hu => hk _ (inx v hv) _ (inx u hu)) fun h' d out hp k' hd hn => ?_
  · obtain ⟨t, rfl⟩ := e2 v hv
    obtain ⟨t', e, ht⟩ := hx _ (inx _ hv)
    cases e
    obtain ⟨_, its2, r2, o, ho, hc, n, hd⟩ := I.hok _ _ ht
    exact ⟨t, o, its2, n, rfl, ho, hc, hd, r2⟩
  · have h3 : ∀ u ∈ out, ∃ a, u = Value.ref a := fun u hu => e2 u (hp.mem_iff.mp hu)
    obtain ⟨n, hn⟩ := hn
    refine ⟨.ref d, upd H d (.lst (out.map backV)), I.laid (t' := s.toks) k' hd ⟨?_, out, n, vals_back h3, hn⟩, rfl, q _ d ?_ (I.hok.fresh hd)⟩
    · rw [List.length_map, hp.length_eq, ← rv.length]; exact hz
    · rw [e1]; exact hp.map backV
end
end Nm
set_option maxRecDepth 100000
set_option maxHeartbeats 4000000
/-! sorted of a list of tuples of ints and texts, the first of each an int: in order -/
namespace Nm
open PySem PySem.Spec PyProof.Rows L2
def keyLt : Key → Key → Bool
  | .inl a, .inl b => decide (a < b)
  | .inr x, .inr y => decide (x.cps.toList < y.cps.toList)
  | .inl _, .inr _ => true
  | .inr _, .inl _ => false
def lexK : List Key → List Key → Bool
  | [], [] => false
  | [], _ :: _ => true
  | _ :: _, [] => false
  | a :: r, b :: q => if a = b then lexK r q else keyLt a b
theorem lexK_eq {a b : Key} {r q : List Key} (h : a = b) : lexK (a :: r) (b :: q) = lexK r q := by
  rw [lexK, if_pos h]
theorem lexK_ne {a b : Key} {r q : List Key} (h : ¬ a = b) : lexK (a :: r) (b :: q) = keyLt a b := by
  rw [lexK, if_neg h]
theorem str_eq {x y : Str} (h : x.cps.toList = y.cps.toList) : x = y := by
  cases x
  cases y
  simp at h
  simp [h]
theorem keyLt_anti : ∀ {a b : Key}, keyLt a b = false → keyLt b a = false → a = b
  | .inl a, .inl b, h1, h2 => by
    have h1 := of_decide_eq_false h1
    have h2 := of_decide_eq_false h2
    congr 1
    omega
  | .inr x, .inr y, h1, h2 => by
    have h1 := of_decide_eq_false h1
    have h2 := of_decide_eq_false h2
    rw [List.not_lt] at h1 h2
    rw [str_eq (List.le_antisymm h2 h1)]
  | .inl _, .inr _, h1, _ => by cases h1
  | .inr _, .inl _, _, h2 => by cases h2
theorem keyLt_asym : ∀ {a b : Key}, keyLt a b = true → keyLt b a = false
  | .inl a, .inl b, h => by
    have h := of_decide_eq_true h
    exact decide_eq_false (by omega)
  | .inr x, .inr y, h => by
    have h := of_decide_eq_true h
    exact decide_eq_false (List.lt_asymm h)
  | .inl _, .inr _, _ => rfl
  | .inr _, .inl _, h => by cases h
theorem keyLt_tr : ∀ {a b c : Key}, keyLt b a = false → keyLt c b = false → keyLt c a = false
  | .inl a, .inl b, .inl c, h1, h2 => by
    have h1 := of_decide_eq_false h1
    have h2 := of_decide_eq_false h2
    exact decide_eq_false (by omega)
  | .inr x, .inr y, .inr z, h1, h2 => by
    have h1 := of_decide_eq_false h1
    have h2 := of_decide_eq_false h2
    refine decide_eq_false ?_
    rw [List.not_lt] at *
    exact List.le_trans h1 h2
  | .inl _, .inl _, .inr _, _, _ => rfl
  | .inl _, .inr _, .inr _, _, _ => rfl
  | .inl _, .inr _, .inl _, _, h2 => by cases h2
  | .inr _, .inl _, _, h1, _ => by cases h1
  | .inr _, .inr _, .inl _, _, h2 => by cases h2
theorem lexK_asym : ∀ {x y : List Key}, lexK x y = true → lexK y x = false
  | [], [], h => by cases h
  | [], _ :: _, _ => rfl
  | _ :: _, [], h => by cases h
  | a :: r, b :: q, h => by
    unfold lexK at h ⊢
    by_cases e : a = b
    · rw [if_pos e] at h
      rw [if_pos e.symm]
      exact lexK_asym h
    · rw [if_neg e] at h
      rw [if_neg (fun z => e z.symm)]
      exact keyLt_asym h
theorem lexK_anti : ∀ {x y : List Key}, lexK x y = false → lexK y x = false → x = y
  | [], [], _, _ => rfl
  | [], _ :: _, h, _ => by cases h
  | _ :: _, [], _, h => by cases h
  | a :: r, b :: q, h1, h2 => by
    unfold lexK at h1 h2
    by_cases e : a = b
    · rw [if_pos e] at h1
      rw [if_pos e.symm] at h2
      rw [e, lexK_anti h1 h2]
    · rw [if_neg e] at h1
      rw [if_neg (fun z => e z.symm)] at h2
      exact absurd (keyLt_anti h1 h2) e
theorem lexK_tr : ∀ {x y z : List Key}, lexK y x = false → lexK z y = false → lexK z x = false
  | [], _, [], _, _ => rfl
  | [], _, _ :: _, _, _ => rfl
  | _ :: _, [], _, h, _ => by cases h
  | _ :: _, _ :: _, [], _, h => by cases h
  | a :: r, b :: q, c :: p, h1, h2 => by
    unfold lexK at h1 h2 ⊢
    by_cases e1 : b = a
    · subst e1
      rw [if_pos rfl] at h1
      by_cases e2 : c = b
      · rw [if_pos e2] at h2 ⊢
        exact lexK_tr h1 h2
      · rw [if_neg e2] at h2 ⊢
        exact h2
    · rw [if_neg e1] at h1
      by_cases e2 : c = b
      · subst e2
        rw [if_neg e1]
        exact h1
      · rw [if_neg e2] at h2
        by_cases e3 : c = a
        · subst e3
          exact absurd (keyLt_anti h1 h2) e1
        · rw [if_neg e3]
          exact keyLt_tr h1 h2
theorem swo_lexK {α : Type} (k : α → List Key) : SrtO.Swo fun v u => lexK (k v) (k u) := ⟨fun _ _ h => lexK_asym h, fun _ _ _ h1 h2 => lexK_tr h1 h2⟩
/-- two sorted lists of the same keys are one -/
theorem sorted_one : ∀ {l m : List (List Key)}, l.Pairwise (fun x y => lexK y x = false) → m.Pairwise (fun x y => lexK y x = false) → l.Perm m → l = m
  | [], m, _, _, h => (List.Perm.eq_nil h.symm).symm
  | x :: l, [], _, _, h => absurd h.length_eq (by simp)
  | x :: l, y :: m, hl, hm, h => by
    have h1 : lexK x y = false := by
      rcases List.mem_cons.mp (h.mem_iff.mp (List.mem_cons_self (a := x) (l := l))) with e | hx
      · rw [e]; exact (swo_lexK (fun z => z)).refl y
      · exact (List.pairwise_cons.mp hm).1 x hx
    have h2 : lexK y x = false := by
      rcases List.mem_cons.mp (h.mem_iff.mpr (List.mem_cons_self (a := y) (l := m))) with e | hy
      · rw [e]; exact (swo_lexK (fun z => z)).refl x
      · exact (List.pairwise_cons.mp hl).1 y hy
    have e := lexK_anti h1 h2
    subst e
    rw [sorted_one (List.pairwise_cons.mp hl).2 (List.pairwise_cons.mp hm).2 h.cons_inv]
section
variable {prog : Program} {w : World} {A : Around} {E : Value → Shared → Prop} {s : Shared}
theorem lex_cmp : ∀ {ks qs : List Key} {its jts : List Value} (i : Nat), SameK ks qs → Vals (ks.map kV) its → Vals (qs.map kV) jts → 0 < i → PySem.W.KatLex prog w A true false (fun r s' => s' = s ∧ r = lexK ks qs) (its.zip jts) i s
  | _, _, _, _, i, .nil, .nil, .nil, _ => PySem.W.kat_nil ⟨rfl, rfl⟩
  | _, _, _, _, i, .int (i := x) (j := y) (r := r) (q := q) sk, .cons r1 t1, .cons r2 t2, hi => by
    obtain ⟨t, rfl⟩ := r1
    obtain ⟨u, rfl⟩ := r2
    have ih := lex_cmp (i + 1) sk t1 t2 (Nat.succ_pos _)
    by_cases e : x = y
    · have el : lexK (Sum.inl x :: r) (Sum.inl y :: q) = lexK r q := lexK_eq (by rw [e])
      rw [el]
      refine PySem.W.kat_cons (SeqAt.EqAt.int_int x t y u prog w _ _ ?_)
      exact PySem.W.kat_go (fun _ => PySem.W.kat_yes ih) (fun e1 => absurd e (by simpa using e1))
    · have el : lexK (Sum.inl x :: r) (Sum.inl y :: q) = decide (x < y) := lexK_ne (fun z => e (Sum.inl.inj z))
      rw [el]
      refine PySem.W.kat_cons (SeqAt.EqAt.int_int x t y u prog w _ _ ?_)
      exact PySem.W.kat_go (fun e1 => absurd (by simpa using e1) e) (fun _ => PySem.W.kat_no (TS.oneLt_ints _ ⟨rfl, rfl⟩))
  | _, _, _, _, i, .str (x := x) (y := y) (r := r) (q := q) sk, .cons r1 t1, .cons r2 t2, hi => by
    obtain ⟨t, rfl⟩ := r1
    obtain ⟨u, rfl⟩ := r2
    have ih := lex_cmp (i + 1) sk t1 t2 (Nat.succ_pos _)
    by_cases e : x = y
    · have el : lexK (Sum.inr x :: r) (Sum.inr y :: q) = lexK r q := lexK_eq (by rw [e])
      rw [el]
      refine PySem.W.kat_cons (SeqAt.EqAt.str_str x t y u prog w _ _ ?_)
      exact PySem.W.kat_go (fun _ => PySem.W.kat_yes ih) (fun e1 => absurd e (by simpa using e1))
    · have el : lexK (Sum.inr x :: r) (Sum.inr y :: q) = decide (x.cps.toList < y.cps.toList) := lexK_ne (fun z => e (Sum.inr.inj z))
      rw [el]
      refine PySem.W.kat_cons (SeqAt.EqAt.str_str x t y u prog w _ _ ?_)
      refine PySem.W.kat_go (fun e1 => absurd (by simpa using e1) e) (fun _ => PySem.W.kat_no ?_)
      have hi0 : (true && i == 0) = false := by simp; omega
      rw [hi0]
      exact PySem.W.kat_one _ _ (PyProof.Rows.lt_str (Q := PySem.W.BoolBack (fun r s' => s' = s ∧ r = decide (x.cps.toList < y.cps.toList))) (show s = s ∧ decide (x.cps.toList < y.cps.toList) = decide (x.cps.toList < y.cps.toList) from ⟨rfl, rfl⟩))
theorem same_len : ∀ {ks qs : List Key}, SameK ks qs → ks.length = qs.length
  | _, _, .nil => rfl
  | _, _, .int h => by simp [same_len h]
  | _, _, .str h => by simp [same_len h]
/-- the whole row -/
def rowK (k : Int × List Key) : List Key := Sum.inl k.1 :: k.2
theorem row_cmp {vs : List Value} {k : Value → Int × List Key} (hp : ∀ v ∈ vs, IsRow s.heap v (rowK (k v))) (hs : ∀ v ∈ vs, ∀ u ∈ vs, SameK (k v).2 (k u).2) : SrtO.Cmp prog w A s (tuples' true) (fun p => p.1 ∈ vs) (SrtO.lt2 fun v u => lexK (rowK (k v)) (rowK (k u))) := by
  intro p q hm hm'
  obtain ⟨a, o, its, n, e, ho, hc, hd, hv⟩ := hp _ hm
  obtain ⟨a', o', jts, n', e', ho', hc', hd', hv'⟩ := hp _ hm'
  have sk := hs _ hm _ hm'
  show wpAny (model prog w) A (keyLt' (tuples' true) p.1 q.1) (fun r s' => s' = s ∧ r = lexK (rowK (k p.1)) (rowK (k q.1))) (fun _ _ => False) s
  generalize hkp : k p.1 = kp at *
  generalize hkq : k q.1 = kq at *
  rw [e, e']
  obtain ⟨x, ks⟩ := kp
  obtain ⟨y, qs⟩ := kq
  have hlen : its.length = jts.length := by
    rw [← hv.length, ← hv'.length]
    have := same_len sk
    simp [rowK, this]
  refine PySem.W.kat_lt ho hd ho' hd' ?_
  have hf : decide ((List.toArray its).size < (List.toArray jts).size) = false := by simp [hlen]
  rw [hf]
  cases hv with
  | cons r1 t1 =>
    cases hv' with
    | cons r2 t2 =>
      obtain ⟨t, rfl⟩ := r1
      obtain ⟨u, rfl⟩ := r2
      have ih := lex_cmp (prog := prog) (w := w) (A := A) (s := s) 1 sk t1 t2 (by decide)
      by_cases e : x = y
      · have el : lexK (rowK (x, ks)) (rowK (y, qs)) = lexK ks qs := lexK_eq (by rw [e])
        rw [el]
        refine PySem.W.kat_cons (SeqAt.EqAt.int_int x t y u prog w _ _ ?_)
        exact PySem.W.kat_go (fun _ => PySem.W.kat_yes ih) (fun e1 => absurd e (by simpa using e1))
      · have el : lexK (rowK (x, ks)) (rowK (y, qs)) = decide (x < y) := lexK_ne (fun z => e (Sum.inl.inj z))
        rw [el]
        refine PySem.W.kat_cons (SeqAt.EqAt.int_int x t y u prog w _ _ ?_)
        exact PySem.W.kat_go (fun e1 => absurd (by simpa using e1) e) (fun _ => PySem.W.kat_no (TS.oneLt_ints _ ⟨rfl, rfl⟩))
theorem rows_sortableO {a : Addr} {vs : List Value} {k : Value → Int × List Key} (h0 : 0 < vs.length) (hp : ∀ v ∈ vs, IsRow s.heap v (rowK (k v))) (hs : ∀ v ∈ vs, ∀ u ∈ vs, SameK (k v).2 (k u).2) (ha : ∀ o, s.heap.get? a = some o → o.cls ≠ .type "tuple") : SrtO.SortableO prog w A s a vs fun v u => lexK (rowK (k v)) (rowK (k u)) := by
  intro h' keep
  have hp' : ∀ v ∈ vs, IsRow h' v (rowK (k v)) := fun v hm => (hp v hm).keeps fun b o e c => keep b o (fun z => by subst z; exact ha o e c) e
  obtain ⟨fs, h1, h2, h3⟩ := firsts_row hp'
  refine ⟨tuples' true, fun Q E hq => ?_, row_cmp (s := { s with heap := h' }) hp' hs⟩
  refine PySem.W.kat_kind (T := .type "int") h1 (by omega) (fun f hm => ?_) (by rfl) ?_
  · obtain ⟨x, t, rfl⟩ := h3 f hm
    exact PySem.W.Looks.now
  · have e : (Value.type "int" != Value.type "tuple") = true := by decide +kernel
    rw [e]
    exact hq
theorem sorted_rowsO {l : Addr} {vs : List Value} {k : Value → Int × List Key} {Q : Value → Shared → Prop} (hl : s.heap.IsList l vs.toArray) (hz : vs.length ≤ sizeLine) (hp : ∀ v ∈ vs, IsRow s.heap v (rowK (k v))) (hs : ∀ v ∈ vs, ∀ u ∈ vs, SameK (k v).2 (k u).2)
    (h : ∀ (h' : Heap) (d : Addr) (out : List Value), SrtO.Srtd (fun v u => lexK (rowK (k v)) (rowK (k u))) out → out.Perm vs → (∀ b o, s.heap.get? b = some o → h'.get? b = some o) → s.heap.objs.size ≤ d → (∃ n, h'.get? d = some (seqObj "list" out.toArray n)) → Q (.ref d) { s with heap := h' }) :
    wpAny (model prog w) A (call (.builtin "sorted") [.ref l]) Q E s := by
  refine SrtO.sorted_ord (swo_lexK fun v => rowK (k v)) hl hz (fun h2 h₁ a ha kk => ?_) fun out hs' hb => ?_
  · refine rows_sortableO (s := { s with heap := h₁ }) (by omega) (fun v hm => (hp v hm).keeps fun b o e _ => (kk b o e).2) hs fun o e => ?_
    have e' : some o = some (seqObj "list" vs.toArray 0) := e.symm.trans ha
    cases e'
    intro c
    exact absurd (Value.type.inj c) (by decide)
  · exact h _ _ out hs' hb.perm (fun b o e => sortedAll_old e) (Nat.le_succ _) (sortedAll_at s.heap vs out.toArray)
end
/-- sorted(xs): a new list of the same tuples, in order -/
def rSortedO (K : PySem.W.Frag) : List V → Hp → VK → Prop := fun vs H Q => ∃ a xs, ∃ k : V → Int × List Key, vs = [V.ref a] ∧ SqL K H a xs ∧ (∀ x ∈ xs, ∃ t, x = V.ref t ∧ H t = some (.tup ((rowK (k x)).map kV))) ∧ (∀ x ∈ xs, ∀ y ∈ xs, SameK (k x).2 (k y).2) ∧
  ∀ ys p, ys.Pairwise (fun x y => lexK (rowK (k y)) (rowK (k x)) = false) → ys.Perm xs → H p = none → Q (.ref p) (upd H p (.lst ys))
section
variable {X : Cx}
theorem cr_sortedO : CallR X (.builtin "sorted") (rSortedO X.K) := by
  intro pins s σ H vs us Q I r h
  obtain ⟨a, xs, k, rfl, hs, hx, hk, q⟩ := h
  obtain ⟨its, rv, hl, hz⟩ := I.list hs
  obtain ⟨u, rfl, ru⟩ := vals1 r
  obtain rfl : u = Value.ref a := ru
  obtain ⟨e1, e2⟩ := refs_back rv fun x m => by
    obtain ⟨t, e, _⟩ := hx x m
    exact ⟨t, e⟩
  have inx : ∀ v ∈ its, backV v ∈ xs := fun v hv => by rw [e1]; exact List.mem_map.mpr ⟨_, hv, rfl⟩
  refine sorted_rowsO (k := fun u => k (backV u)) hl.isList (by rw [← rv.length]; exact hz) (fun v hv => ?_) (fun v hv u hu => hk _ (inx v hv) _ (inx u hu)) fun h' d out hsr hp k' hd hn => ?_
  · obtain ⟨t, rfl⟩ := e2 v hv
    obtain ⟨t', e, ht⟩ := hx _ (inx _ hv)
    cases e
    obtain ⟨_, its2, r2, o, ho, hc, n, hd⟩ := I.hok _ _ ht
    exact ⟨t, o, its2, n, rfl, ho, hc, hd, r2⟩
  · have h3 : ∀ u ∈ out, ∃ a, u = Value.ref a := fun u hu => e2 u (hp.mem_iff.mp hu)
    obtain ⟨n, hn⟩ := hn
    refine ⟨.ref d, upd H d (.lst (out.map backV)), I.laid (t' := s.toks) k' hd ⟨?_, out, n, vals_back h3, hn⟩, rfl, q _ d ?_ ?_ (I.hok.fresh hd)⟩
    · rw [List.length_map, hp.length_eq, ← rv.length]; exact hz
    · exact List.pairwise_map.mpr hsr
    · rw [e1]; exact hp.map backV
end
end Nm
set_option maxRecDepth 100000
set_option maxHeartbeats 4000000
namespace Nm
open PySem L2
/-- ints that are places -/
abbrev natV (l : List Nat) : List V := l.map fun (i : Nat) => V.int (i : Int)
/-- the keys of a dict of ties, each by its own tuple -/
def KeyL (H : Hp) (kvs : List (List Key × V)) (ys : List V) : Prop := ∀ y ∈ ys, ∃ b k v, y = V.ref b ∧ H b = some (.tup (List.map kV k)) ∧ (k, v) ∈ kvs
theorem KeyL.same {H H' : Hp} {kvs : List (List Key × V)} {ys : List V} (h : KeyL H kvs ys) (e : Same H H') : KeyL H' kvs ys := fun y hy => by
  obtain ⟨b, k, v, a1, a2, a3⟩ := h y hy
  exact ⟨b, k, v, a1, e _ _ a2, a3⟩
theorem KeyL.kp {H H' : Hp} {kvs : List (List Key × V)} {ys : List V} {s c : Addr} (h : KeyL H kvs ys) (S : Src H s c) (e : Kp s c H H') : KeyL H' kvs ys := fun y hy => by
  obtain ⟨b, k, v, a1, a2, a3⟩ := h y hy
  obtain ⟨cs, l, m, tt, S⟩ := S
  exact ⟨b, k, v, a1, e _ _ a2 (ne_of a2 S.ds (by intro z; cases z)) (ne_of a2 S.dc (by intro z; cases z)), a3⟩
theorem KeyL.put {H : Hp} {kvs : List (List Key × V)} {ys : List V} {t : Addr} {o u : HO} (h : KeyL H kvs ys) (e : H t = some u) (hu : ∀ zs, u ≠ .tup zs) : KeyL (upd H t o) kvs ys := fun y hy => by
  obtain ⟨b, k, v, a1, a2, a3⟩ := h y hy
  refine ⟨b, k, v, a1, ?_, a3⟩
  rw [upd_ne (ne_of a2 e (fun z => hu _ z.symm))]
  exact a2
theorem keyL_of {H : Hp} : ∀ {kvs : List (List Key × V)} {bs : List Addr}, IsKeys H kvs bs → KeyL H kvs (bs.map V.ref) ∧ bs.length = kvs.length
  | _, _, .nil => ⟨fun y hy => (List.not_mem_nil hy).elim, rfl⟩
  | _, _, .cons (a := kv) (b := b) h t => by
    obtain ⟨i1, i2⟩ := keyL_of t
    refine ⟨fun y hy => ?_, by simp [i2]⟩
    rcases List.mem_cons.mp hy with e | e
    · exact ⟨b, kv.1, kv.2, e, h, List.mem_cons_self⟩
    · obtain ⟨b', k, v, a1, a2, a3⟩ := i1 y e
      exact ⟨b', k, v, a1, a2, List.mem_cons_of_mem _ a3⟩
theorem keyL_all {H : Hp} : ∀ {kvs : List (List Key × V)} {bs : List Addr}, IsKeys H kvs bs → ∀ kv ∈ kvs, ∃ b ∈ bs, H b = some (.tup (List.map kV kv.1))
  | _, _, .nil => fun kv h => (List.not_mem_nil h).elim
  | _, _, .cons (b := b) h t => fun kv hm => by
    rcases List.mem_cons.mp hm with e | e
    · subst e
      exact ⟨b, List.mem_cons_self, h⟩
    · obtain ⟨b', h1, h2⟩ := keyL_all t kv e
      exact ⟨b', List.mem_cons_of_mem _ h1, h2⟩
/-- what the tuple at a reference holds, as a row -/
def rowAt (H : Hp) : V → Int × List Key
  | .ref b => (match H b with
    | some (.tup [.int i, .int j, .str kd]) => (i, [Sum.inl j, Sum.inr kd])
    | _ => (0, []))
  | _ => (0, [])
theorem rowAt_of {H : Hp} {b : Addr} {i j : Int} {kd : Str} (h : H b = some (.tup [.int i, .int j, .str kd])) : rowAt H (.ref b) = (i, [Sum.inl j, Sum.inr kd]) := by
  show (match H b with
    | some (.tup [.int i, .int j, .str kd]) => (i, [Sum.inl j, Sum.inr kd])
    | _ => (0, [])) = _
  rw [h]
theorem KeyL.tie {H : Hp} {n m : Nat} {kvs : List (List Key × V)} {ys : List V} (h : KeyL H kvs ys) (T : Ties n m kvs) {y : V} (hy : y ∈ ys) : ∃ (b : Addr) (i j x : Nat) (kd : Str), y = V.ref b ∧ H b = some (.tup [.int (i : Int), .int (j : Int), .str kd]) ∧ ([Sum.inl (i : Int), Sum.inl (j : Int), Sum.inr kd], V.int (x : Int)) ∈ kvs ∧ i < j ∧ j < n ∧ isWordB kd = true ∧ 1 ≤ x ∧ x ≤ m := by
  obtain ⟨b, k, v, a1, a2, a3⟩ := h y hy
  obtain ⟨i, j, kd, e, h1, h2, h3⟩ := T.key _ a3
  obtain ⟨x, e2, h4, h5⟩ := T.val _ a3
  have e' : k = [Sum.inl (i : Int), Sum.inl (j : Int), Sum.inr kd] := e
  have e2' : v = V.int (x : Int) := e2
  subst e' e2'
  exact ⟨b, i, j, x, kd, a1, a2, a3, h1, h2, h3, h4, h5⟩
theorem sort_ties {H : Hp} {n m : Nat} {kvs : List (List Key × V)} {ys : List V} (h : KeyL H kvs ys) (T : Ties n m kvs) : (∀ x ∈ ys, ∃ t, x = V.ref t ∧ H t = some (.tup (V.int (rowAt H x).1 :: (rowAt H x).2.map kV))) ∧ (∀ x ∈ ys, ∀ y ∈ ys, SameK (rowAt H x).2 (rowAt H y).2) := by
  constructor
  · intro y hy
    obtain ⟨b, i, j, x, kd, e, hb, _⟩ := h.tie T hy
    subst e
    refine ⟨b, rfl, ?_⟩
    rw [rowAt_of hb]
    exact hb
  · intro y hy z hz
    obtain ⟨b, i, j, x, kd, e, hb, _⟩ := h.tie T hy
    obtain ⟨b', i', j', x', kd', e', hb', _⟩ := h.tie T hz
    subst e e'
    rw [rowAt_of hb, rowAt_of hb']
    exact .int (.str .nil)
theorem row_key {H : Hp} {n m : Nat} : ∀ {kvs : List (List Key × V)} {bs : List Addr}, IsKeys H kvs bs → (∀ kv ∈ kvs, TieK n kv.1) → (bs.map V.ref).map (fun y => rowK (rowAt H y)) = kvs.map (·.1)
  | _, _, .nil, _ => rfl
  | _, _, .cons (a := kv) (b := b) h t, hk => by
    rw [List.map_cons, List.map_cons, List.map_cons, row_key (n := n) (m := m) t fun kv hm => hk kv (List.mem_cons_of_mem _ hm)]
    obtain ⟨i, j, kd, e, _⟩ := hk kv List.mem_cons_self
    rw [e] at h
    congr 1
    rw [rowAt_of h, e]
    rfl
theorem isKeys_same {H H' : Hp} {kvs : List (List Key × V)} {bs : List Addr} (h : IsKeys H kvs bs) (e : Same H H') : IsKeys H' kvs bs := Paired.mapP h fun _ _ z => e _ _ z
/-- one tie of the parts: what has the number of its far end gets that of its near end -/
def stepP (ps : List Nat) (k : List Key) : List Nat := match k with
  | [Sum.inl i, Sum.inl j, Sum.inr _] => ps.map fun z => if z = (ps[j.toNat]?).getD 0 then (ps[i.toNat]?).getD 0 else z
  | _ => ps
def PartsRel (n : Nat) (kvs : List (List Key × V)) (ps : List Nat) : Prop := ∃ ks : List (List Key), ks.Pairwise (fun x y => lexK y x = false) ∧ ks.Perm (kvs.map (·.1)) ∧ ps = ks.foldl stepP (List.range n)
theorem PartsRel.one {n : Nat} {kvs : List (List Key × V)} {ps qs : List Nat} (h1 : PartsRel n kvs ps) (h2 : PartsRel n kvs qs) : ps = qs := by
  obtain ⟨ks, a1, a2, a3⟩ := h1
  obtain ⟨ks', b1, b2, b3⟩ := h2
  rw [a3, b3, sorted_one a1 b1 (a2.trans b2.symm)]
theorem rgV_nat (n : Nat) : rgV 0 (n : Int) = natV (List.range n) := by
  unfold rgV natV
  have e : ((n : Int) - 0).toNat = n := by omega
  rw [e]
  refine List.map_congr_left fun i _ => ?_
  rw [Int.zero_add]
structure TxtC (mg : Str → Option Value) : Prop extends TxtB mg where
  sorted : mg "sorted" = none
section
variable {P : Program} {w : World} {K : PySem.W.Frag} {mg : Str → Option Value} {base : Heap}
/-! ### _law_parts -/
def spParts : Sp := fun vs H Q _ => ∃ (wd a b t : Addr) (xs : List V) (m : Nat) (kvs : List (List Key × V)), vs = [.ref wd] ∧ H wd = some (.dK (worldD a b t)) ∧ H a = some (.lst xs) ∧ H t = some (.dT kvs) ∧ xs.length ≤ 1000 ∧ kvs.length ≤ 10000 ∧ Ties xs.length m kvs ∧
  ∀ (p : Addr) (ps : List Nat) (H' : Hp), H p = none → H' p = some (.lst (natV ps)) → ps.length = xs.length → (∀ x ∈ ps, x < xs.length) → (∀ (i j : Nat) (kd : Str) (v : V), ([Sum.inl (i : Int), Sum.inl (j : Int), Sum.inr kd], v) ∈ kvs → ps[i]? = ps[j]?) → PartsRel xs.length kvs ps → Same H H' → Q (.ref p) H'
abbrev nParts : List Str := ["_law_world", "_law_found", "_law_one", "_law_other", "_law_kind", "_law_kept", "_law_gone", "_law_number"]
theorem scParts : FnScope nParts ["_law_world"] (defScope sParts) := ⟨rfl, rfl, rfl, by decide +kernel, rfl, by decide +kernel, by decide +kernel⟩
theorem ok_parts {f : Addr} {fd : FuncData} (F : Fun K "_law_parts" "_law_parts" sParts f fd) (T : TxtC mg) : FnOk P w K mg base CX0 1 f fd ["_law_world"] spParts := by
  refine F.ok scParts (fun vs H Q E h => ?_) (fun cdv A outer s H vs Q E hr h => ?_)
  · obtain ⟨wd, a, b, t, xs, m, kvs, rfl, _⟩ := h
    rfl
  · obtain ⟨wd, a, b, t, xs, m, kvs, rfl, hwd, ha, ht, hxl, hkl, ti, k⟩ := h
    have hu := hu_of hr
    refine ⟨_, Evl.pss_cut (ps_set (i := 1) scParts.nd rfl (Or.inl rfl) (pe_listRg rfl (by rfl) T.list (prg_1 (by rfl) T.range (pe_callB call_len_seq (by rfl) T.len PySem.boot_len (pa_cons (pe_dget hu (pv 0) pe_str (fun _ _ => rfl)) pa_nil)))))
      (pss_cons (ps_for PassesOwn.never rfl (pi_list (pe_callB cr_sortedO (by rfl) T.sorted (by decide +kernel) (pa_cons (pe_callTy (call_list_dT rfl) (by rfl) T.list (by decide +kernel) (pa_cons (pe_dget hu (pv 0) pe_str (fun _ _ => rfl)) pa_nil)) pa_nil)))
          (pg_tup rfl (pgs_cons (pg_name (i := 2) scParts.nd rfl (.inl rfl)) (pgs_cons (pg_name (i := 3) scParts.nd rfl (.inl rfl)) (pgs_cons (pg_name (i := 4) scParts.nd rfl (.inl rfl)) pgs_nil))))
        (pss_cons (ps_asg (pe_tup (pa_cons (pe_ix ix_list (pv 1) (pv 2) (fun _ _ => rfl)) (pa_cons (pe_ix ix_list (pv 1) (pv 3) (fun _ _ => rfl)) pa_nil))) (pg_tup rfl (pgs_cons (pg_name (i := 5) scParts.nd rfl (.inr rfl)) (pgs_cons (pg_name (i := 6) scParts.nd rfl (.inr rfl)) pgs_nil))))
        (pss_one (ps_setLc (i := 1) (own := [("_law_number", 7)]) (g := gName 7) (tt := tYes) rfl scParts.nd rfl rfl (sw_true rfl rfl rfl (by decide +kernel)) (pi_list (pv 1))
          (blkOk_by (N := nParts) (sc := defScope sParts) (by decide +kernel)) (fun _ _ _ _ _ => pg_name (i := 7) scParts.nd rfl (Or.inl rfl)) (fun _ _ _ _ _ => pts_nil)
          (fun _ _ _ _ _ => pe_ifExp (pt_cmpR op_eq (pv 7) (pv 6) (nomark _)) (pv 5) (pv 7))))))
      (pss_one (ps_ret (pv 1)))), ?_⟩
    refine ⟨fun σ H1 => ∃ q, σ = [some (.ref wd), some (.ref q), none, none, none, none, none, none] ∧ H q = none ∧ H1 q = some (.lst (natV (List.range xs.length))) ∧ Same H H1, ?_, ?_⟩
    · refine ⟨_, rfl, wd, _, rfl, dg_names hwd, a, _, rfl, .inl (SqL.of ha), _, rfl, ?_⟩
      refine ⟨RgOk.of_le (by omega) (by omega) (by omega) (by omega), fun q hq => ⟨q, rfl, hq, by rw [upd_same, rgV_nat], same_new hq⟩⟩
    rintro σ H1 ⟨q, rfl, hq0, hq, s1⟩
    refine ⟨_, rfl, wd, _, rfl, dg_ties (s1 _ _ hwd), t, kvs, rfl, .inl (s1 _ _ ht), fun l bs hl hk => ?_⟩
    obtain ⟨kl, hbl⟩ := keyL_of hk
    have kl2 := kl.same (same_new (o := .lst (bs.map V.ref)) hl)
    obtain ⟨so1, so2⟩ := sort_ties kl2 ti
    refine ⟨l, _, _, rfl, SqL.of upd_same, so1, so2, fun ys p srt pm hp => ?_⟩
    have pk : (ys.map fun y => rowK (rowAt (upd H1 l (.lst (bs.map V.ref))) y)).Perm (kvs.map (·.1)) := by
      rw [← row_key (m := m) (isKeys_same hk (same_new (o := .lst (bs.map V.ref)) hl)) ti.key]
      exact pm.map _
    have sk : (ys.map fun y => rowK (rowAt (upd H1 l (.lst (bs.map V.ref))) y)).Pairwise (fun x y => lexK y x = false) := List.pairwise_map.mpr srt
    have rows : ∀ (b : Addr) (i j : Nat) (kd : Str), (upd H1 l (.lst (bs.map V.ref))) b = some (.tup [.int (i : Int), .int (j : Int), .str kd]) → rowK (rowAt (upd H1 l (.lst (bs.map V.ref))) (.ref b)) = [Sum.inl (i : Int), Sum.inl (j : Int), Sum.inr kd] := fun b i j kd h => by
      rw [rowAt_of h]
      rfl
    have rows2 : ∀ y ∈ ys, ∃ (b : Addr) (i j x : Nat) (kd : Str), y = V.ref b ∧ (upd H1 l (.lst (bs.map V.ref))) b = some (.tup [.int (i : Int), .int (j : Int), .str kd]) ∧ ([Sum.inl (i : Int), Sum.inl (j : Int), Sum.inr kd], V.int (x : Int)) ∈ kvs ∧ i < j ∧ j < xs.length := fun y hy => by
      obtain ⟨b, i, j, x, kd, e, hb, hm, h1, h2, _⟩ := kl2.tie ti (pm.subset hy)
      exact ⟨b, i, j, x, kd, e, hb, hm, h1, h2⟩
    generalize hks : (ys.map fun y => rowK (rowAt (upd H1 l (.lst (bs.map V.ref))) y)) = ks at *
    have hkat : ∀ (i : Nat) (b : Addr) (i1 j1 : Nat) (kd : Str), ys[i]? = some (.ref b) → (upd H1 l (.lst (bs.map V.ref))) b = some (.tup [.int (i1 : Int), .int (j1 : Int), .str kd]) → ks[i]? = some [Sum.inl (i1 : Int), Sum.inl (j1 : Int), Sum.inr kd] := fun i b i1 j1 kd h1 h2 => by
      rw [← hks, List.getElem?_map, h1]
      exact congrArg some (rows b i1 j1 kd h2)
    have hkl2 : ks.length = ys.length := by rw [← hks, List.length_map]
    have sHs := same_new (o := .lst ys) hp
    have s2 := (same_new (o := .lst (bs.map V.ref)) hl).trans (same_new (o := .lst ys) hp)
    have kly : KeyL (upd (upd H1 l (.lst (bs.map V.ref))) p (.lst ys)) kvs ys := fun y hy => (kl.same s2) y (pm.subset hy)
    have hpp : (upd (upd H1 l (.lst (bs.map V.ref))) p (.lst ys)) p = some (.lst ys) := upd_same
    have hq2 := s2 _ _ hq
    have s02 := s1.trans s2
    have hyl : ys.length ≤ 10000 := by rw [pm.length_eq, List.length_map]; omega
    have hks2 := hkat
    refine ⟨p, rfl, ⟨_, SqL.of hpp⟩, ?_⟩
    generalize hH2 : upd (upd H1 l (.lst (bs.map V.ref))) p (.lst ys) = H2 at *
    refine for_list (xs := ys) (fun i σ H3 => ∃ q ps v2 v3 v4 v5 v6, σ = [some (.ref wd), some (.ref q), v2, v3, v4, v5, v6, none] ∧ H q = none ∧ H3 q = some (.lst (natV ps)) ∧ ps.length = xs.length ∧ (∀ x ∈ ps, x < xs.length) ∧ ps = (ks.take i).foldl stepP (List.range xs.length) ∧ Same H2 H3 ∧
        (∀ y ∈ ys.take i, ∀ (b : Addr) (i1 j1 : Nat) (kd : Str), y = .ref b → H2 b = some (.tup [.int (i1 : Int), .int (j1 : Int), .str kd]) → ps[i1]? = ps[j1]?))
      ⟨q, List.range xs.length, none, none, none, none, none, rfl, hq0, hq2, by simp, fun x hx => List.mem_range.mp hx, rfl, Same.refl _, fun y hy => by simp at hy⟩ (fun i σ H3 _ ⟨_, _, _, _, _, _, _, _, _, _, _, _, _, sm, _⟩ => SqL.of (sm _ _ hpp)) ?_ ?_
    · rintro i y σ H3 hi ⟨q, ps, v2, v3, v4, v5, v6, rfl, hq0, hq3, hpl, hpn, hpf, s3, hdone⟩
      obtain ⟨b1, i1, j1, x1, kd1, rfl, hb1, hmem, hij, hjn, _, _, _⟩ := kly.tie ti (List.mem_of_getElem? hi)
      have hb3 := s3 _ _ hb1
      have hbs1 : (upd H1 l (.lst (bs.map V.ref))) b1 = some (.tup [.int (i1 : Int), .int (j1 : Int), .str kd1]) := by
        obtain ⟨b', i', j', x', kd', e', hb', _⟩ := rows2 _ (List.mem_of_getElem? hi)
        cases e'
        have := sHs _ _ hb'
        rw [hb1] at this
        rw [hb', ← Option.some.inj this]
      obtain ⟨u, hu1⟩ : ∃ u, ps[i1]? = some u := ⟨_, List.getElem?_eq_getElem (by omega)⟩
      obtain ⟨v, hv1⟩ : ∃ v, ps[j1]? = some v := ⟨_, List.getElem?_eq_getElem (by omega)⟩
      refine ⟨b1, _, rfl, SqT.of hb3, rfl, _, _, rfl, _, _, rfl, _, _, rfl, rfl, ?_⟩
      refine ⟨_, rfl, _, rfl, q, _, _, V.int (u : Int), rfl, rfl, SqL.of hq3, atI_nat (by rw [List.getElem?_map, hu1]; rfl), _, rfl, _, rfl, q, _, _, V.int (v : Int), rfl, rfl, SqL.of hq3, atI_nat (by rw [List.getElem?_map, hv1]; rfl), (by show 2 ≤ sizeLine; decide), fun tt htt => ?_⟩
      refine ⟨tt, _, rfl, SqT.of upd_same, rfl, _, _, rfl, _, _, rfl, rfl, ?_⟩
      have s4 := same_new (o := .tup [V.int (u : Int), V.int (v : Int)]) htt
      refine ⟨_, rfl, q, rfl, ⟨_, SqL.of (s4 _ _ hq3)⟩, fun D hD => ?_⟩
      have hD3 : H3 D = none := s4.free hD
      have hD0 : H D = none := (s02.trans s3).free hD3
      refine lc_list (xs := natV ps) (fun j H4 => H4 D = some (.lst (natV ((ps.map fun z => if z = v then u else z).take j))) ∧ Same H3 H4) ⟨upd_same, s4.trans (same_new hD)⟩ (fun j H4 _ h => SqL.of (h.2 _ _ hq3)) ?_ ?_
      · rintro j z H4 hj ⟨hD4, s5⟩
        have hjl := (List.getElem?_eq_some_iff.mp hj).1
        rw [List.length_map] at hjl
        rw [List.getElem?_map] at hj
        obtain ⟨z0, hz0, rfl⟩ := Option.map_eq_some_iff.mp hj
        refine ⟨rfl, tyes ?_⟩
        have tk : natV ((ps.map fun z => if z = v then u else z).take (j + 1)) = natV ((ps.map fun z => if z = v then u else z).take j) ++ [V.int ((if z0 = v then u else z0 : Nat) : Int)] := by
          have e : (ps.map fun z => if z = v then u else z)[j]? = some (if z0 = v then u else z0) := by rw [List.getElem?_map, hz0]; rfl
          rw [List.take_add_one, e]
          unfold natV
          rw [List.map_append]
          rfl
        have fin : ∀ y, y = V.int ((if z0 = v then u else z0 : Nat) : Int) → ∃ acc, H4 D = some (.lst acc) ∧ acc.length < sizeLine ∧ (upd H4 D (.lst (acc ++ [y]))) D = some (.lst (natV ((ps.map fun z => if z = v then u else z).take (j + 1)))) ∧ Same H3 (upd H4 D (.lst (acc ++ [y]))) := fun y hy => by
          refine ⟨_, hD4, Evl.sz_lt (by rw [List.length_map, List.length_take, List.length_map]; omega), by rw [upd_same, tk, hy], fun b o e => ?_⟩
          rw [upd_ne (ne_of_none e hD3)]
          exact s5 b o e
        refine ⟨_, rfl, _, rfl, rfl, _, rfl, ?_⟩
        refine ite2 (fun h => ?_) (fun h => ?_)
        · refine ⟨_, rfl, fin _ ?_⟩
          have : (V.int (z0 : Int)) = V.int (v : Int) := of_decide_eq_true h
          injection this with this
          rw [if_pos (by omega)]
        · refine ⟨_, rfl, fin _ ?_⟩
          have : ¬ (V.int (z0 : Int)) = V.int (v : Int) := of_decide_eq_false (Bool.eq_false_iff.mpr h)
          rw [if_neg (fun e => this (by rw [e]))]
      · rintro H4 ⟨hD4, s5⟩
        rw [List.length_map] at hD4
        rw [List.take_of_length_le (by simp)] at hD4
        refine ⟨D, ps.map fun z => if z = v then u else z, _, _, _, _, _, rfl, hD0, hD4, by simp [hpl], ?_, ?_, s3.trans s5, ?_⟩
        · intro x hx
          obtain ⟨z, hz, rfl⟩ := List.mem_map.mp hx
          split
          · exact hpn u (List.mem_of_getElem? hu1)
          · exact hpn z hz
        · rw [List.take_add_one, hkat i b1 i1 j1 kd1 hi hbs1, List.foldl_append, ← hpf]
          show _ = ps.map fun z => if z = (ps[(j1 : Int).toNat]?).getD 0 then (ps[(i1 : Int).toNat]?).getD 0 else z
          rw [Int.toNat_natCast, Int.toNat_natCast, hu1, hv1]
          rfl
        · intro y hy b i2 j2 kd2 e hb2
          rw [List.getElem?_map, List.getElem?_map]
          rw [List.take_add_one, hi] at hy
          rcases List.mem_append.mp hy with z | z
          · rw [hdone y z b i2 j2 kd2 e hb2]
          · have z' : y = V.ref b1 := by simpa using z
            rw [z'] at e
            cases e
            rw [hb1] at hb2
            injection hb2 with hb2
            injection hb2 with hb2
            simp at hb2
            obtain ⟨e1, e2, _⟩ := hb2
            have e1' : i1 = i2 := by omega
            have e2' : j1 = j2 := by omega
            subst e1' e2'
            rw [hu1, hv1]
            show some (if u = v then u else u) = some (if v = v then u else v)
            simp
    · rintro σ H3 ⟨q, ps, v2, v3, v4, v5, v6, rfl, hq0, hq3, hpl, hpn, hpf, s3, hdone⟩
      refine ⟨_, rfl, k q ps H3 hq0 hq3 hpl hpn ?_ ⟨ks, sk, pk, by rw [hpf, List.take_of_length_le (by omega)]⟩ (s02.trans s3)⟩
      intro i j kd v hm
      rw [List.take_of_length_le (Nat.le_refl _)] at hdone
      have hex : ∃ b, V.ref b ∈ ys ∧ H2 b = some (.tup [.int (i : Int), .int (j : Int), .str kd]) := by
        obtain ⟨b, hb, hb1⟩ := keyL_all hk _ hm
        exact ⟨b, pm.mem_iff.mpr (List.mem_map.mpr ⟨b, hb, rfl⟩), s2 _ _ hb1⟩
      obtain ⟨b, hb, hb2⟩ := hex
      exact hdone _ hb b i j kd rfl hb2
end
end Nm
set_option maxRecDepth 100000
set_option maxHeartbeats 4000000
/-! how wide all ties of a world are together -/
namespace Nm
open PySem L2
def wOf : V → Nat
  | .int i => i.toNat
  | _ => 0
def totW (kvs : List (List Key × V)) : Nat := (kvs.map fun kv => wOf kv.2).sum
theorem tot_map {k : List Key} {v : V} : ∀ {kvs : List (List Key × V)} {y : V}, (kvs.map (·.1)).Nodup → valV kvs k = some y → totW (kvs.map fun kv => if kv.1 = k then (kv.1, v) else kv) + wOf y = totW kvs + wOf v
  | [], _, _, h => by rw [valV_nil] at h; cases h
  | p :: r, y, nd, h => by
    rw [List.map_cons, List.nodup_cons] at nd
    by_cases e : p.1 = k
    · rw [valV_pos e] at h
      have h : p.2 = y := Option.some.inj h
      have stay : (r.map fun kv => if kv.1 = k then (kv.1, v) else kv) = r := by
        have : (r.map fun kv => if kv.1 = k then (kv.1, v) else kv) = r.map id := by
          refine List.map_congr_left fun kv hm => ?_
          rw [if_neg (fun z => nd.1 (List.mem_map.mpr ⟨kv, hm, z.trans e.symm⟩))]
          rfl
        rw [this, List.map_id]
      rw [List.map_cons, if_pos e, stay]
      show wOf v + totW r + wOf y = wOf p.2 + totW r + wOf v
      rw [h]
      omega
    · rw [valV_neg e] at h
      have ih := tot_map (v := v) nd.2 h
      rw [List.map_cons, if_neg e]
      show wOf p.2 + totW (r.map fun kv => if kv.1 = k then (kv.1, v) else kv) + wOf y = wOf p.2 + totW r + wOf v
      omega
theorem tot_put {kvs : List (List Key × V)} {k : List Key} (nd : (kvs.map (·.1)).Nodup) (v : V) : totW (putK kvs k v) + wOf ((valV kvs k).getD .non) = totW kvs + wOf v := by
  cases e : valV kvs k with
  | none =>
    rw [putK_new v e]
    unfold totW
    rw [List.map_append, List.sum_append]
    simp [wOf]
  | some y =>
    have h : (kvs.any fun kv => decide (kv.1 = k)) = true := by rw [valV_any, e]; rfl
    have e2 : putK kvs k v = kvs.map fun kv => if kv.1 = k then (kv.1, v) else kv := by
      unfold putK
      rw [if_pos h]
    rw [e2]
    exact tot_map nd e
theorem w_le_tot {kvs : List (List Key × V)} {kv : List Key × V} (h : kv ∈ kvs) : wOf kv.2 ≤ totW kvs := by
  induction kvs with
  | nil => cases h
  | cons p r ih =>
    have e : totW (p :: r) = wOf p.2 + totW r := rfl
    rcases List.mem_cons.mp h with z | z
    · rw [e, z]
      omega
    · have := ih z
      omega
theorem len_le_tot : ∀ {kvs : List (List Key × V)}, (∀ kv ∈ kvs, ∃ x : Nat, kv.2 = V.int (x : Int) ∧ 1 ≤ x) → kvs.length ≤ totW kvs
  | [], _ => Nat.le_refl _
  | p :: r, h => by
    have ih := len_le_tot (kvs := r) fun kv hm => h kv (List.mem_cons_of_mem _ hm)
    obtain ⟨x, e, h1⟩ := h p List.mem_cons_self
    have e2 : totW (p :: r) = wOf p.2 + totW r := rfl
    rw [e2, e, List.length_cons]
    show r.length + 1 ≤ (x : Int).toNat + totW r
    omega
theorem Ties.len {n m : Nat} {kvs : List (List Key × V)} (T : Ties n m kvs) : kvs.length ≤ totW kvs := len_le_tot fun kv hm => by
  obtain ⟨x, h1, h2, _⟩ := T.val kv hm
  exact ⟨x, h1, h2⟩
theorem tot_le_len {n m : Nat} : ∀ {kvs : List (List Key × V)}, Ties n m kvs → totW kvs ≤ m * kvs.length
  | [], _ => Nat.zero_le _
  | p :: r, T => by
    have ih := tot_le_len (kvs := r) (n := n) (m := m) ⟨fun kv hm => T.key kv (List.mem_cons_of_mem _ hm), fun kv hm => T.val kv (List.mem_cons_of_mem _ hm), (List.nodup_cons.mp (by simpa using T.nd)).2⟩
    obtain ⟨x, e, _, h2⟩ := T.val p List.mem_cons_self
    have e2 : totW (p :: r) = wOf p.2 + totW r := rfl
    rw [e2, e, List.length_cons, Nat.mul_succ]
    show (x : Int).toNat + totW r ≤ _
    omega
/-- the width of the tie whose key stands at a reference -/
def wtY (H : Hp) (kvs : List (List Key × V)) (y : V) : Nat := wOf ((valV kvs (rowK (rowAt H y))).getD .non)
theorem wtY_of {H : Hp} {n m : Nat} {kvs : List (List Key × V)} (T : Ties n m kvs) {b : Addr} {i j x : Nat} {kd : Str} (h : H b = some (.tup [.int (i : Int), .int (j : Int), .str kd])) (hm : ([Sum.inl (i : Int), Sum.inl (j : Int), Sum.inr kd], V.int (x : Int)) ∈ kvs) : wtY H kvs (.ref b) = x := by
  unfold wtY
  rw [rowAt_of h]
  show wOf ((valV kvs [Sum.inl (i : Int), Sum.inl (j : Int), Sum.inr kd]).getD .non) = x
  rw [val_of_mem T.nd hm]
  show (x : Int).toNat = x
  omega
theorem sum_keys {kvs : List (List Key × V)} (nd : (kvs.map (·.1)).Nodup) : ((kvs.map (·.1)).map fun k => wOf ((valV kvs k).getD .non)).sum = totW kvs := by
  unfold totW
  rw [List.map_map]
  congr 1
  refine List.map_congr_left fun kv hm => ?_
  show wOf ((valV kvs kv.1).getD .non) = wOf kv.2
  rw [val_of_mem (k := kv.1) (v := kv.2) nd hm]
  rfl
theorem sum_ys {H : Hp} {n m : Nat} {kvs : List (List Key × V)} {bs : List Addr} {ys : List V} (T : Ties n m kvs) (hk : IsKeys H kvs bs) (pm : ys.Perm (bs.map V.ref)) : (ys.map (wtY H kvs)).sum = totW kvs := by
  have e1 : (ys.map (wtY H kvs)).sum = ((bs.map V.ref).map (wtY H kvs)).sum := (pm.map _).sum_nat
  have e2 : (bs.map V.ref).map (wtY H kvs) = ((bs.map V.ref).map fun y => rowK (rowAt H y)).map fun k => wOf ((valV kvs k).getD .non) := by rw [List.map_map, List.map_map, List.map_map]; rfl
  rw [e1, e2, row_key (n := n) (m := m) hk T.key]
  exact sum_keys T.nd
theorem take_step {f : V → Nat} {ys : List V} {i : Nat} {y : V} (h : ys[i]? = some y) : ((ys.take (i + 1)).map f).sum = ((ys.take i).map f).sum + f y := by
  rw [List.take_add_one, h, List.map_append, List.sum_append]
  simp
theorem take_le {f : V → Nat} {ys : List V} (i : Nat) : ((ys.take i).map f).sum ≤ (ys.map f).sum := by
  have e : (ys.map f).sum = ((ys.take i).map f).sum + ((ys.drop i).map f).sum := by
    rw [← List.sum_append, ← List.map_append, List.take_append_drop]
  omega
end Nm
set_option maxRecDepth 100000
set_option maxHeartbeats 4000000
namespace Nm
open PySem L2
def nameN (k : Nat) : Str := ("n" : Str) ++ ((toString (k : Int) : String) : Str)
theorem nameN_w : ∀ k < 100, isWordB (nameN k) = true := by decide +kernel
theorem nameN_nd : ((List.range 100).map nameN).Nodup := by decide +kernel
section
variable {κ : Type} [DecidableEq κ]
theorem val_none_of {kvs : List (κ × V)} {k : κ} (h : k ∉ kvs.map (·.1)) : valV kvs k = none := by
  cases e : valV kvs k with
  | none => rfl
  | some v => exact absurd (valV_in e) h
end
theorem merge_nd : ∀ {kvs acc : List (Key × V)}, ((acc ++ kvs).map (·.1)).Nodup → mergeK acc kvs = acc ++ kvs
  | [], acc, _ => (List.append_nil _).symm
  | kv :: r, acc, h => by
    show mergeK (putK acc kv.1 kv.2) r = acc ++ kv :: r
    have hn : kv.1 ∉ acc.map (·.1) := fun hm => by
      rw [List.map_append, List.nodup_append] at h
      exact h.2.2 kv.1 hm kv.1 (by simp) rfl
    rw [putK_new _ (val_none_of hn)]
    have e : acc ++ kv :: r = (acc ++ [(kv.1, kv.2)]) ++ r := by simp
    rw [e] at h ⊢
    exact merge_nd h
def natOf : V → Nat
  | .int x => x.toNat
  | _ => 0
theorem perm_nat {ys : List V} {l : List Nat} (h : ys.Perm (natV l)) : ∃ zs : List Nat, ys = natV zs ∧ zs.Perm l := by
  refine ⟨ys.map natOf, ?_, ?_⟩
  · unfold natV
    rw [List.map_map]
    conv => lhs; rw [← List.map_id ys]
    refine List.map_congr_left fun v hv => ?_
    obtain ⟨x, _, rfl⟩ := List.mem_map.mp (h.subset hv)
    rfl
  · have := h.map natOf
    unfold natV at this
    rw [List.map_map] at this
    have e : l.map (natOf ∘ fun (i : Nat) => V.int (i : Int)) = l := by
      conv => rhs; rw [← List.map_id l]
      rfl
    rw [e] at this
    exact this
theorem nameN_len : ∀ k : Nat, k < 100 → ("n" : Str).length + ((toString (k : Int) : String) : Str).length ≤ 100 := by decide +kernel
theorem log_small {i : Nat} (h : i < 1000) : (0 + (i : Int)).natAbs.log2 < 1920 := by
  have e : (0 + (i : Int)).natAbs = i := by omega
  rw [e]
  have := Nat.log2_le_self i
  omega
/-- the pairs (place, seat) -/
def seatKV (od : List Nat) (i : Nat) : List (Key × V) := (od.zipIdx.take i).map fun p => (Sum.inl (p.1 : Int), V.int (p.2 : Int))
theorem seat_keys (od : List Nat) : (seatKV od od.length).map (·.1) = od.map fun (x : Nat) => (Sum.inl (x : Int) : Key) := by
  unfold seatKV
  rw [List.take_of_length_le (by simp), List.map_map]
  have : od = od.zipIdx.map (·.1) := by simp
  conv => rhs; rw [this]
  rw [List.map_map]
  rfl
theorem seat_nd {od : List Nat} (h : od.Nodup) : ((seatKV od od.length).map (·.1)).Nodup := by
  rw [seat_keys]
  refine List.Pairwise.map _ (fun a b hab => ?_) h
  exact fun e => hab (by have := Sum.inl.inj e; omega)
theorem seat_mem {od : List Nat} {j x : Nat} (h : od[j]? = some x) : ((Sum.inl (x : Int) : Key), V.int (j : Int)) ∈ seatKV od od.length := by
  unfold seatKV
  rw [List.take_of_length_le (by simp)]
  refine List.mem_map.mpr ⟨(x, j), ?_, rfl⟩
  rw [List.mem_zipIdx_iff_getElem?]
  exact h
theorem seat_step {od : List Nat} {i x : Nat} (h : od[i]? = some x) : seatKV od (i + 1) = seatKV od i ++ [(Sum.inl (x : Int), V.int (i : Int))] := by
  unfold seatKV
  have e : od.zipIdx[i]? = some (x, i) := by simp [h]
  rw [List.take_add_one, e, List.map_append]
  rfl
theorem paired_snoc {α β : Type} {F : α → β → Prop} : ∀ {l : List α} {m : List β} {a : α} {b : β}, Paired F l m → F a b → Paired F (l ++ [a]) (m ++ [b])
  | _, _, _, _, .nil, h => .cons h .nil
  | _, _, _, _, .cons r t, h => .cons r (paired_snoc t h)
structure TxtD (mg : Str → Option Value) : Prop extends TxtC mg where
  dict : mg "dict" = none
  enumerate : mg "enumerate" = none
  str : mg "str" = none
section
variable {P : Program} {w : World} {K : PySem.W.Frag} {mg : Str → Option Value} {base : Heap}
/-! ### _law_seated -/
def spSeated : Sp := fun vs H Q _ => ∃ (s c wd a b t ld : Addr) (cl : List Str) (m : Nat) (kvs : List (List Key × V)) (led : List Nat), vs = [.ref s, .ref wd, .ref ld] ∧ Src H s c ∧ H wd = some (.dK (worldD a b t)) ∧ wd ≠ s ∧ H b = some (.lst (cl.map V.str)) ∧ b ≠ c ∧ H t = some (.dT kvs) ∧ H ld = some (.lst (natV led)) ∧ ld ≠ c ∧
  cl.length = led.length ∧ (∀ x ∈ cl, isWordB x = true) ∧ 1 ≤ led.length ∧ led.length ≤ 100 ∧ kvs.length ≤ 4000 ∧ Ties led.length m kvs ∧
  ∀ (r wd' a' b' t' ld' : Addr) (nm cl' : List Str) (kvs' : List (List Key × V)) (led' : List Nat) (H' : Hp), H wd' = none → H a' = none → H b' = none → H t' = none → H ld' = none → H' r = some (.tup [.ref wd', .ref ld']) → WorldOk H' s c wd' a' b' t' nm cl' kvs' → nm.length = led.length → Ties nm.length m kvs' → kvs'.length ≤ 4000 → totW kvs' ≤ totW kvs →
    H' ld' = some (.lst (natV led')) → led'.length = led.length → (∀ x, x ∈ led' ↔ x ∈ led) → Src H' s c → Kp s c H H' → Q (.ref r) H'
abbrev nSeat : List Str := ["_law_source", "_law_world", "_law_led", "_law_order", "_law_names", "_law_seats", "_law_ties", "_law_one", "_law_other", "_law_kind", "_law_spot", "_law_colours", "_law_k", "_law_new", "_law_old"]
theorem scSeat : FnScope nSeat ["_law_source", "_law_world", "_law_led"] (defScope sSeated) := ⟨rfl, rfl, rfl, by decide +kernel, rfl, by decide +kernel, by decide +kernel⟩
theorem ok_seat {f : Addr} {fd : FuncData} (F : Fun K "_law_seated" "_law_seated" sSeated f fd) (T : TxtD mg) (Ga : Def P w K mg base "_law_any_order" ["_law_source", "_law_items"] 2 (spAny K)) : FnOk P w K mg base CX0 3 f fd ["_law_source", "_law_world", "_law_led"] spSeated := by
  obtain ⟨fa, fda, Ga, ma, ka, ba⟩ := Ga.ex
  refine F.ok scSeat (fun vs H Q E h => ?_) (fun cdv A outer s H vs Q E hr h => ?_)
  · obtain ⟨_, _, _, _, _, _, _, _, _, _, _, rfl, _⟩ := h
    rfl
  · obtain ⟨sa, ca, wd, a, b, t, ld, cl, m, kvs, led, rfl, S, hwd, nws, hb, nbc, ht, hld, nlc, hcl, hcw, hn1, hn2, hkl, ti, k⟩ := h
    have hu := hu_of hr
    refine ⟨_, Evl.pss_cut (ps_set (i := 3) scSeat.nd rfl (Or.inl rfl) (pe_call Ga hr (by rfl) ma ka ba .nil pass0 (pa_cons (pv 0) (pa_cons (pe_listRg rfl (by rfl) T.list (prg_1 (by rfl) T.range (pe_callB call_len_seq (by rfl) T.len PySem.boot_len (pa_cons (pv 2) pa_nil)))) pa_nil))))
      (Evl.pss_cut (ps_set (i := 4) scSeat.nd rfl (Or.inl rfl) (pe_call Ga hr (by rfl) ma ka ba .nil pass0 (pa_cons (pv 0) (pa_cons (pe_lc (own := [("_law_k", 12)]) (g := gName 12) (tt := tYes) rfl scSeat.nd (pi_range1 (by rfl) T.range (pa_cons (pe_callB call_len_seq (by rfl) T.len PySem.boot_len (pa_cons (pv 2) pa_nil)) pa_nil))
          (blkOk_by (N := nSeat) (sc := defScope sSeated) (by decide +kernel)) (fun _ _ _ _ _ => pg_name (i := 12) scSeat.nd rfl (Or.inl rfl)) (fun _ _ _ _ _ => pts_nil)
          (fun _ _ _ _ _ => pe_op op_add_str pe_str (pe_callTy call_str_int (by rfl) T.str (by decide +kernel) (pa_cons (pv 12) pa_nil)))) pa_nil))))
      (Evl.pss_cut (ps_set (i := 5) scSeat.nd rfl (Or.inl rfl) (pe_callTy (call_dictP rfl) (by rfl) T.dict (by decide +kernel) (pa_cons (pe_lc (own := [("_law_new", 13), ("_law_old", 14)]) (g := gTup K 2 (gCons (gName 13) (gCons (gName 14) gNil))) (tt := tYes) rfl scSeat.nd (pi_enum (by rfl) T.enumerate (pa_cons (pv 3) pa_nil))
          (blkOk_by (N := nSeat) (sc := defScope sSeated) (by decide +kernel)) (fun _ _ _ _ _ => pg_tup rfl (pgs_cons (pg_name (i := 13) scSeat.nd rfl (Or.inl rfl)) (pgs_cons (pg_name (i := 14) scSeat.nd rfl (Or.inl rfl)) pgs_nil))) (fun _ _ _ _ _ => pts_nil)
          (fun _ _ _ _ _ => pe_tup (pa_cons (pv 14) (pa_cons (pv 13) pa_nil)))) pa_nil)))
      (pss_cons (ps_set (i := 6) scSeat.nd rfl (Or.inl rfl) pe_dnewT)
      (Evl.pss_cut (ps_for PassesOwn.never rfl (pi_list (pe_callB cr_sortedR (by rfl) T.sorted (by decide +kernel) (pa_cons (pe_callTy (call_list_dT rfl) (by rfl) T.list (by decide +kernel) (pa_cons (pe_dget hu (pv 1) pe_str (fun _ _ => rfl)) pa_nil)) pa_nil)))
          (pg_tup rfl (pgs_cons (pg_name (i := 7) scSeat.nd rfl (.inl rfl)) (pgs_cons (pg_name (i := 8) scSeat.nd rfl (.inl rfl)) (pgs_cons (pg_name (i := 9) scSeat.nd rfl (.inl rfl)) pgs_nil))))
        (pss_cons (ps_set (i := 10) scSeat.nd rfl (Or.inl rfl) (pe_callB cr_sorted (by rfl) T.sorted (by decide +kernel) (pa_cons (pe_lst (pa_cons (pe_dget hu (pv 5) (pv 7) (fun _ _ => rfl)) (pa_cons (pe_dget hu (pv 5) (pv 8) (fun _ _ => rfl)) pa_nil))) pa_nil)))
        (pss_one (ps_dput hu (pv 6) (pe_tup (pa_cons (pe_ix ix_list (pv 10) pe_int (fun _ _ => rfl)) (pa_cons (pe_ix ix_list (pv 10) pe_int (fun _ _ => rfl)) (pa_cons (pv 9) pa_nil)))) (pe_dget hu (pe_dget hu (pv 1) pe_str (fun _ _ => rfl)) (pe_tup (pa_cons (pv 7) (pa_cons (pv 8) (pa_cons (pv 9) pa_nil)))) (fun _ _ => rfl)) rfl))))
      (Evl.pss_cut (ps_setLc (i := 11) (own := [("_law_old", 14)]) (g := gName 14) (tt := tYes) (te := tOp (rIxL K) (tDGet (tVar 1) (tC (.str "colours"))) (tVar 14)) rfl scSeat.nd rfl rfl (sw_true rfl rfl rfl (by decide +kernel)) (pi_list (pv 3))
          (blkOk_by (N := nSeat) (sc := defScope sSeated) (by decide +kernel)) (fun _ _ _ _ _ => pg_name (i := 14) scSeat.nd rfl (Or.inl rfl)) (fun _ _ _ _ _ => pts_nil)
          (fun _ _ _ _ _ => by exact pe_ix ix_list (pe_dget hu (pv 1) pe_str (fun _ _ => rfl)) (pv 14) (fun _ _ => rfl)))
      (pss_one (ps_ret (pe_tup (pa_cons (pe_disp (pps_cons pe_str (pv 4) (pps_cons pe_str (pv 11) (pps_cons pe_str (pv 6) pps_nil))) (by rfl) (by rfl) (fun z => by cases z) (by decide)) (pa_cons
          (pe_lc (own := [("_law_old", 14)]) (g := gName 14) (tt := tYes) (te := tOp (rIxL K) (tVar 2) (tVar 14)) rfl scSeat.nd (pi_list (pv 3))
          (blkOk_by (N := nSeat) (sc := defScope sSeated) (by decide +kernel)) (fun _ _ _ _ _ => pg_name (i := 14) scSeat.nd rfl (Or.inl rfl)) (fun _ _ _ _ _ => pts_nil)
          (fun _ _ _ _ _ => by exact pe_ix ix_list (pv 2) (pv 14) (fun _ _ => rfl))) pa_nil)))))))))), ?_⟩
    generalize hN : led.length = N at *
    -- order
    refine ⟨fun σ H1 => ∃ o od, σ = [some (.ref sa), some (.ref wd), some (.ref ld), some (.ref o), none, none, none, none, none, none, none, none, none, none, none] ∧ H o = none ∧ H1 o = some (.lst (natV od)) ∧ od.Perm (List.range N) ∧ Src H1 sa ca ∧ Kp sa ca H H1, ?_, ?_⟩
    · refine ⟨_, rfl, _, rfl, ld, _, rfl, .inl (SqL.of hld), _, rfl, RgOk.of_le (by omega) (by rw [List.length_map]; omega) (by omega) (by omega), fun q hq => ?_⟩
      refine ⟨sa, ca, q, _, rfl, S.new hq, SqL.of upd_same, by rw [List.length_map, hN, rgV_nat]; simp; omega, fun p ys H1 hp pm hpl S1 kp1 => ?_⟩
      rw [List.length_map, hN, rgV_nat] at pm
      obtain ⟨od, rfl, po⟩ := perm_nat pm
      have hq' : H p = none := (same_new hq).free hp
      exact ⟨p, od, rfl, hq', hpl, po, S1, (Kp.same (same_new hq)).trans kp1⟩
    rintro σ H1 ⟨o, od, rfl, ho0, ho, po, S1, kp1⟩
    have hol : od.length = N := by rw [po.length_eq]; simp
    obtain ⟨nos, noc⟩ := S.ne ho0
    obtain ⟨cs0, l0, m0, t0, S0⟩ := id S
    have nls : ld ≠ sa := ne_of hld S0.ds (by intro z; cases z)
    have nbs : b ≠ sa := ne_of hb S0.ds (by intro z; cases z)
    have nts : t ≠ sa := ne_of ht S0.ds (by intro z; cases z)
    have ntc : t ≠ ca := ne_of ht S0.dc (by intro z; cases z)
    have nwc : wd ≠ ca := ne_of hwd S0.dc (by intro z; cases z)
    have hld1 := kp1 _ _ hld nls nlc
    -- names
    refine ⟨fun σ H2 => ∃ na nm, σ = [some (.ref sa), some (.ref wd), some (.ref ld), some (.ref o), some (.ref na), none, none, none, none, none, none, none, none, none, none] ∧ H na = none ∧ H2 na = some (.lst (List.map V.str nm)) ∧ nm.Perm ((List.range N).map nameN) ∧ Src H2 sa ca ∧ Kp sa ca H1 H2, ?_, ?_⟩
    · refine ⟨_, rfl, _, rfl, ld, _, rfl, .inl (SqL.of hld1), _, rfl, by rw [List.length_map]; omega, by rw [List.length_map]; omega, fun D hD => ?_⟩
      rw [List.length_map, hN]
      refine lc_range (lo := 0) (n := N) (fun i H2 => H2 D = some (.lst (((List.range i).map nameN).map V.str)) ∧ Same H1 H2) ⟨upd_same, same_new hD⟩ ?_ ?_
      · rintro i H2 hi ⟨hD2, s2⟩
        refine ⟨rfl, tyes ?_⟩
        have hl := nameN_len i (by omega)
        refine ⟨_, rfl, _, rfl, log_small (by omega), _, _, rfl, rfl, ?_, _, hD2, Evl.sz_lt (by simp; omega), ?_, ?_⟩
        · rw [Int.zero_add]
          exact Evl.sz_of (by omega)
        · rw [upd_same, List.range_succ, List.map_append, List.map_append, Int.zero_add]
          rfl
        · intro b o e
          rw [upd_ne (ne_of_none e hD)]
          exact s2 b o e
      · rintro H2 ⟨hD2, s2⟩
        refine ⟨sa, ca, D, _, rfl, S1.same s2, SqL.of hD2, by simp; omega, fun p ys H3 hp pm hpl S3 kp3 => ?_⟩
        obtain ⟨nm, rfl, pn⟩ := perm_str pm
        have hp0 : H p = none := kp1.free S1 (s2.free hp)
        exact ⟨p, nm, rfl, hp0, hpl, pn, S3, (Kp.same s2).trans kp3⟩
    rintro σ H2 ⟨na, nm, rfl, hna0, hna, pn, S2, kp2⟩
    have hnl : nm.length = N := by rw [pn.length_eq]; simp
    obtain ⟨nns, nnc⟩ := S.ne hna0
    have ho2 := kp2 _ _ ho nos noc
    have kp02 := kp1.trans kp2
    -- seats
    refine ⟨fun σ H3 => ∃ se, σ = [some (.ref sa), some (.ref wd), some (.ref ld), some (.ref o), some (.ref na), some (.ref se), none, none, none, none, none, none, none, none, none] ∧ H3 se = some (.dK (seatKV od od.length)) ∧ Same H2 H3, ?_, ?_⟩
    · refine ⟨_, rfl, o, _, rfl, SqL.of ho2, fun D hD => ?_⟩
      refine lc_it (walk_enum (xs := natV od)) (fun i H3 => ∃ ps : List Addr, H3 D = some (.lst (ps.map V.ref)) ∧ ps.length = i ∧ Paired (fun p kv => H3 p = some (.tup [kV kv.1, kv.2])) ps (seatKV od i) ∧ Same H2 H3) ⟨[], upd_same, rfl, .nil, same_new hD⟩ (fun i H3 _ ⟨_, _, _, _, h⟩ => SqL.of (h _ _ ho2)) ?_ ?_
      · rintro i x H3 H4 hi ⟨ps, hD3, hpl, pr, s3⟩ ⟨T, x1, y1, rfl, hT, rfl, e1, e2⟩
        rw [List.length_map] at hi
        have e2 : (natV od)[i]? = some y1 := e2
        rw [List.getElem?_map] at e2
        obtain ⟨y0, hy0, rfl⟩ := Option.map_eq_some_iff.mp e2
        cases e1
        refine ⟨T, _, rfl, SqT.of upd_same, rfl, _, _, rfl, _, _, rfl, rfl, rfl, tyes ?_⟩
        refine ⟨_, rfl, _, rfl, (by show 2 ≤ sizeLine; decide), fun u hu => ?_⟩
        have sT := same_new (o := .tup [V.int (i : Nat), V.int (y0 : Int)]) hT
        have su := same_new (o := .tup [V.int (y0 : Int), V.int (i : Nat)]) hu
        have sTu := sT.trans su
        have nDu : u ≠ D := fun e => by subst e; rw [sT _ _ hD3] at hu; cases hu
        refine ⟨_, sTu _ _ hD3, Evl.sz_lt (by rw [List.length_map]; omega), ps ++ [u], by rw [upd_same, List.map_append]; rfl, by simp [hpl], ?_, ?_⟩
        · rw [seat_step hy0]
          refine paired_snoc (Paired.mapP pr fun p kv h => ?_) ?_
          · rw [upd_ne (ne_of h hD3 (by intro z; cases z))]
            exact sTu _ _ h
          · rw [upd_ne nDu]
            exact upd_same
        · intro b ob e
          rw [upd_ne (ne_of_none e hD)]
          exact sTu _ _ (s3 b ob e)
      · rintro H3 ⟨ps, hD3, hpl, pr, s3⟩
        rw [List.length_map] at pr
        refine ⟨D, ps, seatKV od od.length, rfl, SqL.of hD3, Paired.mapP pr fun p kv h => SqT.of h, fun p hp => ?_⟩
        have nd : ((seatKV od od.length).map (·.1)).Nodup := seat_nd (po.nodup_iff.mpr List.nodup_range)
        refine ⟨p, rfl, ?_, s3.trans (same_new hp)⟩
        rw [upd_same, merge_nd (acc := []) (by simpa using nd)]
        rfl
    rintro σ H3 ⟨se, rfl, hse, s3⟩
    intro t2 ht2
    have s4 := same_new (o := .dT []) ht2
    have s24 := s3.trans s4
    have S4 := S2.same s24
    have kp04 : Kp sa ca H (upd H3 t2 (.dT [])) := kp02.trans (Kp.same s24)
    have h20 : H t2 = none := kp02.free S2 (s3.free ht2)
    obtain ⟨n2s, n2c⟩ := S.ne h20
    have hwd4 := kp04 _ _ hwd nws nwc
    have hb4 := kp04 _ _ hb nbs nbc
    have ht4 := kp04 _ _ ht nts ntc
    have hld4 := kp04 _ _ hld nls nlc
    have ho4 := s24 _ _ ho2
    have hna4 := s24 _ _ hna
    have hse4 := s4 _ _ hse
    have h24 : (upd H3 t2 (.dT [])) t2 = some (.dT []) := upd_same
    have ntt : t2 ≠ t := fun e => by subst e; rw [h20] at ht; cases ht
    generalize upd H3 t2 (.dT []) = H4 at *
    -- the ties
    refine ⟨fun σ H5 => ∃ v7 v8 v9 v10 kv2, σ = [some (.ref sa), some (.ref wd), some (.ref ld), some (.ref o), some (.ref na), some (.ref se), some (.ref t2), v7, v8, v9, v10, none, none, none, none] ∧ H5 t2 = some (.dT kv2) ∧ Ties N m kv2 ∧ (kv2.length ≤ 4000 ∧ totW kv2 ≤ totW kvs) ∧ (∀ b o, H4 b = some o → b ≠ t2 → H5 b = some o), ?_, ?_⟩
    · refine ⟨_, rfl, wd, _, rfl, dg_ties hwd4, t, kvs, rfl, .inl ht4, fun l bs hl hk => ?_⟩
      obtain ⟨kl, hbl⟩ := keyL_of hk
      have kl2 := kl.same (same_new (o := .lst (bs.map V.ref)) hl)
      obtain ⟨so1, so2⟩ := sort_ties kl2 ti
      refine ⟨l, _, _, rfl, SqL.of upd_same, so1, so2, fun ys p pm hp => ?_⟩
      have s5 := (same_new (o := .lst (bs.map V.ref)) hl).trans (same_new (o := .lst ys) hp)
      have kly : KeyL (upd (upd H4 l (.lst (bs.map V.ref))) p (.lst ys)) kvs ys := fun y hy => (kl.same s5) y (pm.subset hy)
      have hpp : (upd (upd H4 l (.lst (bs.map V.ref))) p (.lst ys)) p = some (.lst ys) := upd_same
      have hyl : ys.length ≤ 4000 := by rw [pm.length_eq, List.length_map]; omega
      have np2 : p ≠ t2 := fun e => by subst e; rw [same_new hl _ _ h24] at hp; cases hp
      have sumY := sum_ys ti (isKeys_same hk s5) pm
      generalize upd (upd H4 l (.lst (bs.map V.ref))) p (.lst ys) = H5 at *
      refine ⟨p, rfl, ⟨_, SqL.of hpp⟩, ?_⟩
      refine for_list (xs := ys) (fun i σ H6 => ∃ v7 v8 v9 v10 kv2, σ = [some (.ref sa), some (.ref wd), some (.ref ld), some (.ref o), some (.ref na), some (.ref se), some (.ref t2), v7, v8, v9, v10, none, none, none, none] ∧ H6 t2 = some (.dT kv2) ∧ Ties N m kv2 ∧ (kv2.length ≤ i ∧ totW kv2 ≤ ((ys.take i).map (wtY H5 kvs)).sum) ∧ (∀ b o, H5 b = some o → b ≠ t2 → H6 b = some o))
        ⟨none, none, none, none, [], rfl, s5 _ _ h24, Ties.nil N m, ⟨Nat.le_refl _, Nat.zero_le _⟩, fun b o e _ => e⟩ (fun i σ H6 _ ⟨_, _, _, _, _, _, _, _, _, h⟩ => SqL.of (h _ _ hpp np2)) ?_ ?_
      · rintro i y σ H6 hi ⟨v7, v8, v9, v10, kv2, rfl, h26, ti6, ⟨hl6, hl6b⟩, kp6⟩
        have hil := (List.getElem?_eq_some_iff.mp hi).1
        obtain ⟨b1, i1, j1, x1, kd1, rfl, hb1, hmem, hij, hjn, hkw, hx1, hx2⟩ := kly.tie ti (List.mem_of_getElem? hi)
        have stay : ∀ b o, H4 b = some o → b ≠ t2 → H6 b = some o := fun b o e h => kp6 b o (s5 _ _ e) h
        have nb12 : b1 ≠ t2 := ne_of hb1 (s5 _ _ h24) (by intro z; cases z)
        have hb6 := kp6 _ _ hb1 nb12
        have hse6 := stay _ _ hse4 (ne_of hse4 h24 (by intro z; cases z))
        have hwd6 := stay _ _ hwd4 (ne_of hwd4 h24 (by intro z; cases z))
        have ht6 := stay _ _ ht4 ntt.symm
        have seat : ∀ x < N, ∃ j, od[j]? = some x ∧ j < N ∧ valV (seatKV od od.length) (Sum.inl (x : Int) : Key) = some (V.int (j : Int)) := fun x hx => by
          obtain ⟨j, hj⟩ := List.getElem?_of_mem (po.mem_iff.mpr (List.mem_range.mpr hx))
          have hjl := (List.getElem?_eq_some_iff.mp hj).1
          exact ⟨j, hj, by omega, val_of_mem (seat_nd (po.nodup_iff.mpr List.nodup_range)) (seat_mem hj)⟩
        obtain ⟨u1, hu1, hu1n, hv1⟩ := seat i1 (by omega)
        obtain ⟨u2, hu2, hu2n, hv2⟩ := seat j1 hjn
        have hne : u1 ≠ u2 := fun e => by subst e; rw [hu1] at hu2; have := Option.some.inj hu2; omega
        refine ⟨b1, _, rfl, SqT.of hb6, rfl, _, _, rfl, _, _, rfl, _, _, rfl, rfl, ?_⟩
        refine ⟨_, rfl, _, rfl, se, _, rfl, (by rw [← hv1]; exact DGet.k (k := Sum.inl (i1 : Int)) hse6), _, rfl, _, rfl, se, _, rfl, (by rw [← hv2]; exact DGet.k (k := Sum.inl (j1 : Int)) hse6), (by show 2 ≤ sizeLine; decide), fun l1 hl1 => ?_⟩
        refine ⟨l1, [(u1 : Int), (u2 : Int)], rfl, SqL.of upd_same, (by show 2 < 64; decide), fun ns sp pms srt hsp => ?_⟩
        obtain ⟨n0, n1, rfl, h01, h1N⟩ : ∃ n0 n1 : Nat, ns = [(n0 : Int), (n1 : Int)] ∧ n0 < n1 ∧ n1 < N := by
          have hl2 : ns.length = 2 := pms.length_eq
          match ns, hl2 with
          | [z0, z1], _ =>
            have hle : z0 ≤ z1 := by simpa using srt
            have h0 := pms.mem_iff.mp (show z0 ∈ [z0, z1] by simp)
            have h1 := pms.mem_iff.mp (show z1 ∈ [z0, z1] by simp)
            have h2 := pms.mem_iff.mpr (show (u1 : Int) ∈ [(u1 : Int), (u2 : Int)] by simp)
            have h3 := pms.mem_iff.mpr (show (u2 : Int) ∈ [(u1 : Int), (u2 : Int)] by simp)
            simp at h0 h1 h2 h3
            refine ⟨z0.toNat, z1.toNat, ?_, by omega, by omega⟩
            rw [Int.toNat_of_nonneg (by omega), Int.toNat_of_nonneg (by omega)]
        have s7 := (same_new (o := .lst ([(u1 : Int), (u2 : Int)].map V.int)) hl1).trans (same_new (o := .lst ([(n0 : Int), (n1 : Int)].map V.int)) hsp)
        have hsp7 : (upd (upd H6 l1 (.lst ([(u1 : Int), (u2 : Int)].map V.int))) sp (.lst ([(n0 : Int), (n1 : Int)].map V.int))) sp = some (.lst [V.int (n0 : Int), V.int (n1 : Int)]) := upd_same
        refine ⟨_, rfl, wd, _, rfl, dg_ties (s7 _ _ hwd6), _, rfl, _, rfl, _, rfl, (by show 3 ≤ sizeLine; decide), fun q1 hq1 => ?_⟩
        have s8 := s7.trans (same_new (o := .tup [V.int (i1 : Int), V.int (j1 : Int), V.str kd1]) hq1)
        refine ⟨t, V.int (x1 : Int), rfl, (by rw [← val_of_mem ti.nd hmem]; exact DGet.t (k := [Sum.inl (i1 : Int), Sum.inl (j1 : Int), Sum.inr kd1]) (s8 _ _ ht6) upd_same), ?_⟩
        have hsp8 := same_new (o := .tup [V.int (i1 : Int), V.int (j1 : Int), V.str kd1]) hq1 _ _ hsp7
        refine ⟨_, rfl, _, rfl, sp, _, 0, V.int (n0 : Int), rfl, rfl, SqL.of hsp8, atI_nat (j := 0) rfl, _, rfl, sp, _, 1, V.int (n1 : Int), rfl, rfl, SqL.of hsp8, atI_nat (j := 1) rfl, _, rfl, (by show 3 ≤ sizeLine; decide), fun q2 hq2 => ?_⟩
        have s9 := s8.trans (same_new (o := .tup [V.int (n0 : Int), V.int (n1 : Int), V.str kd1]) hq2)
        refine ⟨t2, _, rfl, DPut.t (k := [Sum.inl (n0 : Int), Sum.inl (n1 : Int), Sum.inr kd1]) (s9 _ _ h26) upd_same (Evl.sz_lt (by omega)), ?_⟩
        refine ⟨_, _, _, _, _, rfl, upd_same, ti6.put ⟨n0, n1, kd1, rfl, h01, h1N, hkw⟩ hx1 hx2, ⟨by have := length_putK kv2 [Sum.inl (n0 : Int), Sum.inl (n1 : Int), Sum.inr kd1] (V.int (x1 : Int)); omega, by
          have e1 := tot_put (k := [Sum.inl (n0 : Int), Sum.inl (n1 : Int), Sum.inr kd1]) ti6.nd (V.int (x1 : Int))
          have e2 : wOf (V.int (x1 : Int)) = x1 := Int.toNat_natCast _
          rw [take_step hi, wtY_of ti hb1 hmem]
          omega⟩, fun b o e h => ?_⟩
        rw [upd_ne h]
        exact s9 _ _ (kp6 b o e h)
      · rintro σ H6 ⟨v7, v8, v9, v10, kv2, rfl, h26, ti6, hl6, kp6⟩
        exact ⟨v7, v8, v9, v10, kv2, rfl, h26, ti6, ⟨by omega, by have := take_le (f := wtY H5 kvs) (ys := ys) ys.length; omega⟩, fun b o e h => kp6 b o (s5 _ _ e) h⟩
    rintro σ H5 ⟨v7, v8, v9, v10, kv2, rfl, h25, ti5, hl5, kp5⟩
    have S5 : Src H5 sa ca := by
      obtain ⟨cs, l, m, tt, S4⟩ := S4
      exact ⟨cs, l, m, tt, ⟨kp5 _ _ S4.ds n2s.symm, kp5 _ _ S4.dc n2c.symm, S4.nn, S4.len, S4.l0, S4.m0, S4.m1, S4.t0⟩⟩
    have kp05 : Kp sa ca H H5 := fun b o e h1 h2 => kp5 b o (kp04 b o e h1 h2) (ne_of_none e h20)
    have hwd5 := kp5 _ _ hwd4 (ne_of hwd4 h24 (by intro z; cases z))
    have hb5 := kp5 _ _ hb4 (ne_of hb4 h24 (by intro z; cases z))
    have hld5 := kp5 _ _ hld4 (ne_of hld4 h24 (by intro z; cases z))
    have ho5 := kp5 _ _ ho4 (ne_of ho4 h24 (by intro z; cases z))
    have hna5 := kp5 _ _ hna4 (ne_of hna4 h24 (by intro z; cases z))
    have odN : ∀ x ∈ od, x < N := fun x hx => List.mem_range.mp (po.mem_iff.mp hx)
    -- colours
    refine ⟨fun σ H6 => ∃ bc cl2, σ = [some (.ref sa), some (.ref wd), some (.ref ld), some (.ref o), some (.ref na), some (.ref se), some (.ref t2), v7, v8, v9, v10, some (.ref bc), none, none, none] ∧ H bc = none ∧ H6 bc = some (.lst (List.map V.str cl2)) ∧ cl2.length = N ∧ (∀ x ∈ cl2, isWordB x = true) ∧ Same H5 H6, ?_, ?_⟩
    · refine ⟨_, rfl, o, rfl, ⟨_, SqL.of ho5⟩, fun D hD => ?_⟩
      refine lc_list (xs := natV od) (fun i H6 => ∃ cl2, H6 D = some (.lst (List.map V.str cl2)) ∧ cl2.length = i ∧ (∀ x ∈ cl2, isWordB x = true) ∧ Same H5 H6) ⟨[], upd_same, rfl, (fun x hx => (List.not_mem_nil hx).elim), same_new hD⟩ (fun i H6 _ ⟨_, _, _, _, h⟩ => SqL.of (h _ _ ho5)) ?_ ?_
      · rintro i x H6 hi ⟨cl2, hD6, hcl2, hcw2, s6⟩
        have hil := (List.getElem?_eq_some_iff.mp hi).1
        rw [List.length_map] at hil
        rw [List.getElem?_map] at hi
        obtain ⟨y0, hy0, rfl⟩ := Option.map_eq_some_iff.mp hi
        have hyN := odN y0 (List.mem_of_getElem? hy0)
        obtain ⟨cy, hcy⟩ : ∃ cy, cl[y0]? = some cy := ⟨_, List.getElem?_eq_getElem (by omega)⟩
        refine ⟨rfl, tyes ?_⟩
        refine ⟨_, rfl, wd, _, rfl, dg_colours (s6 _ _ hwd5), _, rfl, b, _, _, V.str cy, rfl, rfl, SqL.of (s6 _ _ hb5), atI_nat (by rw [List.getElem?_map, hcy]; rfl), ?_⟩
        refine ⟨_, hD6, Evl.sz_lt (by rw [List.length_map]; omega), cl2 ++ [cy], by rw [upd_same, List.map_append]; rfl, by simp [hcl2], ?_, ?_⟩
        · intro x hx
          rcases List.mem_append.mp hx with z | z
          · exact hcw2 x z
          · rw [List.mem_singleton] at z
            subst z
            exact hcw _ (List.mem_of_getElem? hcy)
        · intro b o e
          rw [upd_ne (ne_of_none e hD)]
          exact s6 b o e
      · rintro H6 ⟨cl2, hD6, hcl2, hcw2, s6⟩
        rw [List.length_map] at hcl2
        exact ⟨D, cl2, rfl, kp05.free S5 hD, hD6, by omega, hcw2, s6⟩
    rintro σ H6 ⟨bc, cl2, rfl, hbc0, hbc, hcl2, hcw2, s6⟩
    have S6 := S5.same s6
    have kp06 := kp05.trans (Kp.same s6)
    obtain ⟨nbs', nbc'⟩ := S.ne hbc0
    -- the answer
    intro p hp
    have sp := same_new (o := .dK []) hp
    have hp0 : H p = none := kp06.free S6 hp
    obtain ⟨nps, npc⟩ := S.ne hp0
    refine ⟨_, rfl, _, rfl, _, rfl, upd_same, worldD na bc t2, rfl, (by show 3 ≤ 15; decide), ?_⟩
    rw [merge_wd]
    have hna6 := s6 _ _ hna5
    have h26 := s6 _ _ h25
    have npn : p ≠ na := fun e => by subst e; rw [hna6] at hp; cases hp
    have npb : p ≠ bc := fun e => by subst e; rw [hbc] at hp; cases hp
    have np2 : p ≠ t2 := fun e => by subst e; rw [h26] at hp; cases hp
    have ud : ∀ b o, H6 b = some o → (upd (upd H6 p (.dK [])) p (.dK (worldD na bc t2))) b = some o := fun b o e => by
      rw [upd_ne (ne_of_none e hp), upd_ne (ne_of_none e hp)]
      exact e
    have hpp : (upd (upd H6 p (.dK [])) p (.dK (worldD na bc t2))) p = some (.dK (worldD na bc t2)) := upd_same
    have s7 : Same H6 (upd (upd H6 p (.dK [])) p (.dK (worldD na bc t2))) := ud
    generalize upd (upd H6 p (.dK [])) p (.dK (worldD na bc t2)) = H7 at *
    refine ⟨_, rfl, o, rfl, ⟨_, SqL.of (s7 _ _ (s6 _ _ ho5))⟩, fun D hD => ?_⟩
    have S7 := S6.same s7
    have kp07 := kp06.trans (Kp.same s7)
    have hD0 : H D = none := kp07.free S7 hD
    refine lc_list (xs := natV od) (fun i H8 => ∃ led', H8 D = some (.lst (natV led')) ∧ led'.length = i ∧ led' = (od.take i).map (fun y => led.getD y 0) ∧ Same H7 H8) ⟨[], upd_same, rfl, rfl, same_new hD⟩ (fun i H8 _ ⟨_, _, _, _, h⟩ => SqL.of (h _ _ (s7 _ _ (s6 _ _ ho5)))) ?_ ?_
    · rintro i x H8 hi ⟨led', hD8, hll, hlm, s8⟩
      have hil := (List.getElem?_eq_some_iff.mp hi).1
      rw [List.length_map] at hil
      rw [List.getElem?_map] at hi
      obtain ⟨y0, hy0, rfl⟩ := Option.map_eq_some_iff.mp hi
      have hyN := odN y0 (List.mem_of_getElem? hy0)
      obtain ⟨ly, hly⟩ : ∃ ly, led[y0]? = some ly := ⟨_, List.getElem?_eq_getElem (by omega)⟩
      refine ⟨rfl, tyes ?_⟩
      refine ⟨_, rfl, _, rfl, ld, _, _, V.int (ly : Int), rfl, rfl, SqL.of (s8 _ _ (s7 _ _ (s6 _ _ hld5))), atI_nat (by rw [List.getElem?_map, hly]; rfl), ?_⟩
      refine ⟨_, hD8, Evl.sz_lt (by rw [List.length_map]; omega), led' ++ [ly], by unfold natV; rw [upd_same, List.map_append]; rfl, by simp [hll], ?_, ?_⟩
      · rw [List.take_add_one, hy0, List.map_append, hlm]
        show _ = _ ++ [led.getD y0 0]
        rw [List.getD_eq_getElem?_getD, hly]
        rfl
      · intro b o e
        rw [upd_ne (ne_of_none e hD)]
        exact s8 b o e
    · rintro H8 ⟨led', hD8, hll, hlm, s8⟩
      replace hlm : ∀ x, x ∈ led' ↔ x ∈ led := fun x => by
        rw [List.take_of_length_le (by rw [List.length_map]; omega)] at hlm
        rw [hlm, List.mem_map]
        constructor
        · rintro ⟨y, hy, rfl⟩
          have hyN := odN y hy
          rw [List.getD_eq_getElem?_getD, List.getElem?_eq_getElem (show y < led.length by omega)]
          exact List.getElem_mem _
        · intro hx
          obtain ⟨y, hy⟩ := List.getElem?_of_mem hx
          have hyl := (List.getElem?_eq_some_iff.mp hy).1
          refine ⟨y, po.mem_iff.mpr (List.mem_range.mpr (by omega)), ?_⟩
          rw [List.getD_eq_getElem?_getD, hy]
          rfl
      rw [List.length_map] at hll
      refine ⟨(by show 2 ≤ sizeLine; decide), fun r hr => ?_⟩
      have s9 := s8.trans (same_new (o := .tup [.ref p, .ref D]) hr)
      have kp09 := kp07.trans (Kp.same s9)
      refine k r p na bc t2 D nm cl2 kv2 led' _ hp0 hna0 hbc0 h20 hD0 upd_same ⟨s9 _ _ hpp, s9 _ _ (s7 _ _ hna6), s9 _ _ (s7 _ _ hbc), s9 _ _ (s7 _ _ h26), ⟨nps, npc⟩, ⟨nns, nnc⟩, ⟨nbs', nbc'⟩, ⟨n2s, n2c⟩, ?_, ?_, hcw2, by omega, by omega⟩ (by omega) (by rw [hnl]; exact ti5) hl5.1 hl5.2 (same_new hr _ _ hD8) (by omega) hlm (S7.same s9) kp09
      · refine pn.nodup_iff.mpr (List.Sublist.nodup (List.Sublist.map nameN ?_) nameN_nd)
        exact List.range_sublist.mpr hn2
      · intro x hx
        obtain ⟨y, hy, rfl⟩ := List.mem_map.mp (pn.mem_iff.mp hx)
        exact nameN_w y (by have := List.mem_range.mp hy; omega)
end
end Nm
set_option maxRecDepth 100000
set_option maxHeartbeats 4000000
namespace Nm
open PySem L2
theorem Ties.mono {n m m' : Nat} {kvs : List (List Key × V)} (h : Ties n m kvs) (e : m ≤ m') : Ties n m' kvs := ⟨h.key, fun kv hm => by
  obtain ⟨x, a, b, c⟩ := h.val kv hm
  exact ⟨x, a, b, by omega⟩, h.nd⟩
def SeatsOk (kvS : List (List Key × V)) (led : List Nat) (ok : Nat → Nat → Prop) : Prop := ∀ p u, ok p u → ∃ idx : Nat, led[idx]? = some p ∧ valV kvS [Sum.inl (p : Int), Sum.inl (u : Int)] = some (V.int (idx : Int))
theorem SeatsOk.put {kvS : List (List Key × V)} {led : List Nat} {ok ok' : Nat → Nat → Prop} (h : SeatsOk kvS led ok) {i j : Nat} (e : ∀ p u, ok' p u → ok p u ∨ (p = i ∧ u = j)) :
    SeatsOk (putK kvS [Sum.inl (i : Int), Sum.inl (j : Int)] (V.int (led.length : Int))) (led ++ [i]) ok' := by
  intro p u hp
  rw [valV_put]
  by_cases hk : ([Sum.inl (p : Int), Sum.inl (u : Int)] : List Key) = [Sum.inl (i : Int), Sum.inl (j : Int)]
  · rw [if_pos hk]
    have hpi : p = i := by
      have := Sum.inl.inj (List.cons.inj hk).1
      omega
    exact ⟨led.length, by rw [hpi]; simp, rfl⟩
  · rw [if_neg hk]
    rcases e p u hp with z | ⟨z1, z2⟩
    · obtain ⟨idx, h1, h2⟩ := h p u z
      exact ⟨idx, by rw [List.getElem?_append_left (List.getElem?_eq_some_iff.mp h1).1]; exact h1, h2⟩
    · subst z1 z2
      exact absurd rfl hk
section
variable {κ : Type} [DecidableEq κ]
theorem mem_of_val : ∀ {kvs : List (κ × V)} {k : κ} {v : V}, valV kvs k = some v → (k, v) ∈ kvs
  | [], _, _, h => by cases h
  | kv :: r, k, v, h => by
    by_cases e : kv.1 = k
    · rw [valV_pos e] at h
      cases h
      subst e
      exact List.mem_cons_self
    · rw [valV_neg e] at h
      exact List.mem_cons_of_mem _ (mem_of_val h)
end
theorem two_sorted {ns : List Int} {u1 u2 N : Nat} (pms : ns.Perm [(u1 : Int), (u2 : Int)]) (srt : ns.Pairwise (· ≤ ·)) (hne : u1 ≠ u2) (h1 : u1 < N) (h2 : u2 < N) : ∃ n0 n1 : Nat, ns = [(n0 : Int), (n1 : Int)] ∧ n0 < n1 ∧ n1 < N := by
  have hl2 : ns.length = 2 := pms.length_eq
  match ns, hl2 with
  | [z0, z1], _ =>
    have hle : z0 ≤ z1 := by simpa using srt
    have h0 := pms.mem_iff.mp (show z0 ∈ [z0, z1] by simp)
    have h1 := pms.mem_iff.mp (show z1 ∈ [z0, z1] by simp)
    have h2 := pms.mem_iff.mpr (show (u1 : Int) ∈ [(u1 : Int), (u2 : Int)] by simp)
    have h3 := pms.mem_iff.mpr (show (u2 : Int) ∈ [(u1 : Int), (u2 : Int)] by simp)
    simp at h0 h1 h2 h3
    refine ⟨z0.toNat, z1.toNat, ?_, by omega, by omega⟩
    rw [Int.toNat_of_nonneg (by omega), Int.toNat_of_nonneg (by omega)]
section
variable {P : Program} {w : World} {K : PySem.W.Frag} {mg : Str → Option Value} {base : Heap}
def spPick0 : Sp := fun vs H Q _ => ∃ (s : Addr) (n : Int), vs = [.ref s, .int n] ∧ n < 2 ∧ Q (.int 0) H
/-- pick, of 0 too -/
def spPickZ : Sp := fun vs H Q E => spPick vs H Q E ∨ spPick0 vs H Q E
theorem ok_pickZ {f : Addr} {fd : FuncData} (F : Fun K "_law_pick" "_law_pick" sPick f fd) (T : TxtA mg) : FnOk P w K mg base CX0 1 f fd ["_law_source", "_law_many"] spPickZ := by
  have h0 : FnOk P w K mg base CX0 1 f fd ["_law_source", "_law_many"] spPick0 := by
    refine F.ok scPick (fun vs H Q E h => ?_) (fun cdv A outer s H vs Q E hr h => ?_)
    · obtain ⟨p, n, rfl, _⟩ := h
      rfl
    · obtain ⟨sa, n, rfl, n1, k⟩ := h
      have hu := hu_of hr
      refine ⟨_, pss_cons (ps_if (pt_cmpR op_lt (pv 1) pe_int (nomark _)) (pss_one (ps_ret pe_int)) pss_nil)
        (pss_cons (ps_set (i := 2) scPick.nd rfl (Or.inl rfl) (pe_dget hu (pv 0) pe_str (fun _ _ => rfl)))
        (Evl.pss_cut (ps_while PassesOwn.never (PW.pt (pw_and (pt_cmpR op_lt (pe_dget hu (pv 0) pe_str (fun _ _ => rfl)) pe_int (nomark _)) (pw_and1 (pt_cmpR op_gt (pe_callB call_len_seq (by rfl) T.len PySem.boot_len (pa_cons (pv 2) pa_nil)) pe_int (nomark _)))))
          (pss_one (ps_dput hu (pv 0) pe_str (pe_bm0 PySem.F.plainAttrs_list PySem.F.slot_list_pop PySem.F.type_list_pop mt_pop (pv 2)) rfl)))
        (pss_cons (ps_set (i := 3) scPick.nd rfl (Or.inl rfl) (pe_dget hu (pv 0) pe_str (fun _ _ => rfl)))
        (pss_cons (ps_if (pt_cmpR op_gt (pv 3) pe_int (nomark _))
          (pss_cons (ps_dput hu (pv 0) pe_str (pe_op op_fdiv (pv 3) (pv 1)) rfl) (pss_one (ps_ret (pe_op op_mod (pe_callTy call_int1 (by rfl) T.int (by decide +kernel) (pa_cons (pv 3) pa_nil)) (pv 1))))) pss_nil)
        (pss_cons (ps_dput hu (pv 0) pe_str (pe_op op_add (pe_dget hu (pv 0) pe_str (fun _ _ => rfl)) pe_int) rfl)
        (pss_cons (ps_set (i := 4) scPick.nd rfl (Or.inl rfl) (pe_dget hu (pv 0) pe_str (fun _ _ => rfl)))
        (pss_cons (ps_set (i := 5) scPick.nd rfl (Or.inl rfl) (pe_op op_mod (pe_callTy call_int1 (by rfl) T.int (by decide +kernel) (pa_cons (pe_op op_add (pe_dget hu (pv 0) pe_str (fun _ _ => rfl)) (pe_op op_mul (pv 4) pe_int)) pa_nil)) pe_int))
        (pss_cons (ps_set (i := 5) scPick.nd rfl (Or.inl rfl) (pe_op op_mod (pe_callTy call_int1 (by rfl) T.int (by decide +kernel) (pa_cons (pe_op op_add (pe_op op_mul (pv 5) (pv 5)) (pe_op op_mul (pv 4) pe_int)) pa_nil)) pe_int))
        (pss_one (ps_ret (pe_op op_mod (pe_callTy call_int1 (by rfl) T.int (by decide +kernel) (pa_cons (pe_op op_fdiv (pv 5) pe_int) pa_nil)) (pv 1)))))))))))), ?_⟩
      refine ⟨_, rfl, _, _, rfl, rfl, _, rfl, ?_⟩
      have : decide (n < 2) = true := decide_eq_true n1
      show (if decide (n < 2) = true then _ else _)
      rw [if_pos this]
      exact k
  have h1 := ok_pick (P := P) (w := w) (base := base) F T
  exact ⟨fun vs H Q E h => h.elim (h1.len vs H Q E) (h0.len vs H Q E), fun A outer s H args us vs Q E hr he hb hv h => h.elim (h1.run A outer s H args us vs Q E hr he hb hv) (h0.run A outer s H args us vs Q E hr he hb hv)⟩
/-! ### _law_over -/
/-- how long it can be, when all counts are equal -/
def LedK (_n : Nat) (ns led : List Nat) (b : Nat → Nat) : Prop := ∀ c0, (∀ x ∈ ns, x = c0) → led.length ≤ b c0
def spOver : Sp := fun vs H Q _ => ∃ (s c wd a b t nu : Addr) (nm cl : List Str) (m : Nat) (kvs : List (List Key × V)) (ns : List Nat), vs = [.ref s, .ref wd, .ref nu] ∧ Src H s c ∧ WorldOk H s c wd a b t nm cl kvs ∧ Ties nm.length m kvs ∧ totW kvs ≤ 800 ∧ nm.length ≤ 10 ∧ H nu = some (.lst (natV ns)) ∧ nu ≠ c ∧ nm.length ≤ ns.length ∧ (∀ x ∈ ns, x ≤ 5) ∧
  (∀ ps, PartsRel nm.length kvs ps → ∃ p ∈ ps, ∃ x, ns[p]? = some x ∧ 1 ≤ x) ∧
  ∀ (r wd' a' b' t' ld' : Addr) (nm' cl' : List Str) (kvs' : List (List Key × V)) (led' : List Nat) (H' : Hp), H wd' = none → H a' = none → H b' = none → H t' = none → H ld' = none → H' r = some (.tup [.ref wd', .ref ld']) → WorldOk H' s c wd' a' b' t' nm' cl' kvs' → nm'.length ≤ 100 → Ties nm'.length 4000 kvs' → kvs'.length ≤ 4000 → totW kvs' ≤ 5 * totW kvs →
    H' ld' = some (.lst (natV led')) → led'.length = nm'.length → (∀ x ∈ led', x < nm.length) → LedK nm.length ns led' (fun c => c * nm.length) → (∀ p < nm.length, (∀ c0, (∀ x ∈ ns, x = c0) → 1 ≤ c0) → (∀ x ∈ ns, ∀ y ∈ ns, x = y) → p ∈ led') → Src H' s c → Kp s c H H' → Q (.ref r) H'
abbrev nOver : List Str := ["_law_source", "_law_world", "_law_numbers", "_law_parts_here", "_law_led", "_law_seats", "_law_ties", "_law_p", "_law_part", "_law_u", "_law_one", "_law_other", "_law_kind", "_law_many", "_law_unit", "_law_turn", "_law_spot", "_law_key", "_law_colours"]
theorem scOver : FnScope nOver ["_law_source", "_law_world", "_law_numbers"] (defScope sOver) := ⟨rfl, rfl, rfl, by decide +kernel, rfl, by decide +kernel, by decide +kernel⟩
abbrev stO (sa wd nu pa ld se t2 : Addr) (v7 v8 v9 v10 v11 v12 v13 v14 v15 v16 v17 v18 : Option V) : L2.St := [some (.ref sa), some (.ref wd), some (.ref nu), some (.ref pa), some (.ref ld), some (.ref se), some (.ref t2), v7, v8, v9, v10, v11, v12, v13, v14, v15, v16, v17, v18]
theorem ok_over {f : Addr} {fd : FuncData} (F : Fun K "_law_over" "_law_over" sOver f fd) (T : TxtD mg) (Gz : Def P w K mg base "_law_pick" ["_law_source", "_law_many"] 1 spPickZ) (Gq : Def P w K mg base "_law_parts" ["_law_world"] 1 spParts)
    (Gs : Def P w K mg base "_law_seated" ["_law_source", "_law_world", "_law_led"] 3 spSeated) : FnOk P w K mg base CX0 4 f fd ["_law_source", "_law_world", "_law_numbers"] spOver := by
  obtain ⟨fp, fdp, Gp, mp, kp, bp⟩ := Gz.ex
  obtain ⟨fq, fdq, Gq, mq, kq, bq⟩ := Gq.ex
  obtain ⟨fs, fds, Gs, ms, ks, bs⟩ := Gs.ex
  refine F.ok scOver (fun vs H Q E h => ?_) (fun cdv A outer s H vs Q E hr h => ?_)
  · obtain ⟨_, _, _, _, _, _, _, _, _, _, _, _, rfl, _⟩ := h
    rfl
  · obtain ⟨sa, ca, wd, a, b, t, nu, nm, cl, mm, kvs, ns, rfl, S, W, ti, htot, hn10, hnu, nnc, hnsl, hns10, hone, k⟩ := h
    have hkl : kvs.length ≤ 800 := Nat.le_trans ti.len htot
    have hu := hu_of hr
    have hr1 := hr.mono (by decide : 1 ≤ 3)
    refine ⟨_, Evl.pss_cut (ps_asg (pe_tup (pa_cons (pe_call Gq hr1 (by rfl) mq kq bq .nil pass0 (pa_cons (pv 1) pa_nil)) (pa_cons (pe_lst pa_nil) (pa_cons pe_dnewT (pa_cons pe_dnewT pa_nil))))) (pg_tup rfl (pgs_cons (pg_name (i := 3) scOver.nd rfl (.inl rfl)) (pgs_cons (pg_name (i := 4) scOver.nd rfl (.inl rfl)) (pgs_cons (pg_name (i := 5) scOver.nd rfl (.inl rfl)) (pgs_cons (pg_name (i := 6) scOver.nd rfl (.inl rfl)) pgs_nil))))))
      (Evl.pss_cut (ps_for PassesOwn.never rfl (pi_enum (by rfl) T.enumerate (pa_cons (pv 3) pa_nil)) (pg_tup rfl (pgs_cons (pg_name (i := 7) scOver.nd rfl (.inl rfl)) (pgs_cons (pg_name (i := 8) scOver.nd rfl (.inl rfl)) pgs_nil)))
        (pss_one (ps_for PassesOwn.never rfl (pi_range1 (by rfl) T.range (pa_cons (pe_ix ix_list (pv 2) (pv 8) (fun _ _ => rfl)) pa_nil)) (pg_name (i := 9) scOver.nd rfl (Or.inl rfl))
          (pss_cons (ps_dput hu (pv 5) (pe_tup (pa_cons (pv 7) (pa_cons (pv 9) pa_nil))) (pe_callB call_len_seq (by rfl) T.len PySem.boot_len (pa_cons (pv 4) pa_nil)) rfl)
          (pss_one (ps_expr (pe_bm PySem.F.plainAttrs_list PySem.F.slot_list_append PySem.F.type_list_append mt_append (pv 4) (pa_cons (pv 7) pa_nil))))))))
      (Evl.pss_cut (ps_for PassesOwn.never rfl (pi_list (pe_callB cr_sortedR (by rfl) T.sorted (by decide +kernel) (pa_cons (pe_callTy (call_list_dT rfl) (by rfl) T.list (by decide +kernel) (pa_cons (pe_dget hu (pv 1) pe_str (fun _ _ => rfl)) pa_nil)) pa_nil)))
          (pg_tup rfl (pgs_cons (pg_name (i := 10) scOver.nd rfl (.inl rfl)) (pgs_cons (pg_name (i := 11) scOver.nd rfl (.inl rfl)) (pgs_cons (pg_name (i := 12) scOver.nd rfl (.inl rfl)) pgs_nil))))
        (pss_cons (ps_set (i := 13) scOver.nd rfl (Or.inl rfl) (pe_ix ix_list (pv 2) (pe_ix ix_list (pv 3) (pv 10) (fun _ _ => rfl)) (fun _ _ => rfl)))
        (pss_one (ps_for PassesOwn.never rfl (pi_range1 (by rfl) T.range (pa_cons (pe_dget hu (pe_dget hu (pv 1) pe_str (fun _ _ => rfl)) (pe_tup (pa_cons (pv 10) (pa_cons (pv 11) (pa_cons (pv 12) pa_nil)))) (fun _ _ => rfl)) pa_nil)) (pg_name (i := 14) scOver.nd rfl (Or.inl rfl))
          (Evl.pss_cut (ps_set (i := 15) scOver.nd rfl (Or.inl rfl) (pe_call Gp hr1 (by rfl) mp kp bp .nil pass0 (pa_cons (pv 0) (pa_cons (pv 13) pa_nil))))
          (pss_one (ps_for PassesOwn.never rfl (pi_range1 (by rfl) T.range (pa_cons (pv 13) pa_nil)) (pg_name (i := 9) scOver.nd rfl (Or.inl rfl))
            (pss_cons (ps_set (i := 16) scOver.nd rfl (Or.inl rfl) (pe_callB cr_sorted (by rfl) T.sorted (by decide +kernel) (pa_cons (pe_lst (pa_cons (pe_dget hu (pv 5) (pe_tup (pa_cons (pv 10) (pa_cons (pv 9) pa_nil))) (fun _ _ => rfl)) (pa_cons (pe_dget hu (pv 5) (pe_tup (pa_cons (pv 11) (pa_cons (pe_op op_mod (pe_callTy call_int1 (by rfl) T.int (by decide +kernel) (pa_cons (pe_op op_add (pv 9) (pv 15)) pa_nil)) (pv 13)) pa_nil))) (fun _ _ => rfl)) pa_nil))) pa_nil)))
            (pss_cons (ps_set (i := 17) scOver.nd rfl (Or.inl rfl) (pe_tup (pa_cons (pe_ix ix_list (pv 16) pe_int (fun _ _ => rfl)) (pa_cons (pe_ix ix_list (pv 16) pe_int (fun _ _ => rfl)) (pa_cons (pv 12) pa_nil)))))
            (pss_one (ps_dput hu (pv 6) (pv 17) (pe_op op_add (pe_dget2 hu (pv 6) (pv 17) pe_int ⟨rfl, rfl, rfl, rfl⟩) pe_int) rfl)))))))))))
      (Evl.pss_cut (ps_setLc (i := 18) (own := [("_law_p", 7)]) (g := gName 7) (tt := tYes) (te := tOp (rIxL K) (tDGet (tVar 1) (tC (.str "colours"))) (tVar 7)) rfl scOver.nd rfl rfl (sw_true rfl rfl rfl (by decide +kernel)) (pi_list (pv 4))
          (blkOk_by (N := nOver) (sc := defScope sOver) (by decide +kernel)) (fun _ _ _ _ _ => pg_name (i := 7) scOver.nd rfl (Or.inl rfl)) (fun _ _ _ _ _ => pts_nil)
          (fun _ _ _ _ _ => by exact pe_ix ix_list (pe_dget hu (pv 1) pe_str (fun _ _ => rfl)) (pv 7) (fun _ _ => rfl)))
      (pss_one (ps_ret (pe_call Gs hr (by rfl) ms ks bs .nil pass0 (pa_cons (pv 0) (pa_cons (pe_disp (pps_cons pe_str (pv 4) (pps_cons pe_str (pv 18) (pps_cons pe_str (pv 6) pps_nil))) (by rfl) (by rfl) (fun z => by cases z) (by decide)) (pa_cons (pv 4) pa_nil))))))))), ?_⟩
    generalize hn : nm.length = n at *
    refine ⟨fun σ H2 => ∃ pa ps ld se t2, σ = stO sa wd nu pa ld se t2 none none none none none none none none none none none none ∧ (H pa = none ∧ H ld = none ∧ H se = none ∧ H t2 = none ∧ pa ≠ ld ∧ se ≠ t2) ∧ H2 pa = some (.lst (natV ps)) ∧ ps.length = n ∧ (∀ x ∈ ps, x < n) ∧
        (∀ (i j : Nat) (kd : Str) (v : V), ([Sum.inl (i : Int), Sum.inl (j : Int), Sum.inr kd], v) ∈ kvs → ps[i]? = ps[j]?) ∧ PartsRel n kvs ps ∧ H2 ld = some (.lst []) ∧ H2 se = some (.dT []) ∧ H2 t2 = some (.dT []) ∧ Same H H2, ?_, ?_⟩
    · refine ⟨_, rfl, wd, a, b, t, _, mm, kvs, rfl, W.d, W.hn, W.ht, by rw [List.length_map]; omega, by omega, by rw [List.length_map, hn]; exact ti, fun pa ps H1 hpa0 hpa hpl hpn hpe hpr s1 => ?_⟩
      rw [List.length_map, hn] at hpl hpn hpr
      refine ⟨(by show 0 ≤ sizeLine; decide), fun ld hld => ?_⟩
      intro se hse t2 ht2
      refine ⟨(by show 4 ≤ sizeLine; decide), fun tp htp => ?_⟩
      obtain ⟨n1, hse1⟩ := nx hse
      obtain ⟨n2, ht2'⟩ := nx ht2
      obtain ⟨n3, ht21⟩ := nx ht2'
      have a1 := same_new (o := .lst []) hld
      have a2 := same_new (o := .dT []) hse
      have a3 := same_new (o := .dT []) ht2
      have a4 := same_new (o := .tup [V.ref pa, V.ref ld, V.ref se, V.ref t2]) htp
      refine ⟨tp, _, rfl, SqT.of upd_same, rfl, _, _, rfl, _, _, rfl, _, _, rfl, _, _, rfl, rfl, ?_⟩
      exact ⟨pa, ps, ld, se, t2, rfl, ⟨hpa0, s1.free hld, s1.free hse1, s1.free ht21, ne_of_none hpa hld, n2.symm⟩, a4 _ _ (a3 _ _ (a2 _ _ (a1 _ _ hpa))), hpl, hpn, hpe, hpr, a4 _ _ (a3 _ _ (a2 _ _ upd_same)), a4 _ _ (a3 _ _ upd_same), a4 _ _ upd_same, (((s1.trans a1).trans a2).trans a3).trans a4⟩
    rintro σ H2 ⟨pa, ps, ld, se, t2, rfl, ⟨hpa0, hld0, hse0, ht20, npl, nst⟩, hpa, hpl, hpn, hpe, hpr, hld, hse, ht2, s2⟩
    have W2 := W.same s2
    have S2 := S.same s2
    have hnu2 := s2 _ _ hnu
    obtain ⟨nls, nlc⟩ := S.ne hld0
    obtain ⟨nes, nec⟩ := S.ne hse0
    obtain ⟨n2s, n2c⟩ := S.ne ht20
    obtain ⟨nps, npc⟩ := S.ne hpa0
    have nnl : nu ≠ ld := fun e => by subst e; rw [hld0] at hnu; cases hnu
    have nne : nu ≠ se := ne_of hnu2 hse (by intro z; cases z)
    have npe : pa ≠ se := ne_of hpa hse (by intro z; cases z)
    have nle : ld ≠ se := ne_of hld hse (by intro z; cases z)
    -- seats
    refine ⟨fun σ H3 => ∃ v7 v8 v9 led kvS, σ = stO sa wd nu pa ld se t2 v7 v8 v9 none none none none none none none none none ∧ H3 ld = some (.lst (natV led)) ∧ H3 se = some (.dT kvS) ∧ (∀ x ∈ led, x < n) ∧ led.length ≤ 100 ∧ 1 ≤ led.length ∧ LedK n ns led (fun c => c * n) ∧
        SeatsOk kvS led (fun p u => ∃ q c, ps[p]? = some q ∧ ns[q]? = some c ∧ u < c) ∧ (∀ b o, H2 b = some o → b ≠ ld → b ≠ se → H3 b = some o), ?_, ?_⟩
    · refine ⟨_, rfl, pa, _, rfl, SqL.of hpa, ?_⟩
      refine for_it (walk_enum (xs := natV ps)) (fun i σ H3 => ∃ v7 v8 v9 led kvS, σ = stO sa wd nu pa ld se t2 v7 v8 v9 none none none none none none none none none ∧ H3 ld = some (.lst (natV led)) ∧ H3 se = some (.dT kvS) ∧ (∀ x ∈ led, x < n) ∧ led.length ≤ 10 * i ∧ kvS.length ≤ led.length ∧ LedK n ns led (fun c => c * i) ∧
          SeatsOk kvS led (fun p u => p < i ∧ ∃ q c, ps[p]? = some q ∧ ns[q]? = some c ∧ u < c) ∧ (∀ b o, H2 b = some o → b ≠ ld → b ≠ se → H3 b = some o))
        ⟨none, none, none, [], [], rfl, hld, hse, (fun x hx => (List.not_mem_nil hx).elim), by simp, Nat.le_refl _, fun c0 _ => Nat.zero_le _, fun p u h => by omega, fun b o e _ _ => e⟩ (fun i σ H3 _ ⟨_, _, _, _, _, _, _, _, _, _, _, _, _, h⟩ => SqL.of (h _ _ hpa npl npe)) ?_ ?_
      · rintro i x σ H3 H4 hi ⟨v7, v8, v9, led, kvS, rfl, hld3, hse3, hln, hll, hkS, hLK, hS, fr3⟩ ⟨T, x1, y1, rfl, hT, rfl, e1, e2⟩
        rw [List.length_map] at hi
        have e2 : (natV ps)[i]? = some y1 := e2
        rw [List.getElem?_map] at e2
        obtain ⟨q, hq, rfl⟩ := Option.map_eq_some_iff.mp e2
        cases e1
        have hqn := hpn q (List.mem_of_getElem? hq)
        obtain ⟨c, hc⟩ : ∃ c, ns[q]? = some c := ⟨_, List.getElem?_eq_getElem (by omega)⟩
        have hc10 := hns10 c (List.mem_of_getElem? hc)
        have sT := same_new (o := .tup [V.int (i : Nat), V.int (q : Int)]) hT
        have nTl : T ≠ ld := fun e => by subst e; rw [hld3] at hT; cases hT
        have nTe : T ≠ se := fun e => by subst e; rw [hse3] at hT; cases hT
        refine ⟨T, _, rfl, SqT.of upd_same, rfl, _, _, rfl, _, _, rfl, rfl, ?_⟩
        refine ⟨_, rfl, _, rfl, nu, _, _, V.int (c : Int), rfl, rfl, SqL.of (sT _ _ (fr3 _ _ hnu2 nnl nne)), atI_nat (by rw [List.getElem?_map, hc]; rfl), _, rfl, by omega, by omega, ?_⟩
        refine for_range (lo := 0) (n := (c : Int).toNat) (fun j σ H5 => ∃ v9 led kvS, σ = stO sa wd nu pa ld se t2 (some (.int (i : Nat))) (some (.int (q : Int))) v9 none none none none none none none none none ∧ H5 ld = some (.lst (natV led)) ∧ H5 se = some (.dT kvS) ∧ (∀ x ∈ led, x < n) ∧ led.length ≤ 10 * i + j ∧ kvS.length ≤ led.length ∧ LedK n ns led (fun c => c * i + j) ∧
            SeatsOk kvS led (fun p u => (p < i ∧ ∃ q c, ps[p]? = some q ∧ ns[q]? = some c ∧ u < c) ∨ (p = i ∧ u < j)) ∧ (∀ b o, H2 b = some o → b ≠ ld → b ≠ se → H5 b = some o))
          ⟨v9, led, kvS, rfl, sT _ _ hld3, sT _ _ hse3, hln, by omega, hkS, fun c0 h0 => Nat.le_trans (hLK c0 h0) (Nat.le_add_right _ _), fun p u h => hS p u (h.resolve_right (by omega)), fun b o e h1 h2 => sT _ _ (fr3 b o e h1 h2)⟩ ?_ ?_
        · rintro j σ H5 hj ⟨v9, led, kvS, rfl, hld5, hse5, hln, hll, hkS, hLK, hS, fr5⟩
          have hj' : j < c := by omega
          refine ⟨_, rfl, ld, _, rfl, .inl (SqL.of hld5), _, rfl, _, rfl, _, rfl, (by show 2 ≤ sizeLine; decide), fun u hu => ?_⟩
          have su := same_new (o := .tup [V.int (i : Nat), V.int (0 + (j : Int))]) hu
          refine ⟨se, _, rfl, DPut.t (k := [Sum.inl ((i : Nat) : Int), Sum.inl (0 + (j : Int))]) (su _ _ hse5) upd_same (Evl.sz_lt (by omega)), ?_⟩
          have nul : u ≠ ld := fun e => by subst e; rw [hld5] at hu; cases hu
          have hld6 : (upd (upd H5 u (.tup [V.int (i : Nat), V.int (0 + (j : Int))])) se (.dT (putK kvS [Sum.inl ((i : Nat) : Int), Sum.inl (0 + (j : Int))] (V.int ((natV led).length : Int))))) ld = some (.lst (natV led)) := by rw [upd_ne nle]; exact su _ _ hld5
          refine ⟨_, rfl, .inl ⟨rfl, _, SqL.of hld6⟩, _, rfl, ld, _, _, rfl, rfl, hld6, Evl.sz_lt (by rw [List.length_map]; omega), ?_⟩
          refine ⟨_, led ++ [i], _, rfl, by unfold natV; rw [upd_same, List.map_append]; rfl, by rw [upd_ne nle.symm, upd_same], ?_, by simp; omega, ?_, ?_, ?_, ?_⟩
          · intro x hx
            rcases List.mem_append.mp hx with z | z
            · exact hln x z
            · rw [List.mem_singleton] at z
              omega
          · have := length_putK kvS [Sum.inl ((i : Nat) : Int), Sum.inl (0 + (j : Int))] (V.int ((natV led).length : Int))
            simp only [List.length_append, List.length_singleton]
            omega
          · intro c0 h0
            have h1 : led.length ≤ c0 * i + j := hLK c0 h0
            show (led ++ [i]).length ≤ c0 * i + (j + 1)
            rw [List.length_append, List.length_singleton]
            exact Nat.succ_le_succ h1
          · rw [Int.zero_add, List.length_map]
            exact hS.put fun p u h => by
              rcases h with h | ⟨h1, h2⟩
              · exact .inl (.inl h)
              · by_cases e : u = j
                · exact .inr ⟨h1, e⟩
                · exact .inl (.inr ⟨h1, by omega⟩)
          · intro b o e h1 h2
            rw [upd_ne h1, upd_ne h2]
            exact su _ _ (fr5 b o e h1 h2)
        · rintro σ H5 ⟨v9, led, kvS, rfl, hld5, hse5, hln, hll, hkS, hLK, hS, fr5⟩
          refine ⟨_, _, v9, led, kvS, rfl, hld5, hse5, hln, by omega, hkS, fun c0 h0 => ?_, fun p u h => hS p u ?_, fr5⟩
          · have h1 := hLK c0 h0
            have h2 := h0 c (List.mem_of_getElem? hc)
            show led.length ≤ c0 * (i + 1)
            rw [Nat.mul_succ]
            have h1 : led.length ≤ c0 * i + (c : Int).toNat := h1
            omega
          obtain ⟨h1, q', c', h2, h3, h4⟩ := h
          by_cases e : p = i
          · subst e
            rw [hq] at h2
            cases h2
            rw [hc] at h3
            cases h3
            exact .inr ⟨rfl, by omega⟩
          · exact .inl ⟨by omega, q', c', h2, h3, h4⟩
      · rintro σ H3 ⟨v7, v8, v9, led, kvS, rfl, hld3, hse3, hln, hll, hkS, hLK, hS, fr3⟩
        rw [List.length_map] at hll hS
        have hS' : SeatsOk kvS led (fun p u => ∃ q c, ps[p]? = some q ∧ ns[q]? = some c ∧ u < c) := fun p u h => hS p u ⟨by obtain ⟨q, c, h1, _⟩ := h; exact (List.getElem?_eq_some_iff.mp h1).1, h⟩
        refine ⟨v7, v8, v9, led, kvS, rfl, hld3, hse3, hln, by omega, ?_, fun c0 h0 => ?_, hS', fr3⟩
        rotate_left
        · have h1 := hLK c0 h0
          rw [List.length_map, hpl] at h1
          exact h1
        obtain ⟨p, hp, x, hx, hx1⟩ := hone ps hpr
        obtain ⟨idx, hidx⟩ := List.getElem?_of_mem hp
        obtain ⟨z, hz, _⟩ := hS' idx 0 ⟨p, x, hidx, hx, by omega⟩
        have := (List.getElem?_eq_some_iff.mp hz).1
        omega
    rintro σ H3 ⟨v7, v8, v9, led, kvS, rfl, hld3, hse3, hln, hl100, hl1, hLK, hS, fr3⟩
    have S3 : Src H3 sa ca := by
      obtain ⟨cs, l, m, tt, S2⟩ := S2
      exact ⟨cs, l, m, tt, ⟨fr3 _ _ S2.ds nls.symm nes.symm, fr3 _ _ S2.dc nlc.symm nec.symm, S2.nn, S2.len, S2.l0, S2.m0, S2.m1, S2.t0⟩⟩
    have fr03 : ∀ b o, H b = some o → H3 b = some o := fun b o e => fr3 _ _ (s2 _ _ e) (ne_of_none e hld0) (ne_of_none e hse0)
    have W3 := W.same fr03
    have hnu3 := fr03 _ _ hnu
    have hpa3 := fr3 _ _ hpa npl npe
    have nt2l : t2 ≠ ld := (ne_of hld ht2 (by intro z; cases z)).symm
    have ht23 := fr3 _ _ ht2 nt2l nst.symm
    have npt2 : pa ≠ t2 := ne_of hpa ht2 (by intro z; cases z)
    have nut2 : nu ≠ t2 := ne_of hnu2 ht2 (by intro z; cases z)
    have ntt2 : t ≠ t2 := ne_of_none W.ht ht20
    have nus : nu ≠ sa := by
      obtain ⟨cs, l, m, tt, S0⟩ := S
      exact ne_of hnu S0.ds (by intro z; cases z)
    generalize hNN : led.length = N at *
    -- ties
    refine ⟨fun σ H6 => ∃ v9 v10 v11 v12 v13 v14 v15 v16 v17 kv2, σ = stO sa wd nu pa ld se t2 v7 v8 v9 v10 v11 v12 v13 v14 v15 v16 v17 none ∧ H6 t2 = some (.dT kv2) ∧ Ties N 4000 kv2 ∧ totW kv2 ≤ 5 * totW kvs ∧ Src H6 sa ca ∧ Kp3 sa ca t2 H3 H6, ?_, ?_⟩
    · refine ⟨_, rfl, wd, _, rfl, dg_ties W3.d, t, kvs, rfl, .inl W3.ht, fun l bs hl hk => ?_⟩
      obtain ⟨kl, hbl⟩ := keyL_of hk
      have kl2 := kl.same (same_new (o := .lst (bs.map V.ref)) hl)
      obtain ⟨so1, so2⟩ := sort_ties kl2 ti
      refine ⟨l, _, _, rfl, SqL.of upd_same, so1, so2, fun ys p pm hp => ?_⟩
      have s5 := (same_new (o := .lst (bs.map V.ref)) hl).trans (same_new (o := .lst ys) hp)
      have kly : KeyL (upd (upd H3 l (.lst (bs.map V.ref))) p (.lst ys)) kvs ys := fun y hy => (kl.same s5) y (pm.subset hy)
      have hpp : (upd (upd H3 l (.lst (bs.map V.ref))) p (.lst ys)) p = some (.lst ys) := upd_same
      have hyl : ys.length ≤ 800 := by rw [pm.length_eq, List.length_map]; omega
      have hp3 : H3 p = none := (same_new hl).free hp
      have np2 : p ≠ t2 := fun e => by subst e; rw [ht23] at hp3; cases hp3
      obtain ⟨nps', npc'⟩ := S3.ne hp3
      have S5 := S3.same s5
      have sumY := sum_ys ti (isKeys_same hk s5) pm
      generalize upd (upd H3 l (.lst (bs.map V.ref))) p (.lst ys) = H5 at *
      generalize hZ : (fun i : Nat => ((ys.take i).map (wtY H5 kvs)).sum) = Z at *
      have Zle : ∀ i, Z i ≤ totW kvs := fun i => by rw [← hZ, ← sumY]; exact take_le i
      have Z0 : Z 0 = 0 := by rw [← hZ]; rfl
      refine ⟨p, rfl, ⟨_, SqL.of hpp⟩, ?_⟩
      refine for_list (xs := ys) (fun i σ H6 => ∃ v9 v10 v11 v12 v13 v14 v15 v16 v17 kv2, σ = stO sa wd nu pa ld se t2 v7 v8 v9 v10 v11 v12 v13 v14 v15 v16 v17 none ∧ H6 t2 = some (.dT kv2) ∧ Ties N 4000 kv2 ∧ totW kv2 ≤ 5 * Z i ∧ Src H6 sa ca ∧ Kp3 sa ca t2 H5 H6)
        ⟨v9, none, none, none, none, none, none, none, none, [], rfl, s5 _ _ ht23, Ties.nil N _, Nat.zero_le _, S5, Kp3.refl H5⟩ (fun i σ H6 _ ⟨_, _, _, _, _, _, _, _, _, _, _, _, _, _, _, h⟩ => SqL.of (h _ _ hpp nps' npc' np2)) ?_ ?_
      · rintro i y σ H6 hi ⟨v9, v10, v11, v12, v13, v14, v15, v16, v17, kv2, rfl, h26, ti6, hl6, S6, kp6⟩
        have hil := (List.getElem?_eq_some_iff.mp hi).1
        obtain ⟨b1, i1, j1, x1, kd1, rfl, hb1, hmem, hij, hjn, hkw, hx1, hx2⟩ := kly.tie ti (List.mem_of_getElem? hi)
        have Zs : Z (i + 1) = Z i + x1 := by
          have := take_step (f := wtY H5 kvs) hi
          rw [wtY_of ti hb1 hmem] at this
          rw [← hZ]
          exact this
        have Zl := Zle (i + 1)
        have stay : ∀ b o, H3 b = some o → b ≠ sa → b ≠ ca → b ≠ t2 → H6 b = some o := fun b o e h1 h2 h3 => kp6 b o (s5 _ _ e) h1 h2 h3
        have hb6 : H6 b1 = some (.tup [.int (i1 : Int), .int (j1 : Int), .str kd1]) := by
          obtain ⟨cs, l', m, tt, S5'⟩ := S5
          exact kp6 _ _ hb1 (ne_of hb1 S5'.ds (by intro z; cases z)) (ne_of hb1 S5'.dc (by intro z; cases z)) (ne_of hb1 (s5 _ _ ht23) (by intro z; cases z))
        obtain ⟨q, hq⟩ : ∃ q, ps[i1]? = some q := ⟨_, List.getElem?_eq_getElem (by omega)⟩
        have hq2 : ps[j1]? = some q := by rw [← hpe i1 j1 kd1 _ hmem]; exact hq
        have hqn := hpn q (List.mem_of_getElem? hq)
        obtain ⟨c, hc⟩ : ∃ c, ns[q]? = some c := ⟨_, List.getElem?_eq_getElem (by omega)⟩
        have hc10 := hns10 c (List.mem_of_getElem? hc)
        refine ⟨b1, _, rfl, SqT.of hb6, rfl, _, _, rfl, _, _, rfl, _, _, rfl, rfl, ?_⟩
        refine ⟨_, rfl, _, rfl, _, rfl, pa, _, _, V.int (q : Int), rfl, rfl, SqL.of (stay _ _ hpa3 nps npc npt2), atI_nat (by rw [List.getElem?_map, hq]; rfl), nu, _, _, V.int (c : Int), rfl, rfl, SqL.of (stay _ _ hnu3 nus nnc nut2), atI_nat (by rw [List.getElem?_map, hc]; rfl), ?_⟩
        have hwd6 := stay _ _ W3.d W3.ds.1 W3.ds.2 (ne_of W3.d ht23 (by intro z; cases z))
        have ht6 := stay _ _ W3.ht W3.ts.1 W3.ts.2 ntt2
        refine ⟨_, rfl, wd, _, rfl, dg_ties hwd6, _, rfl, _, rfl, _, rfl, (by show 3 ≤ sizeLine; decide), fun q1 hq1 => ?_⟩
        have s7 := same_new (o := .tup [V.int (i1 : Int), V.int (j1 : Int), V.str kd1]) hq1
        refine ⟨t, V.int (x1 : Int), rfl, (by rw [← val_of_mem ti.nd hmem]; exact DGet.t (k := [Sum.inl (i1 : Int), Sum.inl (j1 : Int), Sum.inr kd1]) (s7 _ _ ht6) upd_same), _, rfl, by omega, by omega, ?_⟩
        refine for_range (lo := 0) (n := (x1 : Int).toNat) (fun un σ H7 => ∃ v9 v14 v15 v16 v17 kv2, σ = stO sa wd nu pa ld se t2 v7 v8 v9 (some (.int (i1 : Int))) (some (.int (j1 : Int))) (some (.str kd1)) (some (.int (c : Int))) v14 v15 v16 v17 none ∧ H7 t2 = some (.dT kv2) ∧ Ties N 4000 kv2 ∧ totW kv2 ≤ 5 * Z i + 5 * un ∧ Src H7 sa ca ∧ Kp3 sa ca t2 H5 H7)
          ⟨v9, v14, v15, v16, v17, kv2, rfl, s7 _ _ h26, ti6, by omega, S6.same s7, kp6.kp (Kp.same s7)⟩ ?_ ?_
        · rintro un σ H7 hun ⟨v9, v14, v15, v16, v17, kv2, rfl, h27, ti7, hl7, S7, kp7⟩
          have hun' : un < x1 := by omega
          refine ⟨fun σ H8 => ∃ tu : Nat, σ = stO sa wd nu pa ld se t2 v7 v8 v9 (some (.int (i1 : Int))) (some (.int (j1 : Int))) (some (.str kd1)) (some (.int (c : Int))) (some (.int (0 + (un : Int)))) (some (.int (tu : Int))) v16 v17 none ∧ (1 ≤ c → tu < c) ∧ H8 t2 = some (.dT kv2) ∧ Src H8 sa ca ∧ Kp3 sa ca t2 H5 H8, ?_, ?_⟩
          · refine ⟨_, rfl, _, rfl, ?_⟩
            by_cases hc0 : 1 ≤ c
            · refine .inl ⟨sa, ca, _, rfl, S7, by omega, by omega, fun kk H8 k0 k1 S8 kp8 => ?_⟩
              refine ⟨kk.toNat, ?_, fun _ => by omega, kp8 _ _ h27 n2s n2c, S8, kp7.kp kp8⟩
              rw [Int.toNat_of_nonneg k0]
              rfl
            · exact .inr ⟨sa, _, rfl, by omega, 0, rfl, fun h => absurd h hc0, h27, S7, kp7⟩
          rintro σ H8 ⟨tu, rfl, htu, h28, S8, kp8⟩
          refine ⟨_, rfl, _, rfl, by omega, by omega, ?_⟩
          refine for_range (lo := 0) (n := (c : Int).toNat) (fun wu σ H9 => ∃ v9 v16 v17 kv2, σ = stO sa wd nu pa ld se t2 v7 v8 v9 (some (.int (i1 : Int))) (some (.int (j1 : Int))) (some (.str kd1)) (some (.int (c : Int))) (some (.int (0 + (un : Int)))) (some (.int (tu : Int))) v16 v17 none ∧ H9 t2 = some (.dT kv2) ∧ Ties N 4000 kv2 ∧ totW kv2 ≤ 5 * Z i + 5 * un + wu ∧ Src H9 sa ca ∧ Kp3 sa ca t2 H5 H9)
            ⟨v9, v16, v17, kv2, rfl, h28, ti7, hl7, S8, kp8⟩ ?_ ?_
          · rintro wu σ H9 hwu ⟨v9, v16, v17, kv2, rfl, h29, ti9, hl9, S9, kp9⟩
            have hwc : wu < c := by omega
            have stay9 : ∀ b o, H3 b = some o → b ≠ sa → b ≠ ca → b ≠ t2 → H9 b = some o := fun b o e h1 h2 h3 => kp9 b o (s5 _ _ e) h1 h2 h3
            have hse9 := stay9 _ _ hse3 nes nec nst
            obtain ⟨u1, hu1, hv1⟩ := hS i1 wu ⟨q, c, hq, hc, hwc⟩
            have hmod : ∃ z : Nat, (0 + (wu : Int) + (tu : Int)) % (c : Int) = (z : Int) ∧ z < c := by
              have h1 := Int.emod_nonneg (0 + (wu : Int) + (tu : Int)) (show (c : Int) ≠ 0 by omega)
              have h2 := Int.emod_lt_of_pos (0 + (wu : Int) + (tu : Int)) (show (0 : Int) < c by omega)
              exact ⟨((0 + (wu : Int) + (tu : Int)) % (c : Int)).toNat, by rw [Int.toNat_of_nonneg h1], by omega⟩
            obtain ⟨z, hz, hzc⟩ := hmod
            obtain ⟨u2, hu2, hv2⟩ := hS j1 z ⟨q, c, hq2, hc, hzc⟩
            have hu1N := (List.getElem?_eq_some_iff.mp hu1).1
            have hu2N := (List.getElem?_eq_some_iff.mp hu2).1
            have hne : u1 ≠ u2 := fun e => by subst e; rw [hu1] at hu2; have := Option.some.inj hu2; omega
            refine ⟨_, rfl, _, rfl, _, rfl, (by show 2 ≤ sizeLine; decide), fun q2 hq2' => ?_⟩
            have s10 := same_new (o := .tup [V.int (i1 : Int), V.int (0 + (wu : Int))]) hq2'
            refine ⟨se, V.int (u1 : Int), rfl, (by rw [← hv1]; refine DGet.t (k := [Sum.inl (i1 : Int), Sum.inl (wu : Int)]) (s10 _ _ hse9) ?_; rw [upd_same, Int.zero_add]; rfl), ?_⟩
            refine ⟨_, rfl, _, rfl, _, rfl, _, rfl, _, _, rfl, rfl, .inl ⟨_, rfl, _, rfl, _, _, rfl, rfl, by show (0 : Int) < c; omega, (by show 2 ≤ sizeLine; decide), fun q3 hq3 => ?_⟩⟩
            have s11 := s10.trans (same_new (o := .tup [V.int (j1 : Int), V.int ((0 + (wu : Int) + (tu : Int)) % (c : Int))]) hq3)
            refine ⟨se, V.int (u2 : Int), rfl, (by rw [← hv2]; refine DGet.t (k := [Sum.inl (j1 : Int), Sum.inl (z : Int)]) (s11 _ _ hse9) ?_; rw [upd_same]; show some (HO.tup [V.int (j1 : Int), V.int ((0 + (wu : Int) + (tu : Int)) % (c : Int))]) = _; rw [hz]; rfl), (by show 2 ≤ sizeLine; decide), fun l1 hl1 => ?_⟩
            refine ⟨l1, [(u1 : Int), (u2 : Int)], rfl, SqL.of upd_same, (by show 2 < 64; decide), fun ns' sp pms srt hsp => ?_⟩
            obtain ⟨n0, n1, rfl, h01, h1N⟩ := two_sorted pms srt hne (by omega : u1 < N) (by omega)
            have s12 := (s11.trans (same_new (o := .lst ([(u1 : Int), (u2 : Int)].map V.int)) hl1)).trans (same_new (o := .lst ([(n0 : Int), (n1 : Int)].map V.int)) hsp)
            refine ⟨_, rfl, sp, _, 0, V.int (n0 : Int), rfl, rfl, SqL.of upd_same, atI_nat (j := 0) rfl, _, rfl, sp, _, 1, V.int (n1 : Int), rfl, rfl, SqL.of upd_same, atI_nat (j := 1) rfl, _, rfl, (by show 3 ≤ sizeLine; decide), fun kt hkt => ?_⟩
            have s13 := s12.trans (same_new (o := .tup [V.int (n0 : Int), V.int (n1 : Int), V.str kd1]) hkt)
            have h213 := s13 _ _ h29
            refine ⟨_, rfl, t2, rfl, .inr ⟨kv2, .inl h213⟩, _, rfl, valV kv2 [Sum.inl (n0 : Int), Sum.inl (n1 : Int), Sum.inr kd1], DGet.t (k := [Sum.inl (n0 : Int), Sum.inl (n1 : Int), Sum.inr kd1]) h213 upd_same, ?_⟩
            obtain ⟨x, hx, hxm⟩ : ∃ x : Nat, (valV kv2 [Sum.inl (n0 : Int), Sum.inl (n1 : Int), Sum.inr kd1]).getD (V.int 0) = V.int (x : Int) ∧ x ≤ totW kv2 := by
              cases e : valV kv2 [Sum.inl (n0 : Int), Sum.inl (n1 : Int), Sum.inr kd1] with
              | none => exact ⟨0, rfl, Nat.zero_le _⟩
              | some v =>
                obtain ⟨x, h1, _, h3⟩ := ti9.val _ (mem_of_val e)
                have h4 := w_le_tot (mem_of_val e)
                have h1 : v = V.int (x : Int) := h1
                subst h1
                have h5 : wOf (V.int (x : Int)) = x := Int.toNat_natCast _
                exact ⟨x, rfl, by rw [← h5]; exact h4⟩
            rw [hx]
            refine ⟨_, _, rfl, rfl, _, rfl, _, rfl, t2, _, rfl, DPut.t (k := [Sum.inl (n0 : Int), Sum.inl (n1 : Int), Sum.inr kd1]) h213 upd_same (Evl.sz_lt (by have := ti9.len; omega)), ?_⟩
            refine ⟨_, _, _, putK kv2 [Sum.inl (n0 : Int), Sum.inl (n1 : Int), Sum.inr kd1] (V.int ((x + 1 : Nat) : Int)), rfl, upd_same, ti9.put ⟨n0, n1, kd1, rfl, h01, h1N, hkw⟩ (by omega) (by omega), by
              have e1 := tot_put (k := [Sum.inl (n0 : Int), Sum.inl (n1 : Int), Sum.inr kd1]) ti9.nd (V.int ((x + 1 : Nat) : Int))
              have e2 : wOf (V.int ((x + 1 : Nat) : Int)) = x + 1 := Int.toNat_natCast _
              have e3 : x ≤ wOf ((valV kv2 [Sum.inl (n0 : Int), Sum.inl (n1 : Int), Sum.inr kd1]).getD .non) := by
                cases e : valV kv2 [Sum.inl (n0 : Int), Sum.inl (n1 : Int), Sum.inr kd1] with
                | none =>
                  rw [e] at hx
                  have hx : V.int 0 = V.int (x : Int) := hx
                  injection hx with hx
                  omega
                | some v =>
                  rw [e] at hx
                  have hx : v = V.int (x : Int) := hx
                  rw [hx]
                  exact Nat.le_of_eq (Int.toNat_natCast x).symm
              omega, (S9.same s13).upd n2s n2c, (kp9.kp (Kp.same s13)).put⟩
          · rintro σ H9 ⟨v9, v16, v17, kv2, rfl, h29, ti9, hl9, S9, kp9⟩
            exact ⟨v9, _, _, v16, v17, kv2, rfl, h29, ti9, by omega, S9, kp9⟩
        · rintro σ H7 ⟨v9, v14, v15, v16, v17, kv2, rfl, h27, ti7, hl7, S7, kp7⟩
          exact ⟨v9, _, _, _, _, v14, v15, v16, v17, kv2, rfl, h27, ti7, by omega, S7, kp7⟩
      · rintro σ H6 ⟨v9, v10, v11, v12, v13, v14, v15, v16, v17, kv2, rfl, h26, ti6, hl6, S6, kp6⟩
        exact ⟨v9, v10, v11, v12, v13, v14, v15, v16, v17, kv2, rfl, h26, ti6, by have := Zle ys.length; omega, S6, fun b o e h1 h2 h3 => kp6 b o (s5 _ _ e) h1 h2 h3⟩
    rintro σ H6 ⟨v9, v10, v11, v12, v13, v14, v15, v16, v17, kv2, rfl, h26, ti6, hl6, S6, kp6⟩
    have st6 : ∀ b o, H3 b = some o → b ≠ sa → b ≠ ca → b ≠ t2 → H6 b = some o := kp6
    have nlt2 : ld ≠ t2 := nt2l.symm
    have hld6 := kp6 _ _ hld3 nls nlc nlt2
    have W6d := kp6 _ _ W3.d W3.ds.1 W3.ds.2 (ne_of W3.d ht23 (by intro z; cases z))
    have W6c := kp6 _ _ W3.hc W3.bs.1 W3.bs.2 (ne_of W3.hc ht23 (by intro z; cases z))
    have kp06 : Kp sa ca H H6 := fun b o e h1 h2 => kp6 b o (fr03 b o e) h1 h2 (ne_of_none e ht20)
    -- colours
    refine ⟨fun σ H7 => ∃ bc cl2, σ = stO sa wd nu pa ld se t2 v7 v8 v9 v10 v11 v12 v13 v14 v15 v16 v17 (some (.ref bc)) ∧ H6 bc = none ∧ H7 bc = some (.lst (List.map V.str cl2)) ∧ cl2.length = N ∧ (∀ x ∈ cl2, isWordB x = true) ∧ Same H6 H7, ?_, ?_⟩
    · refine ⟨_, rfl, ld, rfl, ⟨_, SqL.of hld6⟩, fun D hD => ?_⟩
      refine lc_list (xs := natV led) (fun i H7 => ∃ cl2, H7 D = some (.lst (List.map V.str cl2)) ∧ cl2.length = i ∧ (∀ x ∈ cl2, isWordB x = true) ∧ Same H6 H7) ⟨[], upd_same, rfl, (fun x hx => (List.not_mem_nil hx).elim), same_new hD⟩ (fun i H7 _ ⟨_, _, _, _, h⟩ => SqL.of (h _ _ hld6)) ?_ ?_
      · rintro i x H7 hi ⟨cl2, hD7, hcl2, hcw2, s7⟩
        have hil := (List.getElem?_eq_some_iff.mp hi).1
        rw [List.length_map] at hil
        rw [List.getElem?_map] at hi
        obtain ⟨y0, hy0, rfl⟩ := Option.map_eq_some_iff.mp hi
        have hyN := hln y0 (List.mem_of_getElem? hy0)
        have hcn := W.cn
        obtain ⟨cy, hcy⟩ : ∃ cy, cl[y0]? = some cy := ⟨_, List.getElem?_eq_getElem (by omega)⟩
        refine ⟨rfl, tyes ?_⟩
        refine ⟨_, rfl, wd, _, rfl, dg_colours (s7 _ _ W6d), _, rfl, b, _, _, V.str cy, rfl, rfl, SqL.of (s7 _ _ W6c), atI_nat (by rw [List.getElem?_map, hcy]; rfl), ?_⟩
        refine ⟨_, hD7, Evl.sz_lt (by rw [List.length_map]; omega), cl2 ++ [cy], by rw [upd_same, List.map_append]; rfl, by simp [hcl2], ?_, ?_⟩
        · intro x hx
          rcases List.mem_append.mp hx with z | z
          · exact hcw2 x z
          · rw [List.mem_singleton] at z
            subst z
            exact W.cw _ (List.mem_of_getElem? hcy)
        · intro b o e
          rw [upd_ne (ne_of_none e hD)]
          exact s7 b o e
      · rintro H7 ⟨cl2, hD7, hcl2, hcw2, s7⟩
        rw [List.length_map] at hcl2
        exact ⟨D, cl2, rfl, hD, hD7, by omega, hcw2, s7⟩
    rintro σ H7 ⟨bc, cl2, rfl, hbc6, hbc, hcl2, hcw2, s7⟩
    have S7 := S6.same s7
    have hbc0 : H bc = none := kp06.free S6 hbc6
    obtain ⟨nbs, nbc⟩ := S.ne hbc0
    refine ⟨_, rfl, ?_⟩
    intro p hp
    have sp := same_new (o := .dK []) hp
    obtain ⟨nps', npc'⟩ := S7.ne hp
    refine ⟨_, rfl, _, rfl, _, rfl, upd_same, worldD ld bc t2, rfl, (by show 3 ≤ 15; decide), ?_⟩
    rw [merge_wd]
    have s8 : Same H7 (upd (upd H7 p (.dK [])) p (.dK (worldD ld bc t2))) := fun b o e => by
      rw [upd_ne (ne_of_none e hp), upd_ne (ne_of_none e hp)]
      exact e
    have hpp : (upd (upd H7 p (.dK [])) p (.dK (worldD ld bc t2))) p = some (.dK (worldD ld bc t2)) := upd_same
    have kp08 : Kp sa ca H (upd (upd H7 p (.dK [])) p (.dK (worldD ld bc t2))) := (kp06.trans (Kp.same s7)).trans (Kp.same s8)
    generalize upd (upd H7 p (.dK [])) p (.dK (worldD ld bc t2)) = H8 at *
    have S8 := S7.same s8
    refine ⟨_, rfl, sa, ca, p, ld, bc, t2, ld, cl2, 4000, kv2, led, rfl, S8, hpp, nps', s8 _ _ hbc, nbc, s8 _ _ (s7 _ _ h26), s8 _ _ (s7 _ _ hld6), nlc, by omega, hcw2, by omega, by omega, (by have := ti6.len; omega), by rw [hNN]; exact ti6, ?_⟩
    intro r wd' a' b' t' ld' nm' cl' kvs' led' H' z1 z2 z3 z4 z5 hr' W' hl' ti' hk' ht' hld' hll' hlm S' kp'
    refine k r wd' a' b' t' ld' nm' cl' kvs' led' H' (kp08.free S8 z1) (kp08.free S8 z2) (kp08.free S8 z3) (kp08.free S8 z4) (kp08.free S8 z5) hr' W' (by omega) ti' hk' (by omega) hld' (by omega) (fun x hx => hln x ((hlm x).mp hx)) (fun c0 h0 => by have h1 : led.length ≤ c0 * n := hLK c0 h0; show led'.length ≤ c0 * n; omega) (fun p hp hc1 heq => (hlm p).mpr ?_) S' (kp08.trans kp')
    obtain ⟨q, hq⟩ : ∃ q, ps[p]? = some q := ⟨_, List.getElem?_eq_getElem (by omega)⟩
    have hqn := hpn q (List.mem_of_getElem? hq)
    obtain ⟨c, hc⟩ : ∃ c, ns[q]? = some c := ⟨_, List.getElem?_eq_getElem (by omega)⟩
    have c1 := hc1 c (fun x hx => heq x hx c (List.mem_of_getElem? hc))
    obtain ⟨idx, h1, _⟩ := hS p 0 ⟨q, c, hq, hc, by omega⟩
    exact List.mem_of_getElem? h1
end
end Nm
set_option maxRecDepth 100000
set_option maxHeartbeats 4000000
namespace Nm
open PySem PySem.Spec PyProof.Rows L2
/-- len(set(xs)) of ints, equal ones among them -/
def tLenSetJ (K : PySem.W.Frag) (ta : TE) : TE := fun σ H Q => ta σ H fun x H1 => ∃ (l : Addr) (ns : List Int), x = .ref l ∧ SqL K H1 l (ns.map V.int) ∧ ns.length ≤ 4000 ∧ Q (.int ((firstMet (fun i => ns.getD i 0) ns.length).length : Nat)) H1
theorem pe_lenSetJ {X : Cx} {a : PySem.Expr} {ta : TE} {p p2 q pos : Pos} (hg : Gl X "len") (hm : X.mg "len" = none) (hg2 : Gl X "set") (hm2 : X.mg "set" = none) (ha : PE X a ta) (hc : X.calm = true := by rfl)
    (na : starEach [a] X.env = (false, eval a X.env) :: starEach [] X.env := by rfl) : PE X (.Call (.Name "len" p) [.Call (.Name "set" p2) [a] [] q] [] pos) (tLenSetJ X.K ta) := by
  refine ⟨fun pins s σ H Q I h => ?_⟩
  refine Call_ (ld_blt I hg hm boot_len ?_)
  refine callWith_builtin1 (args_cons ?_ rfl) rfl rfl
  refine Call_ (ld_blt I hg2 hm2 boot_set ?_)
  refine callWith_type1 (args_cons (thn (ha.run pins s σ H _ I h) fun v s1 ⟨x, H1, I1, r1, q1⟩ => args_nil ?_) na) na rfl
  obtain ⟨l, ns, rfl, hq, hl, q1⟩ := q1
  cases r1
  obtain ⟨its, r, pl, hz⟩ := I1.list hq
  have hlen : its.toArray.size = ns.length := by rw [List.size_toArray, ← r.length, List.length_map]
  refine call_set_list (I1.ok.hd hc) pl.isList (by simpa using RZ.intsAre_vals r) (by rw [hlen]; unfold scanBound; omega) fun h' tk hS hk => ?_
  refine args_nil ?_
  rw [hlen] at hS
  have hle := firstMet_length_le (fun i => ns.getD i 0) ns.length
  obtain ⟨o, es, ep, t, ho, hex, hd, _, _, _, hf, hn⟩ := hS
  have I2 : Inv X pins σ H1 { s1 with heap := h', toks := tk } := I1.kept fun b o e => hk b o (Heap.lt_size e) e
  exact call_len_set ho hex hd hf (by rw [hn] <;> omega) ⟨.int ((firstMet (fun i => ns.getD i 0) ns.length).length : Nat), H1, I2.tok _, ⟨_, by rw [hn]⟩, q1⟩
end Nm
set_option maxRecDepth 100000
set_option maxHeartbeats 4000000
namespace Nm
open PySem L2
structure TxtE (mg : Str → Option Value) : Prop extends TxtD mg where
  max : mg "max" = none
  min : mg "min" = none
  set : mg "set" = none
  sum : mg "sum" = none
theorem natV_int (l : List Nat) : natV l = (l.map fun (i : Nat) => (i : Int)).map V.int := by
  unfold natV
  rw [List.map_map]
  rfl
theorem sum_zero : ∀ {l : List Nat}, (∀ x ∈ l, x = 0) → (l.map fun (i : Nat) => (i : Int)).sum = 0
  | [], _ => rfl
  | x :: l, h => by
    rw [List.map_cons, List.sum_cons, sum_zero fun y hy => h y (List.mem_cons_of_mem _ hy), h x List.mem_cons_self]
    rfl
end Nm
set_option maxRecDepth 100000
set_option maxHeartbeats 4000000
namespace Nm
open PySem L2
def keyOf : V → Key
  | .int i => Sum.inl i
  | .str x => Sum.inr x
  | _ => Sum.inl 0
theorem keyOf_kV (k : Key) : keyOf (kV k) = k := by cases k <;> rfl
theorem perm_key {ys : List V} {l : List Key} (h : ys.Perm (l.map kV)) : ∃ zs : List Key, ys = zs.map kV ∧ zs.Perm l := by
  refine ⟨ys.map keyOf, ?_, ?_⟩
  · rw [List.map_map]
    conv => lhs; rw [← List.map_id ys]
    refine List.map_congr_left fun v hv => ?_
    obtain ⟨x, _, rfl⟩ := List.mem_map.mp (h.subset hv)
    show kV x = kV (keyOf (kV x))
    rw [keyOf_kV]
  · have := h.map keyOf
    rw [List.map_map] at this
    have e : l.map (keyOf ∘ kV) = l := by
      conv => rhs; rw [← List.map_id l]
      exact List.map_congr_left fun x _ => keyOf_kV x
    rw [e] at this
    exact this
/-- the pairs of a dict told by keys -/
def byKeys (kvs : List (Key × V)) (ks : List Key) : List (Key × V) := ks.map fun k => (k, (valV kvs k).getD .non)
theorem byKeys_self {kvs : List (Key × V)} (nd : (kvs.map (·.1)).Nodup) : byKeys kvs (kvs.map (·.1)) = kvs := by
  unfold byKeys
  rw [List.map_map]
  conv => rhs; rw [← List.map_id kvs]
  refine List.map_congr_left fun kv hm => ?_
  show (kv.1, (valV kvs kv.1).getD .non) = kv
  rw [val_of_mem nd (v := kv.2) hm]
  rfl
theorem byKeys_perm {kvs : List (Key × V)} {ks : List Key} (nd : (kvs.map (·.1)).Nodup) (h : ks.Perm (kvs.map (·.1))) : (byKeys kvs ks).Perm kvs := by
  have := h.map fun k => (k, (valV kvs k).getD .non)
  rw [show (kvs.map (·.1)).map (fun k => (k, (valV kvs k).getD .non)) = kvs from byKeys_self nd] at this
  exact this
structure TxtF (mg : Str → Option Value) : Prop extends TxtE mg where
  zip : mg "zip" = none
section
variable {P : Program} {w : World} {K : PySem.W.Frag} {mg : Str → Option Value} {base : Heap}
/-! ### _law_any_dict -/
def spAnyDict : Sp := fun vs H Q _ => ∃ (s c d : Addr) (kvs : List (Key × V)), vs = [.ref s, .ref d] ∧ Src H s c ∧ H d = some (.dK kvs) ∧ d ≠ s ∧ (kvs.map (·.1)).Nodup ∧ kvs.length ≤ 1000 ∧
  ∀ (p : Addr) (kvs' : List (Key × V)) (H' : Hp), H p = none → kvs'.Perm kvs → H' p = some (.dK kvs') → Src H' s c → Kp s c H H' → Q (.ref p) H'
abbrev nAD : List Str := ["_law_source", "_law_told", "_law_key"]
theorem scAD : FnScope nAD ["_law_source", "_law_told"] (defScope sAnyDict) := ⟨rfl, rfl, rfl, by decide +kernel, rfl, by decide +kernel, by decide +kernel⟩
theorem ok_anyDict {f : Addr} {fd : FuncData} (F : Fun K "_law_any_dict" "_law_any_dict" sAnyDict f fd) (T : TxtF mg) (Ga : Def P w K mg base "_law_any_order" ["_law_source", "_law_items"] 2 (spAny K)) : FnOk P w K mg base CX0 3 f fd ["_law_source", "_law_told"] spAnyDict := by
  obtain ⟨fa, fda, Ga, ma, ka, ba⟩ := Ga.ex
  refine F.ok scAD (fun vs H Q E h => ?_) (fun cdv A outer s H vs Q E hr h => ?_)
  · obtain ⟨_, _, _, _, rfl, _⟩ := h
    rfl
  · obtain ⟨sa, ca, d, kvs, rfl, S, hd, nds, nd, hl, k⟩ := h
    have hu := hu_of hr
    refine ⟨_, pss_one (ps_ret (pe_callTy (call_dictP rfl) (by rfl) T.dict (by decide +kernel) (pa_cons (pe_lc (own := [("_law_key", 2)]) (g := gName 2) (tt := tYes) rfl scAD.nd (pi_list (pe_call Ga hr (by rfl) ma ka ba .nil pass0 (pa_cons (pv 0) (pa_cons (pe_callTy (call_list_dK rfl) (by rfl) T.list (by decide +kernel) (pa_cons (pv 1) pa_nil)) pa_nil))))
          (blkOk_by (N := nAD) (sc := defScope sAnyDict) (by decide +kernel)) (fun _ _ _ _ _ => pg_name (i := 2) scAD.nd rfl (Or.inl rfl)) (fun _ _ _ _ _ => pts_nil)
          (fun _ _ _ _ _ => pe_tup (pa_cons (pv 2) (pa_cons (pe_dget hu (pv 1) (pv 2) (fun _ _ => rfl)) pa_nil)))) pa_nil))), ?_⟩
    have ndc : d ≠ ca := by
      obtain ⟨cs, l, m, tt, S0⟩ := S
      exact ne_of hd S0.dc (by intro z; cases z)
    refine ⟨_, rfl, _, rfl, d, kvs, rfl, hd, fun q hq => ?_⟩
    refine ⟨sa, ca, q, _, rfl, S.new hq, SqL.of upd_same, by rw [List.length_map]; exact (by omega), fun p ys H1 hp pm hpl S1 kp1 => ?_⟩
    rw [show (kvs.map fun kv => kV kv.1) = (kvs.map (·.1)).map kV by rw [List.map_map]; rfl] at pm
    obtain ⟨ks, rfl, pk⟩ := perm_key pm
    have kp01 : Kp sa ca H H1 := (Kp.same (same_new hq)).trans kp1
    have hd1 := kp01 _ _ hd nds ndc
    have hkl : ks.length ≤ 1000 := by rw [pk.length_eq, List.length_map]; exact hl
    refine ⟨p, rfl, ⟨_, SqL.of hpl⟩, fun D hD => ?_⟩
    refine lc_list (xs := ks.map kV) (fun i H2 => ∃ ps : List Addr, H2 D = some (.lst (ps.map V.ref)) ∧ ps.length = i ∧ Paired (fun p kv => H2 p = some (.tup [kV kv.1, kv.2])) ps ((byKeys kvs ks).take i) ∧ Same H1 H2) ⟨[], upd_same, rfl, .nil, same_new hD⟩ (fun i H2 _ ⟨_, _, _, _, h⟩ => SqL.of (h _ _ hpl)) ?_ ?_
    · rintro i x H2 hi ⟨ps, hD2, hpsl, pr, s2⟩
      have hil := (List.getElem?_eq_some_iff.mp hi).1
      rw [List.length_map] at hil
      rw [List.getElem?_map] at hi
      obtain ⟨k0, hk0, rfl⟩ := Option.map_eq_some_iff.mp hi
      obtain ⟨kv0, hm0, e0⟩ := List.mem_map.mp (pk.mem_iff.mp (List.mem_of_getElem? hk0))
      have hv0 : valV kvs k0 = some kv0.2 := by rw [← e0]; exact val_of_mem nd hm0
      refine ⟨rfl, tyes ?_⟩
      refine ⟨_, rfl, _, rfl, _, rfl, d, kv0.2, rfl, (by rw [← hv0]; exact DGet.k (s2 _ _ hd1)), (by show 2 ≤ sizeLine; decide), fun u hu => ?_⟩
      have su := same_new (o := .tup [kV k0, kv0.2]) hu
      have nDu : u ≠ D := fun e => by subst e; rw [hD2] at hu; cases hu
      refine ⟨_, su _ _ hD2, Evl.sz_lt (by rw [List.length_map]; omega), ps ++ [u], by rw [upd_same, List.map_append]; rfl, by simp [hpsl], ?_, fun b o e => ?_⟩
      · have e : (byKeys kvs ks)[i]? = some (k0, kv0.2) := by unfold byKeys; rw [List.getElem?_map, hk0]; simp [hv0]
        rw [List.take_add_one, e]
        refine paired_snoc (Paired.mapP pr fun p kv h => ?_) ?_
        · rw [upd_ne (ne_of h hD2 (by intro z; cases z))]
          exact su _ _ h
        · rw [upd_ne nDu]
          exact upd_same
      · rw [upd_ne (ne_of_none e hD)]
        exact su _ _ (s2 b o e)
    · rintro H2 ⟨ps, hD2, hpsl, pr, s2⟩
      rw [List.length_map, List.take_of_length_le (by unfold byKeys; simp)] at pr
      refine ⟨D, ps, byKeys kvs ks, rfl, SqL.of hD2, Paired.mapP pr fun p kv h => SqT.of h, fun r hr => ?_⟩
      have pb := byKeys_perm nd pk
      refine k r (byKeys kvs ks) _ (kp01.free S1 (s2.free hr)) pb ?_ ((S1.same s2).new hr) ((kp01.trans (Kp.same s2)).trans (Kp.same (same_new hr)))
      rw [upd_same, merge_nd (acc := []) (by simpa using (pb.map (·.1)).nodup_iff.mpr nd)]
      rfl
/-! ### _law_dict -/
/-- each name of nm' to the name that its number leads to -/
def leadKV (nm' nm : List Str) (led : List Nat) : List (Key × V) := (nm'.zip led).map fun p => (Sum.inr p.1, V.str ((nm[p.2]?).getD ""))
theorem lead_keys {nm' nm : List Str} {led : List Nat} (h : led.length = nm'.length) : (leadKV nm' nm led).map (·.1) = nm'.map Sum.inr := by
  unfold leadKV
  rw [List.map_map]
  have : nm' = (nm'.zip led).map (·.1) := by rw [List.map_fst_zip (by omega)]
  conv => rhs; rw [this]
  rw [List.map_map]
  rfl
theorem lead_nd {nm' nm : List Str} {led : List Nat} (h : led.length = nm'.length) (nd : nm'.Nodup) : ((leadKV nm' nm led).map (·.1)).Nodup := by
  rw [lead_keys h]
  exact List.Pairwise.map _ (fun a b hab e => hab (Sum.inr.inj e)) nd
def spDict : Sp := fun vs H Q _ => ∃ (s c wo ao bo to ww aw bw tw ld : Addr) (nm' nm : List Str) (led : List Nat), vs = [.ref s, .ref wo, .ref ww, .ref ld] ∧ Src H s c ∧ H wo = some (.dK (worldD ao bo to)) ∧ H ao = some (.lst (nm'.map V.str)) ∧ H ww = some (.dK (worldD aw bw tw)) ∧ H aw = some (.lst (nm.map V.str)) ∧ H ld = some (.lst (natV led)) ∧
  led.length = nm'.length ∧ (∀ x ∈ led, x < nm.length) ∧ nm'.Nodup ∧ nm'.length ≤ 100 ∧
  ∀ (p : Addr) (kvs' : List (Key × V)) (H' : Hp), H p = none → kvs'.Perm (leadKV nm' nm led) → H' p = some (.dK kvs') → Src H' s c → Kp s c H H' → Q (.ref p) H'
abbrev nDc : List Str := ["_law_source", "_law_over_here", "_law_web", "_law_led", "_law_name", "_law_p"]
theorem scDc : FnScope nDc ["_law_source", "_law_over_here", "_law_web", "_law_led"] (defScope sDict) := ⟨rfl, rfl, rfl, by decide +kernel, rfl, by decide +kernel, by decide +kernel⟩
theorem ok_dict {f : Addr} {fd : FuncData} (F : Fun K "_law_dict" "_law_dict" sDict f fd) (T : TxtF mg) (Gd : Def P w K mg base "_law_any_dict" ["_law_source", "_law_told"] 3 spAnyDict) : FnOk P w K mg base CX0 4 f fd ["_law_source", "_law_over_here", "_law_web", "_law_led"] spDict := by
  obtain ⟨fa, fda, Ga, ma, ka, ba⟩ := Gd.ex
  refine F.ok scDc (fun vs H Q E h => ?_) (fun cdv A outer s H vs Q E hr h => ?_)
  · obtain ⟨_, _, _, _, _, _, _, _, _, _, _, _, _, _, rfl, _⟩ := h
    rfl
  · obtain ⟨sa, ca, wo, ao, bo, to, ww, aw, bw, tw, ld, nm', nm, led, rfl, S, hwo, hao, hww, haw, hld, hll, hln, nd, hl100, k⟩ := h
    have hu := hu_of hr
    refine ⟨_, pss_one (ps_ret (pe_call Ga hr (by rfl) ma ka ba .nil pass0 (pa_cons (pv 0) (pa_cons (pe_callTy (call_dictP rfl) (by rfl) T.dict (by decide +kernel) (pa_cons (pe_lc (own := [("_law_name", 4), ("_law_p", 5)]) (g := gTup K 2 (gCons (gName 4) (gCons (gName 5) gNil))) (tt := tYes) (te := tTup (tCons (tVar 4) (tCons (tOp (rIxL K) (tDGet (tVar 2) (tC (.str "names"))) (tVar 5)) tNil))) rfl scDc.nd (pi_zip (by rfl) T.zip (pa_cons (pe_dget hu (pv 1) pe_str (fun _ _ => rfl)) (pa_cons (pv 3) pa_nil)))
          (blkOk_by (N := nDc) (sc := defScope sDict) (by decide +kernel)) (fun _ _ _ _ _ => pg_tup rfl (pgs_cons (pg_name (i := 4) scDc.nd rfl (Or.inl rfl)) (pgs_cons (pg_name (i := 5) scDc.nd rfl (Or.inl rfl)) pgs_nil))) (fun _ _ _ _ _ => pts_nil)
          (fun _ _ _ _ _ => by exact pe_tup (pa_cons (pv 4) (pa_cons (pe_ix ix_list (pe_dget hu (pv 2) pe_str (fun _ _ => rfl)) (pv 5) (fun _ _ => rfl)) pa_nil)))) pa_nil)) pa_nil)))), ?_⟩
    refine ⟨_, rfl, _, rfl, wo, _, rfl, dg_names hwo, _, rfl, ao, ld, _, _, rfl, SqL.of hao, SqL.of hld, fun D hD => ?_⟩
    refine lc_it (walk_zip (xs := nm'.map V.str) (ys := natV led) (n := nm'.length) (by rw [List.length_map, List.length_map]; omega)) (fun i H2 => ∃ ps : List Addr, H2 D = some (.lst (ps.map V.ref)) ∧ ps.length = i ∧ Paired (fun p kv => H2 p = some (.tup [kV kv.1, kv.2])) ps ((leadKV nm' nm led).take i) ∧ Same H H2) ⟨[], upd_same, rfl, .nil, same_new hD⟩ (fun i H2 _ ⟨_, _, _, _, h⟩ => ⟨SqL.of (h _ _ hao), SqL.of (h _ _ hld)⟩) ?_ ?_
    · rintro i x H2 H3 hi ⟨ps, hD2, hpsl, pr, s2⟩ ⟨T, x1, y1, rfl, hT, rfl, e1, e2⟩
      have e1 : (nm'.map V.str)[i]? = some x1 := e1
      have e2 : (natV led)[i]? = some y1 := e2
      rw [List.getElem?_map] at e1 e2
      obtain ⟨x0, hx0, rfl⟩ := Option.map_eq_some_iff.mp e1
      obtain ⟨y0, hy0, rfl⟩ := Option.map_eq_some_iff.mp e2
      have hyn := hln y0 (List.mem_of_getElem? hy0)
      obtain ⟨z0, hz0⟩ : ∃ z0, nm[y0]? = some z0 := ⟨_, List.getElem?_eq_getElem hyn⟩
      have sT := same_new (o := .tup [V.str x0, V.int (y0 : Int)]) hT
      refine ⟨T, _, rfl, SqT.of upd_same, rfl, _, _, rfl, _, _, rfl, rfl, rfl, tyes ?_⟩
      refine ⟨_, rfl, _, rfl, ww, _, rfl, dg_names (sT _ _ (s2 _ _ hww)), _, rfl, aw, _, _, V.str z0, rfl, rfl, SqL.of (sT _ _ (s2 _ _ haw)), atI_nat (by rw [List.getElem?_map, hz0]; rfl), (by show 2 ≤ sizeLine; decide), fun u hu => ?_⟩
      have su := sT.trans (same_new (o := .tup [V.str x0, V.str z0]) hu)
      have nDu : u ≠ D := fun e => by subst e; rw [sT _ _ hD2] at hu; cases hu
      refine ⟨_, su _ _ hD2, Evl.sz_lt (by rw [List.length_map]; omega), ps ++ [u], by rw [upd_same, List.map_append]; rfl, by simp [hpsl], ?_, fun b o e => ?_⟩
      · have e : (leadKV nm' nm led)[i]? = some (Sum.inr x0, V.str z0) := by
          unfold leadKV
          have hz : (nm'.zip led)[i]? = some (x0, y0) := by rw [List.getElem?_zip_eq_some]; exact ⟨hx0, hy0⟩
          rw [List.getElem?_map, hz]
          simp [hz0]
        rw [List.take_add_one, e]
        refine paired_snoc (Paired.mapP pr fun p kv h => ?_) ?_
        · rw [upd_ne (ne_of h hD2 (by intro z; cases z))]
          exact su _ _ h
        · rw [upd_ne nDu]
          exact upd_same
      · rw [upd_ne (ne_of_none e hD)]
        exact su _ _ (s2 b o e)
    · rintro H2 ⟨ps, hD2, hpsl, pr, s2⟩
      have hlk : (leadKV nm' nm led).length = nm'.length := by unfold leadKV; simp; omega
      rw [List.take_of_length_le (by omega)] at pr
      refine ⟨D, ps, leadKV nm' nm led, rfl, SqL.of hD2, Paired.mapP pr fun p kv h => SqT.of h, fun r hr => ?_⟩
      have lnd := lead_nd (nm := nm) hll nd
      have s3 := s2.trans (same_new (o := .dK (mergeK [] (leadKV nm' nm led))) hr)
      have S3 := S.same s3
      refine ⟨sa, ca, r, leadKV nm' nm led, rfl, S3, ?_, (S.ne (s2.free hr)).1, lnd, by omega, fun p kvs' H' hp pm hp' S' kp' => ?_⟩
      · rw [upd_same, merge_nd (acc := []) (by simpa using lnd)]
        rfl
      · exact k p kvs' H' (s3.free hp) pm hp' S' ((Kp.same s3).trans kp')
end
end Nm
set_option maxRecDepth 100000
set_option maxHeartbeats 4000000
namespace Nm
open PySem L2
/-- the places below i that are led to q -/
def posU (led : List Nat) (i q : Nat) : List Nat := (List.range i).filter fun w => decide (led[w]? = some q)
theorem posU_yes {led : List Nat} {i q : Nat} (h : led[i]? = some q) : posU led (i + 1) q = posU led i q ++ [i] := by
  unfold posU
  rw [List.range_succ, List.filter_append]
  simp [h]
theorem posU_no {led : List Nat} {i q q' : Nat} (h : led[i]? = some q') (hn : q ≠ q') : posU led (i + 1) q = posU led i q := by
  unfold posU
  rw [List.range_succ, List.filter_append]
  simp [h]
  exact fun e => hn e.symm
theorem posU_len (led : List Nat) (i q : Nat) : (posU led i q).length ≤ i := by
  unfold posU
  have := List.length_filter_le (fun w => decide (led[w]? = some q)) (List.range i)
  rw [List.length_range] at this
  exact this
theorem posU_lt {led : List Nat} {i q w : Nat} (h : w ∈ posU led i q) : w < i := List.mem_range.mp (List.mem_filter.mp h).1
structure TxtG (mg : Str → Option Value) : Prop extends TxtF mg where
  isinstance : mg "isinstance" = none
  all : mg "all" = none
  bool : mg "bool" = none
  letters : ∃ t, mg "LETTERS" = some (.str "abcdefghijklmnopqrstuvwxyz" t)
  digits : ∃ t, mg "DIGITS" = some (.str "0123456789" t)
section
variable {P : Program} {w : World} {K : PySem.W.Frag} {mg : Str → Option Value} {base : Heap}
/-! ### is_word, is_number -/
def spWord : Sp := fun vs H Q _ => ∃ z : Str, vs = [.str z] ∧ isWordB z = true ∧ ∀ H', Same H H' → Q (.bl true) H'
abbrev nWord : List Str := ["value", "letters", "letter"]
theorem scWord : FnScope nWord ["value"] (defScope sIsWord) := ⟨rfl, rfl, rfl, by decide +kernel, rfl, by decide +kernel, by decide +kernel⟩
theorem ok_word {f : Addr} {fd : FuncData} (F : Fun K "is_word" "is_word" sIsWord f fd) (T : TxtG mg) : FnOk P w K mg base CX0 1 f fd ["value"] spWord := by
  obtain ⟨tl, Tl⟩ := T.letters
  obtain ⟨td, Td⟩ := T.digits
  refine F.ok scWord (fun vs H Q E h => ?_) (fun cdv A outer s H vs Q E hr h => ?_)
  · obtain ⟨_, rfl, _⟩ := h
    rfl
  · obtain ⟨z, rfl, hz, k⟩ := h
    refine ⟨_, pss_cons (ps_if (pt_not (pt_val (pe_callB call_isi (by rfl) T.isinstance (by decide +kernel) (pa_cons (pv 0) (pa_cons (pe_bltn (v := .ty "str") (by rfl) T.str (by decide +kernel) rfl) pa_nil))))) (pss_one (ps_ret pe_bl)) pss_nil)
      (pss_cons (ps_set (i := 1) scWord.nd rfl (Or.inl rfl) (pe_bm PySem.F.plainAttrs_str PySem.F.slot_str_rstrip PySem.F.type_str_rstrip mt_rstripChars (pv 0) (pa_cons (pe_glob (v := .str "0123456789") (by rfl) Td ⟨_, rfl⟩) pa_nil)))
      (pss_cons (ps_if (PW.pt (pw_or (pt_not (pt_chain op_le op_le pe_int (pe_callB call_len_str (by rfl) T.len PySem.boot_len (pa_cons (pv 1) pa_nil)) pe_int)) (pw_or1 (pt_cmpR op_gt (pe_op op_sub (pe_callB call_len_str (by rfl) T.len PySem.boot_len (pa_cons (pv 0) pa_nil)) (pe_callB call_len_str (by rfl) T.len PySem.boot_len (pa_cons (pv 1) pa_nil))) pe_int (nomark _))))) (pss_one (ps_ret pe_bl)) pss_nil)
      (pss_one (ps_ret (pe_callB (cr_all rfl) (by rfl) T.all (by decide +kernel) (pa_cons (pe_lc (own := [("letter", 2)]) (g := gName 2) (tt := tYes) rfl scWord.nd (pi_str (pv 1))
          (blkOk_by (N := nWord) (sc := defScope sIsWord) (by decide +kernel)) (fun _ _ _ _ _ => pg_name (i := 2) scWord.nd rfl (Or.inl rfl)) (fun _ _ _ _ _ => pts_nil)
          (fun _ _ _ _ _ => pe_cmpR op_in_sign (pv 2) (pe_glob (v := .str "abcdefghijklmnopqrstuvwxyz") (by rfl) Tl ⟨_, rfl⟩) (by rfl))) pa_nil)))))), ?_⟩
    unfold isWordB at hz
    simp only [Bool.and_eq_true, decide_eq_true_eq, List.all_eq_true] at hz
    obtain ⟨⟨⟨⟨h100, h1⟩, h8⟩, h4⟩, hall⟩ := hz
    refine ⟨_, rfl, _, _, _, _, true, rfl, ClsV.ty "str", TyX.base (TyOf.str z), kit_ty (by decide +kernel), _, rfl, iteF ?_⟩
    refine ⟨_, rfl, ?_, _, _, rfl, rfl, Evl.sz_of (by omega), ?_⟩
    · rfl
    refine ⟨_, rfl, _, rfl, Evl.sz_of (show (letB z).length ≤ 100000 by omega), _, _, rfl, rfl, _, rfl, ?_⟩
    have c1 : decide ((1 : Int) ≤ ((letB z).length : Int)) = true := decide_eq_true (by omega)
    have c2 : decide (((letB z).length : Int) ≤ 8) = true := decide_eq_true (by omega)
    have c3 : decide ((4 : Int) < (z.length : Int) - ((letB z).length : Int)) = false := decide_eq_false (by omega)
    show (if decide ((1 : Int) ≤ ((letB z).length : Int)) = true then _ else _)
    rw [if_pos c1]
    refine ⟨_, _, rfl, rfl, _, rfl, ?_⟩
    show (if (!decide (((letB z).length : Int) ≤ 8)) = true then _ else _)
    rw [c2]
    refine iteF ?_
    refine ⟨_, rfl, _, rfl, Evl.sz_of (by omega), _, rfl, _, rfl, Evl.sz_of (show (letB z).length ≤ 100000 by omega), _, _, rfl, rfl, _, _, rfl, rfl, _, rfl, ?_⟩
    show (if decide ((4 : Int) < (z.length : Int) - ((letB z).length : Int)) = true then _ else _)
    rw [c3]
    refine iteF ?_
    refine ⟨_, rfl, letB z, rfl, fun D hD => ?_⟩
    refine lc_it walk_str (fun i H1 => ∃ bs : List Bool, H1 D = some (.lst (bs.map V.bl)) ∧ bs.length = i ∧ (∀ b ∈ bs, b = true) ∧ Same H H1) ⟨[], upd_same, rfl, (fun b hb => (List.not_mem_nil hb).elim), same_new hD⟩ (fun _ _ _ _ => trivial) ?_ ?_
    · rintro i x H1 H2 hi ⟨bs, hD1, hbl, hbt, s1⟩ ⟨rfl, c, hc, rfl⟩
      have hi8 : i < 8 := by
        have : (letB z).cps.size = (letB z).length := rfl
        omega
      have hcm : c ∈ (letB z).cps.toList := by
        rw [← Array.getElem?_toList] at hc
        exact List.mem_of_getElem? hc
      have hin : decide (c ∈ ("abcdefghijklmnopqrstuvwxyz" : Str).cps.toList) = true := decide_eq_true (hall c hcm)
      refine ⟨rfl, tyes ?_⟩
      refine ⟨_, rfl, c, _, rfl, rfl, _, hD1, Evl.sz_lt (by rw [List.length_map]; omega), bs ++ [true], ?_, by simp [hbl], ?_, fun b o e => ?_⟩
      · rw [upd_same, List.map_append, hin]
        rfl
      · intro b hb
        rcases List.mem_append.mp hb with q | q
        · exact hbt b q
        · exact List.mem_singleton.mp q
      · rw [upd_ne (ne_of_none e hD)]
        exact s1 b o e
    · rintro H1 ⟨bs, hD1, hbl, hbt, s1⟩
      refine ⟨D, bs, rfl, SqL.of hD1, ?_⟩
      have : bs.all id = true := List.all_eq_true.mpr fun b hb => hbt b hb
      rw [this]
      exact k H1 s1
def spInteger : Sp := fun vs H Q _ => ∃ i : Int, vs = [.int i] ∧ Q (.bl true) H
theorem scInteger : FnScope ["value"] ["value"] (defScope sIsInteger) := ⟨rfl, rfl, rfl, by decide +kernel, rfl, by decide +kernel, by decide +kernel⟩
theorem ok_integer {f : Addr} {fd : FuncData} (F : Fun K "is_integer" "is_integer" sIsInteger f fd) (T : TxtG mg) : FnOk P w K mg base CX0 1 f fd ["value"] spInteger := by
  refine F.ok scInteger (fun vs H Q E h => ?_) (fun cdv A outer s H vs Q E hr h => ?_)
  · obtain ⟨_, rfl, _⟩ := h
    rfl
  · obtain ⟨i, rfl, k⟩ := h
    refine ⟨_, pss_one (ps_ret (pe_and (pe_callB call_isi (by rfl) T.isinstance (by decide +kernel) (pa_cons (pv 0) (pa_cons (pe_bltn (v := .ty "int") (by rfl) T.int (by decide +kernel) rfl) pa_nil)))
      (pe_one (pe_not (pe_callB call_isi (by rfl) T.isinstance (by decide +kernel) (pa_cons (pv 0) (pa_cons (pe_bltn (v := .ty "bool") (by rfl) T.bool (by decide +kernel) rfl) pa_nil))))))), ?_⟩
    refine ⟨_, rfl, _, _, _, _, true, rfl, ClsV.ty "int", TyX.base (TyOf.int i), kit_ty (by decide +kernel), _, rfl, iteT ?_⟩
    exact ⟨_, rfl, _, _, _, _, false, rfl, ClsV.ty "bool", TyX.base (TyOf.int i), kit_ty (by decide +kernel), _, rfl, k⟩
def spNumber : Sp := fun vs H Q _ => ∃ i l : Int, vs = [.int i, .int l] ∧ Q (.bl (decide (l ≤ i))) H
theorem scNumber : FnScope ["value", "least"] ["value", "least"] (defScope sIsNumber) := ⟨rfl, rfl, rfl, by decide +kernel, rfl, by decide +kernel, by decide +kernel⟩
theorem ok_number {f : Addr} {fd : FuncData} (F : Fun K "is_number" "is_number" sIsNumber f fd) (Gi : Def P w K mg base "is_integer" ["value"] 1 spInteger) : FnOk P w K mg base CX0 2 f fd ["value", "least"] spNumber := by
  obtain ⟨fi, fdi, Gi, mi, ki, bi⟩ := Gi.ex
  refine F.ok scNumber (fun vs H Q E h => ?_) (fun cdv A outer s H vs Q E hr h => ?_)
  · obtain ⟨_, _, rfl, _⟩ := h
    rfl
  · obtain ⟨i, l, rfl, k⟩ := h
    refine ⟨_, pss_one (ps_ret (pe_and (pe_call Gi hr (by rfl) mi ki bi .nil pass0 (pa_cons (pv 0) pa_nil)) (pe_one (pe_cmpR op_ge (pv 0) (pv 1) (nomark _))))), ?_⟩
    refine ⟨_, rfl, i, rfl, _, rfl, iteT ?_⟩
    exact ⟨_, rfl, _, rfl, _, _, rfl, rfl, k⟩
end
end Nm
set_option maxRecDepth 100000
set_option maxHeartbeats 4000000
namespace Nm
open PySem L2
/-- a list of pairs (name, colour) stands at p -/
def PlacesAt (H : Hp) (p : Addr) (nm cl : List Str) : Prop := ∃ ts : List Addr, H p = some (.lst (ts.map V.ref)) ∧ ts.length = nm.length ∧ ∀ (i : Nat) (t : Addr), ts[i]? = some t → ∃ x y, nm[i]? = some x ∧ cl[i]? = some y ∧ H t = some (.tup [.str x, .str y])
section
variable {P : Program} {w : World} {K : PySem.W.Frag} {mg : Str → Option Value} {base : Heap}
/-! ### need_word -/
def spNeedW : Sp := fun vs H Q _ => ∃ x : Str, vs = [.str x] ∧ isWordB x = true ∧ ∀ H', Same H H' → Q .non H'
abbrev nNW : List Str := ["value"]
theorem scNW : FnScope nNW ["value"] (defScope sNeedWord) := ⟨rfl, rfl, rfl, by decide +kernel, rfl, by decide +kernel, by decide +kernel⟩
theorem ok_needW {f : Addr} {fd : FuncData} (F : Fun K "need_word" "need_word" sNeedWord f fd) (_T : TxtG mg) (Gw : Def P w K mg base "is_word" ["value"] 1 spWord) : FnOk P w K mg base CX0 2 f fd ["value"] spNeedW := by
  obtain ⟨fw, fdw, Gw, mw, kw, bw⟩ := Gw.ex
  refine F.ok scNW (fun vs H Q E h => ?_) (fun cdv A outer s H vs Q E hr h => ?_)
  · obtain ⟨_, rfl, _⟩ := h
    rfl
  · obtain ⟨x, rfl, hx, k⟩ := h
    refine ⟨_, pss_one (ps_if (pt_not (pt_val (pe_call Gw hr (by rfl) mw kw bw .nil pass0 (pa_cons (pv 0) pa_nil)))) (pss_one ps_never) pss_nil), ?_⟩
    refine ⟨_, rfl, x, rfl, hx, fun H2 s2 => ⟨_, rfl, iteF ?_⟩⟩
    exact k H2 s2
/-! ### need_once -/
def spOnce : Sp := fun vs H Q _ => ∃ (p : Addr) (nm : List Str), vs = [.ref p] ∧ H p = some (.lst (nm.map V.str)) ∧ nm.length ≤ 1000 ∧ nm.Nodup ∧ ∀ H', Same H H' → Q .non H'
abbrev nNO : List Str := ["names", "told", "name"]
theorem scNO : FnScope nNO ["names"] (defScope sNeedOnce) := ⟨rfl, rfl, rfl, by decide +kernel, rfl, by decide +kernel, by decide +kernel⟩
theorem ok_once {f : Addr} {fd : FuncData} (F : Fun K "need_once" "need_once" sNeedOnce f fd) (T : TxtG mg) : FnOk P w K mg base CX0 1 f fd ["names"] spOnce := by
  refine F.ok scNO (fun vs H Q E h => ?_) (fun cdv A outer s H vs Q E hr h => ?_)
  · obtain ⟨_, _, rfl, _⟩ := h
    rfl
  · obtain ⟨p, nm, rfl, hp, h1000, nd, k⟩ := h
    refine ⟨_, pss_cons (ps_set (i := 1) scNO.nd rfl (Or.inl rfl) (pe_callTy0 cr_set0K (by rfl) T.set (by decide +kernel)))
      (pss_one (ps_for PassesOwn.never rfl (pi_list (pv 0)) (pg_name (i := 2) scNO.nd rfl (.inl rfl))
        (pss_cons (ps_if (pt_cmpR or_sinK (pv 2) (pv 1) (by rfl)) (pss_one ps_never) pss_nil)
        (pss_one (ps_expr (pe_saddK (pv 1) (pa_cons (pv 2) pa_nil))))))), ?_⟩
    refine ⟨rfl, fun se hse => ?_⟩
    have s2 := same_new (o := SetK P w se (fun _ => false) 0) hse
    refine ⟨_, rfl, p, rfl, ⟨_, SqL.of (s2 _ _ hp)⟩, ?_⟩
    refine for_list (xs := nm.map V.str) (fun i σ H2 => ∃ v2 S n, σ = [some (.ref p), some (.ref se), v2] ∧ H2 se = some (SetK P w se S n) ∧ n ≤ i ∧ (∀ k, S k = true → ∃ x ∈ nm.take i, k = Sum.inr x) ∧ Same H H2)
      ⟨none, fun _ => false, 0, rfl, upd_same, Nat.le_refl _, (fun k h => by cases h), s2⟩ (fun i σ H2 _ ⟨_, _, _, _, _, _, _, h⟩ => SqL.of (h _ _ hp)) ?_ ?_
    · rintro i v σ H2 hi ⟨v2, S, n, rfl, hS, hn, hSk, s3⟩
      have hil := (List.getElem?_eq_some_iff.mp hi).1
      rw [List.length_map] at hil
      rw [List.getElem?_map] at hi
      obtain ⟨x, hx, rfl⟩ := Option.map_eq_some_iff.mp hi
      have hxS : S (Sum.inr x) = false := by
        cases e : S (Sum.inr x) with
        | false => rfl
        | true =>
          obtain ⟨x', hx', e'⟩ := hSk _ e
          cases e'
          obtain ⟨j, hj⟩ := List.getElem?_of_mem hx'
          rw [List.getElem?_take] at hj
          split at hj
          · rename_i hji
            have h1 := (List.getElem?_eq_some_iff.mp hj).1
            have h2 := (List.getElem?_eq_some_iff.mp hx).1
            have : j = i := (List.getElem?_inj h1 nd).mp (hj.trans hx.symm)
            omega
          · cases hj
      refine ⟨_, rfl, _, rfl, Sum.inr x, se, S, n, rfl, rfl, hS, _, rfl, ?_⟩
      show (if (if false = true then !S (Sum.inr x) else S (Sum.inr x)) = true then _ else _)
      rw [hxS]
      refine iteF ?_
      refine ⟨_, rfl, ⟨se, S, n, rfl, hS⟩, _, rfl, se, Sum.inr x, S, n, rfl, rfl, hS, by unfold scanBound; omega, ?_⟩
      refine ⟨_, _, _, rfl, upd_same, ?_, ?_, fun b o e => ?_⟩
      · split <;> omega
      · intro k' hk'
        rw [List.take_add_one, hx]
        by_cases e : k' = Sum.inr x
        · exact ⟨x, by simp, e⟩
        · have : S k' = true := by simpa [e] using hk'
          obtain ⟨x', h1, h2⟩ := hSk k' this
          exact ⟨x', List.mem_append_left _ h1, h2⟩
      · rw [upd_ne (ne_of_none e hse)]
        exact s3 b o e
    · rintro σ H2 ⟨v2, S, n, rfl, hS, hn, hSk, s3⟩
      exact k H2 s3
/-! ### need_places -/
def spNeedP : Sp := fun vs H Q _ => ∃ (p : Addr) (nm cl : List Str), vs = [.ref p] ∧ PlacesAt H p nm cl ∧ 1 ≤ nm.length ∧ nm.length ≤ 1000 ∧ nm.Nodup ∧ (∀ x ∈ nm, isWordB x = true) ∧ (∀ x ∈ cl, isWordB x = true) ∧ ∀ H', Same H H' → Q .non H'
abbrev nNP : List Str := ["places", "name", "colour", "_"]
theorem scNP : FnScope nNP ["places"] (defScope sNeedPlaces) := ⟨rfl, rfl, rfl, by decide +kernel, rfl, by decide +kernel, by decide +kernel⟩
theorem ok_needP {f : Addr} {fd : FuncData} (F : Fun K "need_places" "need_places" sNeedPlaces f fd) (T : TxtG mg) (Gw : Def P w K mg base "need_word" ["value"] 2 spNeedW) (Go : Def P w K mg base "need_once" ["names"] 1 spOnce) : FnOk P w K mg base CX0 3 f fd ["places"] spNeedP := by
  obtain ⟨fw, fdw, Gw, mw, kw, bw⟩ := Gw.ex
  obtain ⟨fo, fdo, Go, mo, ko, bo⟩ := Go.ex
  refine F.ok scNP (fun vs H Q E h => ?_) (fun cdv A outer s H vs Q E hr h => ?_)
  · obtain ⟨_, _, _, rfl, _⟩ := h
    rfl
  · obtain ⟨p, nm, cl, rfl, ⟨ts, hp, htl, hts⟩, h1, h1000, nd, hnw, hcw, k⟩ := h
    have hr1 := hr.mono (by decide : 1 ≤ 2)
    refine ⟨_, pss_cons (ps_if (pt_cmpR op_eq (pe_callB call_len_seq (by rfl) T.len PySem.boot_len (pa_cons (pv 0) pa_nil)) pe_int (nomark _)) (pss_one ps_never) pss_nil)
      (pss_cons (ps_for PassesOwn.never rfl (pi_list (pv 0)) (pg_tup rfl (pgs_cons (pg_name (i := 1) scNP.nd rfl (.inl rfl)) (pgs_cons (pg_name (i := 2) scNP.nd rfl (.inl rfl)) pgs_nil)))
        (pss_cons (ps_expr (pe_call Gw hr (by rfl) mw kw bw .nil pass0 (pa_cons (pv 1) pa_nil)))
        (pss_one (ps_expr (pe_call Gw hr (by rfl) mw kw bw .nil pass0 (pa_cons (pv 2) pa_nil))))))
      (pss_one (ps_expr (pe_call Go hr1 (by rfl) mo ko bo .nil pass0 (pa_cons (pe_lc (own := [("name", 1), ("_", 3)]) (g := gTup K 2 (gCons (gName 1) (gCons (gName 3) gNil))) (tt := tYes) (te := tVar 1) rfl scNP.nd (pi_list (pv 0)) (blkOk_by (N := nNP) (sc := defScope sNeedPlaces) (by decide +kernel))
          (fun _ _ _ _ _ => pg_tup rfl (pgs_cons (pg_name (i := 1) scNP.nd rfl (Or.inl rfl)) (pgs_cons (pg_name (i := 3) scNP.nd rfl (Or.inl rfl)) pgs_nil))) (fun _ _ _ _ _ => pts_nil) (fun _ _ _ _ _ => pv 1)) pa_nil))))), ?_⟩
    refine ⟨_, rfl, p, _, rfl, .inl (SqL.of hp), rfl, _, rfl, ?_⟩
    refine ite2 (fun h => ?_) (fun _ => ?_)
    · have h := of_decide_eq_true h
      injection h with h
      rw [List.length_map] at h
      omega
    refine ⟨_, rfl, p, rfl, ⟨_, SqL.of hp⟩, ?_⟩
    refine for_list (xs := ts.map V.ref) (fun i σ H1 => ∃ v1 v2, σ = [some (.ref p), v1, v2, none] ∧ Same H H1) ⟨none, none, rfl, Same.refl H⟩ (fun i σ H1 _ ⟨_, _, _, h⟩ => SqL.of (h _ _ hp)) ?_ ?_
    · rintro i v σ H1 hi ⟨v1, v2, rfl, s1⟩
      rw [List.getElem?_map] at hi
      obtain ⟨t, ht, rfl⟩ := Option.map_eq_some_iff.mp hi
      obtain ⟨x, y, hx, hy, htt⟩ := hts i t ht
      refine ⟨t, _, rfl, SqT.of (s1 _ _ htt), rfl, _, _, rfl, _, _, rfl, rfl, ?_⟩
      refine ⟨_, rfl, x, rfl, hnw x (List.mem_of_getElem? hx), fun H2 s2 => ?_⟩
      refine ⟨_, rfl, y, rfl, hcw y (List.mem_of_getElem? hy), fun H3 s3 => ?_⟩
      exact ⟨_, _, rfl, (s1.trans s2).trans s3⟩
    rintro σ H1 ⟨v1, v2, rfl, s1⟩
    refine ⟨_, rfl, p, rfl, ⟨_, SqL.of (s1 _ _ hp)⟩, fun D hD => ?_⟩
    have hp1 := s1 _ _ hp
    refine lc_list (xs := ts.map V.ref) (fun i H4 => H4 D = some (.lst ((nm.take i).map V.str)) ∧ Same H1 H4) ⟨upd_same, same_new hD⟩ (fun i H4 _ h => SqL.of (h.2 _ _ hp1)) ?_ ?_
    · rintro i x H4 hx ⟨hD4, s4⟩
      have hi := (List.getElem?_eq_some_iff.mp hx).1
      rw [List.length_map] at hi
      rw [List.getElem?_map] at hx
      obtain ⟨t, ht, rfl⟩ := Option.map_eq_some_iff.mp hx
      obtain ⟨x, y, hx, hy, htt'⟩ := hts i t ht
      refine ⟨t, _, rfl, SqT.of (s4 _ _ (s1 _ _ htt')), rfl, _, _, rfl, _, _, rfl, rfl, rfl, tyes ?_⟩
      refine ⟨_, rfl, _, hD4, Evl.sz_lt (by rw [List.length_map, List.length_take]; omega), ?_, fun b o e => ?_⟩
      · rw [upd_same, List.take_add_one, hx, List.map_append]
        rfl
      · rw [upd_ne (ne_of_none e hD)]
        exact s4 b o e
    · rintro H4 ⟨hD4, s4⟩
      rw [List.length_map, htl, List.take_of_length_le (Nat.le_refl _)] at hD4
      exact ⟨D, nm, rfl, hD4, h1000, nd, fun H5 s5 => k H5 ((s1.trans s4).trans s5)⟩
end
end Nm
set_option maxRecDepth 100000
set_option maxHeartbeats 4000000
/-! min and max of two texts -/
namespace Nm
open PySem PySem.Spec PyProof.Rows L2
section
variable {prog : Program} {w : World} {A : Around} {E : Value → Shared → Prop} {s : Shared}
def two (a b : Value) : Array Value := #[a, b]
theorem two_at {a b : Value} {i : Nat} {v : Value} (h : (two a b)[i]? = some v) : (i = 0 ∧ v = a) ∨ (i = 1 ∧ v = b) := by
  match i, h with
  | 0, h => left; simpa [two, eq_comm] using h
  | 1, h => right; simpa [two, eq_comm] using h
  | i + 2, h => simp [two] at h
def strAt (x y : Str) (i : Nat) : Str := if i = 0 then x else y
theorem two_str {x y : Str} {t u : Tok} {i : Nat} {v : Value} (h : (two (.str x t) (.str y u))[i]? = some v) : ∃ t', v = .str (strAt x y i) t' := by
  rcases two_at h with ⟨rfl, rfl⟩ | ⟨rfl, rfl⟩
  · exact ⟨t, rfl⟩
  · exact ⟨u, rfl⟩
theorem min_two_strs {x y : Str} {t u : Tok} {Q : Value → Shared → Prop} (hh : A.handled = none)
    (h : ∀ h' tk, (∀ c o, s.heap.get? c = some o → h'.get? c = some o) → Q (if y.cps.toList < x.cps.toList then .str y u else .str x t) { s with heap := h', toks := tk }) :
    wpAny (model prog w) A (call (.builtin "min") [.str x t, .str y u]) Q E s := by
  have hT : (s.heap.push { cls := .type "tuple", data := .seq #[.str x t, .str y u] }).IsTuple s.heap.objs.size (two (.str x t) (.str y u)) := ⟨_, Heap.get?_push_size _ rfl, rfl, 0, rfl⟩
  refine call_min_two (wpAny_pyIter_tuple hT ?_)
  have hsz : (s.heap.push { cls := .type "tuple", data := .seq #[.str x t, .str y u] }).objs.size = s.heap.objs.size + 1 := Heap.size_push ..
  refine ⟨_, [_, s.heap.objs.size], [_], _, _, _, fun i j => decide ((strAt x y i).cps.toList < (strAt x y j).cps.toList), rfl, Walks.tuple (A := A.in1) hh _ s.heap.objs.size (by rw [hsz]; exact Nat.ne_of_lt (Nat.lt_succ_self _)) (two (.str x t) (.str y u)),
    ⟨⟨_, Heap.get?_push_size _ rfl, rfl, rfl⟩, hT.push _⟩, fun c hc => ?_, by simp [two], ?_, fun v h' tk hP hk => ?_⟩
  · show c < ((s.heap.push _).push _).objs.size
    rw [Heap.size_push, hsz]
    rcases List.mem_cons.mp hc with rfl | hc
    · rw [hsz]; exact Nat.lt_succ_self _
    · rcases List.mem_cons.mp hc with rfl | hc
      · exact Nat.lt_succ_of_lt (Nat.lt_succ_self _)
      · cases hc
  · intro i j vi vj s' Q' E' hi hj hq
    obtain ⟨t1, rfl⟩ := two_str hi
    obtain ⟨t2, rfl⟩ := two_str hj
    exact lt_str (t := t1) (u := t2) hq
  · have hold : ∀ c o, s.heap.get? c = some o → h'.get? c = some o := fun c o e => by
      refine hk c o (fun hm => ?_) (Heap.get?_push_of_some _ (Heap.get?_push_of_some _ e))
      rcases List.mem_cons.mp hm with e1 | hm
      · have := Heap.lt_size e; rw [e1, hsz] at this; exact Nat.lt_irrefl _ (Nat.lt_of_succ_lt this)
      · cases hm
    have := h h' tk hold
    have hv : v = if y.cps.toList < x.cps.toList then Value.str y u else Value.str x t := by
      have hP' : (two (.str x t) (.str y u))[argBest (fun i j => decide ((strAt x y i).cps.toList < (strAt x y j).cps.toList)) 1]? = some v := hP
      by_cases hba : y.cps.toList < x.cps.toList
      · have e : argBest (fun i j => decide ((strAt x y i).cps.toList < (strAt x y j).cps.toList)) 1 = 1 := by simp [argBest, strAt, hba]
        rw [e] at hP'
        rw [if_pos hba]
        simpa [two] using hP'.symm
      · have e : argBest (fun i j => decide ((strAt x y i).cps.toList < (strAt x y j).cps.toList)) 1 = 0 := by simp [argBest, strAt, hba]
        rw [e] at hP'
        rw [if_neg hba]
        simpa [two] using hP'.symm
    rw [hv]; exact this
theorem max_two_strs {x y : Str} {t u : Tok} {Q : Value → Shared → Prop} (hh : A.handled = none)
    (h : ∀ h' tk, (∀ c o, s.heap.get? c = some o → h'.get? c = some o) → Q (if x.cps.toList < y.cps.toList then .str y u else .str x t) { s with heap := h', toks := tk }) :
    wpAny (model prog w) A (call (.builtin "max") [.str x t, .str y u]) Q E s := by
  have hT : (s.heap.push { cls := .type "tuple", data := .seq #[.str x t, .str y u] }).IsTuple s.heap.objs.size (two (.str x t) (.str y u)) := ⟨_, Heap.get?_push_size _ rfl, rfl, 0, rfl⟩
  refine call_max_two (wpAny_pyIter_tuple hT ?_)
  have hsz : (s.heap.push { cls := .type "tuple", data := .seq #[.str x t, .str y u] }).objs.size = s.heap.objs.size + 1 := Heap.size_push ..
  refine ⟨_, [_, s.heap.objs.size], [_], _, _, _, fun i j => decide ((strAt x y j).cps.toList < (strAt x y i).cps.toList), rfl, Walks.tuple (A := A.in1) hh _ s.heap.objs.size (by rw [hsz]; exact Nat.ne_of_lt (Nat.lt_succ_self _)) (two (.str x t) (.str y u)),
    ⟨⟨_, Heap.get?_push_size _ rfl, rfl, rfl⟩, hT.push _⟩, fun c hc => ?_, by simp [two], ?_, fun v h' tk hP hk => ?_⟩
  · show c < ((s.heap.push _).push _).objs.size
    rw [Heap.size_push, hsz]
    rcases List.mem_cons.mp hc with rfl | hc
    · rw [hsz]; exact Nat.lt_succ_self _
    · rcases List.mem_cons.mp hc with rfl | hc
      · exact Nat.lt_succ_of_lt (Nat.lt_succ_self _)
      · cases hc
  · intro i j vi vj s' Q' E' hi hj hq
    obtain ⟨t1, rfl⟩ := two_str hi
    obtain ⟨t2, rfl⟩ := two_str hj
    exact PySem.P.gt_str (t := t1) (u := t2) hq
  · have hold : ∀ c o, s.heap.get? c = some o → h'.get? c = some o := fun c o e => by
      refine hk c o (fun hm => ?_) (Heap.get?_push_of_some _ (Heap.get?_push_of_some _ e))
      rcases List.mem_cons.mp hm with e1 | hm
      · have := Heap.lt_size e; rw [e1, hsz] at this; exact Nat.lt_irrefl _ (Nat.lt_of_succ_lt this)
      · cases hm
    have := h h' tk hold
    have hv : v = if x.cps.toList < y.cps.toList then Value.str y u else Value.str x t := by
      have hP' : (two (.str x t) (.str y u))[argBest (fun i j => decide ((strAt x y j).cps.toList < (strAt x y i).cps.toList)) 1]? = some v := hP
      by_cases hba : x.cps.toList < y.cps.toList
      · have e : argBest (fun i j => decide ((strAt x y j).cps.toList < (strAt x y i).cps.toList)) 1 = 1 := by simp [argBest, strAt, hba]
        rw [e] at hP'
        rw [if_pos hba]
        simpa [two] using hP'.symm
      · have e : argBest (fun i j => decide ((strAt x y j).cps.toList < (strAt x y i).cps.toList)) 1 = 0 := by simp [argBest, strAt, hba]
        rw [e] at hP'
        rw [if_neg hba]
        simpa [two] using hP'.symm
    rw [hv]; exact this
end
def minS (x y : Str) : Str := if y.cps.toList < x.cps.toList then y else x
def maxS (x y : Str) : Str := if x.cps.toList < y.cps.toList then y else x
section
variable {X : Cx}
theorem call_min2S (hc : X.calm = true) : CallR X (.builtin "min") (fun xs H Q => ∃ x y, xs = [.str x, .str y] ∧ Q (.str (minS x y)) H) := by
  intro pins s σ H xs us Q I r h
  obtain ⟨x, y, rfl, q⟩ := h
  obtain ⟨u, w', rfl, ⟨t, rfl⟩, ⟨t', rfl⟩⟩ := vals2 r
  refine min_two_strs (I.ok.hd hc) fun h' tk k => ⟨_, H, I.kept k, ?_, q⟩
  unfold minS
  by_cases hj : y.cps.toList < x.cps.toList
  · rw [if_pos hj, if_pos hj]; exact ⟨_, rfl⟩
  · rw [if_neg hj, if_neg hj]; exact ⟨_, rfl⟩
theorem call_max2S (hc : X.calm = true) : CallR X (.builtin "max") (fun xs H Q => ∃ x y, xs = [.str x, .str y] ∧ Q (.str (maxS x y)) H) := by
  intro pins s σ H xs us Q I r h
  obtain ⟨x, y, rfl, q⟩ := h
  obtain ⟨u, w', rfl, ⟨t, rfl⟩, ⟨t', rfl⟩⟩ := vals2 r
  refine max_two_strs (I.ok.hd hc) fun h' tk k => ⟨_, H, I.kept k, ?_, q⟩
  unfold maxS
  by_cases hj : x.cps.toList < y.cps.toList
  · rw [if_pos hj, if_pos hj]; exact ⟨_, rfl⟩
  · rw [if_neg hj, if_neg hj]; exact ⟨_, rfl⟩
end
end Nm
set_option maxRecDepth 100000
set_option maxHeartbeats 4000000
namespace Nm
open PySem L2
theorem val_ex : ∀ {kvs : List (Key × V)} {k : Key}, k ∈ kvs.map (·.1) → ∃ v, valV kvs k = some v
  | kv :: r, k, h => by
    by_cases e : kv.1 = k
    · exact ⟨_, valV_pos e⟩
    · rw [valV_neg e]
      rw [List.map_cons] at h
      rcases List.mem_cons.mp h with z | z
      · exact absurd z.symm e
      · exact val_ex z
/-- a tie as it is told -/
structure TieV where
  x : Str
  y : Str
  kd : Str
  w : Int
def TieV.tup (t : TieV) : List V := [.str t.x, .str t.y, .str t.kd, .int t.w]
structure TieV.Ok (t : TieV) (nm : List Str) : Prop where
  hx : t.x ∈ nm
  hy : t.y ∈ nm
  ne : t.x ≠ t.y
  kw : isWordB t.kd = true
  w1 : 1 ≤ t.w
/-- the spot of a tie -/
def TieV.spot (t : TieV) : List Key := [Sum.inr (minS t.x t.y), Sum.inr (maxS t.x t.y), Sum.inr t.kd]
section
variable {P : Program} {w : World} {K : PySem.W.Frag} {mg : Str → Option Value} {base : Heap}
/-! ### tie_spot -/
def spSpot : Sp := fun vs H Q _ => ∃ (t d : Addr) (tv : TieV) (nm : List Str) (kvs : List (Key × V)), vs = [.ref t, .ref d] ∧ H t = some (.tup tv.tup) ∧ H d = some (.dK kvs) ∧ kvs.map (·.1) = nm.map Sum.inr ∧ tv.Ok nm ∧
  ∀ (r : Addr) (H' : Hp), H r = none → H' r = some (.tup (tv.spot.map kV)) → Same H H' → Q (.ref r) H'
abbrev nSp : List Str := ["tie", "names", "one", "other", "kind", "width"]
theorem scSp : FnScope nSp ["tie", "names"] (defScope sTieSpot) := ⟨rfl, rfl, rfl, by decide +kernel, rfl, by decide +kernel, by decide +kernel⟩
structure TxtH (mg : Str → Option Value) : Prop extends TxtG mg where
  tuple : mg "tuple" = none
theorem ok_spot {f : Addr} {fd : FuncData} (F : Fun K "tie_spot" "tie_spot" sTieSpot f fd) (T : TxtH mg) (Gw : Def P w K mg base "is_word" ["value"] 1 spWord) (Gn : Def P w K mg base "is_number" ["value", "least"] 2 spNumber) : FnOk P w K mg base CX0 3 f fd ["tie", "names"] spSpot := by
  obtain ⟨fw, fdw, Gw, mw, kw, bw⟩ := Gw.ex
  obtain ⟨fn, fdn, Gn, mn, kn, bn⟩ := Gn.ex
  refine F.ok scSp (fun vs H Q E h => ?_) (fun cdv A outer s H vs Q E hr h => ?_)
  · obtain ⟨_, _, _, _, _, rfl, _⟩ := h
    rfl
  · obtain ⟨t, d, tv, nm, kvs, rfl, ht, hd, hk, ok, k⟩ := h
    have hu := hu_of hr
    refine ⟨_, pss_cons (ps_if (PW.pt (pw_or (pt_not (pt_val (pe_callB call_isi (by rfl) T.isinstance (by decide +kernel) (pa_cons (pv 0) (pa_cons (pe_bltn (v := .ty "tuple") (by rfl) T.tuple (by decide +kernel) rfl) pa_nil))))) (pw_or1 (pt_cmpR op_ne (pe_callB call_len_seq (by rfl) T.len PySem.boot_len (pa_cons (pv 0) pa_nil)) pe_int (nomark _))))) (pss_one (ps_ret pe_non)) pss_nil)
      (pss_cons (ps_asg (pv 0) (pg_tup rfl (pgs_cons (pg_name (i := 2) scSp.nd rfl (.inl rfl)) (pgs_cons (pg_name (i := 3) scSp.nd rfl (.inl rfl)) (pgs_cons (pg_name (i := 4) scSp.nd rfl (.inl rfl)) (pgs_cons (pg_name (i := 5) scSp.nd rfl (.inl rfl)) pgs_nil))))))
      (pss_cons (ps_if (PW.pt (pw_or (pt_not (pt_val (pe_callB call_isi (by rfl) T.isinstance (by decide +kernel) (pa_cons (pv 2) (pa_cons (pe_bltn (v := .ty "str") (by rfl) T.str (by decide +kernel) rfl) pa_nil))))) (pw_or (pt_not (pt_val (pe_callB call_isi (by rfl) T.isinstance (by decide +kernel) (pa_cons (pv 3) (pa_cons (pe_bltn (v := .ty "str") (by rfl) T.str (by decide +kernel) rfl) pa_nil))))) (pw_or1 (pt_cmpR op_eq (pv 2) (pv 3) (nomark _)))))) (pss_one (ps_ret pe_non)) pss_nil)
      (pss_cons (ps_if (PW.pt (pw_or (pt_cmp (pc_dnotin hu (pv 2) (pv 1))) (pw_or1 (pt_cmp (pc_dnotin hu (pv 3) (pv 1)))))) (pss_one (ps_ret pe_non)) pss_nil)
      (pss_cons (ps_if (PW.pt (pw_or (pt_not (pt_val (pe_call Gw (hr.mono (by decide)) (by rfl) mw kw bw .nil pass0 (pa_cons (pv 4) pa_nil)))) (pw_or1 (pt_not (pt_val (pe_call Gn hr (by rfl) mn kn bn .nil pass0 (pa_cons (pv 5) (pa_cons pe_int pa_nil)))))))) (pss_one (ps_ret pe_non)) pss_nil)
      (pss_one (ps_ret (pe_tup (pa_cons (pe_callB (call_min2S rfl) (by rfl) T.min (by decide +kernel) (pa_cons (pv 2) (pa_cons (pv 3) pa_nil))) (pa_cons (pe_callB (call_max2S rfl) (by rfl) T.max (by decide +kernel) (pa_cons (pv 2) (pa_cons (pv 3) pa_nil))) (pa_cons (pv 4) pa_nil)))))))))), ?_⟩
    refine ⟨_, rfl, _, _, _, _, true, rfl, ClsV.ty "tuple", TyX.base (TyOf.tup ht), kit_ty (by decide +kernel), _, rfl, iteF ?_⟩
    refine ⟨_, rfl, t, _, rfl, .inr (SqT.of ht), rfl, _, rfl, iteF ?_⟩
    refine ⟨_, rfl, t, _, rfl, SqT.of ht, rfl, _, _, rfl, _, _, rfl, _, _, rfl, _, _, rfl, rfl, ?_⟩
    refine ⟨_, rfl, _, _, _, _, true, rfl, ClsV.ty "str", TyX.base (TyOf.str _), kit_ty (by decide +kernel), _, rfl, iteF ?_⟩
    refine ⟨_, rfl, _, _, _, _, true, rfl, ClsV.ty "str", TyX.base (TyOf.str _), kit_ty (by decide +kernel), _, rfl, iteF ?_⟩
    have hne : decide (V.str tv.x = V.str tv.y) = false := decide_eq_false (fun e => ok.ne (by injection e))
    refine ⟨_, rfl, _, rfl, rfl, _, rfl, ?_⟩
    rw [hne]
    refine iteF ?_
    have there : ∀ z, z ∈ nm → ∃ v, valV kvs (Sum.inr z) = some v := fun z hz => val_ex (by rw [hk]; exact List.mem_map.mpr ⟨z, hz, rfl⟩)
    obtain ⟨vx, hvx⟩ := there tv.x ok.hx
    obtain ⟨vy, hvy⟩ := there tv.y ok.hy
    refine ⟨_, rfl, _, rfl, d, some vx, rfl, (by rw [← hvx]; exact DGet.k (k := Sum.inr tv.x) hd), _, rfl, iteF ?_⟩
    refine ⟨_, rfl, _, rfl, d, some vy, rfl, (by rw [← hvy]; exact DGet.k (k := Sum.inr tv.y) hd), _, rfl, iteF ?_⟩
    refine ⟨_, rfl, tv.kd, rfl, ok.kw, fun H1 s1 => ⟨_, rfl, iteF ?_⟩⟩
    have hw1 : decide ((1 : Int) ≤ tv.w) = true := decide_eq_true ok.w1
    refine ⟨_, rfl, tv.w, 1, rfl, _, rfl, ?_⟩
    rw [hw1]
    refine iteF ?_
    refine ⟨_, rfl, _, rfl, _, _, rfl, _, rfl, _, rfl, _, _, rfl, _, rfl, (by show 3 ≤ sizeLine; decide), fun r hr => ?_⟩
    exact k r _ (s1.free hr) upd_same (s1.trans (same_new hr))
end
end Nm
set_option maxRecDepth 100000
set_option maxHeartbeats 4000000
/-! name = {k: v for ..}, the name a local -/
namespace Nm
open PySem PySem.Spec PyProof.Rows L2
section
variable {X : Cx}
theorem ps_setDc {n : Nat} {z : Str} {zp : Pos} {ke ve tg iter : PySem.Expr} {ifs : List PySem.Expr} {scp : Scope} {own : List (Str × Nat)} {pos spos : Pos} {wi : TI} {g : TG} {tt : TT} {tk tv : TE}
    (calm : X.calm = true) (nd : X.N.Nodup) (at_ : X.N[n]? = some z) (loc : X.env.scope.names.lookup z = some .local)
    (sw : swapsWith (.DictComp ke ve [⟨tg, iter, ifs, 0⟩] scp pos) (some (.Name z zp)) spos.line X.env = pure true) (wlk : PI X tg iter wi) (blk : BlkOk X.N X.env.scope scp own)
    (tgt : ∀ (s : Shared) (H : Hp) (C : Addr) (cs : List (Str × Addr)) (fp : List Addr), PG (X.blk s H scp (compEnvC scp cs C X.env) fp) tg g)
    (tst : ∀ (s : Shared) (H : Hp) (C : Addr) (cs : List (Str × Addr)) (fp : List Addr), PTs (X.blk s H scp (compEnvC scp cs C X.env) fp) ifs tt)
    (key : ∀ (s : Shared) (H : Hp) (C : Addr) (cs : List (Str × Addr)) (fp : List Addr), PE (X.blk s H scp (compEnvC scp cs C X.env) fp) ke tk)
    (val : ∀ (s : Shared) (H : Hp) (C : Addr) (cs : List (Str × Addr)) (fp : List Addr), PE (X.blk s H scp (compEnvC scp cs C X.env) fp) ve tv)
    (fold : ∀ x, foldedSetIterable iter X.env x = pure x := by intro _; rfl) :
    PS X (.Assign [.Name z zp] (.DictComp ke ve [⟨tg, iter, ifs, 0⟩] scp pos) spos) (tAsg (tDc wi g tt tk tv (own.map (·.2))) (gName n)) := by
  refine ⟨fun pins s σ H D I hyp => ?_⟩
  rw [exec_Assign_Name_used _ _ _ _ sw]
  refine wpAny_bind (wpAny_standAt (wpAny_bind ?_))
  show wpAny _ X.A (do let _ ← comprehension (.DictComp ke ve [⟨tg, iter, ifs, 0⟩] scp pos) scp X.env (firstIterPos [⟨tg, iter, ifs, 0⟩] pos) newDict false (eval iter X.env) (some (assign (.Name z zp) X.env))) _ _ s
  have hyp' : tDc wi g tt tk tv (own.map (·.2)) σ H (fun x H1 => gName n x σ H1 D.nx) := hyp
  have core := dc_core (pos := pos) (pos' := firstIterPos [⟨tg, iter, ifs, 0⟩] pos) (use := some (assign (.Name z zp) X.env)) (Qf := fun _ s' => SP X pins D .next s') calm nd I wlk blk tgt tst key val fold hyp' fun L C s' m H' I' q hn f => ?_
  · exact wpAny_bind (thn core fun _ s' hq => wpAny_pure (wpAny_pure hq))
  show wpAny _ _ (assign (.Name z zp) X.env (.ref L)) _ _ _
  refine wpAny_assign_Name (store_ok2 (v := V.ref L) I' nd at_ (.inl loc) rfl (fun s2 I2 ⟨a, sb, ha⟩ => ?_) (.inr loc))
  have ⟨f0, f1, f2, f3, f4, f5⟩ := f
  have haC : C ≠ a := ha.elim (fun e => e ▸ f1) (fun e w => f4 z a e w.symm)
  exact ⟨m, hn.sameBut sb haC, fun h3 sb3 => ⟨_, H', I2.turned (t' := s2.toks) (fun b o hb e => (sb3.2 b hb).trans e) f0 f1 f3 f4 f5, q⟩⟩
theorem sw_dict {ke ve : PySem.Expr} {gs : List Comprehension} {scp : Scope} {pos zp : Pos} {z : Str} {l : Nat} {env : Env} (hk : env.scope.kind = .function) (loc : env.scope.names.lookup z = some .local) (hl : (zp.line == pos.line) = true)
    (ha : (scp.names.any fun (n, k) => n == z && (k == .local || k == .cell)) = false) : swapsWith (.DictComp ke ve gs scp pos) (some (.Name z zp)) l env = pure true := by
  have kz : env.kindOf z = some .local := loc
  have hb : env.blockKind = .function := by
    unfold Env.blockKind
    rw [hk]
    rfl
  unfold swapsWith
  simp only [hb, kz, ha, Expr.pos, hl]
  rfl
end
end Nm
set_option maxRecDepth 100000
set_option maxHeartbeats 4000000
namespace Nm
open PySem L2
/-- a dict comprehension over any walk: P by the turn and the heap, the new dict at D within -/
theorem dc_walk {J : It} {n : Nat} {G : Hp → Prop} {Y : Nat → Hp → V → Hp → Prop} (wk : Walk J n G Y) {g : TG} {tt : TT} {tk tv : TE} {vs : List Nat} {σ : L2.St} {H1 : Hp} {D : Addr} {Qd : Hp → Prop} (Pv : Nat → Hp → Prop) (h0 : Pv 0 (upd H1 D (.dK [])))
    (hG : ∀ i H, i ≤ n → Pv i H → G H)
    (hs : ∀ i x H H', i < n → Pv i H → Y i H x H' → g x (wipe σ vs) H' fun σ2 H2 => wipe σ2 vs = wipe σ vs ∧ tt σ2 H2 fun b H3 =>
      if b = true then tk σ2 H3 fun y H4 => tv σ2 H4 fun z H5 => ∃ kvs k, y = kV k ∧ H5 D = some (.dK kvs) ∧ kvs.length < sizeLine ∧ Pv (i + 1) (upd H5 D (.dK (putK kvs k z))) else Pv (i + 1) H3)
    (hd : ∀ H, Pv n H → Qd H) :
    ∃ W : Nat → Nat → Hp → Prop, (∃ m, W 0 m (upd H1 D (.dK []))) ∧ ∀ i m H, W i m H →
      (J.stop i H ∧ Qd H) ∨ (J.go i H ∧ ∃ Nx : Hp → Prop, (∀ H', Nx H' → ∃ m', m' < m ∧ W (i + 1) m' H') ∧ ∀ x H', J.yld i H x H' → g x (wipe σ vs) H' fun σ2 H2 => wipe σ2 vs = wipe σ vs ∧ tt σ2 H2 fun b H3 =>
        if b = true then tk σ2 H3 fun y H4 => tv σ2 H4 fun z H5 => ∃ kvs k, y = kV k ∧ H5 D = some (.dK kvs) ∧ kvs.length < sizeLine ∧ Nx (upd H5 D (.dK (putK kvs k z))) else Nx H3) := by
  refine ⟨fun i m H => m + i = n ∧ Pv i H, ⟨n, by omega, h0⟩, fun i m H ⟨e, p⟩ => ?_⟩
  have q := hG i H (by omega) p
  cases m with
  | zero =>
    obtain rfl : i = n := by omega
    exact .inl ⟨wk.stops H q, hd H p⟩
  | succ m => exact .inr ⟨wk.goes i H (by omega) q, Pv (i + 1), fun H' p' => ⟨m, by omega, by omega, p'⟩, fun x H' y => hs i x H H' (by omega) p (wk.yields i H x H' (by omega) q y)⟩
/-- names and their places -/
def numKV (nm : List Str) (i : Nat) : List (Key × V) := (nm.zipIdx.take i).map fun p => (Sum.inr p.1, V.int (p.2 : Int))
theorem num_step {nm : List Str} {i : Nat} {x : Str} (h : nm[i]? = some x) : numKV nm (i + 1) = numKV nm i ++ [(Sum.inr x, V.int (i : Int))] := by
  unfold numKV
  have e : nm.zipIdx[i]? = some (x, i) := by simp [h]
  rw [List.take_add_one, e, List.map_append]
  rfl
theorem num_keys (nm : List Str) (i : Nat) : (numKV nm i).map (·.1) = (nm.take i).map Sum.inr := by
  unfold numKV
  rw [List.map_map]
  have : nm.take i = (nm.zipIdx.take i).map (·.1) := by rw [List.map_take]; simp
  rw [this, List.map_map]
  rfl
theorem num_nd {nm : List Str} (nd : nm.Nodup) (i : Nat) : ((numKV nm i).map (·.1)).Nodup := by
  rw [num_keys]
  exact List.Pairwise.map _ (fun a b hab e => hab (Sum.inr.inj e)) ((List.take_sublist i nm).nodup nd)
theorem num_new {nm : List Str} (nd : nm.Nodup) {i : Nat} {x : Str} (h : nm[i]? = some x) : valV (numKV nm i) (Sum.inr x) = none := by
  refine val_none_of fun hm => ?_
  rw [num_keys] at hm
  obtain ⟨y, hy, e⟩ := List.mem_map.mp hm
  cases e
  obtain ⟨j, hj⟩ := List.getElem?_of_mem hy
  rw [List.getElem?_take] at hj
  split at hj
  · rename_i hji
    have h1 := (List.getElem?_eq_some_iff.mp hj).1
    have : j = i := (List.getElem?_inj h1 nd).mp (hj.trans h.symm)
    omega
  · cases hj
theorem num_at {nm : List Str} (nd : nm.Nodup) {i : Nat} {x : Str} (h : nm[i]? = some x) : valV (numKV nm nm.length) (Sum.inr x) = some (V.int (i : Int)) := by
  refine val_of_mem (num_nd nd _) ?_
  unfold numKV
  rw [List.take_of_length_le (by simp)]
  refine List.mem_map.mpr ⟨(x, i), ?_, rfl⟩
  rw [List.mem_zipIdx_iff_getElem?]
  exact h
/-- the row of a tie: its places, the lesser first, its kind, its width -/
structure RowV where
  i : Nat
  j : Nat
  kd : Str
  w : Int
def RowV.key (r : RowV) : Int × List Key := ((r.i : Int), [Sum.inl (r.j : Int), Sum.inr r.kd, Sum.inl r.w])
def RowV.tup (r : RowV) : List V := [.int (r.i : Int), .int (r.j : Int), .str r.kd, .int r.w]
/-- r is the row of t -/
def RowOf (nm : List Str) (t : TieV) (r : RowV) : Prop := ∃ a b, nm[a]? = some t.x ∧ nm[b]? = some t.y ∧ r.i = min a b ∧ r.j = max a b ∧ r.kd = t.kd ∧ r.w = t.w
/-- a list of ties stands at p -/
def TiesAt (H : Hp) (p : Addr) (tl : List TieV) : Prop := ∃ ts : List Addr, H p = some (.lst (ts.map V.ref)) ∧ Paired (fun t tv => H t = some (.tup (TieV.tup tv))) ts tl
/-- the ordered ties: a list of tuples by rows in order -/
def OrdAt (H : Hp) (p : Addr) (nm : List Str) (rs : List RowV) : Prop := ∃ ts : List Addr, H p = some (.lst (ts.map V.ref)) ∧ Paired (fun t (r : RowV) => ∃ x y, nm[r.i]? = some x ∧ nm[r.j]? = some y ∧ H t = some (.tup [.str x, .str y, .str r.kd, .int r.w])) ts rs
def rowBack (H : Hp) : V → RowV
  | .ref b => (match H b with
    | some (.tup [.int i, .int j, .str kd, .int w]) => ⟨i.toNat, j.toNat, kd, w⟩
    | _ => ⟨0, 0, "", 0⟩)
  | _ => ⟨0, 0, "", 0⟩
theorem rowBack_of {H : Hp} {b : Addr} {r : RowV} (h : H b = some (.tup r.tup)) : rowBack H (.ref b) = r := by
  show (match H b with
    | some (.tup [.int i, .int j, .str kd, .int w]) => (⟨i.toNat, j.toNat, kd, w⟩ : RowV)
    | _ => ⟨0, 0, "", 0⟩) = r
  rw [h]
  cases r
  rfl
theorem rows_back {H : Hp} : ∀ {us : List Addr} {rw : List RowV}, Paired (fun u (r : RowV) => H u = some (.tup r.tup)) us rw → (us.map V.ref).map (rowBack H) = rw
  | _, _, .nil => rfl
  | _, _, .cons h t => by
    rw [List.map_cons, List.map_cons, rows_back t, rowBack_of h]
theorem paired_get {α β : Type} {F : α → β → Prop} : ∀ {l : List α} {m : List β} {i : Nat} {a : α}, Paired F l m → l[i]? = some a → ∃ b, m[i]? = some b ∧ F a b
  | _, _, _, _, .nil, h => by simp at h
  | _, _, 0, _, .cons r _, h => by
    simp at h
    subst h
    exact ⟨_, rfl, r⟩
  | _, _, i + 1, _, .cons _ t, h => by
    simp at h
    obtain ⟨b, h1, h2⟩ := paired_get t h
    exact ⟨b, by simpa using h1, h2⟩
theorem paired_mem {α β : Type} {F : α → β → Prop} {l : List α} {m : List β} {a : α} (h : Paired F l m) (hm : a ∈ l) : ∃ b ∈ m, F a b := by
  obtain ⟨i, hi⟩ := List.getElem?_of_mem hm
  obtain ⟨b, h1, h2⟩ := paired_get h hi
  exact ⟨b, List.mem_of_getElem? h1, h2⟩
theorem paired_back {α β : Type} {F : α → β → Prop} : ∀ {l : List α} {m : List β} {b : β}, Paired F l m → b ∈ m → ∃ a ∈ l, F a b
  | _, _, _, .nil, h => (List.not_mem_nil h).elim
  | _, _, b, .cons (a := a) r t, h => by
    rcases List.mem_cons.mp h with e | e
    · subst e
      exact ⟨a, List.mem_cons_self, r⟩
    · obtain ⟨a', h1, h2⟩ := paired_back t e
      exact ⟨a', List.mem_cons_of_mem _ h1, h2⟩
section
variable {P : Program} {w : World} {K : PySem.W.Frag} {mg : Str → Option Value} {base : Heap}
/-! ### ordered_ties -/
def spOrd : Sp := fun vs H Q _ => ∃ (p q : Addr) (nm : List Str) (tl : List TieV), vs = [.ref p, .ref q] ∧ TiesAt H p tl ∧ H q = some (.lst (nm.map V.str)) ∧ nm.Nodup ∧ nm.length ≤ 1000 ∧ tl.length ≤ 20000 ∧ (∀ t ∈ tl, t.Ok nm) ∧
  ∀ (r : Addr) (rs rw : List RowV) (H' : Hp), H r = none → Paired (RowOf nm) tl rw → rs.Perm rw → rs.Pairwise (fun x y => lexK (rowK y.key) (rowK x.key) = false) → OrdAt H' r nm rs → Same H H' → Q (.ref r) H'
abbrev nOrd : List Str := ["ties", "names", "numbers", "rows", "one", "other", "kind", "width", "first", "last", "at", "name"]
theorem scOrd : FnScope nOrd ["ties", "names"] (defScope sOrderedTies) := ⟨rfl, rfl, rfl, by decide +kernel, rfl, by decide +kernel, by decide +kernel⟩
theorem ok_ord {f : Addr} {fd : FuncData} (F : Fun K "ordered_ties" "ordered_ties" sOrderedTies f fd) (T : TxtH mg) : FnOk P w K mg base CX0 1 f fd ["ties", "names"] spOrd := by
  refine F.ok scOrd (fun vs H Q E h => ?_) (fun cdv A outer s H vs Q E hr h => ?_)
  · obtain ⟨_, _, _, _, rfl, _⟩ := h
    rfl
  · obtain ⟨p, q, nm, tl, rfl, ⟨ts, hp, hts⟩, hq, nd, hn, htl, hok, k⟩ := h
    have hu := hu_of hr
    refine ⟨_, Evl.pss_cut (ps_setDc (n := 2) (own := [("at", 10), ("name", 11)]) (g := gTup K 2 (gCons (gName 10) (gCons (gName 11) gNil))) (tt := tYes) rfl scOrd.nd rfl rfl (sw_dict rfl rfl rfl (by decide +kernel)) (pi_enum (by rfl) T.enumerate (pa_cons (pv 1) pa_nil))
        (blkOk_by (N := nOrd) (sc := defScope sOrderedTies) (by decide +kernel)) (fun _ _ _ _ _ => pg_tup rfl (pgs_cons (pg_name (i := 10) scOrd.nd rfl (Or.inl rfl)) (pgs_cons (pg_name (i := 11) scOrd.nd rfl (Or.inl rfl)) pgs_nil))) (fun _ _ _ _ _ => pts_nil) (fun _ _ _ _ _ => pv 11) (fun _ _ _ _ _ => pv 10))
      (pss_cons (ps_set (i := 3) scOrd.nd rfl (Or.inl rfl) (pe_lst pa_nil))
      (Evl.pss_cut (ps_for PassesOwn.never rfl (pi_list (pv 0)) (pg_tup rfl (pgs_cons (pg_name (i := 4) scOrd.nd rfl (.inl rfl)) (pgs_cons (pg_name (i := 5) scOrd.nd rfl (.inl rfl)) (pgs_cons (pg_name (i := 6) scOrd.nd rfl (.inl rfl)) (pgs_cons (pg_name (i := 7) scOrd.nd rfl (.inl rfl)) pgs_nil)))))
        (pss_cons (ps_set (i := 8) scOrd.nd rfl (Or.inl rfl) (pe_callB (call_min2 rfl) (by rfl) T.min (by decide +kernel) (pa_cons (pe_dget hu (pv 2) (pv 4) (fun _ _ => rfl)) (pa_cons (pe_dget hu (pv 2) (pv 5) (fun _ _ => rfl)) pa_nil))))
        (pss_cons (ps_set (i := 9) scOrd.nd rfl (Or.inl rfl) (pe_callB (call_max2 rfl) (by rfl) T.max (by decide +kernel) (pa_cons (pe_dget hu (pv 2) (pv 4) (fun _ _ => rfl)) (pa_cons (pe_dget hu (pv 2) (pv 5) (fun _ _ => rfl)) pa_nil))))
        (pss_one (ps_expr (pe_bm PySem.F.plainAttrs_list PySem.F.slot_list_append PySem.F.type_list_append mt_append (pv 3) (pa_cons (pe_tup (pa_cons (pv 8) (pa_cons (pv 9) (pa_cons (pv 6) (pa_cons (pv 7) pa_nil))))) pa_nil)))))))
      (pss_one (ps_ret (pe_lc (own := [("first", 8), ("last", 9), ("kind", 6), ("width", 7)]) (g := gTup K 4 (gCons (gName 8) (gCons (gName 9) (gCons (gName 6) (gCons (gName 7) gNil))))) (tt := tYes) (te := tTup (tCons (tOp (rIxL K) (tVar 1) (tVar 8)) (tCons (tOp (rIxL K) (tVar 1) (tVar 9)) (tCons (tVar 6) (tCons (tVar 7) tNil))))) rfl scOrd.nd (pi_list (pe_callB cr_sortedO (by rfl) T.sorted (by decide +kernel) (pa_cons (pv 3) pa_nil)))
          (blkOk_by (N := nOrd) (sc := defScope sOrderedTies) (by decide +kernel)) (fun _ _ _ _ _ => pg_tup rfl (pgs_cons (pg_name (i := 8) scOrd.nd rfl (Or.inl rfl)) (pgs_cons (pg_name (i := 9) scOrd.nd rfl (Or.inl rfl)) (pgs_cons (pg_name (i := 6) scOrd.nd rfl (Or.inl rfl)) (pgs_cons (pg_name (i := 7) scOrd.nd rfl (Or.inl rfl)) pgs_nil))))) (fun _ _ _ _ _ => pts_nil)
          (fun _ _ _ _ _ => by exact pe_tup (pa_cons (pe_ix ix_list (pv 1) (pv 8) (fun _ _ => rfl)) (pa_cons (pe_ix ix_list (pv 1) (pv 9) (fun _ _ => rfl)) (pa_cons (pv 6) (pa_cons (pv 7) pa_nil)))))))))), ?_⟩
    -- numbers
    refine ⟨fun σ H1 => ∃ nu, σ = [some (.ref p), some (.ref q), some (.ref nu), none, none, none, none, none, none, none, none, none] ∧ H1 nu = some (.dK (numKV nm nm.length)) ∧ Same H H1, ?_, ?_⟩
    · refine ⟨_, rfl, q, _, rfl, SqL.of hq, fun D hD => ?_⟩
      refine dc_walk (walk_enum (xs := nm.map V.str)) (fun i H1 => H1 D = some (.dK (numKV nm i)) ∧ Same H H1) ⟨upd_same, same_new hD⟩ (fun i H1 _ h => SqL.of (h.2 _ _ hq)) ?_ ?_
      · rintro i x H1 H2 hi ⟨hD1, s1⟩ ⟨T', x1, y1, rfl, hT, rfl, e1, e2⟩
        rw [List.length_map] at hi
        have e2 : (nm.map V.str)[i]? = some y1 := e2
        rw [List.getElem?_map] at e2
        obtain ⟨z, hz, rfl⟩ := Option.map_eq_some_iff.mp e2
        cases e1
        have sT := same_new (o := .tup [V.int (i : Nat), V.str z]) hT
        refine ⟨T', _, rfl, SqT.of upd_same, rfl, _, _, rfl, _, _, rfl, rfl, rfl, tyes ?_⟩
        refine ⟨_, rfl, _, rfl, _, Sum.inr z, rfl, sT _ _ hD1, Evl.sz_lt (by unfold numKV; simp; omega), ?_, fun b o e => ?_⟩
        · rw [upd_same, putK_new _ (num_new nd hz), num_step hz]
        · rw [upd_ne (ne_of_none e hD)]
          exact sT _ _ (s1 b o e)
      · rintro H1 ⟨hD1, s1⟩
        rw [List.length_map] at hD1
        exact ⟨D, rfl, hD1, s1⟩
    rintro σ H1 ⟨nu, rfl, hnu, s1⟩
    refine ⟨(by show 0 ≤ sizeLine; decide), fun ro hro => ?_⟩
    have s2 := s1.trans (same_new (o := .lst []) hro)
    have hnu2 := same_new (o := .lst []) hro _ _ hnu
    have hro2 : (upd H1 ro (.lst [])) ro = some (.lst (List.map V.ref [])) := upd_same
    have hro0 : H ro = none := s1.free hro
    generalize upd H1 ro (.lst []) = H2 at *
    have nnr : nu ≠ ro := ne_of hnu2 hro2 (by intro z; cases z)
    -- rows
    refine ⟨fun σ H3 => ∃ v4 v5 v6 v7 v8 v9 us rw, σ = [some (.ref p), some (.ref q), some (.ref nu), some (.ref ro), v4, v5, v6, v7, v8, v9, none, none] ∧ H3 ro = some (.lst (List.map V.ref us)) ∧ us.length = tl.length ∧ Paired (fun u (r : RowV) => H3 u = some (.tup r.tup)) us rw ∧ Paired (RowOf nm) tl rw ∧ Same H H3, ?_, ?_⟩
    · refine ⟨_, rfl, p, rfl, ⟨_, SqL.of (s2 _ _ hp)⟩, ?_⟩
      have htl2 : ts.length = tl.length := Paired.length hts
      refine for_list (xs := ts.map V.ref) (fun i σ H3 => ∃ v4 v5 v6 v7 v8 v9 us rw, σ = [some (.ref p), some (.ref q), some (.ref nu), some (.ref ro), v4, v5, v6, v7, v8, v9, none, none] ∧ H3 ro = some (.lst (List.map V.ref us)) ∧ us.length = i ∧ Paired (fun u (r : RowV) => H3 u = some (.tup r.tup)) us rw ∧ Paired (RowOf nm) (tl.take i) rw ∧ H3 nu = some (.dK (numKV nm nm.length)) ∧ Same H H3)
        ⟨none, none, none, none, none, none, [], [], rfl, hro2, rfl, .nil, .nil, hnu2, s2⟩ (fun i σ H3 _ ⟨_, _, _, _, _, _, _, _, _, _, _, _, _, _, h⟩ => SqL.of (h _ _ hp)) ?_ ?_
      · rintro i v σ H3 hi ⟨v4, v5, v6, v7, v8, v9, us, rw', rfl, hro3, hul, pu, pr, hnu3, s3⟩
        have hil := (List.getElem?_eq_some_iff.mp hi).1
        rw [List.length_map] at hil
        rw [List.getElem?_map] at hi
        obtain ⟨t, ht, rfl⟩ := Option.map_eq_some_iff.mp hi
        obtain ⟨tv, htv, htt⟩ := paired_get hts ht
        have ok := hok tv (List.mem_of_getElem? htv)
        obtain ⟨a, ha⟩ := List.getElem?_of_mem ok.hx
        obtain ⟨b, hb⟩ := List.getElem?_of_mem ok.hy
        have da : DGet H3 nu (V.str tv.x) (some (V.int (a : Int))) := by rw [← num_at nd ha]; exact DGet.k (k := Sum.inr tv.x) hnu3
        have db : DGet H3 nu (V.str tv.y) (some (V.int (b : Int))) := by rw [← num_at nd hb]; exact DGet.k (k := Sum.inr tv.y) hnu3
        refine ⟨t, _, rfl, SqT.of (s3 _ _ htt), rfl, _, _, rfl, _, _, rfl, _, _, rfl, _, _, rfl, rfl, ?_⟩
        refine ⟨_, rfl, _, rfl, nu, _, rfl, da, _, rfl, _, rfl, nu, _, rfl, db, _, _, rfl, ?_⟩
        refine ⟨_, rfl, _, rfl, nu, _, rfl, da, _, rfl, _, rfl, nu, _, rfl, db, _, _, rfl, ?_⟩
        refine ⟨_, rfl, .inl ⟨rfl, _, SqL.of hro3⟩, _, rfl, _, rfl, _, rfl, _, rfl, (by show 4 ≤ sizeLine; decide), fun u hu => ?_⟩
        have e1 : (if (b : Int) < (a : Int) then (b : Int) else (a : Int)) = ((min a b : Nat) : Int) := by split <;> omega
        have e2 : (if (b : Int) > (a : Int) then (b : Int) else (a : Int)) = ((max a b : Nat) : Int) := by split <;> omega
        rw [e1, e2]
        have su := same_new (o := .tup [V.int ((min a b : Nat) : Int), V.int ((max a b : Nat) : Int), V.str tv.kd, V.int tv.w]) hu
        have nur : u ≠ ro := fun e => by subst e; rw [hro3] at hu; cases hu
        refine ⟨ro, _, _, rfl, rfl, su _ _ hro3, Evl.sz_lt (by rw [List.length_map]; omega), ?_⟩
        refine ⟨_, _, _, _, _, _, us ++ [u], rw' ++ [⟨min a b, max a b, tv.kd, tv.w⟩], rfl, by rw [upd_same, List.map_append]; rfl, by simp [hul], ?_, ?_, by rw [upd_ne nnr]; exact su _ _ hnu3, fun b' o e => ?_⟩
        · refine paired_snoc (Paired.mapP pu fun u' r h => ?_) ?_
          · rw [upd_ne (ne_of h hro3 (by intro z; cases z))]
            exact su _ _ h
          · rw [upd_ne nur]
            exact upd_same
        · rw [List.take_add_one, htv]
          exact paired_snoc pr ⟨a, b, ha, hb, rfl, rfl, rfl, rfl⟩
        · rw [upd_ne (ne_of_none e hro0)]
          exact su _ _ (s3 b' o e)
      · rintro σ H3 ⟨v4, v5, v6, v7, v8, v9, us, rw', rfl, hro3, hul, pu, pr, hnu3, s3⟩
        rw [List.length_map] at hul pr
        rw [htl2, List.take_of_length_le (Nat.le_refl _)] at pr
        exact ⟨v4, v5, v6, v7, v8, v9, us, rw', rfl, hro3, by omega, pu, pr, s3⟩
    rintro σ H3 ⟨v4, v5, v6, v7, v8, v9, us, rw', rfl, hro3, hul, pu, pr, s3⟩
    have inr' : ∀ r ∈ rw', r.i < nm.length ∧ r.j < nm.length := fun r hr' => by
      obtain ⟨tv, _, a, b, ha, hb, e1, e2, _⟩ := paired_back pr hr'
      have h1 := (List.getElem?_eq_some_iff.mp ha).1
      have h2 := (List.getElem?_eq_some_iff.mp hb).1
      omega
    have isr : ∀ y ∈ us.map V.ref, ∃ u r, y = V.ref u ∧ H3 u = some (.tup (RowV.tup r)) ∧ r ∈ rw' ∧ rowBack H3 y = r := fun y hy => by
      obtain ⟨u, hu', rfl⟩ := List.mem_map.mp hy
      obtain ⟨r, hr', hur⟩ := paired_mem pu hu'
      exact ⟨u, r, rfl, hur, hr', rowBack_of hur⟩
    refine ⟨_, rfl, ro, us.map V.ref, fun v => (rowBack H3 v).key, rfl, SqL.of hro3, fun y hy => ?_, fun y hy z hz => .int (.str (.int .nil)), fun ys pp srt pm hpp => ?_⟩
    · obtain ⟨u, r, rfl, hur, _, e⟩ := isr y hy
      refine ⟨u, rfl, ?_⟩
      show H3 u = some (.tup ((rowK (rowBack H3 (V.ref u)).key).map kV))
      rw [e]
      exact hur
    have s4 := same_new (o := .lst ys) hpp
    have hq4 := s4 _ _ (s3 _ _ hq)
    have hyl : ys.length = tl.length := by rw [pm.length_eq, List.length_map]; exact hul
    refine ⟨pp, rfl, ⟨_, SqL.of upd_same⟩, fun D hD => ?_⟩
    have hD0 : H D = none := s3.free (s4.free hD)
    refine lc_list (xs := ys) (fun i H5 => ∃ os : List Addr, H5 D = some (.lst (os.map V.ref)) ∧ os.length = i ∧ Paired (fun t (r : RowV) => ∃ x y, nm[r.i]? = some x ∧ nm[r.j]? = some y ∧ H5 t = some (.tup [.str x, .str y, .str r.kd, .int r.w])) os ((ys.map (rowBack H3)).take i) ∧ Same (upd H3 pp (.lst ys)) H5)
      ⟨[], upd_same, rfl, .nil, same_new hD⟩ (fun i H5 _ ⟨_, _, _, _, h⟩ => SqL.of (h _ _ upd_same)) ?_ ?_
    · rintro i y H5 hi ⟨os, hD5, hol, po, s5⟩
      have hil := (List.getElem?_eq_some_iff.mp hi).1
      obtain ⟨u, r, rfl, hur, hrm, e⟩ := isr y (pm.subset (List.mem_of_getElem? hi))
      obtain ⟨hi1, hj1⟩ := inr' r hrm
      obtain ⟨x1, hx1⟩ : ∃ x1, nm[r.i]? = some x1 := ⟨_, List.getElem?_eq_getElem hi1⟩
      obtain ⟨y1, hy1⟩ : ∃ y1, nm[r.j]? = some y1 := ⟨_, List.getElem?_eq_getElem hj1⟩
      refine ⟨u, _, rfl, SqT.of (s5 _ _ (s4 _ _ hur)), rfl, _, _, rfl, _, _, rfl, _, _, rfl, _, _, rfl, rfl, rfl, tyes ?_⟩
      refine ⟨_, rfl, _, rfl, q, _, _, V.str x1, rfl, rfl, SqL.of (s5 _ _ hq4), atI_nat (by rw [List.getElem?_map, hx1]; rfl), _, rfl, _, rfl, q, _, _, V.str y1, rfl, rfl, SqL.of (s5 _ _ hq4), atI_nat (by rw [List.getElem?_map, hy1]; rfl), _, rfl, _, rfl, (by show 4 ≤ sizeLine; decide), fun o ho => ?_⟩
      have so := same_new (o := .tup [V.str x1, V.str y1, V.str r.kd, V.int r.w]) ho
      have noD : o ≠ D := fun e => by subst e; rw [hD5] at ho; cases ho
      refine ⟨_, so _ _ hD5, Evl.sz_lt (by rw [List.length_map]; omega), os ++ [o], by rw [upd_same, List.map_append]; rfl, by simp [hol], ?_, fun b' o' e' => ?_⟩
      · have e3 : (ys.map (rowBack H3))[i]? = some r := by rw [List.getElem?_map, hi, ← e]; rfl
        rw [List.take_add_one, e3]
        refine paired_snoc (Paired.mapP po fun t' r' ⟨x', y', h1, h2, h3⟩ => ⟨x', y', h1, h2, ?_⟩) ⟨x1, y1, hx1, hy1, by rw [upd_ne noD]; exact upd_same⟩
        rw [upd_ne (ne_of h3 hD5 (by intro z; cases z))]
        exact so _ _ h3
      · rw [upd_ne (ne_of_none e' hD)]
        exact so _ _ (s5 b' o' e')
    · rintro H5 ⟨os, hD5, hol, po, s5⟩
      rw [List.take_of_length_le (by simp)] at po
      refine k D (ys.map (rowBack H3)) rw' H5 hD0 pr ?_ ?_ ⟨os, hD5, po⟩ ((s3.trans s4).trans s5)
      · rw [← rows_back pu]
        exact pm.map _
      · exact List.pairwise_map.mpr srt
end
end Nm
set_option maxRecDepth 100000
set_option maxHeartbeats 4000000
namespace Nm
open PySem L2
/-- what of the class is asked -/
structure TxtW (K : PySem.W.Frag) (mg : Str → Option Value) (C : Addr) : Prop extends TxtH mg where
  cl : Cls K C
  nCo : NoAttr K C "_colour_of"
  nNa : NoAttr K C "_names"
  nTi : NoAttr K C "_ties"
  nWi : NoAttr K C "_width_of"
/-- a web stands at p, the list of its names at q -/
def WebAt (C : Addr) (H : Hp) (p q : Addr) (nm : List Str) : Prop := ∃ dx fs, H p = some (.ins C dx fs) ∧ fs.lookup ("_names" : Str) = some (.ref q) ∧ fs.lookup ("places" : Str) = none ∧ H q = some (.lst (nm.map V.str))
/-- the dict of its colours: its keys -/
def HasC (C : Addr) (H : Hp) (p : Addr) (nm : List Str) : Prop := ∃ dx fs dc kc, H p = some (.ins C dx fs) ∧ fs.lookup ("_colour_of" : Str) = some (.ref dc) ∧ H dc = some (.dK kc) ∧ kc.map (·.1) = nm.map Sum.inr
theorem HasC.ext {C : Addr} {H H' : Hp} {p : Addr} {nm : List Str} (h : HasC C H p nm) (s : ∀ b o, H b = some o → (∀ ps, o ≠ .tbl ps) → (∀ ys, o ≠ .lst ys) → H' b = some o) : HasC C H' p nm := by
  obtain ⟨dx, fs, dc, kc, h1, h2, h3, h4⟩ := h
  exact ⟨dx, fs, dc, kc, s _ _ h1 (fun _ z => by cases z) (fun _ z => by cases z), h2, s _ _ h3 (fun _ z => by cases z) (fun _ z => by cases z), h4⟩
/-- the same, the dict named -/
def HasD (C : Addr) (H : Hp) (p dc : Addr) (nm : List Str) : Prop := ∃ dx fs kc, H p = some (.ins C dx fs) ∧ fs.lookup ("_colour_of" : Str) = some (.ref dc) ∧ H dc = some (.dK kc) ∧ kc.map (·.1) = nm.map Sum.inr
theorem HasD.has {C : Addr} {H : Hp} {p dc : Addr} {nm : List Str} (h : HasD C H p dc nm) : HasC C H p nm := by
  obtain ⟨dx, fs, kc, h⟩ := h
  exact ⟨dx, fs, dc, kc, h⟩
/-- all but what stands at p is kept -/
def But (p : Addr) (H H' : Hp) : Prop := ∀ b o, H b = some o → b ≠ p → H' b = some o
theorem But.of {p : Addr} {H H' : Hp} (h : Same H H') : But p H H' := fun b o e _ => h b o e
theorem But.trans {p : Addr} {H H1 H2 : Hp} (a : But p H H1) (b : But p H1 H2) : But p H H2 := fun c o e n => b c o (a c o e n) n
theorem But.upd {p : Addr} {H : Hp} {o : HO} : But p H (upd H p o) := fun b u e n => by
  rw [upd_ne n]
  exact e
theorem nm_new {nm : List Str} (nd : nm.Nodup) {i : Nat} {x : Str} {kvs : List (Key × V)} (h : nm[i]? = some x) (hk : kvs.map (·.1) = (nm.take i).map Sum.inr) : valV kvs (Sum.inr x) = none := by
  refine val_none_of fun hm => ?_
  rw [hk, ← num_keys] at hm
  have z := num_new nd h
  obtain ⟨v, e⟩ := val_ex hm
  rw [z] at e
  cases e
theorem PlacesAt.but {H H' : Hp} {p pl : Addr} {nm cl : List Str} {C dx : Addr} {fs : List (Str × V)} (h : PlacesAt H pl nm cl) (hp : H p = some (.ins C dx fs)) (b : But p H H') : PlacesAt H' pl nm cl := by
  obtain ⟨ts, h1, h2, h3⟩ := h
  refine ⟨ts, b _ _ h1 (ne_of h1 hp (by intro z; cases z)), h2, fun i t ht => ?_⟩
  obtain ⟨x, y, hx, hy, e⟩ := h3 i t ht
  exact ⟨x, y, hx, hy, b _ _ e (ne_of e hp (by intro z; cases z))⟩
theorem TiesAt.but {H H' : Hp} {p q : Addr} {tl : List TieV} {C dx : Addr} {fs : List (Str × V)} (h : TiesAt H q tl) (hp : H p = some (.ins C dx fs)) (b : But p H H') : TiesAt H' q tl := by
  obtain ⟨ts, h1, h2⟩ := h
  exact ⟨ts, b _ _ h1 (ne_of h1 hp (by intro z; cases z)), Paired.mapP h2 fun t v e => b _ _ e (ne_of e hp (by intro z; cases z))⟩
section
variable {P : Program} {w : World} {K : PySem.W.Frag} {mg : Str → Option Value} {base : Heap}
/-! ### need_ties: what is asked of it -/
def spNeedT : Sp := fun vs H Q _ => ∃ (p d : Addr) (tl : List TieV) (nm : List Str) (kvs : List (Key × V)), vs = [.ref p, .ref d] ∧ TiesAt H p tl ∧ H d = some (.dK kvs) ∧ kvs.map (·.1) = nm.map Sum.inr ∧ (∀ t ∈ tl, t.Ok nm) ∧ (tl.map TieV.spot).Nodup ∧ tl.length ≤ 4000 ∧
  ∀ H', Same H H' → Q .non H'
/-! ### Web.__init__ -/
def spWebI (C : Addr) : Sp := fun vs H Q _ => ∃ (p dx pl tt : Addr) (nm cl : List Str) (tl : List TieV), vs = [.ref p, .ref pl, .ref tt] ∧ H p = some (.ins C dx []) ∧ PlacesAt H pl nm cl ∧ TiesAt H tt tl ∧ 1 ≤ nm.length ∧ nm.length ≤ 1000 ∧ nm.Nodup ∧ (∀ x ∈ nm, isWordB x = true) ∧ (∀ x ∈ cl, isWordB x = true) ∧
  (∀ t ∈ tl, t.Ok nm) ∧ (tl.map TieV.spot).Nodup ∧ tl.length ≤ 4000 ∧ ∀ (q dc : Addr) (H' : Hp), H q = none → H dc = none → WebAt C H' p q nm → HasD C H' p dc nm → But p H H' → Q .non H'
abbrev nWI : List Str := ["self", "places", "ties", "one", "other", "kind", "width", "name", "colour", "_"]
theorem scWI : FnScope nWI ["self", "places", "ties"] (defScope sWebInit) := ⟨rfl, rfl, rfl, by decide +kernel, rfl, by decide +kernel, by decide +kernel⟩
theorem ok_webI {f C : Addr} {fd : FuncData} (F : Fun K "__init__" "Web.__init__" sWebInit f fd) (T : TxtW K mg C) (Gp : Def P w K mg base "need_places" ["places"] 3 spNeedP) (Gt : Def P w K mg base "need_ties" ["ties", "names"] 4 spNeedT) (Go : Def P w K mg base "ordered_ties" ["ties", "names"] 1 spOrd) :
    FnOk P w K mg base CX0 5 f fd ["self", "places", "ties"] (spWebI C) := by
  obtain ⟨fp, fdp, Gp, mp, kp, bp⟩ := Gp.ex
  obtain ⟨ft, fdt, Gt, mt, kt, bt⟩ := Gt.ex
  obtain ⟨fo, fdo, Go, mo, ko, bo⟩ := Go.ex
  refine F.ok scWI (fun vs H Q E h => ?_) (fun cdv A outer s H vs Q E hr h => ?_)
  · obtain ⟨_, _, _, _, _, _, _, rfl, _⟩ := h
    rfl
  · obtain ⟨p, dx, pl, tt, nm, cl, tl, rfl, hp, hpl, htt, h1, hn, nd, hnw, hcw, hok, hsp, htl, k⟩ := h
    have hu := hu_of hr
    have hr1 := hr.mono (by decide : 1 ≤ 4)
    have hr2 := hr.mono (by decide : 3 ≤ 4)
    refine ⟨_, pss_cons (ps_expr (pe_call Gp hr2 (by rfl) mp kp bp .nil pass0 (pa_cons (pv 1) pa_nil)))
      (Evl.pss_cut (ps_fld (pv 0) (pe_dc (own := [("name", 7), ("colour", 8)]) (g := gTup K 2 (gCons (gName 7) (gCons (gName 8) gNil))) (tt := tYes) rfl scWI.nd (pi_list (pv 1)) (blkOk_by (N := nWI) (sc := defScope sWebInit) (by decide +kernel))
          (fun _ _ _ _ _ => pg_tup rfl (pgs_cons (pg_name (i := 7) scWI.nd rfl (Or.inl rfl)) (pgs_cons (pg_name (i := 8) scWI.nd rfl (Or.inl rfl)) pgs_nil))) (fun _ _ _ _ _ => pts_nil) (fun _ _ _ _ _ => pv 7) (fun _ _ _ _ _ => pv 8)) rfl)
      (pss_cons (ps_expr (pe_call Gt hr (by rfl) mt kt bt .nil pass0 (pa_cons (pv 2) (pa_cons (pe_fld (pv 0) rfl) pa_nil))))
      (Evl.pss_cut (ps_fld (pv 0) (pe_lc (own := [("name", 7), ("_", 9)]) (g := gTup K 2 (gCons (gName 7) (gCons (gName 9) gNil))) (tt := tYes) (te := tVar 7) rfl scWI.nd (pi_list (pv 1)) (blkOk_by (N := nWI) (sc := defScope sWebInit) (by decide +kernel))
          (fun _ _ _ _ _ => pg_tup rfl (pgs_cons (pg_name (i := 7) scWI.nd rfl (Or.inl rfl)) (pgs_cons (pg_name (i := 9) scWI.nd rfl (Or.inl rfl)) pgs_nil))) (fun _ _ _ _ _ => pts_nil) (fun _ _ _ _ _ => pv 7)) rfl)
      (pss_cons (ps_fld (pv 0) (pe_call Go hr1 (by rfl) mo ko bo .nil pass0 (pa_cons (pv 2) (pa_cons (pe_fld (pv 0) rfl) pa_nil))) rfl)
      (pss_cons (ps_fld (pv 0) pe_dnewT rfl)
      (pss_one (ps_for PassesOwn.never rfl (pi_list (pe_fld (pv 0) rfl)) (pg_tup rfl (pgs_cons (pg_name (i := 3) scWI.nd rfl (.inl rfl)) (pgs_cons (pg_name (i := 4) scWI.nd rfl (.inl rfl)) (pgs_cons (pg_name (i := 5) scWI.nd rfl (.inl rfl)) (pgs_cons (pg_name (i := 6) scWI.nd rfl (.inl rfl)) pgs_nil)))))
        (pss_cons (ps_dput hu (pe_fld (pv 0) rfl) (pe_tup (pa_cons (pv 3) (pa_cons (pv 4) (pa_cons (pv 5) pa_nil)))) (pv 6) rfl)
        (pss_one (ps_dput hu (pe_fld (pv 0) rfl) (pe_tup (pa_cons (pv 4) (pa_cons (pv 3) (pa_cons (pv 5) pa_nil)))) (pv 6) rfl)))))))))), ?_⟩
    refine ⟨_, rfl, pl, nm, cl, rfl, hpl, h1, hn, nd, hnw, hcw, fun H1 s1 => ?_⟩
    have hp1 := s1 _ _ hp
    have b1 : But p H H1 := But.of s1
    -- the colours
    refine ⟨fun σ H2 => ∃ dc kvs, σ = [some (.ref p), some (.ref pl), some (.ref tt), none, none, none, none, none, none, none] ∧ H dc = none ∧ H2 p = some (.ins C dx (putF "_colour_of" (.ref dc) [])) ∧ H2 dc = some (.dK kvs) ∧ kvs.map (·.1) = nm.map Sum.inr ∧ But p H H2, ?_, ?_⟩
    · obtain ⟨ts, hpl1, hlen, hts⟩ := hpl.but hp b1
      refine ⟨_, rfl, pl, rfl, ⟨_, SqL.of hpl1⟩, fun D hD => ?_⟩
      refine dc_walk (walk_list (xs := ts.map V.ref)) (fun i H2 => (∃ kvs, H2 D = some (.dK kvs) ∧ kvs.map (·.1) = (nm.take i).map Sum.inr) ∧ Same H1 H2) ⟨⟨[], upd_same, rfl⟩, same_new hD⟩ (fun i H2 _ h => SqL.of (h.2 _ _ hpl1)) ?_ ?_
      · rintro i x H2 H3 hi ⟨⟨kvs, hD2, hk⟩, s2⟩ ⟨rfl, hx⟩
        rw [List.length_map] at hi
        rw [List.getElem?_map] at hx
        obtain ⟨t, ht, rfl⟩ := Option.map_eq_some_iff.mp hx
        obtain ⟨x, y, hx, hy, htt'⟩ := hts i t ht
        refine ⟨t, _, rfl, SqT.of (s2 _ _ htt'), rfl, _, _, rfl, _, _, rfl, rfl, rfl, tyes ?_⟩
        have hkl : kvs.length = (nm.take i).length := by
          have := congrArg List.length hk
          simpa using this
        refine ⟨_, rfl, _, rfl, _, Sum.inr x, rfl, hD2, Evl.sz_lt (by rw [hkl, List.length_take]; omega), ⟨_, upd_same, ?_⟩, fun b o e => ?_⟩
        · rw [putK_new _ (nm_new nd hx hk), List.map_append, hk, List.take_add_one, hx]
          simp
        · rw [upd_ne (ne_of_none e hD)]
          exact s2 b o e
      · rintro H2 ⟨⟨kvs, hD2, hk⟩, s2⟩
        rw [List.length_map, hlen, List.take_of_length_le (Nat.le_refl _)] at hk
        have hp2 := s2 _ _ hp1
        have npD : D ≠ p := ne_of hD2 hp2 (by intro z; cases z)
        refine ⟨_, rfl, p, C, dx, _, rfl, hp2, T.cl, T.nCo, (by show 0 < 1000; decide), D, kvs, rfl, s1.free hD, upd_same, by rw [upd_ne npD]; exact hD2, hk, ?_⟩
        exact (b1.trans (But.of s2)).trans But.upd
    rintro σ H2 ⟨dc, kvs, rfl, hdc0, hp2, hdc2, hk, b2⟩
    -- need_ties
    refine ⟨_, rfl, _, rfl, p, C, dx, _, _, rfl, hp2, T.cl, T.nCo, (by rw [lookup_putF, if_pos rfl]), tt, dc, tl, nm, kvs, rfl, htt.but hp b2, hdc2, hk, hok, hsp, htl, fun H3 s3 => ?_⟩
    have hp3 := s3 _ _ hp2
    have b3 := b2.trans (But.of s3)
    have ndp : dc ≠ p := ne_of hdc2 hp2 (by intro z; cases z)
    -- the names
    refine ⟨fun σ H4 => ∃ q fs, σ = [some (.ref p), some (.ref pl), some (.ref tt), none, none, none, none, none, none, none] ∧ H4 p = some (.ins C dx fs) ∧ fs.length ≤ 2 ∧ fs.lookup ("_names" : Str) = some (.ref q) ∧ fs.lookup ("places" : Str) = none ∧ (fs.lookup ("_colour_of" : Str) = some (.ref dc) ∧ H4 dc = some (.dK kvs) ∧ dc ≠ p) ∧ H q = none ∧ H4 q = some (.lst (nm.map V.str)) ∧ But p H H4, ?_, ?_⟩
    · obtain ⟨ts, hpl3, hlen, hts⟩ := hpl.but hp b3
      refine ⟨_, rfl, pl, rfl, ⟨_, SqL.of hpl3⟩, fun D hD => ?_⟩
      refine lc_list (xs := ts.map V.ref) (fun i H4 => H4 D = some (.lst ((nm.take i).map V.str)) ∧ Same H3 H4) ⟨upd_same, same_new hD⟩ (fun i H4 _ h => SqL.of (h.2 _ _ hpl3)) ?_ ?_
      · rintro i x H4 hx ⟨hD4, s4⟩
        have hi := (List.getElem?_eq_some_iff.mp hx).1
        rw [List.length_map] at hi
        rw [List.getElem?_map] at hx
        obtain ⟨t, ht, rfl⟩ := Option.map_eq_some_iff.mp hx
        obtain ⟨x, y, hx, hy, htt'⟩ := hts i t ht
        refine ⟨t, _, rfl, SqT.of (s4 _ _ htt'), rfl, _, _, rfl, _, _, rfl, rfl, rfl, tyes ?_⟩
        refine ⟨_, rfl, _, hD4, Evl.sz_lt (by rw [List.length_map, List.length_take]; omega), ?_, fun b o e => ?_⟩
        · rw [upd_same, List.take_add_one, hx, List.map_append]
          rfl
        · rw [upd_ne (ne_of_none e hD)]
          exact s4 b o e
      · rintro H4 ⟨hD4, s4⟩
        rw [List.length_map, hlen, List.take_of_length_le (Nat.le_refl _)] at hD4
        have hp4 := s4 _ _ hp3
        have npD : D ≠ p := ne_of hD4 hp4 (by intro z; cases z)
        have hD0 : H D = none := by
          cases e : H D with
          | none => rfl
          | some o =>
            have := b3 D o e npD
            rw [hD] at this
            cases this
        refine ⟨_, rfl, p, C, dx, _, rfl, hp4, T.cl, T.nNa, Nat.lt_of_le_of_lt (length_putF _ _ _) (by show 1 < 1000; decide), D, _, rfl, upd_same, Nat.le_trans (length_putF _ _ _) (Nat.succ_le_succ (length_putF _ _ _)), by rw [lookup_putF, if_pos rfl], ?_, ⟨by rw [lookup_putF, if_neg (by decide +kernel), lookup_putF, if_pos rfl], by rw [upd_ne ndp]; exact s4 _ _ (s3 _ _ hdc2), ndp⟩, hD0, by rw [upd_ne npD]; exact hD4, ?_⟩
        · rw [lookup_putF, if_neg (by decide +kernel), lookup_putF, if_neg (by decide +kernel)]
          rfl
        · exact (b3.trans (But.of s4)).trans But.upd
    rintro σ H4 ⟨q, fs, rfl, hp4, hfl, hfn, hfp, ⟨hfc, hdc4, ndp⟩, hq0, hq4, b4⟩
    -- the ties in order
    refine ⟨_, rfl, _, rfl, p, C, dx, _, _, rfl, hp4, T.cl, T.nNa, hfn, tt, q, nm, tl, rfl, htt.but hp b4, hq4, nd, hn, (by omega), hok, fun r rs rw' H5 hr0 pr pm _ ho s5 => ?_⟩
    have hp5 := s5 _ _ hp4
    have b5 := b4.trans (But.of s5)
    refine ⟨_, rfl, p, C, dx, _, rfl, hp5, T.cl, T.nTi, (by omega), ?_⟩
    have hrl : rs.length = tl.length := by rw [pm.length_eq, ← Paired.length pr]
    obtain ⟨os, hos, hpr⟩ := ho
    have nrp : r ≠ p := ne_of hos hp5 (by intro z; cases z)
    have nqp : q ≠ p := ne_of hq4 hp4 (by intro z; cases z)
    generalize hfs2 : putF "_ties" (V.ref r) fs = fs2
    have hfl2 : fs2.length ≤ 3 := by have := length_putF "_ties" (V.ref r) fs; rw [hfs2] at this; omega
    have hfn2 : fs2.lookup ("_names" : Str) = some (.ref q) := by rw [← hfs2, lookup_putF, if_neg (by decide +kernel)]; exact hfn
    have hfp2 : fs2.lookup ("places" : Str) = none := by rw [← hfs2, lookup_putF, if_neg (by decide +kernel)]; exact hfp
    have hfc2 : fs2.lookup ("_colour_of" : Str) = some (.ref dc) := by rw [← hfs2, lookup_putF, if_neg (by decide +kernel)]; exact hfc
    have hft2 : fs2.lookup ("_ties" : Str) = some (.ref r) := by rw [← hfs2, lookup_putF, if_pos rfl]
    have b6 : But p H5 (upd H5 p (.ins C dx fs2)) := But.upd
    have hp6 : (upd H5 p (.ins C dx fs2)) p = some (.ins C dx fs2) := upd_same
    generalize upd H5 p (.ins C dx fs2) = H6 at *
    -- the widths
    intro wd hwd
    have s7 := same_new (o := .dT []) hwd
    have hwd7 : (upd H6 wd (.dT [])) wd = some (.dT []) := upd_same
    generalize upd H6 wd (.dT []) = H7 at *
    have hp7 := s7 _ _ hp6
    refine ⟨_, rfl, p, C, dx, _, rfl, hp7, T.cl, T.nWi, (by omega), ?_⟩
    generalize hfs3 : putF "_width_of" (V.ref wd) fs2 = fs3
    have hfn3 : fs3.lookup ("_names" : Str) = some (.ref q) := by rw [← hfs3, lookup_putF, if_neg (by decide +kernel)]; exact hfn2
    have hfp3 : fs3.lookup ("places" : Str) = none := by rw [← hfs3, lookup_putF, if_neg (by decide +kernel)]; exact hfp2
    have hfc3 : fs3.lookup ("_colour_of" : Str) = some (.ref dc) := by rw [← hfs3, lookup_putF, if_neg (by decide +kernel)]; exact hfc2
    have hft3 : fs3.lookup ("_ties" : Str) = some (.ref r) := by rw [← hfs3, lookup_putF, if_neg (by decide +kernel)]; exact hft2
    have hfw3 : fs3.lookup ("_width_of" : Str) = some (.ref wd) := by rw [← hfs3, lookup_putF, if_pos rfl]
    have nwp : wd ≠ p := ne_of hwd7 hp7 (by intro z; cases z)
    have b8 : But p H7 (upd H7 p (.ins C dx fs3)) := But.upd
    have hp8 : (upd H7 p (.ins C dx fs3)) p = some (.ins C dx fs3) := upd_same
    generalize upd H7 p (.ins C dx fs3) = H8 at *
    have bb : But p H H8 := ((b5.trans b6).trans (But.of s7)).trans b8
    have b58 : But p H5 H8 := (b6.trans (But.of s7)).trans b8
    have hwd8 := b8 _ _ hwd7 nwp
    have hr8 := b58 _ _ hos nrp
    have hq8 := b58 _ _ (s5 _ _ hq4) nqp
    have hdc8 := b58 _ _ (s5 _ _ hdc4) ndp
    have ndw : dc ≠ wd := ne_of hdc8 hwd8 (by intro z; cases z)
    have hw0 : H wd = none := by
      cases e : H wd with
      | none => rfl
      | some o =>
        have := (b5.trans b6) wd o e nwp
        rw [hwd] at this
        cases this
    have nrw : r ≠ wd := ne_of hr8 hwd8 (by intro z; cases z)
    have nqw : q ≠ wd := ne_of hq8 hwd8 (by intro z; cases z)
    have hpr8 : Paired (fun t (r : RowV) => ∃ x y, H8 t = some (.tup [.str x, .str y, .str r.kd, .int r.w])) os rs := Paired.mapP hpr fun t r ⟨x, y, _, _, h⟩ => ⟨x, y, b58 _ _ h (ne_of h hp5 (by intro z; cases z))⟩
    refine ⟨_, rfl, p, C, dx, _, _, rfl, hp8, T.cl, T.nTi, hft3, r, rfl, ⟨_, SqL.of hr8⟩, ?_⟩
    refine for_list (xs := os.map V.ref) (fun i σ H9 => ∃ v3 v4 v5 v6 kvs, σ = [some (.ref p), some (.ref pl), some (.ref tt), v3, v4, v5, v6, none, none, none] ∧ H9 wd = some (.dT kvs) ∧ kvs.length ≤ 2 * i ∧ But wd H8 H9) ⟨none, none, none, none, [], rfl, hwd8, Nat.le_refl _, fun b o e _ => e⟩ (fun i σ H9 _ ⟨_, _, _, _, _, _, _, _, h⟩ => SqL.of (h _ _ hr8 nrw)) ?_ ?_
    · rintro i v σ H9 hi ⟨v3, v4, v5, v6, kv, rfl, hwd9, hkl, b9⟩
      have hil := (List.getElem?_eq_some_iff.mp hi).1
      rw [List.length_map, Paired.length hpr, hrl] at hil
      rw [List.getElem?_map] at hi
      obtain ⟨t, ht, rfl⟩ := Option.map_eq_some_iff.mp hi
      obtain ⟨rv, _, x, y, htt8⟩ := paired_get hpr8 ht
      have nt : t ≠ wd := ne_of htt8 hwd8 (by intro z; cases z)
      have hp9 := b9 _ _ hp8 nwp.symm
      refine ⟨t, _, rfl, SqT.of (b9 _ _ htt8 nt), rfl, _, _, rfl, _, _, rfl, _, _, rfl, _, _, rfl, rfl, ?_⟩
      refine ⟨_, rfl, _, rfl, p, C, dx, _, _, rfl, hp9, T.cl, T.nWi, hfw3, _, rfl, _, rfl, _, rfl, (by show 3 ≤ sizeLine; decide), fun u hu' => ?_⟩
      have su := same_new (o := .tup [V.str x, V.str y, V.str rv.kd]) hu'
      have hu1 : (upd H9 u (.tup [V.str x, V.str y, V.str rv.kd])) u = some (.tup (List.map kV [Sum.inr x, Sum.inr y, Sum.inr rv.kd])) := upd_same
      generalize upd H9 u (.tup [V.str x, V.str y, V.str rv.kd]) = H10 at *
      refine ⟨wd, _, rfl, DPut.t (su _ _ hwd9) hu1 (Evl.sz_lt (by omega)), ?_⟩
      have l1 := length_putK kv [Sum.inr x, Sum.inr y, Sum.inr rv.kd] (V.int rv.w)
      generalize putK kv [Sum.inr x, Sum.inr y, Sum.inr rv.kd] (V.int rv.w) = kv1 at *
      have b11 : But wd H9 (upd H10 wd (.dT kv1)) := (But.of su).trans But.upd
      have hwd11 : (upd H10 wd (.dT kv1)) wd = some (.dT kv1) := upd_same
      generalize upd H10 wd (.dT kv1) = H11 at *
      refine ⟨_, rfl, _, rfl, p, C, dx, _, _, rfl, b11 _ _ hp9 nwp.symm, T.cl, T.nWi, hfw3, _, rfl, _, rfl, _, rfl, (by show 3 ≤ sizeLine; decide), fun u2 hu2 => ?_⟩
      have su2 := same_new (o := .tup [V.str y, V.str x, V.str rv.kd]) hu2
      have hu3 : (upd H11 u2 (.tup [V.str y, V.str x, V.str rv.kd])) u2 = some (.tup (List.map kV [Sum.inr y, Sum.inr x, Sum.inr rv.kd])) := upd_same
      generalize upd H11 u2 (.tup [V.str y, V.str x, V.str rv.kd]) = H12 at *
      refine ⟨wd, _, rfl, DPut.t (su2 _ _ hwd11) hu3 (Evl.sz_lt (by omega)), ?_⟩
      have l2 := length_putK kv1 [Sum.inr y, Sum.inr x, Sum.inr rv.kd] (V.int rv.w)
      exact ⟨_, _, _, _, _, rfl, upd_same, (by omega), ((b9.trans b11).trans (But.of su2)).trans But.upd⟩
    · rintro σ H9 ⟨v3, v4, v5, v6, kv, rfl, hwd9, hkl, b9⟩
      refine k q dc H9 hq0 hdc0 ⟨dx, fs3, b9 _ _ hp8 nwp.symm, hfn3, hfp3, b9 _ _ hq8 nqw⟩ ⟨dx, fs3, kvs, b9 _ _ hp8 nwp.symm, hfc3, b9 _ _ hdc8 ndw, hk⟩ fun b o e hb => ?_
      exact b9 _ _ (bb b o e hb) (ne_of_none e hw0)
end
end Nm
set_option maxRecDepth 100000
set_option maxHeartbeats 4000000
namespace Nm
open PySem L2
/-- a method and its promise -/
structure MethD (P : Program) (w : World) (K : PySem.W.Frag) (mg : Str → Option Value) (base : Heap) (C : Addr) (m : Str) (ps : List Str) (k : Nat) (sp : Sp) : Prop where
  ex : ∃ f fd, FnOk P w K mg base CX0 k f fd ps sp ∧ Meth K C m f ∧ Binds K fd ps []
theorem WebAt.same {C : Addr} {H H' : Hp} {p q : Addr} {nm : List Str} (h : WebAt C H p q nm) (s : Same H H') : WebAt C H' p q nm := by
  obtain ⟨dx, fs, h1, h2, h3, h4⟩ := h
  exact ⟨dx, fs, s _ _ h1, h2, h3, s _ _ h4⟩
/-- the places over y -/
def overL (nm' : List Str) (g : Str → Str) (y : Str) : List Str := nm'.filter fun x => decide (g x = y)
theorem overL_yes {nm' : List Str} {g : Str → Str} {y x : Str} {i : Nat} (h : nm'[i]? = some x) (e : g x = y) : overL (nm'.take (i + 1)) g y = overL (nm'.take i) g y ++ [x] := by
  unfold overL
  rw [List.take_add_one, h, List.filter_append]
  simp [e]
theorem overL_no {nm' : List Str} {g : Str → Str} {y x : Str} {i : Nat} (h : nm'[i]? = some x) (e : ¬ g x = y) : overL (nm'.take (i + 1)) g y = overL (nm'.take i) g y := by
  unfold overL
  rw [List.take_add_one, h, List.filter_append]
  simp [e]
theorem overL_len (nm' : List Str) (g : Str → Str) (y : Str) : (overL nm' g y).length ≤ nm'.length := List.length_filter_le _ _
/-- names and the lists over them -/
def poKV (nm : List Str) (as : List Addr) : List (Key × V) := (nm.zip as).map fun p => (Sum.inr p.1, V.ref p.2)
theorem po_keys {nm : List Str} {as : List Addr} (h : as.length = nm.length) : (poKV nm as).map (·.1) = nm.map Sum.inr := by
  unfold poKV
  rw [List.map_map]
  have : nm = (nm.zip as).map (·.1) := by rw [List.map_fst_zip (by omega)]
  conv => rhs; rw [this]
  rw [List.map_map]
  rfl
theorem po_nd {nm : List Str} {as : List Addr} (h : as.length = nm.length) (nd : nm.Nodup) : ((poKV nm as).map (·.1)).Nodup := by
  rw [po_keys h]
  exact List.Pairwise.map _ (fun a b hab e => hab (Sum.inr.inj e)) nd
theorem po_at {nm : List Str} {as : List Addr} (h : as.length = nm.length) (nd : nm.Nodup) {q : Nat} {y : Str} {a : Addr} (hy : nm[q]? = some y) (ha : as[q]? = some a) : valV (poKV nm as) (Sum.inr y) = some (V.ref a) := by
  refine val_of_mem (po_nd h nd) ?_
  unfold poKV
  refine List.mem_map.mpr ⟨(y, a), ?_, rfl⟩
  refine List.mem_of_getElem? (i := q) ?_
  rw [List.getElem?_zip_eq_some]
  exact ⟨hy, ha⟩
section
variable {P : Program} {w : World} {K : PySem.W.Frag} {mg : Str → Option Value} {base : Heap}
/-! ### Web.places -/
def spPlaces (C : Addr) : Sp := fun vs H Q _ => ∃ (p q : Addr) (nm : List Str), vs = [.ref p] ∧ WebAt C H p q nm ∧ nm.length ≤ 1000 ∧ ∀ (r : Addr) (H' : Hp), H r = none → H' r = some (.lst (nm.map V.str)) → Same H H' → Q (.ref r) H'
theorem scPl : FnScope ["self"] ["self"] (defScope sWebPlaces) := ⟨rfl, rfl, rfl, by decide +kernel, rfl, by decide +kernel, by decide +kernel⟩
theorem ok_places {f C : Addr} {fd : FuncData} (F : Fun K "places" "Web.places" sWebPlaces f fd) (T : TxtW K mg C) : FnOk P w K mg base CX0 1 f fd ["self"] (spPlaces C) := by
  refine F.ok scPl (fun vs H Q E h => ?_) (fun cdv A outer s H vs Q E hr h => ?_)
  · obtain ⟨_, _, _, rfl, _⟩ := h
    rfl
  · obtain ⟨p, q, nm, rfl, ⟨dx, fs, hp, hfn, _, hq⟩, hn, k⟩ := h
    refine ⟨_, pss_one (ps_ret (pe_callTy call_list_of (by rfl) T.list (by decide +kernel) (pa_cons (pe_fld (pv 0) rfl) pa_nil))), ?_⟩
    refine ⟨_, rfl, p, C, dx, _, _, rfl, hp, T.cl, T.nNa, hfn, ?_⟩
    exact ⟨q, _, rfl, .inl (SqL.of hq), fun r hr0 => k r _ hr0 upd_same (same_new hr0)⟩
end
end Nm
set_option maxRecDepth 100000
set_option maxHeartbeats 4000000
namespace Nm
open PySem L2
/-- e, and what it gives stands still from here on -/
def tStill (t : TE) : TE := fun σ H Q => t σ H fun x H1 => ∃ d u, x = .ref d ∧ H1 d = some u ∧ Mut (some u) ∧ ∀ od, Q x (upd H1 d (.frz od u))
theorem pe_still {X : Cx} {e : PySem.Expr} {t : TE} (h : PE X e t) : PE X e (tStill t) := by
  refine ⟨fun pins s σ H Q I hw => ?_⟩
  refine thn (h.run pins s σ H _ I hw) fun v s1 ⟨x, H1, I1, r, d, u, _, hd, mu, q⟩ => ?_
  obtain ⟨od, I2⟩ := I1.lock hd mu
  exact ⟨x, _, I2, r, q od⟩
theorem po_get {nm : List Str} {as : List Addr} {i : Nat} {k : Key} {x : V} (h : (poKV nm as)[i]? = some (k, x)) : ∃ y a, nm[i]? = some y ∧ as[i]? = some a ∧ x = V.ref a := by
  unfold poKV at h
  rw [List.getElem?_map] at h
  obtain ⟨⟨y, a⟩, e1, e2⟩ := Option.map_eq_some_iff.mp h
  rw [List.getElem?_zip_eq_some] at e1
  cases e2
  exact ⟨y, a, e1.1, e1.2, rfl⟩
theorem po_len {nm : List Str} {as : List Addr} (h : as.length = nm.length) : (poKV nm as).length = nm.length := by
  unfold poKV
  rw [List.length_map, List.length_zip]
  omega
end Nm
set_option maxRecDepth 100000
set_option maxHeartbeats 4000000
/-! list(zip(xs, ys)) -/
namespace Nm
open PySem PySem.Spec PyProof.Rows L2
theorem zip_lenless : typeLookup (.type "zip") "__len__" = pure none := am_miss_of_fast (by decide +kernel)
theorem zip_hintless : typeLookup (.type "zip") "__length_hint__" = pure none := am_miss_of_fast (by decide +kernel)
/-- a list of references as it stands -/
abbrev refsObj (ts : List Addr) (c : Nat) : Obj := { cls := .type "list", dict := none, data := .seq (ts.map Value.ref).toArray c, slots := #[] }
/-- a zip on its way into the list at S; g: the heap ahead of it all -/
structure ZL (g h : Heap) (z TI TO i1 i2 l1 l2 S : Addr) (xs ys : Array Value) (i : Nat) (ts : List Addr) (c : Nat) : Prop where
  base : ∀ b o, g.get? b = some o → h.get? b = some o
  size : g.objs.size ≤ h.objs.size
  ti : IsPair h TI (.ref i1) (.ref i2)
  a1 : h.IsListIter i1 l1 i
  a2 : h.IsListIter i2 l2 i
  b1 : h.IsList l1 xs
  b2 : h.IsList l2 ys
  to : ∃ u v, IsPair h TO u v
  st : IsZip h z TI TO .none ∨ ∃ T f oT, IsZipHeld h z TI TO T f ∧ h.get? T = some oT ∧ T ≠ z ∧ T ≠ i1 ∧ T ≠ i2 ∧ T ≠ S
  at_ : h.get? S = some (refsObj ts c)
  len : ts.length = i
  nd : ts.Nodup
  each : ∀ (j : Nat) t, ts[j]? = some t → ∃ x y, xs[j]? = some x ∧ ys[j]? = some y ∧ IsPair h t x y ∧ t ≠ z ∧ t ≠ TO ∧ t ≠ i1 ∧ t ≠ i2 ∧ t ≠ S ∧ g.objs.size ≤ t
/-- S stands apart -/
structure Off (g : Heap) (z TI TO i1 i2 l1 l2 S : Addr) : Prop where
  oz : S ≠ z
  oti : S ≠ TI
  oto : S ≠ TO
  oi1 : S ≠ i1
  oi2 : S ≠ i2
  ol1 : S ≠ l1
  ol2 : S ≠ l2
  nz : g.get? z = none
  nto : g.get? TO = none
  n1 : g.get? i1 = none
  n2 : g.get? i2 = none
  ns : g.get? S = none
/-- what comes of it -/
structure ZD (g h : Heap) (S : Addr) (xs ys : Array Value) (ts : List Addr) (c : Nat) : Prop where
  base : ∀ b o, g.get? b = some o → h.get? b = some o
  at_ : h.get? S = some (refsObj ts c)
  len : ts.length = xs.size
  nd : ts.Nodup
  each : ∀ (j : Nat) t, ts[j]? = some t → ∃ x y, xs[j]? = some x ∧ ys[j]? = some y ∧ IsPair h t x y ∧ t ≠ S ∧ g.objs.size ≤ t
section
variable {P : Program} {w : World} {A : Around} {E : Value → Shared → Prop} {R : Result → Shared → Prop} {g : Heap} {z TI TO i1 i2 l1 l2 S : Addr} {xs ys : Array Value}
/-- S changed -/
theorem ZL.lay {h h' : Heap} {i : Nat} {ts : List Addr} {c c' : Nat} (Z : ZL g h z TI TO i1 i2 l1 l2 S xs ys i ts c) (O : Off g z TI TO i1 i2 l1 l2 S) (k : ∀ b o, b ≠ S → h.get? b = some o → h'.get? b = some o) (le : h.objs.size ≤ h'.objs.size)
    (at_ : h'.get? S = some (refsObj ts c')) : ZL g h' z TI TO i1 i2 l1 l2 S xs ys i ts c' := by
  refine ⟨fun b o e => k b o (fun q => by subst q; rw [O.ns] at e; cases e) (Z.base b o e), Nat.le_trans Z.size le, k _ _ O.oti.symm Z.ti, Z.a1.at fun o e => k _ o O.oi1.symm e, Z.a2.at fun o e => k _ o O.oi2.symm e, Z.b1.at fun o e => k _ o O.ol1.symm e, Z.b2.at fun o e => k _ o O.ol2.symm e, let ⟨u, v, b⟩ := Z.to; ⟨u, v, k _ _ O.oto.symm b⟩, ?_, at_, Z.len, Z.nd, fun j t e => ?_⟩
  · rcases Z.st with a | ⟨T, f, oT, a, b, n1, n2, n3, n4⟩
    · exact .inl (k _ _ O.oz.symm a)
    · exact .inr ⟨T, f, oT, k _ _ O.oz.symm a, k _ _ n4 b, n1, n2, n3, n4⟩
  · obtain ⟨x, y, ex, ey, ep, n1, n2, n3, n4, n5, n6⟩ := Z.each j t e
    exact ⟨x, y, ex, ey, k _ _ n5 ep, n1, n2, n3, n4, n5, n6⟩
theorem zl_loop (D : ZipApart z TI TO i1 i2 l1 l2) (O : Off g z TI TO i1 i2 l1 l2 S) (same : xs.size = ys.size) (lim : xs.size ≤ sizeLine) (hh : A.in1.handled = none) (res : Value) :
    ∀ (k i : Nat) (s : Shared) (ts : List Addr) (c : Nat), xs.size - i = k → i ≤ xs.size → ZL g s.heap z TI TO i1 i2 l1 l2 S xs ys i ts c →
      (∀ h' ts' c', ZD g h' S xs ys ts' c' → R (.ok (.ret res)) { s with heap := h' }) →
      codeAny (model P w) A (.builtin "list.extend.loop" ⟨[.ref S, .ref z, res], []⟩) R s := by
  intro k
  induction k with
  | zero =>
    intro i s ts c ek le Z hR
    obtain rfl : i = xs.size := by omega
    have fin : ∀ h', (∀ b o, b ≠ z → b ≠ TO → b ≠ i1 → b ≠ i2 → s.heap.get? b = some o → h'.get? b = some o) → R (.ok (.ret res)) { s with heap := h' } := fun h' kp => by
      refine hR h' ts c ⟨fun b o e => kp b o (fun q => ?_) (fun q => ?_) (fun q => ?_) (fun q => ?_) (Z.base b o e), kp _ _ O.oz O.oto O.oi1 O.oi2 Z.at_, Z.len, Z.nd, fun j t e => ?_⟩
      · subst q; rw [O.nz] at e; cases e
      · subst q; rw [O.nto] at e; cases e
      · subst q; rw [O.n1] at e; cases e
      · subst q; rw [O.n2] at e; cases e
      · obtain ⟨x, y, ex, ey, ep, n1, n2, n3, n4, n5, n6⟩ := Z.each j t e
        exact ⟨x, y, ex, ey, kp _ _ n1 n2 n3 n4 ep, n5, n6⟩
    have hend : xs[xs.size]? = none ∨ ys[xs.size]? = none := .inl (Array.getElem?_eq_none (Nat.le_refl _))
    refine codeAny_builtin F.entry_extend_loop (by
      rw [Around.under_plainId F.plain_extend_loop _]
      show wpAny _ A.in1 (pyNext (.ref z) >>= _) _ _ s
      refine wpAny_bind ?_
      obtain ⟨u, v, o0⟩ := Z.to
      rcases Z.st with a | ⟨T, f, oT, a, b, n1, n2, n3, n4⟩
      · exact wpAny_pyNext_zip_end hh D a Z.ti o0 Z.a1 Z.a2 Z.b1 Z.b2 hend fun h' kp => wpAny_pure (fin h' kp)
      · exact wpAny_pyNext_zip_end_held hh D a b Z.ti Z.a1 Z.a2 Z.b1 Z.b2 hend fun h' kp => wpAny_pure (fin h' fun b o m1 _ m3 m4 e => kp b o m1 m3 m4 e))
  | succ k ih =>
    intro i s ts c ek le Z hR
    have lt : i < xs.size := by omega
    have ex := Array.getElem?_eq_getElem lt
    have ey := Array.getElem?_eq_getElem (show i < ys.size by omega)
    have off : ∀ {b o}, s.heap.get? b = some o → s.heap.objs.size ≠ b := fun e => Nat.ne_of_gt (Heap.lt_size e)
    have m1 : s.heap.objs.size ≠ i1 := let ⟨_, e, _⟩ := Z.a1; off e
    have m2 : s.heap.objs.size ≠ i2 := let ⟨_, e, _⟩ := Z.a2; off e
    have m3 : s.heap.objs.size ≠ S := off Z.at_
    have m4 : s.heap.objs.size ≠ z := by rcases Z.st with a | ⟨_, _, _, a, _⟩ <;> exact off a
    -- behind one item
    have turn : ∀ h1, (∃ T f oT, IsZipHeld h1 z TI TO T f ∧ h1.get? T = some oT ∧ T ≠ z ∧ T ≠ i1 ∧ T ≠ i2 ∧ T ≠ S) → (∃ u v, IsPair h1 TO u v) → h1.IsListIter i1 l1 (i + 1) → h1.IsListIter i2 l2 (i + 1) → IsPair h1 s.heap.objs.size xs[i] ys[i] → h1.objs.size = s.heap.objs.size + 1 →
        (∀ b o, b ≠ z → b ≠ TO → b ≠ i1 → b ≠ i2 → s.heap.get? b = some o → h1.get? b = some o) →
        wpAny (model P w) A.in1 (updateSeq S (·.push (.ref s.heap.objs.size)) >>= fun _ => again (.builtin "list.extend.loop" ⟨[.ref S, .ref z, res], []⟩))
          (fun fin s' => match fin with | .done f => R (.ok f) s' | .again c' => c'.quiet = true ∧ codeAny (model P w) A c' R s') (fun e s' => R (.error e) s') { s with heap := h1 } := fun h1 st1 to1 c1 c2 cp csz kp => by
      obtain ⟨_, _, o0⟩ := Z.to
      have m5 : s.heap.objs.size ≠ TO := off o0
      have at1 : h1.get? S = some (refsObj ts c) := kp _ _ O.oz O.oto O.oi1 O.oi2 Z.at_
      have sz1 : (ts.map Value.ref).toArray.size = i := by simp [Z.len]
      have nin : s.heap.objs.size ∉ ts := fun m => by
        obtain ⟨j, hj⟩ := List.getElem?_of_mem m
        obtain ⟨_, _, _, _, ep, _⟩ := Z.each j _ hj
        exact off ep rfl
      refine wpAny_bind (wpAny_updateSeq at1 rfl (wpAny_pure ⟨plainId_quiet F.plain_extend_loop _, ?_⟩) (by rw [sz1]; omega) (by show ((ts.map Value.ref).toArray.push _).size ≤ sizeLine + 1; rw [Array.size_push, sz1]; omega))
      have oth : ∀ b o, b ≠ S → h1.get? b = some o → (h1.update S (Obj.mapSeq (·.push (.ref s.heap.objs.size)))).get? b = some o := fun b o n e => (Heap.get?_update_other _ _ n.symm).trans e
      have at2 := Heap.get?_update_self (Obj.mapSeq (·.push (.ref s.heap.objs.size))) at1 rfl
      have size2 : (h1.update S (Obj.mapSeq (·.push (.ref s.heap.objs.size)))).objs.size = s.heap.objs.size + 1 := by rw [Heap.size_update, csz]
      refine ih (i + 1) { s with heap := h1.update S (Obj.mapSeq (·.push (.ref s.heap.objs.size))) } (ts ++ [s.heap.objs.size]) (c + 1) (by omega) lt ⟨fun b o e => ?_, by show g.objs.size ≤ (h1.update S _).objs.size; rw [size2]; have := Z.size; omega, oth _ _ O.oti.symm (kp _ _ D.TIz D.TITO D.TIi1 D.TIi2 Z.ti), c1.at fun o e => oth _ o O.oi1.symm e, c2.at fun o e => oth _ o O.oi2.symm e,
        Z.b1.at fun o e => oth _ o O.ol1.symm (kp _ o D.l1z D.l1TO D.l1i1 D.l1i2 e), Z.b2.at fun o e => oth _ o O.ol2.symm (kp _ o D.l2z D.l2TO D.l2i1 D.l2i2 e), let ⟨u, v, b⟩ := to1; ⟨u, v, oth _ _ O.oto.symm b⟩, .inr ?_, ?_, by simp [Z.len], ?_, fun j t e => ?_⟩ fun h' ts' c' zd => hR h' ts' c' zd
      · refine oth _ _ (fun q => ?_) (kp _ _ (fun q => ?_) (fun q => ?_) (fun q => ?_) (fun q => ?_) (Z.base b o e))
        · subst q; rw [O.ns] at e; cases e
        · subst q; rw [O.nz] at e; cases e
        · subst q; rw [O.nto] at e; cases e
        · subst q; rw [O.n1] at e; cases e
        · subst q; rw [O.n2] at e; cases e
      · obtain ⟨T, f, oT, a, b, n1, n2, n3, n4⟩ := st1
        exact ⟨T, f, oT, oth _ _ O.oz.symm a, oth _ _ n4 b, n1, n2, n3, n4⟩
      · rw [at2]
        simp [refsObj, Obj.mapSeq]
      · rw [List.nodup_append]
        refine ⟨Z.nd, by simp, fun a ha b hb q => ?_⟩
        rw [List.mem_singleton] at hb
        subst hb q
        exact nin ha
      · by_cases q : j < ts.length
        · rw [List.getElem?_append_left q] at e
          obtain ⟨x, y, fx, fy, ep, n1, n2, n3, n4, n5, n6⟩ := Z.each j t e
          exact ⟨x, y, fx, fy, oth _ _ n5 (kp _ _ n1 n2 n3 n4 ep), n1, n2, n3, n4, n5, n6⟩
        · have ej : j = i := by
            have := (List.getElem?_eq_some_iff.mp e).1
            rw [List.length_append, List.length_singleton, Z.len] at this
            rw [Z.len] at q
            omega
          subst ej
          rw [List.getElem?_append_right (by rw [Z.len]; exact Nat.le_refl _), Z.len, Nat.sub_self] at e
          cases e
          exact ⟨_, _, ex, ey, oth _ _ m3 cp, m4, m5, m1, m2, m3, Z.size⟩
    refine codeAny_builtin F.entry_extend_loop (by
      rw [Around.under_plainId F.plain_extend_loop _]
      show wpAny _ A.in1 (pyNext (.ref z) >>= _) _ _ s
      refine wpAny_bind ?_
      obtain ⟨u, v, o0⟩ := Z.to
      rcases Z.st with a | ⟨T, f, oT, a, b, n1, n2, n3, n4⟩
      · refine wpAny_pyNext_zip_item D a Z.ti o0 Z.a1 Z.a2 Z.b1 Z.b2 ex ey fun h1 q1 q2 q3 q4 q5 q6 kp => ?_
        exact turn h1 ⟨s.heap.objs.size, false, _, q1, q5, m4, m1, m2, m3⟩ ⟨_, _, q2⟩ q3 q4 q5 q6 kp
      · refine wpAny_pyNext_zip_item_held D a b Z.ti Z.a1 Z.a2 Z.b1 Z.b2 ex ey fun h1 q1 q3 q4 q5 q6 kp => ?_
        exact turn h1 ⟨T, true, oT, q1, kp _ _ n1 n2 n3 b, n1, n2, n3, n4⟩ ⟨u, v, kp _ _ D.TOz D.TOi1 D.TOi2 o0⟩ q3 q4 q5 q6 fun b o k1 _ k3 k4 e => kp b o k1 k3 k4 e)
end
end Nm
set_option maxRecDepth 100000
set_option maxHeartbeats 4000000
/-! list(zip(xs, ys)) as an expression -/
namespace Nm
open PySem PySem.Spec PyProof.Rows L2
section
variable {P : Program} {w : World} {A : Around} {E : Value → Shared → Prop} {R : Result → Shared → Prop} {g : Heap} {z TI TO i1 i2 l1 l2 S : Addr} {xs ys : Array Value} {s : Shared}
/-- what a list's making waits for -/
abbrev Waits (P : Program) (w : World) (A : Around) (R : Result → Shared → Prop) : PySem.Fin → Shared → Prop := fun fin s' => match fin with
  | .done f => R (.ok f) s'
  | .again c' => c'.quiet = true ∧ codeAny (model P w) A c' R s'
theorem extend_zip (D : ZipApart z TI TO i1 i2 l1 l2) (O : Off g z TI TO i1 i2 l1 l2 S) (same : xs.size = ys.size) (lim : xs.size ≤ sizeLine) (hh : A.in1.handled = none) (res : Value) {c : Nat} (hz : IsZip s.heap z TI TO .none) (Z : ZL g s.heap z TI TO i1 i2 l1 l2 S xs ys 0 [] c)
    (hR : ∀ h' ts c', ZD g h' S xs ys ts c' → R (.ok (.ret res)) { s with heap := h' }) :
    wpAny (model P w) A.in1 (Builtin.List.listExtendWith (.ref S) (.ref z) res) (Waits P w A R) (fun e s' => R (.error e) s') s := by
  have ty : s.TypeIs (.ref z) "zip" := ⟨_, hz, rfl⟩
  unfold Builtin.List.listExtendWith
  refine wpAny_bind (wpAny_typeOf ty ?_)
  have q1 : Builtin.List.listSameRef (.ref S) (.ref z) = false := by simp [Builtin.List.listSameRef, O.oz]
  have q2 : (Value.type "zip" == Value.type "list") = false := by decide
  have q3 : (Value.type "zip" == Value.type "tuple") = false := by decide
  simp only [q1, q2, q3, Bool.or_false, Bool.false_eq_true, if_false]
  refine wpAny_bind (wpAny_pyIter_zip hz (wpAny_bind (wpAny_holding ?_)))
  unfold Builtin.List.listLengthHint
  refine wpAny_bind (wpAny_specialOf ty zip_lenless ?_)
  show wpAny _ A.in1 (specialOf (Value.ref z) (Str.ofString "__length_hint__") >>= _) _ _ _
  refine wpAny_bind (wpAny_specialOf ty zip_hintless (wpAny_pure ?_))
  show wpAny _ A.in1 (rule "list.extend.makes-room" >>= fun _ => Builtin.List.listTouch (.ref S) >>= fun _ => again (.builtin "list.extend.loop" ⟨[.ref S, .ref z, res], []⟩)) _ _ _
  refine wpAny_bind (wpAny_rule (wpAny_bind ?_))
  show wpAny _ A.in1 (updateSeq S (·.push .none) >>= fun _ => updateSeq S (·.pop)) _ _ _
  refine wpAny_bind (wpAny_updateSeq Z.at_ rfl ?_ (by simp [sizeLine_eq]) (by simp [sizeLine_eq]))
  have at2 := Heap.get?_update_self (Obj.mapSeq (·.push Value.none)) Z.at_ rfl
  refine wpAny_updateSeq at2 rfl ?_ (by simp [Obj.mapSeq, refsObj, sizeLine_eq]) (by simp [Obj.mapSeq, refsObj, sizeLine_eq])
  have at3 := Heap.get?_update_self (Obj.mapSeq (·.pop)) at2 rfl
  have oth : ∀ b o, b ≠ S → s.heap.get? b = some o → ((s.heap.update S (Obj.mapSeq (·.push Value.none))).update S (Obj.mapSeq (·.pop))).get? b = some o := fun b o n e => (Heap.get?_update_other _ _ n.symm).trans ((Heap.get?_update_other _ _ n.symm).trans e)
  have Z2 := Z.lay (h' := (s.heap.update S (Obj.mapSeq (·.push Value.none))).update S (Obj.mapSeq (·.pop))) (c' := c + 2) O oth (by rw [Heap.size_update, Heap.size_update]; exact Nat.le_refl _) (by rw [at3]; simp [refsObj, Obj.mapSeq])
  exact wpAny_pure ⟨plainId_quiet F.plain_extend_loop _, zl_loop D O same lim hh res _ 0 _ [] (c + 2) rfl (Nat.zero_le _) Z2 hR⟩
theorem init_zip (D : ZipApart z TI TO i1 i2 l1 l2) (O : Off g z TI TO i1 i2 l1 l2 S) (same : xs.size = ys.size) (lim : xs.size ≤ sizeLine) (hh : A.in1.handled = none) {c : Nat} (hz : IsZip s.heap z TI TO .none) (Z : ZL g s.heap z TI TO i1 i2 l1 l2 S xs ys 0 [] c)
    (hR : ∀ h' ts c', ZD g h' S xs ys ts c' → R (.ok (.ret .none)) { s with heap := h' }) :
    wpAny (model P w) A.in1 (Builtin.«list.__init__» ⟨[.ref S, .ref z], []⟩) (Waits P w A R) (fun e s' => R (.error e) s') s := by
  show wpAny _ A.in1 (Builtin.List.listItems (.ref S) >>= fun old => Builtin.List.listUpdate (.ref S) (fun _ => #[]) >>= fun _ => letGo old.toList.reverse >>= fun _ => Builtin.List.listExtendWith (.ref S) (.ref z) .none) _ _ s
  refine wpAny_bind ?_
  unfold Builtin.List.listItems
  refine wpAny_bind (wpAny_seqItems Z.at_ rfl (wpAny_pure ?_))
  show wpAny _ A.in1 (updateSeq S (fun _ => #[]) >>= fun _ => letGo ((([] : List Addr).map Value.ref).toArray).toList.reverse >>= fun _ => Builtin.List.listExtendWith (.ref S) (.ref z) .none) _ _ s
  refine wpAny_bind (wpAny_updateSeq Z.at_ rfl ?_ (by simp [sizeLine_eq]) (by simp [sizeLine_eq]))
  have at2 := Heap.get?_update_self (Obj.mapSeq (fun _ => (#[] : Array Value))) Z.at_ rfl
  have oth : ∀ b o, b ≠ S → s.heap.get? b = some o → (s.heap.update S (Obj.mapSeq (fun _ => (#[] : Array Value)))).get? b = some o := fun b o n e => (Heap.get?_update_other _ _ n.symm).trans e
  have Z2 := Z.lay (h' := s.heap.update S (Obj.mapSeq (fun _ => (#[] : Array Value)))) (c' := c) O oth (by rw [Heap.size_update]; exact Nat.le_refl _) (by rw [at2]; simp [refsObj, Obj.mapSeq])
  exact wpAny_bind (wpAny_letGo (extend_zip (s := { s with heap := s.heap.update S (Obj.mapSeq (fun _ => (#[] : Array Value))) }) D O same lim hh .none (oth _ _ O.oz.symm hz) Z2 hR))
/-- list(z) of a zip just made -/
theorem call_listZip {Q : Value → Shared → Prop} {h0 : Heap} (la : l1 < h0.objs.size) (lb : l2 < h0.objs.size) (hb1 : h0.IsList l1 xs) (hb2 : h0.IsList l2 ys) (same : xs.size = ys.size) (lim : xs.size ≤ sizeLine) (hh : A.in1.in1.handled = none)
    (hz : IsZip s.heap (h0.objs.size + 4) (h0.objs.size + 2) (h0.objs.size + 3) .none) (hTI : IsPair s.heap (h0.objs.size + 2) (.ref h0.objs.size) (.ref (h0.objs.size + 1))) (hTO : IsPair s.heap (h0.objs.size + 3) .none .none) (a1 : s.heap.IsListIter h0.objs.size l1 0) (a2 : s.heap.IsListIter (h0.objs.size + 1) l2 0)
    (hsz : s.heap.objs.size = h0.objs.size + 5) (hk : ∀ b o, h0.get? b = some o → s.heap.get? b = some o)
    (hQ : ∀ h' ts c', ZD h0 h' (h0.objs.size + 5) xs ys ts c' → Q (.ref (h0.objs.size + 5)) { s with heap := h' }) : wpAny (model P w) A (call (.type "list") [.ref (h0.objs.size + 4)]) Q E s := by
  have fresh : ∀ k, h0.get? (h0.objs.size + k) = none := fun k => Heap.get?_none_of_le (Nat.le_add_right _ _)
  have O : Off h0 (h0.objs.size + 4) (h0.objs.size + 2) (h0.objs.size + 3) h0.objs.size (h0.objs.size + 1) l1 l2 (h0.objs.size + 5) := ⟨Nat.ne_of_gt (Nat.add_lt_add_left (by decide) _), Nat.ne_of_gt (Nat.add_lt_add_left (by decide) _), Nat.ne_of_gt (Nat.add_lt_add_left (by decide) _), Nat.ne_of_gt (Nat.lt_add_of_pos_right (by decide)), Nat.ne_of_gt (Nat.add_lt_add_left (by decide) _), Nat.ne_of_gt (Nat.lt_add_right 5 la), Nat.ne_of_gt (Nat.lt_add_right 5 lb), fresh 4, fresh 3, fresh 0, fresh 1, fresh 5⟩
  refine callType_codes (Q₁ := fun obj s₁ => obj = .ref s.heap.objs.size ∧ s₁ = { s with heap := s.heap.push { cls := .type "list", data := .seq #[] } }) F.called_list (F.typeCall_list_1 _) F.entry_list_init (code_list_new _ ⟨rfl, rfl⟩) fun obj s₁ h₁ => ?_
  obtain ⟨rfl, rfl⟩ := h₁
  have at_ : (s.heap.push { cls := .type "list", data := .seq #[] }).get? s.heap.objs.size = some { cls := .type "list", data := .seq #[] } := Heap.get?_push_size _ rfl
  have kp : ∀ b o, s.heap.get? b = some o → (s.heap.push { cls := .type "list", data := .seq #[] }).get? b = some o := fun b o e => Heap.get?_push_of_some _ e
  refine ⟨⟨_, at_, rfl⟩, F.args_list_init_2 _ _, ?_⟩
  rw [hsz] at at_ ⊢
  refine init_zip (s := { s with heap := s.heap.push { cls := .type "list", data := .seq #[] } }) (PySem.W.ktu_apart h0.objs.size l1 l2 la lb) O same lim hh (kp _ _ hz) ⟨fun b o e => kp b o (hk b o e), by show h0.objs.size ≤ (s.heap.push _).objs.size; rw [Heap.size_push, hsz]; omega, kp _ _ hTI, a1.at fun o e => kp _ o e, a2.at fun o e => kp _ o e, hb1.at fun o e => kp _ o (hk _ o e), hb2.at fun o e => kp _ o (hk _ o e), ⟨_, _, kp _ _ hTO⟩, .inl (kp _ _ hz), at_, rfl, List.nodup_nil, fun j t e => by simp at e⟩ fun h' ts c' zd => ?_
  exact ⟨rfl, hQ h' ts c' zd⟩
/-! ### the objects that come of it -/
theorem refs_vals : ∀ ts : List Addr, Vals (ts.map V.ref) (ts.map Value.ref)
  | [] => .nil
  | t :: ts => .cons (show RelV (.ref t) (.ref t) from rfl) (refs_vals ts)
/-- tuples laid at these places -/
def layT (H : Hp) : List Addr → List V → List V → Hp
  | t :: ts, x :: xs, y :: ys => upd (layT H ts xs ys) t (.tup [x, y])
  | _, _, _ => H
theorem layT_out {H : Hp} {b : Addr} : ∀ {ts : List Addr} {xs ys : List V}, b ∉ ts → layT H ts xs ys b = H b
  | [], _, _, _ => by unfold layT; rfl
  | _ :: _, [], _, _ => by unfold layT; rfl
  | _ :: _, _ :: _, [], _ => by unfold layT; rfl
  | t :: ts, x :: xs, y :: ys, n => by
    show upd (layT H ts xs ys) t _ b = H b
    rw [upd_ne fun e => n (by rw [e]; exact List.mem_cons_self)]
    exact layT_out fun m => n (List.mem_cons_of_mem _ m)
theorem layT_at {H : Hp} : ∀ {ts : List Addr} {xs ys : List V} {j : Nat} {t : Addr} {x y : V}, ts.Nodup → ts[j]? = some t → xs[j]? = some x → ys[j]? = some y → layT H ts xs ys t = some (.tup [x, y])
  | [], _, _, _, _, _, _, _, e, _, _ => by simp at e
  | _ :: _, [], _, _, _, _, _, _, _, e, _ => by simp at e
  | _ :: _, _ :: _, [], _, _, _, _, _, _, _, e => by simp at e
  | t :: ts, x :: xs, y :: ys, 0, _, _, _, _, e1, e2, e3 => by
    cases e1
    cases e2
    cases e3
    exact upd_same
  | t :: ts, x :: xs, y :: ys, j + 1, t', _, _, nd, e1, e2, e3 => by
    obtain ⟨n1, n2⟩ := List.nodup_cons.mp nd
    rw [List.getElem?_cons_succ] at e1 e2 e3
    show upd (layT H ts xs ys) t _ t' = _
    rw [upd_ne fun e => n1 (by rw [← e]; exact List.mem_of_getElem? e1)]
    exact layT_at n2 e1 e2 e3
variable {X : Cx} {pins : List (Addr × Obj)} {σ : L2.St} {H H' : Hp} {h' : Heap}
/-- many objects laid at once -/
theorem laid_all (I : Inv X pins σ H s) (k : ∀ b u, s.heap.get? b = some u → h'.get? b = some u) (old : ∀ b, b < s.heap.objs.size → H' b = H b) (new : ∀ b o, s.heap.objs.size ≤ b → H' b = some o → ObjOk X.prog X.w H' h' b o) : Inv X pins σ H' { s with heap := h' } := by
  have same : ∀ b o, H b = some o → H' b = some o := fun b o e => (old b (I.hok.lt e)).trans e
  refine I.un (t' := s.toks) ⟨fun b o e _ _ _ => k b o e, fun b o e _ _ _ => ⟨o.slots, k b o e⟩, fun b o e n _ => (old b (Heap.lt_size e)).trans n, fun b o e _ => ⟨o, k b o e⟩, fun b xs e => same b _ e, fun b o u e => same b _ e, fun b ps e => ⟨#[], by rw [same b _ e]; simp⟩⟩ fun b o e => ?_
  by_cases c : b < s.heap.objs.size
  · rw [old b c] at e
    exact (I.hok b o e).stay (fun b u _ q => k b u q) (fun b q => same b _ q) fun b xs q => same b _ q
  · exact new b o (Nat.le_of_not_lt c) e
/-- list(zip(xs, ys)): new tuples in a new list -/
def tListZip (K : PySem.W.Frag) (t : TA) : TE := fun σ H Q => t σ H fun vs H1 => ∃ (a b : Addr) (xs ys : List V), vs = [.ref a, .ref b] ∧ SqL K H1 a xs ∧ SqL K H1 b ys ∧ xs.length = ys.length ∧ xs.length ≤ 1000 ∧
  ∀ (p : Addr) (ts : List Addr) (H2 : Hp), H1 p = none → ts.length = xs.length → H2 p = some (.lst (ts.map V.ref)) → (∀ (i : Nat) (t : Addr), ts[i]? = some t → ∃ x y, xs[i]? = some x ∧ ys[i]? = some y ∧ H2 t = some (.tup [x, y])) → (∀ b o, H1 b = some o → H2 b = some o) → Q (.ref p) H2
theorem pe_listZip {e e2 : Expr} {t : TA} {p p2 q pos : Pos} (hc : X.calm = true) (g1 : Gl X "list") (m1 : X.mg "list" = none) (g2 : Gl X "zip") (m2 : X.mg "zip" = none) (ha : PA X [e, e2] t)
    (n1 : starEach [e, e2] X.env = (false, eval e X.env) :: starEach [e2] X.env := by rfl) (n2 : (backTo q (starEach [e2] X.env)).any (·.1) = false := by rfl) (n3 : starEach [.Call (.Name "zip" p2) [e, e2] [] q] X.env = (false, eval (.Call (.Name "zip" p2) [e, e2] [] q) X.env) :: starEach [] X.env := by rfl) : PE X (.Call (.Name "list" p) [.Call (.Name "zip" p2) [e, e2] [] q] [] pos) (tListZip X.K t) := by
  refine ⟨fun pins s σ H Q I h => ?_⟩
  refine Call_ (ld_blt I g1 m1 (show bootBuiltins "list" = some (.type "list") by decide +kernel) (PyProof.Rows.callWith_type1 (PyProof.Rows.args_cons ?_ n3) n3 rfl))
  refine Call_ (ld_blt I g2 m2 PyProof.Rows.boot_zip (PyProof.Rows.callWith_type1 (thn (ha.run q pins s σ H _ I h) fun us s1 ⟨vs, H1, I1, r1, q1⟩ => ?_) n1 n2))
  obtain ⟨a, b, xs, ys, rfl, hqx, hqy, same, lim, k⟩ := q1
  obtain ⟨its, rv, p1, _⟩ := I1.list hqx
  obtain ⟨its2, rv2, p2', _⟩ := I1.list hqy
  have e1 := rv.length
  have e2' := rv2.length
  cases r1 with
  | cons r rr =>
    cases rr with
    | cons r' rr =>
      cases rr
      cases r
      cases r'
      refine call_zip_2 p1.isList p2'.isList fun h1 hz hTI hTO a1 a2 hsz hk => PyProof.Rows.args_nil ?_
      refine call_listZip (s := { s1 with heap := h1 }) (h0 := s1.heap) p1.lt p2'.lt p1.isList p2'.isList (by simp only [List.size_toArray]; omega) (by simp only [List.size_toArray, sizeLine_eq]; omega) (I1.ok.hd hc) hz hTI hTO a1 a2 hsz hk fun h2 ts c zd => ?_
      have len : ts.length = xs.length := by rw [zd.len, List.size_toArray, e1]
      have nsT : s1.heap.objs.size + 5 ∉ ts := fun m => by
        obtain ⟨j, hj⟩ := List.getElem?_of_mem m
        obtain ⟨_, _, _, _, _, n, _⟩ := zd.each j _ hj
        exact n rfl
      have at1 : upd (layT H1 ts xs ys) (s1.heap.objs.size + 5) (.lst (ts.map V.ref)) (s1.heap.objs.size + 5) = some (.lst (ts.map V.ref)) := upd_same
      have tup1 : ∀ (j : Nat) t x y, ts[j]? = some t → xs[j]? = some x → ys[j]? = some y → upd (layT H1 ts xs ys) (s1.heap.objs.size + 5) (.lst (ts.map V.ref)) t = some (.tup [x, y]) := fun j t x y f1 f2 f3 => by
        rw [upd_ne fun q => nsT (by rw [← q]; exact List.mem_of_getElem? f1)]
        exact layT_at zd.nd f1 f2 f3
      have old1 : ∀ b, b < s1.heap.objs.size → upd (layT H1 ts xs ys) (s1.heap.objs.size + 5) (.lst (ts.map V.ref)) b = H1 b := fun b lt => by
        rw [upd_ne (Nat.ne_of_lt (Nat.lt_add_right 5 lt))]
        refine layT_out fun m => ?_
        obtain ⟨j, hj⟩ := List.getElem?_of_mem m
        obtain ⟨_, _, _, _, _, _, n⟩ := zd.each j _ hj
        exact absurd lt (Nat.not_lt.mpr n)
      refine ⟨.ref (s1.heap.objs.size + 5), _, laid_all (s := s1) I1 zd.base old1 fun b o ge eb => ?_, rfl, k (s1.heap.objs.size + 5) ts _ (I1.hok.fresh (Nat.le_add_right _ _)) len at1 (fun j t f1 => ?_) fun b o eb => ?_⟩
      · by_cases cS : b = s1.heap.objs.size + 5
        · subst cS
          rw [at1] at eb
          cases eb
          exact ⟨by rw [List.length_map, len, sizeLine_eq]; omega, ts.map Value.ref, c, refs_vals ts, zd.at_⟩
        · by_cases cT : b ∈ ts
          · obtain ⟨j, hj⟩ := List.getElem?_of_mem cT
            have jl : j < ts.length := (List.getElem?_eq_some_iff.mp hj).1
            have fx := List.getElem?_eq_getElem (show j < xs.length by omega)
            have fy := List.getElem?_eq_getElem (show j < ys.length by omega)
            rw [tup1 j b _ _ hj fx fy] at eb
            cases eb
            obtain ⟨u, v, hu, hv, hp, _⟩ := zd.each j b hj
            obtain ⟨u', hu', ru⟩ := rv.get fx
            obtain ⟨v', hv', rv'⟩ := rv2.get fy
            have eu : u' = u := Option.some.inj (hu'.symm.trans (by simpa using hu))
            have ev : v' = v := Option.some.inj (hv'.symm.trans (by simpa using hv))
            subst eu ev
            exact ⟨by show 2 ≤ sizeLine; decide, [u', v'], .cons ru (.cons rv' .nil), ⟨_, hp, rfl, _, rfl⟩⟩
          · rw [upd_ne cS, layT_out cT, I1.hok.fresh ge] at eb
            cases eb
      · have jl : j < ts.length := (List.getElem?_eq_some_iff.mp f1).1
        have fx := List.getElem?_eq_getElem (show j < xs.length by omega)
        have fy := List.getElem?_eq_getElem (show j < ys.length by omega)
        exact ⟨_, _, fx, fy, tup1 j t _ _ f1 fx fy⟩
      · rw [old1 b (I1.hok.lt eb)]
        exact eb
end
end Nm
set_option maxRecDepth 100000
set_option maxHeartbeats 4000000
/-! spots of ties, by the places of their ends -/
namespace Nm
open PySem L2
theorem pair_mm {x y : Str} (h : x ≠ y) : (minS x y = x ∧ maxS x y = y) ∨ (minS x y = y ∧ maxS x y = x) := by
  unfold minS maxS
  by_cases a : x.cps.toList < y.cps.toList
  · rw [if_pos a, if_neg (List.lt_asymm a)]
    exact .inl ⟨rfl, rfl⟩
  · by_cases b : y.cps.toList < x.cps.toList
    · rw [if_neg a, if_pos b]
      exact .inr ⟨rfl, rfl⟩
    · exfalso
      have := List.le_antisymm (List.not_lt.mp b) (List.not_lt.mp a)
      apply h
      cases x
      cases y
      simp_all
theorem mm_comm {x y : Str} (h : x ≠ y) : minS x y = minS y x ∧ maxS x y = maxS y x := by
  unfold minS maxS
  by_cases a : x.cps.toList < y.cps.toList
  · rw [if_pos a, if_neg (List.lt_asymm a), if_pos a, if_neg (List.lt_asymm a)]
    exact ⟨rfl, rfl⟩
  · by_cases b : y.cps.toList < x.cps.toList
    · rw [if_neg a, if_pos b, if_neg a, if_pos b]
      exact ⟨rfl, rfl⟩
    · exfalso
      have := List.le_antisymm (List.not_lt.mp b) (List.not_lt.mp a)
      apply h
      cases x
      cases y
      simp_all
/-- the spot that a key of a world's ties leads to -/
def spotK (nm : List Str) : List Key → List Key
  | [Sum.inl i, Sum.inl j, Sum.inr kd] => [Sum.inr (minS ((nm[i.toNat]?).getD "") ((nm[j.toNat]?).getD "")), Sum.inr (maxS ((nm[i.toNat]?).getD "") ((nm[j.toNat]?).getD "")), Sum.inr kd]
  | _ => []
theorem spotK_at {nm : List Str} {i j : Nat} {kd x y : Str} (hx : nm[i]? = some x) (hy : nm[j]? = some y) : spotK nm [Sum.inl (i : Int), Sum.inl (j : Int), Sum.inr kd] = [Sum.inr (minS x y), Sum.inr (maxS x y), Sum.inr kd] := by
  show [Sum.inr (minS ((nm[(i : Int).toNat]?).getD "") ((nm[(j : Int).toNat]?).getD "")), Sum.inr (maxS ((nm[(i : Int).toNat]?).getD "") ((nm[(j : Int).toNat]?).getD "")), Sum.inr kd] = _
  rw [Int.toNat_natCast, Int.toNat_natCast, hx, hy]
  rfl
theorem spotK_inj {nm : List Str} (nd : nm.Nodup) {k k' : List Key} (h : TieK nm.length k) (h' : TieK nm.length k') (e : spotK nm k = spotK nm k') : k = k' := by
  obtain ⟨i, j, kd, rfl, h1, h2, _⟩ := h
  obtain ⟨i', j', kd', rfl, h1', h2', _⟩ := h'
  obtain ⟨x, hx⟩ : ∃ x, nm[i]? = some x := ⟨_, List.getElem?_eq_getElem (by omega)⟩
  obtain ⟨y, hy⟩ : ∃ y, nm[j]? = some y := ⟨_, List.getElem?_eq_getElem (by omega)⟩
  obtain ⟨x', hx'⟩ : ∃ x, nm[i']? = some x := ⟨_, List.getElem?_eq_getElem (by omega)⟩
  obtain ⟨y', hy'⟩ : ∃ y, nm[j']? = some y := ⟨_, List.getElem?_eq_getElem (by omega)⟩
  rw [spotK_at hx hy, spotK_at hx' hy'] at e
  simp only [List.cons.injEq, Sum.inr.injEq, and_true] at e
  obtain ⟨e1, e2, e3⟩ := e
  have at_ : ∀ {a b : Nat} {z : Str}, nm[a]? = some z → nm[b]? = some z → a = b := fun {a b z} ha hb => (List.getElem?_inj (List.getElem?_eq_some_iff.mp ha).1 nd).mp (ha.trans hb.symm)
  have hne : x ≠ y := fun z => by
    subst z
    have := at_ hx hy
    omega
  have hne' : x' ≠ y' := fun z => by
    subst z
    have := at_ hx' hy'
    omega
  have fin : (i = i' ∧ j = j') ∨ (i = j' ∧ j = i') := by
    rcases pair_mm hne with ⟨a, b⟩ | ⟨a, b⟩ <;> rcases pair_mm hne' with ⟨a', b'⟩ | ⟨a', b'⟩ <;> rw [a, a'] at e1 <;> rw [b, b'] at e2 <;> subst e1 e2
    · exact .inl ⟨at_ hx hx', at_ hy hy'⟩
    · exact .inr ⟨at_ hx hy', at_ hy hx'⟩
    · exact .inr ⟨at_ hx hy', at_ hy hx'⟩
    · exact .inl ⟨at_ hx hx', at_ hy hy'⟩
  subst e3
  rcases fin with ⟨rfl, rfl⟩ | ⟨rfl, rfl⟩
  · rfl
  · omega
theorem spots_nd {nm : List Str} (nd : nm.Nodup) {ks : List (List Key)} (hk : ∀ k ∈ ks, TieK nm.length k) (hn : ks.Nodup) : (ks.map (spotK nm)).Nodup := by
  refine List.pairwise_map.mpr (List.Pairwise.imp_of_mem (fun {a b} ha hb hne e => hne ?_) hn)
  exact spotK_inj nd (hk a ha) (hk b hb) e
/-- the key that a tuple tells -/
def keyBack (H : Hp) : V → List Key
  | .ref b => (match H b with
    | some (.tup xs) => xs.map keyOf
    | _ => [])
  | _ => []
theorem keyBack_of {H : Hp} {b : Addr} {k : List Key} (h : H b = some (.tup (k.map kV))) : keyBack H (.ref b) = k := by
  show (match H b with
    | some (.tup xs) => xs.map keyOf
    | _ => []) = k
  rw [h]
  show (k.map kV).map keyOf = k
  rw [List.map_map]
  conv => rhs; rw [← List.map_id k]
  exact List.map_congr_left fun x _ => keyOf_kV x
theorem keys_back {H : Hp} : ∀ {kvs : List (List Key × V)} {bs : List Addr}, IsKeys H kvs bs → (bs.map V.ref).map (keyBack H) = kvs.map (·.1)
  | _, _, .nil => rfl
  | _, _, .cons h t => by
    rw [List.map_cons, List.map_cons, List.map_cons, keys_back t, keyBack_of h]
end Nm
set_option maxRecDepth 100000
set_option maxHeartbeats 4000000
namespace Nm
open PySem L2
theorem step_up (x y : V) : stepV [x, y] 1 = [x, y] := by
  have e : stepIx 1 2 = [0, 1] := by decide +kernel
  show (stepIx 1 2).filterMap ([x, y][·]?) = [x, y]
  rw [e]
  rfl
theorem step_down (x y : V) : stepV [x, y] (-1) = [y, x] := by
  have e : stepIx (-1) 2 = [1, 0] := by decide +kernel
  show (stepIx (-1) 2).filterMap ([x, y][·]?) = [y, x]
  rw [e]
  rfl
structure TxtM (K : PySem.W.Frag) (mg : Str → Option Value) (C f : Addr) : Prop extends TxtW K mg C where
  mgC : mg "Web" = some (.ref C)
  mkC : Mk K C f
section
variable {P : Program} {w : World} {K : PySem.W.Frag} {mg : Str → Option Value} {base : Heap}
/-! ### _law_made -/
def spMade (C : Addr) : Sp := fun vs H Q _ => ∃ (s c wd a b t : Addr) (nm cl : List Str) (kvs : List (List Key × V)) (m : Nat), vs = [.ref s, .ref wd] ∧ Src H s c ∧ WorldOk H s c wd a b t nm cl kvs ∧ Ties nm.length m kvs ∧ kvs.length ≤ 4000 ∧ nm.length ≤ 1000 ∧
  ∀ (p q dc : Addr) (H' : Hp), H p = none → H q = none → H dc = none → WebAt C H' p q nm → HasD C H' p dc nm → Src H' s c → Kp s c H H' → Q (.ref p) H'
abbrev nMd : List Str := ["_law_source", "_law_world", "_law_names", "_law_rows", "_law_one", "_law_other", "_law_kind", "_law_ends"]
theorem scMd : FnScope nMd ["_law_source", "_law_world"] (defScope sMade) := ⟨rfl, rfl, rfl, by decide +kernel, rfl, by decide +kernel, by decide +kernel⟩
theorem ok_made {f C fi : Addr} {fd fdi : FuncData} (F : Fun K "_law_made" "_law_made" sMade f fd) (T : TxtM K mg C fi) (Gp : Def P w K mg base "_law_pick" ["_law_source", "_law_many"] 1 spPick) (Ga : Def P w K mg base "_law_any_order" ["_law_source", "_law_items"] 2 (spAny K))
    (Gi : FnOk P w K mg base CX0 5 fi fdi ["self", "places", "ties"] (spWebI C)) (bi : Binds K fdi ["self", "places", "ties"] []) : FnOk P w K mg base CX0 7 f fd ["_law_source", "_law_world"] (spMade C) := by
  obtain ⟨fp, fdp, Gp, mp, kp, bp⟩ := Gp.ex
  obtain ⟨fa, fda, Ga, ma, ka, ba⟩ := Ga.ex
  refine F.ok scMd (fun vs H Q E h => ?_) (fun cdv A outer s H vs Q E hr h => ?_)
  · obtain ⟨_, _, _, _, _, _, _, _, _, _, rfl, _⟩ := h
    rfl
  · obtain ⟨sa, ca, wd, a, b, t, nm, cl, kvs, m, rfl, S, W, ti, hkl, hnl, k⟩ := h
    have hu := hu_of hr
    have hr1 := hr.mono (by decide : 1 ≤ 6)
    have hr2 := hr.mono (by decide : 2 ≤ 6)
    refine ⟨_, pss_cons (ps_par (i := 2) (j := 3) (by rfl) scMd.nd rfl rfl (by decide) rfl rfl (pa_cons (pe_dget hu (pv 1) pe_str (fun _ _ => rfl)) (pa_cons (pe_lst pa_nil) pa_nil)) (by rfl))
      (Evl.pss_cut (ps_for PassesOwn.never rfl (pi_list (pe_call Ga hr2 (by rfl) ma ka ba .nil pass0 (pa_cons (pv 0) (pa_cons (pe_callTy (call_list_dT rfl) (by rfl) T.list (by decide +kernel) (pa_cons (pe_dget hu (pv 1) pe_str (fun _ _ => rfl)) pa_nil)) pa_nil))))
        (pg_tup rfl (pgs_cons (pg_name (i := 4) scMd.nd rfl (.inl rfl)) (pgs_cons (pg_name (i := 5) scMd.nd rfl (.inl rfl)) (pgs_cons (pg_name (i := 6) scMd.nd rfl (.inl rfl)) pgs_nil))))
        (pss_cons (ps_set (i := 7) scMd.nd rfl (Or.inl rfl) (pe_stepL (pe_lst (pa_cons (pe_ix ix_list (pv 2) (pv 4) (fun _ _ => rfl)) (pa_cons (pe_ix ix_list (pv 2) (pv 5) (fun _ _ => rfl)) pa_nil))) (pe_op op_sub pe_int (pe_op op_mul pe_int (pe_call Gp hr1 (by rfl) mp kp bp .nil pass0 (pa_cons (pv 0) (pa_cons pe_int pa_nil)))))))
        (pss_one (ps_expr (pe_bm PySem.F.plainAttrs_list PySem.F.slot_list_append PySem.F.type_list_append mt_append (pv 3) (pa_cons (pe_tup (pa_cons (pe_ix ix_list (pv 7) pe_int (fun _ _ => rfl)) (pa_cons (pe_ix ix_list (pv 7) pe_int (fun _ _ => rfl)) (pa_cons (pv 6) (pa_cons (pe_dget hu (pe_dget hu (pv 1) pe_str (fun _ _ => rfl)) (pe_tup (pa_cons (pv 4) (pa_cons (pv 5) (pa_cons (pv 6) pa_nil)))) (fun _ _ => rfl)) pa_nil))))) pa_nil))))))
      (pss_one (ps_ret (pe_make T.mkC Gi hr (by rfl) T.mgC bi .nil pass0 (pa_cons (pe_listZip rfl (by rfl) T.list (by rfl) T.zip (pa_cons (pv 2) (pa_cons (pe_dget hu (pv 1) pe_str (fun _ _ => rfl)) pa_nil))) (pa_cons (pv 3) pa_nil)))))), ?_⟩
    have hn := W.hn
    refine ⟨_, rfl, wd, _, rfl, dg_names W.d, (by show 0 ≤ sizeLine; decide), fun ro hro => ⟨_, _, rfl, ?_⟩⟩
    have s1 := same_new (o := .lst []) hro
    have hro1 : (upd H ro (.lst [])) ro = some (.lst (List.map V.ref [])) := upd_same
    have W1 := W.same s1
    have S1 := S.same s1
    generalize upd H ro (.lst []) = H1 at *
    obtain ⟨nrs, nrc⟩ := S.ne hro
    refine ⟨fun σ H2 => ∃ v4 v5 v6 v7 tl, σ = [some (.ref sa), some (.ref wd), some (.ref a), some (.ref ro), v4, v5, v6, v7] ∧ TiesAt H2 ro tl ∧ (∀ t ∈ tl, t.Ok nm) ∧ (tl.map TieV.spot).Nodup ∧ tl.length ≤ 4000 ∧ Src H2 sa ca ∧ Kp sa ca H H2, ?_, ?_⟩
    · refine ⟨_, rfl, _, rfl, wd, _, rfl, dg_ties W1.d, t, kvs, rfl, .inl W1.ht, fun l bs hl hk => ?_⟩
      obtain ⟨kl, hbl⟩ := keyL_of hk
      have s2 := same_new (o := .lst (bs.map V.ref)) hl
      have hl2 : (upd H1 l (.lst (bs.map V.ref))) l = some (.lst (bs.map V.ref)) := upd_same
      have kb : (bs.map V.ref).map (keyBack H1) = kvs.map (·.1) := keys_back hk
      have hbk : ∀ y ∈ bs.map V.ref, ∃ b k, y = V.ref b ∧ H1 b = some (.tup (List.map kV k)) := fun y hy => by
        obtain ⟨b, k, v, h1, h2, _⟩ := kl y hy
        exact ⟨b, k, h1, h2⟩
      generalize upd H1 l (.lst (bs.map V.ref)) = H2 at *
      refine ⟨sa, ca, l, _, rfl, S1.same s2, SqL.of hl2, by rw [List.length_map]; omega, fun p ys H3 hp pm hp3 S3 kp3 => ?_⟩
      have kly : KeyL H3 kvs ys := fun y hy => ((kl.same s2).kp (S1.same s2) kp3) y (pm.subset hy)
      have W3 := (W1.same s2).kp kp3
      have hro3 := kp3 _ _ (s2 _ _ hro1) nrs nrc
      have hyl : ys.length ≤ 4000 := by rw [pm.length_eq, List.length_map]; omega
      have npr : p ≠ ro := fun e => by subst e; rw [s2 _ _ hro1] at hp; cases hp
      have hkk : ((ys.map (keyBack H1)).Perm (kvs.map (·.1))) := by rw [← kb]; exact pm.map _
      have kp03 : Kp sa ca H H3 := (Kp.same (s1.trans s2)).trans kp3
      have hp0 := S3
      have npsc := (S1.same s2).ne hp
      refine ⟨p, rfl, ⟨_, SqL.of hp3⟩, ?_⟩
      refine for_list (xs := ys) (fun i σ H4 => ∃ v4 v5 v6 v7 us tl, σ = [some (.ref sa), some (.ref wd), some (.ref a), some (.ref ro), v4, v5, v6, v7] ∧ H4 ro = some (.lst (List.map V.ref us)) ∧ us.length = i ∧ Paired (fun u tv => H4 u = some (.tup (TieV.tup tv))) us tl ∧ (∀ t ∈ tl, t.Ok nm) ∧ tl.map TieV.spot = ((ys.map (keyBack H1)).take i).map (spotK nm) ∧ Src H4 sa ca ∧ Kp3 sa ca ro H3 H4)
        ⟨none, none, none, none, [], [], rfl, hro3, rfl, .nil, (fun t ht => (List.not_mem_nil ht).elim), rfl, S3, Kp3.refl H3⟩ (fun i σ H4 _ ⟨_, _, _, _, _, _, _, _, _, _, _, _, _, h⟩ => SqL.of (h _ _ hp3 npsc.1 npsc.2 npr)) ?_ ?_
      · rintro i y σ H4 hi ⟨v4, v5, v6, v7, us, tl, rfl, hro4, hul, pu, hok, hsp, S4, kp4⟩
        have hil := (List.getElem?_eq_some_iff.mp hi).1
        have hym := List.mem_of_getElem? hi
        obtain ⟨b1, i1, j1, x1, kd1, rfl, hb1, hmem, hij, hjn, hkw, hx1, hx2⟩ := kly.tie ti hym
        obtain ⟨b1', k1, eb, hbk1⟩ := hbk _ (pm.subset hym)
        cases eb
        obtain ⟨cs0, l0, m0, t0, S30⟩ := id S3
        have nb1 : b1 ≠ sa := ne_of hb1 S30.ds (by intro z; cases z)
        have nb2 : b1 ≠ ca := ne_of hb1 S30.dc (by intro z; cases z)
        have nb3 : b1 ≠ ro := ne_of hb1 hro3 (by intro z; cases z)
        have ek : keyBack H1 (V.ref b1) = [Sum.inl (i1 : Int), Sum.inl (j1 : Int), Sum.inr kd1] := by
          have q1 := (kp3 _ _ (s2 _ _ hbk1) nb1 nb2).symm.trans hb1
          rw [keyBack_of hbk1]
          have q2 : List.map kV k1 = List.map kV [Sum.inl (i1 : Int), Sum.inl (j1 : Int), Sum.inr kd1] := by
            have := Option.some.inj q1
            injection this
          have q3 := congrArg (List.map keyOf) q2
          rw [List.map_map, List.map_map] at q3
          have idk : (keyOf ∘ kV : Key → Key) = id := funext fun z => keyOf_kV z
          rw [idk, List.map_id, List.map_id] at q3
          exact q3
        obtain ⟨x, hx⟩ : ∃ x, nm[i1]? = some x := ⟨_, List.getElem?_eq_getElem (by omega)⟩
        obtain ⟨y, hy⟩ : ∃ x, nm[j1]? = some x := ⟨_, List.getElem?_eq_getElem (by omega)⟩
        have hxy : x ≠ y := fun e => by
          subst e
          have := (List.getElem?_inj (List.getElem?_eq_some_iff.mp hx).1 W.nn).mp (hx.trans hy.symm)
          omega
        have nar : a ≠ ro := fun e => by subst e; rw [W.hn] at hro; cases hro
        have nwr : wd ≠ ro := fun e => by subst e; rw [W.d] at hro; cases hro
        have ntr : t ≠ ro := fun e => by subst e; rw [W.ht] at hro; cases hro
        have hn4 := kp4 _ _ W3.hn W.as.1 W.as.2 nar
        have hwd4 := kp4 _ _ W3.d W.ds.1 W.ds.2 nwr
        have ht4 := kp4 _ _ W3.ht W.ts.1 W.ts.2 ntr
        refine ⟨b1, _, rfl, SqT.of (kp4 _ _ hb1 nb1 nb2 nb3), rfl, _, _, rfl, _, _, rfl, _, _, rfl, rfl, ?_⟩
        refine ⟨_, rfl, _, rfl, a, _, _, V.str x, rfl, rfl, SqL.of hn4, atI_nat (by rw [List.getElem?_map, hx]; rfl), _, rfl, _, rfl, a, _, _, V.str y, rfl, rfl, SqL.of hn4, atI_nat (by rw [List.getElem?_map, hy]; rfl), (by show 2 ≤ sizeLine; decide), fun l1 hl1 => ?_⟩
        have s5 := same_new (o := .lst [V.str x, V.str y]) hl1
        have hl5 : (upd H4 l1 (.lst [V.str x, V.str y])) l1 = some (.lst [V.str x, V.str y]) := upd_same
        have S5 := S4.same s5
        have nl1 := S4.ne hl1
        generalize upd H4 l1 (.lst [V.str x, V.str y]) = H5 at *
        refine ⟨_, rfl, sa, ca, 2, rfl, S5, by decide, by decide, fun kk H6 k0 k1' S6 kp6 => ⟨_, _, rfl, rfl, .inl (by decide), _, _, rfl, rfl, ?_⟩⟩
        refine ⟨_, rfl, l1, _, rfl, ?_, rfl, SqL.of (kp6 _ _ hl5 nl1.1 nl1.2), fun en hen => ?_⟩
        · show (1 : Int) - 2 * kk ≠ 0
          omega
        have ends : ∃ x' y', stepV [V.str x, V.str y] ((some ((1 : Int) - 2 * kk)).getD 1) = [V.str x', V.str y'] ∧ ((x' = x ∧ y' = y) ∨ (x' = y ∧ y' = x)) := by
          have : kk = 0 ∨ kk = 1 := by omega
          rcases this with rfl | rfl
          · exact ⟨x, y, step_up _ _, .inl ⟨rfl, rfl⟩⟩
          · exact ⟨y, x, step_down _ _, .inr ⟨rfl, rfl⟩⟩
        obtain ⟨x', y', est, hor⟩ := ends
        rw [est]
        have s7 := same_new (o := .lst [V.str x', V.str y']) hen
        have hen7 : (upd H6 en (.lst [V.str x', V.str y'])) en = some (.lst [V.str x', V.str y']) := upd_same
        have S7 := S6.same s7
        have kp47 : Kp sa ca H4 (upd H6 en (.lst [V.str x', V.str y'])) := ((Kp.same s5).trans kp6).trans (Kp.same s7)
        generalize upd H6 en (.lst [V.str x', V.str y']) = H7 at *
        have hro7 := kp47 _ _ hro4 nrs nrc
        have hwd7 := kp47 _ _ hwd4 W.ds.1 W.ds.2
        have ht7 := kp47 _ _ ht4 W.ts.1 W.ts.2
        have hval : valV kvs [Sum.inl (i1 : Int), Sum.inl (j1 : Int), Sum.inr kd1] = some (V.int (x1 : Int)) := val_of_mem ti.nd hmem
        refine ⟨_, rfl, .inl ⟨rfl, _, SqL.of hro7⟩, _, rfl, en, _, _, V.str x', rfl, rfl, SqL.of hen7, atI_nat (j := 0) rfl, _, rfl, en, _, _, V.str y', rfl, rfl, SqL.of hen7, atI_nat (j := 1) rfl, _, rfl, _, rfl, wd, _, rfl, dg_ties hwd7, _, rfl, _, rfl, _, rfl, (by show 3 ≤ sizeLine; decide), fun u hu' => ?_⟩
        have s8 := same_new (o := .tup [V.int (i1 : Int), V.int (j1 : Int), V.str kd1]) hu'
        have hu8 : (upd H7 u (.tup [V.int (i1 : Int), V.int (j1 : Int), V.str kd1])) u = some (.tup (List.map kV [Sum.inl (i1 : Int), Sum.inl (j1 : Int), Sum.inr kd1])) := upd_same
        generalize upd H7 u (.tup [V.int (i1 : Int), V.int (j1 : Int), V.str kd1]) = H8 at *
        refine ⟨t, _, rfl, (by rw [← hval]; exact DGet.t (s8 _ _ ht7) hu8), (by show 4 ≤ sizeLine; decide), fun o ho => ?_⟩
        have s9 := same_new (o := .tup [V.str x', V.str y', V.str kd1, V.int (x1 : Int)]) ho
        have ho9 : (upd H8 o (.tup [V.str x', V.str y', V.str kd1, V.int (x1 : Int)])) o = some (.tup (TieV.tup ⟨x', y', kd1, (x1 : Int)⟩)) := upd_same
        have kp79 : Kp sa ca H4 (upd H8 o (.tup [V.str x', V.str y', V.str kd1, V.int (x1 : Int)])) := kp47.trans (Kp.same (s8.trans s9))
        have S9 := S7.same (s8.trans s9)
        have hro9 := s9 _ _ (s8 _ _ hro7)
        generalize upd H8 o (.tup [V.str x', V.str y', V.str kd1, V.int (x1 : Int)]) = H9 at *
        refine ⟨ro, _, _, rfl, rfl, hro9, Evl.sz_lt (by rw [List.length_map]; omega), ?_⟩
        obtain ⟨cs4, l4, m4, t4, S40⟩ := id S4
        have nor : o ≠ ro := ne_of ho9 hro9 (by intro z; cases z)
        refine ⟨_, _, _, _, us ++ [o], tl ++ [⟨x', y', kd1, (x1 : Int)⟩], rfl, by rw [upd_same, List.map_append]; rfl, by simp [hul], ?_, ?_, ?_, S9.upd nrs nrc, fun b' o' e' h1 h2 h3 => ?_⟩
        · refine paired_snoc (Paired.mapP pu fun u' tv h => ?_) (by rw [upd_ne nor]; exact ho9)
          rw [upd_ne (ne_of h hro4 (by intro z; cases z))]
          exact kp79 _ _ h (ne_of h S40.ds (by intro z; cases z)) (ne_of h S40.dc (by intro z; cases z))
        · intro tv htv
          rcases List.mem_append.mp htv with z | z
          · exact hok tv z
          · rw [List.mem_singleton] at z
            subst z
            have mx := List.mem_of_getElem? hx
            have my := List.mem_of_getElem? hy
            rcases hor with ⟨rfl, rfl⟩ | ⟨rfl, rfl⟩
            · exact ⟨mx, my, hxy, hkw, by show (1 : Int) ≤ (x1 : Int); omega⟩
            · exact ⟨my, mx, hxy.symm, hkw, by show (1 : Int) ≤ (x1 : Int); omega⟩
        · have e3 : (ys.map (keyBack H1))[i]? = some [Sum.inl (i1 : Int), Sum.inl (j1 : Int), Sum.inr kd1] := by rw [List.getElem?_map, hi]; exact congrArg some ek
          rw [List.take_add_one, e3, List.map_append, List.map_append, hsp]
          have e4 : TieV.spot ⟨x', y', kd1, (x1 : Int)⟩ = spotK nm [Sum.inl (i1 : Int), Sum.inl (j1 : Int), Sum.inr kd1] := by
            rw [spotK_at hx hy]
            show [Sum.inr (minS x' y'), Sum.inr (maxS x' y'), Sum.inr kd1] = _
            rcases hor with ⟨rfl, rfl⟩ | ⟨rfl, rfl⟩
            · rfl
            · rw [(mm_comm hxy).1, (mm_comm hxy).2]
          rw [List.map_singleton, e4]
          rfl
        · rw [upd_ne h3]
          exact kp79 _ _ (kp4 _ _ e' h1 h2 h3) h1 h2
      · rintro σ H4 ⟨v4, v5, v6, v7, us, tl, rfl, hro4, hul, pu, hok, hsp, S4, kp4⟩
        rw [List.take_of_length_le (by simp)] at hsp
        refine ⟨v4, v5, v6, v7, tl, rfl, ⟨us, hro4, pu⟩, hok, ?_, by rw [← Paired.length pu]; omega, S4, fun b' o' e' h1 h2 => ?_⟩
        · rw [hsp]
          refine spots_nd W.nn (fun k hk' => ?_) (hkk.nodup_iff.mpr ti.nd)
          obtain ⟨kv, hkv, rfl⟩ := List.mem_map.mp (hkk.subset hk')
          exact ti.key kv hkv
        · exact kp4 _ _ (kp03 _ _ e' h1 h2) h1 h2 (ne_of_none e' hro)
    rintro σ H2 ⟨v4, v5, v6, v7, tl, rfl, hti, hok, hnd, hlen, S2, kp2⟩
    have W2 := W.kp kp2
    refine ⟨_, rfl, _, rfl, wd, _, rfl, dg_colours W2.d, a, b, _, _, rfl, SqL.of W2.hn, SqL.of W2.hc, by rw [List.length_map, List.length_map, W.cn], by rw [List.length_map]; exact hnl, fun pl ts H3 hpl0 htl hpl hts s3 => ?_⟩
    refine ⟨_, rfl, fun p dx hp0 hdx0 ne => ?_⟩
    have s4 : Same H3 (upd (upd H3 dx (.own p)) p (.ins C dx [])) := (same_new hdx0).trans (same_new (by rw [upd_ne ne.symm]; exact hp0))
    have hp4 : (upd (upd H3 dx (.own p)) p (.ins C dx [])) p = some (.ins C dx []) := upd_same
    generalize upd (upd H3 dx (.own p)) p (.ins C dx []) = H4 at *
    have s3 : Same H2 H3 := s3
    have s34 := s3.trans s4
    have S4 := S2.same s34
    refine ⟨p, dx, pl, ro, nm, cl, tl, rfl, hp4, ⟨ts, s4 _ _ hpl, by rw [htl, List.length_map], fun i t' ht' => ?_⟩, ?_, W.n1, hnl, W.nn, W.nw, W.cw, hok, hnd, hlen, fun q dc H5 hq0 hdc0 web hasC bt => ⟨rfl, ?_⟩⟩
    · obtain ⟨x, y, hx, hy, he⟩ := hts i t' ht'
      rw [List.getElem?_map] at hx hy
      obtain ⟨x', hx', rfl⟩ := Option.map_eq_some_iff.mp hx
      obtain ⟨y', hy', rfl⟩ := Option.map_eq_some_iff.mp hy
      exact ⟨x', y', hx', hy', s4 _ _ he⟩
    · obtain ⟨us, h1, h2⟩ := hti
      exact ⟨us, s34 _ _ h1, Paired.mapP h2 fun u tv e => s34 _ _ e⟩
    · have hp00 : H p = none := kp2.free S2 (s3.free hp0)
      have hq00 : H q = none := kp2.free S2 (s34.free hq0)
      refine k p q dc H5 hp00 hq00 (kp2.free S2 (s34.free hdc0)) web hasC ?_ fun b' o' e' h1 h2 => bt _ _ (s34 _ _ (kp2 _ _ e' h1 h2)) (ne_of_none e' hp00)
      obtain ⟨cs, l, m', t', S0⟩ := S4
      exact ⟨cs, l, m', t', ⟨bt _ _ S0.ds (ne_of S0.ds hp4 (by intro z; cases z)), bt _ _ S0.dc (ne_of S0.dc hp4 (by intro z; cases z)), S0.nn, S0.len, S0.l0, S0.m0, S0.m1, S0.t0⟩⟩
end
end Nm
set_option maxRecDepth 100000
set_option maxHeartbeats 4000000
/-! words are short and plain; how long their texts are -/
namespace Nm
open PySem PySem.Spec PyProof.Rows L2
theorem alpha_small : ∀ c ∈ ("abcdefghijklmnopqrstuvwxyz" : Str).cps.toList, c < 128 := by decide +kernel
theorem digit_small : ∀ c ∈ ("0123456789" : Str).cps.toList, c < 128 := by decide +kernel
theorem word_al {z : Str} (h : isWordB z = true) : z.length ≤ 100 ∧ ∀ c ∈ z.cps.toList, c < 128 := by
  unfold isWordB at h
  simp only [Bool.and_eq_true, decide_eq_true_eq] at h
  obtain ⟨⟨⟨⟨h1, _⟩, _⟩, _⟩, hall⟩ := h
  refine ⟨h1, fun c hc => ?_⟩
  have e : letB z = Builtin.Str.strSub z 0 (stripHi ("0123456789" : Str).cps.contains true z 0) := by
    unfold letB Txt.rstripChars
    rw [stripBy_eq]
    rfl
  obtain ⟨_, f2, f3, _⟩ := hi_facts ("0123456789" : Str).cps.contains z 0 (Nat.zero_le _)
  generalize stripHi ("0123456789" : Str).cps.contains true z 0 = hi at *
  obtain ⟨k, hk⟩ := List.getElem?_of_mem hc
  have hkl := (List.getElem?_eq_some_iff.mp hk).1
  have hkn : k < z.length := by simpa [Str.length] using hkl
  have hg : z.cps.getD k 0 = c := by
    rw [← getD_list, List.getD_eq_getElem?_getD, hk]
    rfl
  by_cases lt : k < hi
  · have hm : c ∈ (letB z).cps.toList := by
      rw [e]
      show c ∈ (z.cps.extract 0 hi).toList
      rw [Array.toList_extract]
      refine List.mem_of_getElem? (i := k) ?_
      simp only [List.extract_eq_drop_take, List.drop_zero, Nat.sub_zero]
      rw [List.getElem?_take, if_pos lt, hk]
    have := List.all_eq_true.mp hall c hm
    exact alpha_small c (of_decide_eq_true this)
  · have z1 := f3 k (by omega) hkn
    rw [hg] at z1
    exact digit_small c (by simpa using z1)
theorem hex_small (c w : Nat) : ∀ d ∈ List.replicate w 48 ++ (Nat.toDigits 16 c).map Char.toNat, d < 16 ^ 8 := fun d hd => by
  rcases List.mem_append.mp hd with h | h
  · rw [List.eq_of_mem_replicate h]
    decide
  · obtain ⟨ch, _, rfl⟩ := List.mem_map.mp h
    exact UInt32.toNat_lt ch.val
theorem reprChar_small {q c : Nat} (hc : c < 16 ^ 8) : ∀ d ∈ Builtin.Str.reprChar q c, d < 16 ^ 8 := fun d hd => by
  unfold Builtin.Str.reprChar at hd
  dsimp only at hd
  repeat' split at hd
  all_goals first
    | (simp only [List.mem_cons, List.not_mem_nil, or_false] at hd
       rcases hd with rfl | rfl
       · decide
       · first | decide | exact hc)
    | (simp only [List.mem_cons, List.not_mem_nil, or_false] at hd
       rw [hd]
       exact hc)
    | (rcases List.mem_append.mp hd with h | h
       · simp only [List.mem_cons, List.not_mem_nil, or_false] at h
         rcases h with rfl | rfl <;> decide
       · exact hex_small _ _ d h)
theorem fold_small {q : Nat} : ∀ (l : List Nat) (acc : Array Nat), (∀ c ∈ l, c < 16 ^ 8) → (∀ c ∈ acc.toList, c < 16 ^ 8) → ∀ c ∈ (l.foldl (fun out c => out ++ (Builtin.Str.reprChar q c).toArray) acc).toList, c < 16 ^ 8
  | [], _, _, h => h
  | x :: l, acc, hl, h => fold_small l _ (fun c hc => hl c (List.mem_cons_of_mem _ hc)) fun c hc => by
    rw [Array.toList_append, List.mem_append] at hc
    rcases hc with z | z
    · exact h c z
    · exact reprChar_small (hl x List.mem_cons_self) c (by simpa using z)
theorem quote_small (x : Str) : reprQuote x < 16 ^ 8 := by
  unfold reprQuote
  split <;> decide
theorem reprText_small {x : Str} (h : ∀ c ∈ x.cps.toList, c < 16 ^ 8) : ∀ c ∈ (reprText x).cps.toList, c < 16 ^ 8 := fun c hc => by
  unfold reprText at hc
  rw [Array.toList_push, List.mem_append, ← Array.foldl_toList] at hc
  rcases hc with z | z
  · exact fold_small _ _ h (fun d hd => by
      rw [show d = reprQuote x from by simpa using hd]
      exact quote_small x) c z
  · rw [List.mem_singleton.mp z]
    exact quote_small x
/-- a plain text of at most this length -/
def Al (n : Nat) (z : Str) : Prop := z.length ≤ n ∧ ∀ c ∈ z.cps.toList, c < 16 ^ 8
theorem Al.word {z : Str} (h : isWordB z = true) : Al 100 z := ⟨(word_al h).1, fun c hc => Nat.lt_trans ((word_al h).2 c hc) (by decide)⟩
theorem Al.repr {n : Nat} {z : Str} (h : Al n z) : Al (10 * n + 2) (reprText z) := ⟨Nat.le_trans (PySem.StrLaws.reprText_len z h.2) (by have := h.1; omega), reprText_small h.2⟩
end Nm
set_option maxRecDepth 100000
set_option maxHeartbeats 4000000
/-! _law_base, _law_bound_over -/
namespace Nm
open PySem L2
theorem stepP_ok {n : Nat} (h1 : 1 ≤ n) (ps : List Nat) (k : List Key) (hl : ps.length = n) (hp : ∀ x ∈ ps, x < n) : (stepP ps k).length = n ∧ ∀ x ∈ stepP ps k, x < n := by
  have g : ∀ i : Nat, (ps[i]?).getD 0 < n := fun i => by
    cases e : ps[i]? with
    | none => exact h1
    | some y => exact hp y (List.mem_of_getElem? e)
  unfold stepP
  split
  · refine ⟨by rw [List.length_map, hl], fun x hx => ?_⟩
    obtain ⟨y, hy, rfl⟩ := List.mem_map.mp hx
    split
    · exact g _
    · exact hp y hy
  · exact ⟨hl, hp⟩
theorem foldP_ok {n : Nat} (h1 : 1 ≤ n) : ∀ (ks : List (List Key)) (ps : List Nat), ps.length = n → (∀ x ∈ ps, x < n) → (ks.foldl stepP ps).length = n ∧ ∀ x ∈ ks.foldl stepP ps, x < n
  | [], ps, hl, hp => ⟨hl, hp⟩
  | k :: ks, ps, hl, hp => by
    obtain ⟨a, b⟩ := stepP_ok h1 ps k hl hp
    exact foldP_ok h1 ks _ a b
theorem PartsRel.ok {n : Nat} {kvs : List (List Key × V)} {ps : List Nat} (h1 : 1 ≤ n) (h : PartsRel n kvs ps) : ps.length = n ∧ ∀ x ∈ ps, x < n := by
  obtain ⟨ks, _, _, rfl⟩ := h
  exact foldP_ok h1 ks _ List.length_range fun x hx => List.mem_range.mp hx
section
variable {P : Program} {w : World} {K : PySem.W.Frag} {mg : Str → Option Value} {base : Heap}
def spBase : Sp := fun vs H Q _ => ∃ (s c : Addr), vs = [.ref s] ∧ Src H s c ∧
  ∀ (wd a b t : Addr) (nm cl : List Str) (kvs : List (List Key × V)) (H' : Hp), H wd = none → H a = none → H b = none → H t = none → WorldOk H' s c wd a b t nm cl kvs → nm.length ≤ 2 → Ties nm.length 2 kvs → totW kvs ≤ 36 → Src H' s c → Kp s c H H' → Q (.ref wd) H'
theorem scBase : FnScope ["_law_source"] ["_law_source"] (defScope sBase) := ⟨rfl, rfl, rfl, by decide +kernel, rfl, by decide +kernel, by decide +kernel⟩
theorem ok_base {f : Addr} {fd : FuncData} (F : Fun K "_law_base" "_law_base" sBase f fd) (Gd : Def P w K mg base "_law_draw_world" ["_law_source", "_law_most"] 3 spDraw) : FnOk P w K mg base CX0 4 f fd ["_law_source"] spBase := by
  obtain ⟨fa, fda, Ga, ma, ka, ba⟩ := Gd.ex
  refine F.ok scBase (fun vs H Q E h => ?_) (fun cdv A outer s H vs Q E hr h => ?_)
  · obtain ⟨_, _, rfl, _⟩ := h
    rfl
  obtain ⟨sa, ca, rfl, S, k⟩ := h
  refine ⟨_, pss_one (ps_ret (pe_call Ga hr (by rfl) ma ka ba .nil pass0 (pa_cons (pv 0) (pa_cons pe_int pa_nil)))), ?_⟩
  exact ⟨_, rfl, sa, ca, 2, rfl, S, by decide, by decide, fun wd a b t nm cl kvs H' z1 z2 z3 z4 W nl ti kl S' kp => k wd a b t nm cl kvs H' z1 z2 z3 z4 W (by omega) ti (by
    have h1 := tot_le_len ti
    have h2 := kl.2
    have h3 : nm.length = 1 ∨ nm.length = 2 := by have := W.n1; omega
    rcases h3 with e | e <;> rw [e] at h2 <;> omega) S' kp⟩
def spBo : Sp := fun vs H Q _ => ∃ (s c wd a b t : Addr) (nm cl : List Str) (kvs : List (List Key × V)), vs = [.ref s, .ref wd, .int 5] ∧ Src H s c ∧ WorldOk H s c wd a b t nm cl kvs ∧ Ties nm.length 2 kvs ∧ totW kvs ≤ 36 ∧ nm.length ≤ 2 ∧
  ∀ (r wd' a' b' t' ld' : Addr) (nm' cl' : List Str) (kvs' : List (List Key × V)) (led : List Nat) (H' : Hp), H wd' = none → H a' = none → H b' = none → H t' = none → H ld' = none → H' r = some (.tup [.ref wd', .ref ld']) → WorldOk H' s c wd' a' b' t' nm' cl' kvs' → Ties nm'.length 4000 kvs' → kvs'.length ≤ 4000 → totW kvs' ≤ 180 →
    H' ld' = some (.lst (natV led)) → led.length = nm'.length → 1 ≤ led.length → led.length ≤ 5 → (∀ x, x ∈ led ↔ x < nm.length) → Src H' s c → Kp s c H H' → Q (.ref r) H'
abbrev nBo : List Str := ["_law_source", "_law_ground", "_law_most", "_law_many"]
theorem scBo : FnScope nBo ["_law_source", "_law_ground", "_law_most"] (defScope sBoundOver) := ⟨rfl, rfl, rfl, by decide +kernel, rfl, by decide +kernel, by decide +kernel⟩
theorem ok_bo {f : Addr} {fd : FuncData} (F : Fun K "_law_bound_over" "_law_bound_over" sBoundOver f fd) (T : TxtE mg) (Gp : Def P w K mg base "_law_pick" ["_law_source", "_law_many"] 1 spPick) (Go : Def P w K mg base "_law_over" ["_law_source", "_law_world", "_law_numbers"] 4 spOver) : FnOk P w K mg base CX0 5 f fd ["_law_source", "_law_ground", "_law_most"] spBo := by
  obtain ⟨fp, fdp, Gp, mp, kp, bp⟩ := Gp.ex
  obtain ⟨fo, fdo, Go, mo, ko, bo⟩ := Go.ex
  refine F.ok scBo (fun vs H Q E h => ?_) (fun cdv A outer s H vs Q E hr h => ?_)
  · obtain ⟨_, _, _, _, _, _, _, _, _, rfl, _⟩ := h
    rfl
  obtain ⟨sa, ca, wd, a, b, t, nm, cl, kvs, rfl, S, W, ti, kl, n2, k⟩ := h
  have hu := hu_of hr
  have hr1 := hr.mono (by decide : 1 ≤ 4)
  refine ⟨_, Evl.pss_cut (ps_set (i := 3) scBo.nd rfl (Or.inl rfl) (pe_op op_add pe_int (pe_call Gp hr1 (by rfl) mp kp bp .nil pass0 (pa_cons (pv 0) (pa_cons (pe_callB (call_max2 rfl) (by rfl) T.max (by decide +kernel) (pa_cons pe_int (pa_cons (pe_op op_fdiv (pv 2) (pe_callB call_len_seq (by rfl) T.len PySem.boot_len (pa_cons (pe_dget hu (pv 1) pe_str (fun _ _ => rfl)) pa_nil))) pa_nil))) pa_nil)))))
    (pss_one (ps_ret (pe_call Go hr (by rfl) mo ko bo .nil pass0 (pa_cons (pv 0) (pa_cons (pv 1) (pa_cons (pe_op op_rep (pe_lst (pa_cons (pv 3) pa_nil)) (pe_callB call_len_seq (by rfl) T.len PySem.boot_len (pa_cons (pe_dget hu (pv 1) pe_str (fun _ _ => rfl)) pa_nil))) pa_nil)))))), ?_⟩
  have n1 := W.n1
  have lm : (nm.map V.str).length = nm.length := List.length_map _
  refine ⟨fun σ H1 => ∃ c : Nat, σ = [some (.ref sa), some (.ref wd), some (.int 5), some (.int (c : Int))] ∧ 1 ≤ c ∧ c * nm.length ≤ 5 ∧ Src H1 sa ca ∧ Kp sa ca H H1, ?_, ?_⟩
  · refine ⟨_, rfl, _, rfl, _, rfl, wd, _, rfl, dg_names W.d, a, _, rfl, .inl (SqL.of W.hn), _, _, rfl, rfl, ⟨by rw [lm]; omega, by rw [lm]; omega⟩, _, _, rfl, ?_⟩
    rw [lm]
    have b5 : (if (5 : Int) / (nm.length : Int) > 1 then (5 : Int) / (nm.length : Int) else 1) * (nm.length : Int) ≤ 5 ∧ 1 ≤ (if (5 : Int) / (nm.length : Int) > 1 then (5 : Int) / (nm.length : Int) else 1) ∧ (if (5 : Int) / (nm.length : Int) > 1 then (5 : Int) / (nm.length : Int) else 1) ≤ 5 := by
      have : nm.length = 1 ∨ nm.length = 2 := by omega
      rcases this with e | e <;> rw [e] <;> decide
    generalize (if (5 : Int) / (nm.length : Int) > 1 then (5 : Int) / (nm.length : Int) else 1) = mx at b5 ⊢
    refine ⟨sa, ca, mx, rfl, S, by omega, by omega, fun kk H1 k0 k1 S1 kp1 => ⟨_, _, rfl, rfl, (1 + kk).toNat, ?_, by omega, ?_, S1, kp1⟩⟩
    · rw [Int.toNat_of_nonneg (by omega)]
      rfl
    · have h1 : (1 + kk).toNat ≤ mx.toNat := by omega
      have h2 := Nat.mul_le_mul_right nm.length h1
      have h3 : ((mx.toNat * nm.length : Nat) : Int) ≤ 5 := by
        rw [Int.natCast_mul, Int.toNat_of_nonneg (by omega)]
        exact b5.1
      omega
  rintro σ H1 ⟨c, rfl, c1, c5, S1, kp1⟩
  have W1 := W.kp kp1
  refine ⟨_, rfl, _, rfl, _, rfl, (by show 1 ≤ sizeLine; decide), fun l hl => ?_⟩
  have sl := same_new (o := .lst [V.int (c : Int)]) hl
  refine ⟨_, rfl, wd, _, rfl, dg_names (sl _ _ W1.d), a, _, rfl, .inl (SqL.of (sl _ _ W1.hn)), l, _, _, rfl, rfl, upd_same, by rw [lm]; omega, by rw [lm]; omega, by rw [lm]; exact Evl.sz_of (by simp; omega), fun nu hnu => ?_⟩
  rw [lm, Int.toNat_natCast, List.flatten_replicate_singleton]
  have sn := sl.trans (same_new (o := .lst (List.replicate nm.length (V.int (c : Int)))) hnu)
  have hnu2 : (upd (upd H1 l (.lst [V.int (c : Int)])) nu (.lst (List.replicate nm.length (V.int (c : Int))))) nu = some (.lst (natV (List.replicate nm.length c))) := by
    rw [upd_same]
    unfold natV
    rw [List.map_replicate]
  have hnu1 : H1 nu = none := sl.free hnu
  obtain ⟨_, nnc⟩ := S1.ne hnu1
  generalize upd (upd H1 l (.lst [V.int (c : Int)])) nu (.lst (List.replicate nm.length (V.int (c : Int)))) = H2 at *
  have kp2 : Kp sa ca H H2 := kp1.trans (Kp.same sn)
  have S2 := S1.same sn
  have c5' : c ≤ 5 := by
    have := Nat.mul_le_mul_left c n1
    omega
  have rall : ∀ x ∈ List.replicate nm.length c, x = c := fun x hx => List.eq_of_mem_replicate hx
  refine ⟨sa, ca, wd, a, b, t, nu, nm, cl, 2, kvs, List.replicate nm.length c, rfl, S2, W1.same sn, ti, by omega, by omega, hnu2, nnc, by rw [List.length_replicate]; exact Nat.le_refl _, fun x hx => by rw [rall x hx]; exact c5', fun ps hps => ?_, ?_⟩
  · obtain ⟨pl, pn⟩ := hps.ok n1
    obtain ⟨p, hp⟩ : ∃ p, ps[0]? = some p := ⟨_, List.getElem?_eq_getElem (by omega)⟩
    have hpm := List.mem_of_getElem? hp
    exact ⟨p, hpm, c, by rw [List.getElem?_replicate, if_pos (pn p hpm)], c1⟩
  intro r wd' a' b' t' ld' nm' cl' kvs' led' H' z1 z2 z3 z4 z5 hr' W' hl' ti' hk' ht' hld' hll' hlm hLK hall S' kp'
  have h5 : led'.length ≤ c * nm.length := hLK c rall
  have all : ∀ x, x ∈ led' ↔ x < nm.length := fun x => ⟨hlm x, fun hx => hall x hx (fun c0 h0 => by
    have := h0 c (List.mem_replicate.mpr ⟨by omega, rfl⟩)
    omega) (fun y hy z hz => by rw [rall y hy, rall z hz])⟩
  have h1 : 1 ≤ led'.length := List.length_pos_of_mem ((all 0).mpr (by omega))
  exact k r wd' a' b' t' ld' nm' cl' kvs' led' H' (kp2.free S2 z1) (kp2.free S2 z2) (kp2.free S2 z3) (kp2.free S2 z4) (kp2.free S2 z5) hr' W' ti' hk' (by omega) hld' hll' h1 (by omega) all S' (kp2.trans kp')
end
end Nm
set_option maxRecDepth 100000
set_option maxHeartbeats 4000000
/-! own __len__; the fields of an exception that is being made; defs that let exceptions out; kept; BadNumber.__init__ -/
namespace Nm
open PySem PySem.Spec PyProof.Rows L2
section
variable {X : Cx}
/-- o.f, o an exception that is being made -/
def tExoF (K : PySem.W.Frag) (f : Str) (te : TE) : TE := fun σ H Q => te σ H fun x H1 => ∃ (a C dx : Addr) (fs : List (Str × V)) (v : V), x = .ref a ∧ XfC K C ∧ PySem.W.findIn K (.ref C) f = some none ∧ H1 a = some (exo a C (some dx)) ∧ H1 dx = some (exd dx fs) ∧ fs.lookup f = some v ∧ Q v H1
theorem pe_exoF {e : Expr} {te : TE} {f : Str} {pos : Pos} (he : PE X e te) (hb : attributeBase e f X.env (eval e X.env) = eval e X.env := by rfl) : PE X (.Attribute e f pos) (tExoF X.K f te) := by
  refine ⟨fun pins s σ H Q I h => ?_⟩
  refine attr_of hb (thn (he.run pins s σ H _ I h) fun u s1 hh => ?_)
  obtain ⟨x, H1, I1, rx, a, C, dx, fs, v, ex, T, hno, ha, hd, hl, q⟩ := hh
  subst ex
  obtain rfl : u = Value.ref a := rx
  obtain ⟨t1, ho⟩ := exo_at I1.hok ha
  obtain ⟨mA, hns, hr⟩ := exd_at I1.hok hd
  obtain ⟨od, hod, hlk⟩ := lookIn_ns hns
  obtain ⟨w', hw, rw'⟩ := RelO.some_of (v := v) (o := mA f) (by rw [← hl]; exact hr f)
  have J : PySem.W.InstAt s1.heap a _ C (some od) := ⟨ho, rfl, rfl, hod⟩
  exact HandSPX.exc_get I1.kIn J T.ga T.gg T.exC (PySem.W.findObj_own T.hdC hno rfl (by rw [hlk, hw])) (handed_of rw') ⟨v, H1, I1.tok _, rw', q⟩
/-- a body that is never reached -/
theorem pss_no {b : List Stmt} : PSs X b (fun _ _ _ => False) := ⟨fun _ _ _ _ _ _ h => h.elim⟩
end
section
variable {P : Program} {w : World} {K : PySem.W.Frag} {mg : Str → Option Value} {base : Heap}
/-- a def that may let exceptions out -/
theorem okX {x qual : Str} {st : Stmt} {f : Addr} {fd : FuncData} {N ps : List Str} {k : Nat} {sp : Sp} (F : Fun K x qual st f fd) (S : FnScope N ps (defScope st)) (len : ∀ vs H Q E, sp vs H Q E → vs.length = ps.length)
    (hbody : ∀ (cdv : Value) (A : Around) (outer : List Env) (s : Shared) (H : Hp) (vs : List V) (Q : VK) (E : XK), Room k (A.deeper (envOfC qual (defScope st) s.heap.objs.size f cdv)) → sp vs H Q E →
      ∃ t, PSs (cxOf (L2.CX P w) P w K mg base N qual (defScope st) f cdv A outer s H E) (defBody st) t ∧ t { nx := fun _ H' => Q .non H', rt := Q } (start N vs) H) : FnOk P w K mg base (L2.CX P w) (k + 1) f fd ps sp := by
  obtain ⟨oc, od, kV, doc, pm, an, cdv, ct, osl, rfl, lk, hcd⟩ := F.ex
  exact fn_of lk hcd S len fun A outer s H vs Q E hr hsp => hbody cdv A outer s H vs Q E hr hsp
/-! ### kept, of a number or a text -/
structure TxtKe (mg : Str → Option Value) : Prop where
  isinstance : mg "isinstance" = none
  list : mg "list" = none
  tuple : mg "tuple" = none
  dict : mg "dict" = none

def spKept : Sp := fun vs H Q _ => ∃ x : V, vs = [x] ∧ ((∃ i, x = .int i) ∨ ∃ z, x = .str z) ∧ Q x H
abbrev nKe : List Str := ["value", "part", "key"]
theorem scKe : FnScope ["value"] ["value"] (defScope sKept) := ⟨rfl, rfl, rfl, by decide +kernel, rfl, by decide +kernel, by decide +kernel⟩
theorem ok_kept {f : Addr} {fd : FuncData} (F : Fun K "kept" "kept" sKept f fd) (T : TxtKe mg) : FnOk P w K mg base CX0 1 f fd ["value"] spKept := by
  refine F.ok scKe (fun vs H Q E h => ?_) (fun cdv A outer s H vs Q E hr h => ?_)
  · obtain ⟨_, rfl, _⟩ := h
    rfl
  · obtain ⟨x, rfl, hx, k⟩ := h
    refine ⟨_, pss_cons (ps_if (pt_val (pe_callB call_isi (by rfl) T.isinstance (by decide +kernel) (pa_cons (pv 0) (pa_cons (pe_bltn (v := .ty "list") (by rfl) T.list (by decide +kernel) rfl) pa_nil)))) pss_no pss_nil)
      (pss_cons (ps_if (pt_val (pe_callB call_isi (by rfl) T.isinstance (by decide +kernel) (pa_cons (pv 0) (pa_cons (pe_bltn (v := .ty "tuple") (by rfl) T.tuple (by decide +kernel) rfl) pa_nil)))) pss_no pss_nil)
      (pss_cons (ps_if (pt_val (pe_callB call_isi (by rfl) T.isinstance (by decide +kernel) (pa_cons (pv 0) (pa_cons (pe_bltn (v := .ty "dict") (by rfl) T.dict (by decide +kernel) rfl) pa_nil)))) pss_no pss_nil)
      (pss_one (ps_ret (pv 0))))), ?_⟩
    rcases hx with ⟨i, rfl⟩ | ⟨z, rfl⟩
    · refine ⟨_, rfl, _, _, _, _, false, rfl, ClsV.ty "list", TyX.base (TyOf.int i), kit_ty (by decide +kernel), _, rfl, iteF ?_⟩
      refine ⟨_, rfl, _, _, _, _, false, rfl, ClsV.ty "tuple", TyX.base (TyOf.int i), kit_ty (by decide +kernel), _, rfl, iteF ?_⟩
      refine ⟨_, rfl, _, _, _, _, false, rfl, ClsV.ty "dict", TyX.base (TyOf.int i), kit_ty (by decide +kernel), _, rfl, iteF ?_⟩
      exact ⟨_, rfl, k⟩
    · refine ⟨_, rfl, _, _, _, _, false, rfl, ClsV.ty "list", TyX.base (TyOf.str z), kit_ty (by decide +kernel), _, rfl, iteF ?_⟩
      refine ⟨_, rfl, _, _, _, _, false, rfl, ClsV.ty "tuple", TyX.base (TyOf.str z), kit_ty (by decide +kernel), _, rfl, iteF ?_⟩
      refine ⟨_, rfl, _, _, _, _, false, rfl, ClsV.ty "dict", TyX.base (TyOf.str z), kit_ty (by decide +kernel), _, rfl, iteF ?_⟩
      exact ⟨_, rfl, k⟩
end
end Nm
set_option maxRecDepth 100000
set_option maxHeartbeats 4000000
/-! UnknownName: its __init__, and raising it -/
namespace Nm
open PySem PySem.Spec PyProof.Rows L2
section
variable {P : Program} {w : World} {K : PySem.W.Frag} {mg : Str → Option Value} {base : Heap}
def spUnkI (C : Addr) : Sp := fun vs H Q _ => ∃ (a : Addr) (z : Str), vs = [.ref a, .str z] ∧ Al 100 z ∧ H a = some (exo a C none) ∧ ∀ d : Addr, H d = none → d ≠ a → Q .non (upd (upd H d (exd d [("name", .str z)])) a (exo a C (some d)))
theorem ssUnk : SupS "self" "name" (defScope sUnknownInit) := ⟨rfl, rfl, rfl, by decide, rfl, rfl, by decide +kernel, by decide +kernel, rfl, rfl⟩
theorem ok_unkI {C f cda cc : Addr} {fd : FuncData} (F : SupL P K C f cda cc fd "UnknownName.__init__" sUnknownInit "self") (X0 : XfC K C) (nN : PySem.W.findIn K (.ref C) "name" = some none) (hms : mg "super" = none)
    (Gk : Def P w K mg base "kept" ["value"] 1 spKept) : FnOk P w K mg base CX0 2 f fd ["self", "name"] (spUnkI C) := by
  obtain ⟨fk, fdk, Gk, mk, kk, bk⟩ := Gk.ex
  refine sup_defL (k := 1) F ssUnk hms rfl (fun vs H Q E h => ?_) (fun A outer s H vs Q E hr h => ?_)
  · obtain ⟨_, _, rfl, _⟩ := h
    rfl
  · obtain ⟨a, z, rfl, hz, ha, k⟩ := h
    refine ⟨a, _, _, ps_ostL (pv 0) (pe_call Gk hr (by rfl) mk kk bk .nil pass0 (pa_cons (pv 1) pa_nil)), pa_cons (pe_joined (PJ.cons pe_str (PJ.cons (pe_fmtR (pe_exoF (pv 0))) PJ.nil))) pa_nil, ?_⟩
    refine ⟨_, rfl, _, rfl, .inr ⟨_, rfl⟩, _, rfl, a, C, rfl, F.oex, nN, ha, fun d hd hda => ⟨rfl, d, upd_same, fun R hR => ?_⟩⟩
    have hd2 : (upd (upd H d (exd d [("name", .str z)])) a (exo a C (some d))) d = some (exd d [("name", .str z)]) := by
      rw [upd_ne hda]
      exact upd_same
    have hl := hz.repr.1
    refine ⟨_, rfl, (by decide +kernel), _, rfl, a, C, d, _, _, rfl, X0, nN, upd_same, hd2, rfl, .inl ⟨z, rfl, Evl.sz_of (by omega), _, rfl, ?_, ?_⟩⟩
    · rw [strLen_append, strLen_append, sizeLine_eq]
      have e1 : Str.empty.length = 0 := rfl
      have e2 : ("nothing has this name: " : Str).length = 23 := by decide +kernel
      omega
    · exact hR _ _ (by show (1 : Nat) ≤ 1000; decide) upd_same (k d hd hda)
structure TxtUnk (P : Program) (w : World) (K : PySem.W.Frag) (mg : Str → Option Value) (base : Heap) (CU : Addr) : Prop where
  mU : mg "UnknownName" = some (.ref CU)
  oex : OexL K CU
  xf : XfC K CU
  nNa : PySem.W.findIn K (.ref CU) "name" = some none
  ini : ∃ f fd, PySem.W.findIn K (.ref CU) "__init__" = some (some (.ref f)) ∧ PySem.W.typeIn K (.ref f) = some (.type "function") ∧ FnOk P w K mg base CX0 2 f fd ["self", "name"] (spUnkI CU) ∧ Binds K fd ["self", "name"] []
/-- what the making of the exception leaves -/
theorem made_unk {H1 : Hp} {a d CU : Addr} {fs : List (Str × V)} (h1 : H1 a = none) (h2 : upd H1 a (exo a CU none) d = none) (h3 : d ≠ a) {H2 : Hp} (e : H2 = upd (upd (upd H1 a (exo a CU none)) d (exd d fs)) a (exo a CU (some d))) : H1 d = none ∧ Same H1 (upd (del H2 a) d (.xd fs)) := by
  have hd : H1 d = none := by
    rw [upd_ne h3] at h2
    exact h2
  refine ⟨hd, fun b o hb => ?_⟩
  have n1 : b ≠ a := ne_of_none hb h1
  have n2 : b ≠ d := ne_of_none hb hd
  rw [upd_ne n2, del_ne n1, e, upd_ne n1, upd_ne n2, upd_ne n1]
  exact hb
theorem raise_unk {CU : Addr} {H H4 : Hp} {a : Addr} {z : Str} {E : XK} (hz : Al 100 z) (ha : H4 a = none) (s : Same H H4) (ke : ∀ (d : Addr) (H' : Hp), H d = none → H' d = some (.xd [("name", .str z)]) → Same H H' → E (.ref CU) (some d) H') :
    spUnkI CU (V.ref a :: ([V.str z] ++ [])) (upd H4 a (exo a CU none)) (fun v H2 => v = .non ∧ ∃ (d : Addr) (fs : List (Str × V)), H2 a = some (exo a CU (some d)) ∧ H2 d = some (exd d fs) ∧ H4 d = none ∧ E (.ref CU) (some d) (upd (del H2 a) d (.xd fs))) (fun _ _ _ => False) := by
  refine ⟨a, z, rfl, hz, upd_same, fun d hd hda => ?_⟩
  obtain ⟨h1, h2⟩ := made_unk (fs := [("name", .str z)]) ha hd hda rfl
  exact ⟨rfl, d, _, upd_same, by rw [upd_ne hda]; exact upd_same, h1, ke d _ (s.free h1) upd_same fun b o e => h2 _ _ (s _ _ e)⟩
/-! ### Web.__contains__ -/
/-- what may be asked for: a text, or something else -/
inductive AskV (K : PySem.W.Frag) (H : Hp) : V → Prop
  | str (z : Str) : AskV K H (.str z)
  | int (i : Int) : AskV K H (.int i)
  | non : AskV K H .non
  | lst {a : Addr} {xs : List V} (h : H a = some (.lst xs)) : AskV K H (.ref a)
  | tup {a : Addr} {xs : List V} (h : H a = some (.tup xs)) : AskV K H (.ref a)
/-- whether it is one of these names -/
def isOne (nm : List Str) : V → Bool
  | .str z => decide (z ∈ nm)
  | _ => false
def spHas (K : PySem.W.Frag) (C : Addr) : Sp := fun vs H Q _ => ∃ (p : Addr) (nm : List Str) (x : V), vs = [.ref p, x] ∧ HasC C H p nm ∧ AskV K H x ∧ Q (.bl (isOne nm x)) H
theorem scHas : FnScope ["self", "name"] ["self", "name"] (defScope sWebHas) := ⟨rfl, rfl, rfl, by decide +kernel, rfl, by decide +kernel, by decide +kernel⟩
end
end Nm
set_option maxRecDepth 100000
set_option maxHeartbeats 4000000
/-! x not in names, names.count(z), d == {} -/
namespace Nm
open PySem PySem.Spec PyProof.Rows L2
/-- whether a text is this one -/
def eS (o : Option Str) : Value → Bool
  | .str z _ => (match o with
    | some a => z == a
    | none => false)
  | _ => false
theorem any_eS {o : Option Str} : ∀ {xs : List Str} {its : List Value}, Vals (xs.map V.str) its → its.any (eS o) = (match o with | some a => decide (a ∈ xs) | none => false)
  | [], _, .nil => by cases o <;> rfl
  | x :: xs, _, .cons r t => by
    obtain ⟨tk, rfl⟩ := (show ∃ t, _ = Value.str x t from r)
    rw [List.any_cons, any_eS t]
    cases o with
    | none => rfl
    | some a =>
      show ((x == a) || decide (a ∈ xs)) = decide (a ∈ x :: xs)
      by_cases e : x = a
      · subst e
        simp
      · have e' : ¬ a = x := fun z => e z.symm
        simp [e, e']
theorem count_eS {a : Str} : ∀ {xs : List Str} {its : List Value}, Vals (xs.map V.str) its → its.countP (eS (some a)) = xs.count a
  | [], _, .nil => rfl
  | x :: xs, _, .cons r t => by
    obtain ⟨tk, rfl⟩ := (show ∃ t, _ = Value.str x t from r)
    rw [List.countP_cons, List.count_cons, count_eS t]
    rfl
theorem strs_at {xs : List Str} : ∀ {its : List Value}, Vals (xs.map V.str) its → ∀ y ∈ its, ∃ z t, y = Value.str z t := by
  induction xs with
  | nil =>
    intro its r y hy
    cases r
    cases hy
  | cons x xs ih =>
    intro its r y hy
    cases r with
    | cons r t =>
      rcases List.mem_cons.mp hy with e | e
      · obtain ⟨tk, h⟩ := (show ∃ t, _ = Value.str x t from r)
        exact ⟨x, tk, e.trans h⟩
      · exact ih t y e
section
variable {X : Cx} {pins : List (Addr × Obj)} {σ : L2.St} {H : Hp} {s : Shared}
/-- the text that it is -/
def strO : V → Option Str
  | .str z => some z
  | _ => none
theorem isOne_str {nm : List Str} {x : V} : isOne nm x = (match strO x with | some a => decide (a ∈ nm) | none => false) := by cases x <;> rfl
theorem ask_eq (I : Inv X pins σ H s) {A : Around} (hu : A.units < cLine) {x : V} {v : Value} (rx : RelV x v) (ax : AskV X.K H x) (z : Str) (t : Tok) : SeqAt.EqAt A s (.str z t) v (eS (strO x) (.str z t)) := by
  cases ax with
  | str a =>
    obtain ⟨tk, rfl⟩ := (show ∃ t, v = Value.str a t from rx)
    exact SeqAt.EqAt.str_str z t a tk
  | int i =>
    obtain ⟨tk, rfl⟩ := (show ∃ t, v = Value.int i t from rx)
    exact SeqAt.EqAt.str_int z t i tk
  | non =>
    cases (show v = Value.none from rx)
    exact SeqAt.EqAt.str_none z t
  | lst h =>
    cases (show v = Value.ref _ from rx)
    obtain ⟨us, r1, p1, _⟩ := I.list (SqL.of h)
    exact SeqAt.EqAt.str_list z t p1.isList hu
  | tup h =>
    cases (show v = Value.ref _ from rx)
    obtain ⟨us, r1, p1, _⟩ := I.tuple (SqT.of h)
    exact SeqAt.EqAt.str_tuple z t p1 hu
def rNotInNames (K : PySem.W.Frag) : R2 := fun x y H Q => ∃ (p : Addr) (nm : List Str), y = .ref p ∧ SqL K H p (nm.map V.str) ∧ AskV K H x ∧ Q (.bl (!isOne nm x)) H
theorem op_notInNames (hu : X.A.units + 1 < cLine) : OpR X (compareOp .NotIn) (rNotInNames X.K) := by
  intro pins s σ H x y v u Q I rx ry h
  obtain ⟨p, nm, rfl, hq, ax, q⟩ := h
  cases (show u = Value.ref p from ry)
  obtain ⟨its, r, pl, hz⟩ := I.list hq
  refine SeqAt.notIn_listAt (eS (strO x)) pl.isList (fun y hy => ?_) ⟨.bl (!isOne nm x), H, I, ?_, q⟩
  · obtain ⟨z, t, rfl⟩ := strs_at r y (by simpa using hy)
    exact ask_eq I (by show X.A.units + 1 < cLine; exact hu) rx ax z t
  · rw [isOne_str, ← any_eS r, show its.toArray.any (eS (strO x)) = its.any (eS (strO x)) by simp]
    rfl
def rCntS (K : PySem.W.Frag) : V → List V → Hp → VK → Prop := fun x xs H Q => ∃ (p : Addr) (nm : List Str) (z : Str), x = .ref p ∧ xs = [.str z] ∧ SqL K H p (nm.map V.str) ∧ Q (.int (nm.count z : Nat)) H
theorem mt_lcountS : MtR X "list.count" (rCntS X.K) := by
  intro pins s σ H x xs v us Q I rx rxs h
  obtain ⟨p, nm, z, rfl, rfl, hs, q⟩ := h
  cases rx
  obtain ⟨u, rfl, ru⟩ := rxs.one
  obtain ⟨t, rfl⟩ := ru
  obtain ⟨its, rv, ⟨⟨cls, dd, data, sl⟩, n, ho, hc, hdn, hd⟩, hlen⟩ := I.list hs
  simp only at hc hd
  subst hc hd
  have each : ∀ y ∈ its.toArray, SeqAt.EqAt X.A.in1 s y (.str z t) (eS (some z) y) := fun y hy => by
    obtain ⟨a, tk, rfl⟩ := strs_at rv y (by simpa using hy)
    exact SeqAt.EqAt.str_str a tk z t
  have body := SeqAt.list_countAt p its.toArray n dd sl (.str z t) (eS (some z))
  refine call_meets PySem.F.slot_list_count ⟨_, ho, rfl⟩ PySem.F.entry_list_count (PySem.F.args_list_count_2 _ _) body ⟨ho, each, ?_⟩
  refine ⟨.int (nm.count z : Nat), H, I.tok _, ⟨s.toks, ?_⟩, q⟩
  show Value.int ((its.toArray.toList.countP (eS (some z)) : Nat) : Int) s.toks = Value.int ((nm.count z : Nat) : Int) s.toks
  rw [show its.toArray.toList.countP (eS (some z)) = nm.count z from count_eS rv]
/-- d == {} -/
def rEqNil : R2 := fun x y H Q => ∃ (a b : Addr) (kvs : List (Key × V)), x = .ref a ∧ y = .ref b ∧ H a = some (.dK kvs) ∧ H b = some (.dK []) ∧ Q (.bl (decide (kvs = []))) H
theorem op_eqNil (hu : X.A.units < cLine) : OpR X (compareOp .Eq) rEqNil := by
  intro pins s σ H x y v u Q I rx ry h
  obtain ⟨a, b, kvs, rfl, rfl, ha, hb, q⟩ := h
  cases (show v = Value.ref a from rx)
  cases (show u = Value.ref b from ry)
  obtain ⟨_, ya, va, ra, da⟩ := dk_of I.hok ha
  obtain ⟨_, yb, vb, rb, db⟩ := dk_of I.hok hb
  have lb : vb = [] := by cases rb; rfl
  have la : va.length = kvs.length := (Paired.length ra).symm
  subst lb
  refine PySem.W.rcP_dicts (knd := mixKind X.prog X.w) (r := true) ya yb da db hu (fun z => ?_) _ _ ⟨.bl (decide (kvs = [])), H, I, ?_, q⟩
  · cases va with
    | nil => exact .nil
    | cons p r => cases z
  · show Value.bool (va.length == 0 && true) = Value.bool (decide (kvs = []))
    rw [la]
    cases kvs <;> simp
end
end Nm
set_option maxRecDepth 100000
set_option maxHeartbeats 4000000
/-! Web.__contains__, pairs_over -/
namespace Nm
open PySem PySem.Spec PyProof.Rows L2
theorem key_in {nm : List Str} {kc : List (Key × V)} (h : kc.map (·.1) = nm.map Sum.inr) (z : Str) : (valV kc (Sum.inr z)).isSome = decide (z ∈ nm) := by
  cases e : valV kc (Sum.inr z) with
  | some v =>
    have := valV_in e
    rw [h, List.mem_map] at this
    obtain ⟨y, hy, e2⟩ := this
    cases e2
    exact (decide_eq_true hy).symm
  | none =>
    have := valV_not e
    rw [h, List.mem_map] at this
    exact (decide_eq_false fun z1 => this ⟨z, z1, rfl⟩).symm
section
variable {P : Program} {w : World} {K : PySem.W.Frag} {mg : Str → Option Value} {base : Heap}
theorem ok_has {f C : Addr} {fd : FuncData} (F : Fun K "__contains__" "Web.__contains__" sWebHas f fd) (T : TxtW K mg C) : FnOk P w K mg base CX0 1 f fd ["self", "name"] (spHas K C) := by
  refine F.ok scHas (fun vs H Q E h => ?_) (fun cdv A outer s H vs Q E hr h => ?_)
  · obtain ⟨_, _, _, rfl, _⟩ := h
    rfl
  · obtain ⟨p, nm, x, rfl, ⟨dx, fs, dc, kc, h1, h2, h3, h4⟩, ax, k⟩ := h
    have hu := hu_of hr
    refine ⟨_, pss_one (ps_ret (pe_and (pe_callB call_isi (by rfl) T.isinstance (by decide +kernel) (pa_cons (pv 1) (pa_cons (pe_bltn (v := .ty "str") (by rfl) T.str (by decide +kernel) rfl) pa_nil)))
      (pe_one (pe_cmp (pc_din hu (pv 1) (pe_fld (pv 0) rfl)))))), ?_⟩
    cases ax with
    | str z =>
      refine ⟨_, rfl, _, _, _, _, true, rfl, ClsV.ty "str", TyX.base (TyOf.str z), kit_ty (by decide +kernel), _, rfl, iteT ?_⟩
      refine ⟨_, rfl, _, rfl, p, C, dx, _, _, rfl, h1, T.cl, T.nCo, h2, dc, _, rfl, DGet.k (k := Sum.inr z) h3, ?_⟩
      rw [key_in h4]
      exact k
    | int i => exact ⟨_, rfl, _, _, _, _, false, rfl, ClsV.ty "str", TyX.base (TyOf.int i), kit_ty (by decide +kernel), _, rfl, iteF k⟩
    | non => exact ⟨_, rfl, _, _, _, _, false, rfl, ClsV.ty "str", TyX.base TyOf.non, kit_ty (by decide +kernel), _, rfl, iteF k⟩
    | lst e => exact ⟨_, rfl, _, _, _, _, false, rfl, ClsV.ty "str", TyX.base (TyOf.lst e), kit_ty (by decide +kernel), _, rfl, iteF k⟩
    | tup e => exact ⟨_, rfl, _, _, _, _, false, rfl, ClsV.ty "str", TyX.base (TyOf.tup e), kit_ty (by decide +kernel), _, rfl, iteF k⟩
/-! ### pairs_over -/
/-- how many of these names lead to the one and the other -/
def cntV (nm : List Str) (fk lk : List (Key × V)) (p q : Str) : Nat := (nm.filter fun x => decide (valV fk (Sum.inr x) = some (.str p) ∧ valV lk (Sum.inr x) = some (.str q))).length
theorem cnt_step {nm : List Str} {fk lk : List (Key × V)} {p q : Str} {i : Nat} {x : Str} (h : nm[i]? = some x) : cntV (nm.take (i + 1)) fk lk p q = cntV (nm.take i) fk lk p q + (if valV fk (Sum.inr x) = some (.str p) ∧ valV lk (Sum.inr x) = some (.str q) then 1 else 0) := by
  unfold cntV
  rw [List.take_add_one, h, List.filter_append, List.length_append]
  by_cases e : valV fk (Sum.inr x) = some (.str p) ∧ valV lk (Sum.inr x) = some (.str q)
  · simp [e]
  · simp [e]
def spPair (C : Addr) : Sp := fun vs H Q _ => ∃ (ov wb qw fi la : Addr) (nm : List Str) (fk lk : List (Key × V)), vs = [.ref ov] ∧ H ov = some (.tup [.ref wb, .ref fi, .ref la]) ∧ WebAt C H wb qw nm ∧ H fi = some (.dK fk) ∧ H la = some (.dK lk) ∧ nm.length ≤ 1000 ∧
  (∀ x ∈ nm, ∃ p q : Str, valV fk (Sum.inr x) = some (.str p) ∧ valV lk (Sum.inr x) = some (.str q)) ∧
  ∀ (D : Addr) (kvs : List (List Key × V)) (H' : Hp), H D = none → H' D = some (.dT kvs) → (∀ p q, (valV kvs [Sum.inr p, Sum.inr q]).getD (.int 0) = .int (cntV nm fk lk p q : Nat)) → Same H H' → Q (.ref D) H'
abbrev nPr : List Str := ["paper", "web", "first", "last", "many", "name", "pair"]
theorem scPr : FnScope nPr ["paper"] (defScope sPairsOver) := ⟨rfl, rfl, rfl, by decide +kernel, rfl, by decide +kernel, by decide +kernel⟩
theorem ok_pairs {f C : Addr} {fd : FuncData} (F : Fun K "pairs_over" "pairs_over" sPairsOver f fd) (T : TxtW K mg C) (Gm : MethD P w K mg base C "places" ["self"] 1 (spPlaces C)) : FnOk P w K mg base CX0 2 f fd ["paper"] (spPair C) := by
  obtain ⟨fm, fdm, Gm, mm, bm⟩ := Gm.ex
  refine F.ok scPr (fun vs H Q E h => ?_) (fun cdv A outer s H vs Q E hr h => ?_)
  · obtain ⟨_, _, _, _, _, _, _, _, rfl, _⟩ := h
    rfl
  · obtain ⟨ov, wb, qw, fi, la, nm, fk, lk, rfl, hov, hwb, hfi, hla, hn, hs, k⟩ := h
    have hu := hu_of hr
    refine ⟨_, pss_cons (ps_asg (pv 0) (pg_tup rfl (pgs_cons (pg_name (i := 1) scPr.nd rfl (.inl rfl)) (pgs_cons (pg_name (i := 2) scPr.nd rfl (.inl rfl)) (pgs_cons (pg_name (i := 3) scPr.nd rfl (.inl rfl)) pgs_nil)))))
      (pss_cons (ps_set (i := 4) scPr.nd rfl (Or.inl rfl) pe_dnewT)
      (pss_cons (ps_for PassesOwn.never rfl (pi_list (pe_meth0 (pv 1) T.cl mm Gm hr bm .nil pass0)) (pg_name (i := 5) scPr.nd rfl (.inl rfl))
        (pss_cons (ps_set (i := 6) scPr.nd rfl (Or.inl rfl) (pe_tup (pa_cons (pe_dget hu (pv 2) (pv 5) (fun _ _ => rfl)) (pa_cons (pe_dget hu (pv 3) (pv 5) (fun _ _ => rfl)) pa_nil))))
        (pss_one (ps_dput hu (pv 4) (pv 6) (pe_op op_add (pe_dget2 hu (pv 4) (pv 6) pe_int ⟨rfl, rfl, rfl, rfl⟩) pe_int) rfl))))
      (pss_one (ps_ret (pv 4))))), ?_⟩
    refine ⟨_, rfl, ov, _, rfl, SqT.of hov, rfl, _, _, rfl, _, _, rfl, _, _, rfl, rfl, ?_⟩
    intro D hD
    have s1 := same_new (o := .dT []) hD
    have hD1 : (upd H D (.dT [])) D = some (.dT []) := upd_same
    generalize upd H D (.dT []) = H1 at *
    have hw1 := hwb.same s1
    obtain ⟨dw, fw, e1, e2, e3, e4⟩ := id hw1
    refine ⟨_, rfl, wb, dw, fw, rfl, e1, e3, wb, qw, nm, rfl, hw1, hn, fun r H2 hr0 hr2 s2 => ?_⟩
    have s12 := s1.trans s2
    have hD2 := s2 _ _ hD1
    have nDr : r ≠ D := fun e => by subst e; rw [hD1] at hr0; cases hr0
    refine ⟨r, rfl, ⟨_, SqL.of hr2⟩, ?_⟩
    refine for_list (xs := nm.map V.str) (fun i σ H3 => ∃ v5 v6 kvs, σ = [some (.ref ov), some (.ref wb), some (.ref fi), some (.ref la), some (.ref D), v5, v6] ∧ H3 D = some (.dT kvs) ∧ kvs.length ≤ i ∧ (∀ p q, (valV kvs [Sum.inr p, Sum.inr q]).getD (.int 0) = .int (cntV (nm.take i) fk lk p q : Nat)) ∧ (∀ b o, H2 b = some o → b ≠ D → H3 b = some o))
      ⟨none, none, [], rfl, hD2, Nat.le_refl _, fun p q => by rw [valV_nil]; rfl, fun b o e _ => e⟩ (fun i σ H3 _ ⟨_, _, _, _, _, _, _, h⟩ => SqL.of (h _ _ hr2 nDr)) ?_ ?_
    · rintro i v σ H3 hi ⟨v5, v6, kvs, rfl, hD3, hl3, hc3, kp3⟩
      have hil := (List.getElem?_eq_some_iff.mp hi).1
      rw [List.length_map] at hil
      rw [List.getElem?_map] at hi
      obtain ⟨x, hx, rfl⟩ := Option.map_eq_some_iff.mp hi
      obtain ⟨p, q, hp, hq⟩ := hs x (List.mem_of_getElem? hx)
      have hfi3 := kp3 _ _ (s12 _ _ hfi) (ne_of_none hfi hD)
      have hla3 := kp3 _ _ (s12 _ _ hla) (ne_of_none hla hD)
      refine ⟨_, rfl, _, rfl, fi, _, rfl, (by rw [← hp]; exact DGet.k (k := Sum.inr x) hfi3), _, rfl, _, rfl, la, _, rfl, (by rw [← hq]; exact DGet.k (k := Sum.inr x) hla3), (by show 2 ≤ sizeLine; decide), fun u hu' => ?_⟩
      have su := same_new (o := .tup [V.str p, V.str q]) hu'
      have hu1 : (upd H3 u (.tup [V.str p, V.str q])) u = some (.tup (List.map kV [Sum.inr p, Sum.inr q])) := upd_same
      generalize upd H3 u (.tup [V.str p, V.str q]) = H4 at *
      have hD4 := su _ _ hD3
      refine ⟨_, rfl, D, rfl, .inr ⟨kvs, .inl hD4⟩, _, rfl, valV kvs [Sum.inr p, Sum.inr q], DGet.t (k := [Sum.inr p, Sum.inr q]) hD4 hu1, ?_⟩
      rw [hc3]
      refine ⟨_, _, rfl, rfl, _, rfl, _, rfl, D, _, rfl, DPut.t (k := [Sum.inr p, Sum.inr q]) hD4 hu1 (Evl.sz_lt (by omega)), ?_⟩
      refine ⟨_, _, _, rfl, upd_same, Nat.le_trans (length_putK _ _ _) (by omega), fun p' q' => ?_, fun b o e h => ?_⟩
      · rw [valV_put, cnt_step hx]
        by_cases e : ([Sum.inr p', Sum.inr q'] : List Key) = [Sum.inr p, Sum.inr q]
        · rw [if_pos e]
          injection e with z1 z2
          injection z2 with z2 _
          cases z1
          cases z2
          rw [if_pos ⟨hp, hq⟩]
          rfl
        · rw [if_neg e, hc3, if_neg (fun z => e ?_)]
          · rfl
          · obtain ⟨z1, z2⟩ := z
            rw [hp] at z1
            rw [hq] at z2
            cases z1
            cases z2
            rfl
      · rw [upd_ne h]
        exact su _ _ (kp3 b o e h)
    · rintro σ H3 ⟨v5, v6, kvs, rfl, hD3, hl3, hc3, kp3⟩
      rw [List.length_map, List.take_of_length_le (Nat.le_refl _)] at hc3
      exact ⟨_, rfl, k D kvs H3 hD hD3 hc3 fun b o e => kp3 b o (s12 _ _ e) (ne_of_none e hD)⟩
end
end Nm
set_option maxRecDepth 100000
set_option maxHeartbeats 4000000
/-! x in o, o an instance whose class has its own __contains__ -/
namespace Nm
open PySem PySem.Spec PyProof.Rows L2
section
variable {X : Cx}
def rHasOwn (C : Addr) (sp : Sp) (E : XK) : R2 := fun x y H Q => ∃ (a dx : Addr) (fs : List (Str × V)), y = .ref a ∧ H a = some (.ins C dx fs) ∧ sp [.ref a, x] H (fun v H1 => ∃ b : Bool, v = .bl b ∧ Q (.bl b) H1) E
theorem spec_own {K : PySem.W.Frag} {M : Model} {A : Around} {s : Shared} {E : Value → Shared → Prop} {a C f : Addr} {ox : Obj} {od : Option Obj} {name : Str} {Q : Option Value → Shared → Prop} (KX : K.In s.heap) (J : PySem.W.InstAt s.heap a ox C od) (hs : PySem.W.findIn K (.ref C) name = some (some (.ref f)))
    (q : Q (some (.ref f)) s) : wpAny M A (specialOf (.ref a) name) Q E s := by
  unfold specialOf
  exact wpAny_bind (J.type.here ((PySem.W.looks_findIn KX hs).here q))
theorem has_own {k : Nat} {f C : Addr} {fd : FuncData} {ps : List Str} {sp : Sp} {CX : CXT} {E : XK} (F : FnOk X.prog X.w X.K X.mg X.base CX k f fd ps sp) (M : Meth X.K C "__contains__" f) (hr : Room k X.A) (hb : Binds X.K fd ps []) (hx : Passes CX X E)
    {pins : List (Addr × Obj)} {s : Shared} {σ : L2.St} {H : Hp} {x y : V} {v u : Value} {Q : Bool → Shared → Prop} (I : Inv X pins σ H s) (rx : RelV x v) (ry : RelV y u)
    (h : ∃ (a dx : Addr) (fs : List (Str × V)), y = .ref a ∧ H a = some (.ins C dx fs) ∧ sp [.ref a, x] H (fun v H1 => ∃ b : Bool, v = .bl b ∧ ∀ s1, Inv X pins σ H1 s1 → Q b s1) E) : wpAny (model X.prog X.w) X.A (contains u v) Q X.xe s := by
  obtain ⟨a, dx, fs, rfl, ha, h⟩ := h
  cases (show u = Value.ref a from ry)
  obtain ⟨mA, O, _⟩ := ins_get I.hok ha
  obtain ⟨od, J, _⟩ := O.look
  have fn : PySem.W.typeIn X.K (.ref f) = some (.type "function") := beq_iff_eq.mp M.fn
  have rr : Vals [V.ref a, x] [Value.ref a, v] := .cons rfl (.cons rx .nil)
  have hl : ([Value.ref a, v] : List Value).length = ps.length := by rw [← rr.length]; exact F.len _ _ _ _ h
  have b := hb s [.ref a, v] I.kIn (by rw [List.append_nil]; exact hl)
  rw [List.append_nil] at b
  unfold contains
  refine wpAny_holding ?_
  dsimp only [stdlibNamesSay?]
  refine wpAny_bind (spec_own I.kIn J M.at_ ?_)
  show wpAny _ _ (if (some (Value.ref f) == some Value.none) = true then _ else _) _ _ _
  rw [if_neg (by simp)]
  unfold callSpecialUnlessNone?
  refine wpAny_bind (wpAny_bind (spec_own I.kIn J M.at_ ?_))
  refine wpAny_holding (wpAny_bind ((PySem.W.bind_fn I.kIn _ fn).here ?_))
  show wpAny _ _ (if (Value.ref f == Value.none) = true then _ else _) _ _ _
  rw [if_neg (by simp)]
  refine wpAny_bind (wpAny_call (codeAny_mono (F.run X.A X.stack s H ⟨[.ref a, v], []⟩ [.ref a, v] [.ref a, x] _ E hr I.env0 b rr h) fun r s' hq => ?_))
  cases r with
  | error e => exact hx pins σ H s e s' I hq
  | ok fl =>
    cases fl with
    | ret u =>
      obtain ⟨w1, H', I', rv, b, rfl, q⟩ := I.after hq
      cases (show u = Value.bool b from rv)
      exact wpAny_pure (wpAny_truthy_bool (q _ I'))
    | next => exact False.elim hq
    | brk => exact False.elim hq
    | cont => exact False.elim hq
theorem op_inOwn {k : Nat} {f C : Addr} {fd : FuncData} {ps : List Str} {sp : Sp} {CX : CXT} {E : XK} (F : FnOk X.prog X.w X.K X.mg X.base CX k f fd ps sp) (M : Meth X.K C "__contains__" f) (hr : Room k X.A) (hb : Binds X.K fd ps []) (hx : Passes CX X E) (mono : ∀ {vs H} {Q Q' : VK}, (∀ v H, Q v H → Q' v H) → sp vs H Q E → sp vs H Q' E) :
    OpR X (compareOp .In) (rHasOwn C sp E) := by
  intro pins s σ H x y v u Q I rx ry h
  obtain ⟨a, dx, fs, rfl, ha, h⟩ := h
  show wpAny _ _ (contains u v >>= fun b => (pure (Value.bool b) : Sem Value)) _ _ _
  refine wpAny_bind (has_own F M hr hb hx I rx ry ⟨a, dx, fs, rfl, ha, mono (fun w1 H1 ⟨b, e, q⟩ => ⟨b, e, fun s1 I1 => wpAny_pure ⟨.bl b, H1, I1, rfl, q⟩⟩) h⟩)
theorem op_notInOwn {k : Nat} {f C : Addr} {fd : FuncData} {ps : List Str} {sp : Sp} {CX : CXT} {E : XK} (F : FnOk X.prog X.w X.K X.mg X.base CX k f fd ps sp) (M : Meth X.K C "__contains__" f) (hr : Room k X.A) (hb : Binds X.K fd ps []) (hx : Passes CX X E) (mono : ∀ {vs H} {Q Q' : VK}, (∀ v H, Q v H → Q' v H) → sp vs H Q E → sp vs H Q' E) :
    OpR X (compareOp .NotIn) (fun x y H Q => ∃ (a dx : Addr) (fs : List (Str × V)), y = .ref a ∧ H a = some (.ins C dx fs) ∧ sp [.ref a, x] H (fun v H1 => ∃ b : Bool, v = .bl b ∧ Q (.bl (!b)) H1) E) := by
  intro pins s σ H x y v u Q I rx ry h
  obtain ⟨a, dx, fs, rfl, ha, h⟩ := h
  show wpAny _ _ (contains u v >>= fun b => (pure (Value.bool (!b)) : Sem Value)) _ _ _
  refine wpAny_bind (has_own F M hr hb hx I rx ry ⟨a, dx, fs, rfl, ha, mono (fun w1 H1 ⟨b, e, q⟩ => ⟨b, e, fun s1 I1 => wpAny_pure ⟨.bl (!b), H1, I1, rfl, q⟩⟩) h⟩)
end
end Nm
set_option maxRecDepth 100000
set_option maxHeartbeats 4000000
/-! tables; weights_of_over -/
namespace Nm
open PySem PySem.Spec PyProof.Rows L2
/-- a table as it stands -/
def TblAt (H : Hp) (t : Addr) (tb : List (List Int)) : Prop := ∃ ts : List Addr, H t = some (.tup (ts.map V.ref)) ∧ ts.length = tb.length ∧ ∀ (k : Nat) (a : Addr) (r : List Int), ts[k]? = some a → tb[k]? = some r → H a = some (.tup (r.map V.int))
theorem TblAt.ext {H H' : Hp} {t : Addr} {tb : List (List Int)} (h : TblAt H t tb) (s : ∀ b xs, H b = some (.tup xs) → H' b = some (.tup xs)) : TblAt H' t tb := by
  obtain ⟨ts, h1, h2, h3⟩ := h
  exact ⟨ts, s _ _ h1, h2, fun k a r e1 e2 => s _ _ (h3 k a r e1 e2)⟩
theorem TblAt.same {H H' : Hp} {t : Addr} {tb : List (List Int)} (h : TblAt H t tb) (s : Same H H') : TblAt H' t tb := h.ext fun b xs e => s _ _ e
theorem _root_.L2.Same.off {H H' : Hp} {D : Addr} {o : HO} (s : Same H H') (h : H D = none) : Same H (upd H' D o) := fun b u e => by
  rw [upd_ne (ne_of_none e h)]
  exact s _ _ e
/-- a list of rows that are tuples -/
def RowsAt (H : Hp) (D : Addr) (as : List Addr) (tb : List (List Int)) : Prop := H D = some (.lst (as.map V.ref)) ∧ as.length = tb.length ∧ ∀ (k : Nat) (p : Addr) (r : List Int), as[k]? = some p → tb[k]? = some r → H p = some (.tup (r.map V.int))
theorem RowsAt.nil {H : Hp} {D : Addr} : RowsAt (upd H D (.lst [])) D [] [] := ⟨upd_same, rfl, fun k p r h => by simp at h⟩
theorem RowsAt.nil' {H : Hp} {D : Addr} (h : H D = some (.lst [])) : RowsAt H D [] [] := ⟨h, rfl, fun k p r h => by simp at h⟩
theorem RowsAt.same {H H' : Hp} {D : Addr} {as : List Addr} {tb : List (List Int)} (h : RowsAt H D as tb) (s : Same H H') : RowsAt H' D as tb := ⟨s _ _ h.1, h.2.1, fun k p r h1 h2 => s _ _ (h.2.2 k p r h1 h2)⟩
theorem RowsAt.add {H : Hp} {D p : Addr} {as : List Addr} {tb : List (List Int)} {r : List Int} (h : RowsAt H D as tb) (hp : H p = some (.tup (r.map V.int))) : RowsAt (upd H D (.lst (as.map V.ref ++ [V.ref p]))) D (as ++ [p]) (tb ++ [r]) := by
  obtain ⟨h1, h2, h3⟩ := h
  have ne : ∀ q xs, H q = some (.tup xs) → q ≠ D := fun q xs e z => by
    subst z
    rw [h1] at e
    cases e
  refine ⟨by rw [upd_same, List.map_append]; rfl, by rw [List.length_append, List.length_append, h2]; rfl, fun k q r' hq hr => ?_⟩
  by_cases c : k < as.length
  · rw [List.getElem?_append_left c] at hq
    rw [List.getElem?_append_left (by omega)] at hr
    have := h3 k q r' hq hr
    rw [upd_ne (ne _ _ this)]
    exact this
  · have hk := (List.getElem?_eq_some_iff.mp hq).1
    rw [List.length_append, List.length_singleton] at hk
    have e : k = as.length := by omega
    subst e
    rw [List.getElem?_append_right (Nat.le_refl _), Nat.sub_self] at hq
    rw [List.getElem?_append_right (by omega), h2, Nat.sub_self] at hr
    cases hq
    cases hr
    rw [upd_ne (ne _ _ hp)]
    exact hp
theorem RowsAt.addI {H : Hp} {D p : Addr} {as : List Addr} {tb : List (List Int)} {r : List Int} {i : Nat} (h : RowsAt H D as (tb.take i)) (hr : tb[i]? = some r) (hp : H p = some (.tup (r.map V.int))) : RowsAt (upd H D (.lst (as.map V.ref ++ [V.ref p]))) D (as ++ [p]) (tb.take (i + 1)) := by
  have e : tb.take (i + 1) = tb.take i ++ [r] := by
    rw [List.take_add_one, hr]
    rfl
  rw [e]
  exact h.add hp
theorem RowsAt.tbl {H : Hp} {D t : Addr} {as : List Addr} {tb : List (List Int)} (h : RowsAt H D as tb) (ht : H t = some (.tup (as.map V.ref))) : TblAt H t tb := ⟨as, ht, h.2.1, h.2.2⟩
theorem RowsAt.len {H : Hp} {D : Addr} {as : List Addr} {tb : List (List Int)} (h : RowsAt H D as tb) : (as.map V.ref).length = tb.length := by rw [List.length_map, h.2.1]
/-- tuple(a list) -/
def rTupL (K : PySem.W.Frag) : List V → Hp → VK → Prop := fun xs H Q => ∃ p ys, xs = [.ref p] ∧ SqL K H p ys ∧ ∀ l, H l = none → Q (.ref l) (upd H l (.tup ys))
section
variable {X : Cx}
theorem call_tupL : CallR X (.type "tuple") (rTupL X.K) := fun pins s σ H xs us Q I r h => by
  obtain ⟨p, ys, e, h1, h2⟩ := h
  exact call_tuple_of pins s σ H xs us Q I r ⟨p, ys, e, .inl ⟨h1, h2⟩⟩
end
/-- the first of these names at which something holds -/
theorem find_at {p : Str → Bool} : ∀ {nm : List Str} {i : Nat} {x : Str}, nm[i]? = some x → p x = true → (∀ y ∈ nm.take i, p y = false) → nm.find? p = some x
  | [], _, _, h, _, _ => by simp at h
  | z :: nm, 0, x, h, hp, _ => by
    cases h
    exact List.find?_cons_of_pos hp
  | z :: nm, i + 1, x, h, hp, ha => by
    have hz := ha z (by simp)
    rw [List.find?_cons_of_neg (by rw [hz]; decide)]
    exact find_at (i := i) h hp fun y hy => ha y (by simp [hy])
/-- the first name that does not lead to one of these -/
def badOf (kv : List (Key × V)) (nm' nm : List Str) : Option Str := nm'.find? fun x => !isOne nm ((valV kv (Sum.inr x)).getD .non)
/-- the name that is due as an error -/
def dueOf (n' n1 n2 : List Str) (fk lk : List (Key × V)) : Option Str := (badOf fk n' n1).or (badOf lk n' n2)
def cntT (n1 n2 n' : List Str) (fk lk : List (Key × V)) : List (List Int) := n1.map fun p => n2.map fun q => (cntV n' fk lk p q : Int)
theorem isOne_at {nm : List Str} {o : Option V} (h : isOne nm (o.getD .non) = true) : ∃ z, o = some (.str z) ∧ z ∈ nm := by
  cases o with
  | none => cases h
  | some v =>
    cases v with
    | str z => exact ⟨z, rfl, of_decide_eq_true h⟩
    | _ => cases h
section
variable {P : Program} {w : World} {K : PySem.W.Frag} {mg : Str → Option Value} {base : Heap}
theorem spHas_mono {C : Addr} {E : XK} {vs : List V} {H : Hp} {Q Q' : VK} (m : ∀ v H, Q v H → Q' v H) (h : spHas K C vs H Q E) : spHas K C vs H Q' E := by
  obtain ⟨p, nm, x, e, h1, h2, q⟩ := h
  exact ⟨p, nm, x, e, h1, h2, m _ _ q⟩
def spWO (K : PySem.W.Frag) (C CU : Addr) : Sp := fun vs H Q E => ∃ (one q1 oth q2 ov wb qw fi la : Addr) (n1 n2 n' : List Str) (fk lk : List (Key × V)), vs = [.ref one, .ref oth, .ref ov] ∧ (WebAt C H one q1 n1 ∧ HasC C H one n1) ∧ (WebAt C H oth q2 n2 ∧ HasC C H oth n2) ∧
  H ov = some (.tup [.ref wb, .ref fi, .ref la]) ∧ WebAt C H wb qw n' ∧ H fi = some (.dK fk) ∧ H la = some (.dK lk) ∧ n1.length ≤ 8 ∧ n2.length ≤ 8 ∧ n'.length ≤ 1000 ∧ (∀ x ∈ n', Al 100 x) ∧
  (∀ x, AskV K H ((valV fk (Sum.inr x)).getD .non)) ∧ (∀ x, AskV K H ((valV lk (Sum.inr x)).getD .non)) ∧
  (dueOf n' n1 n2 fk lk = none → ∀ (p : Addr) (H' : Hp), TblAt H' p (cntT n1 n2 n' fk lk) → Same H H' → Q (.ref p) H') ∧
  (∀ (x : Str) (d : Addr) (H' : Hp), dueOf n' n1 n2 fk lk = some x → H d = none → H' d = some (.xd [("name", .str x)]) → Same H H' → E (.ref CU) (some d) H')
theorem AskV.same {H H' : Hp} {x : V} (h : AskV K H x) (s : Same H H') : AskV K H' x := by
  cases h with
  | str z => exact .str z
  | int i => exact .int i
  | non => exact .non
  | lst e => exact .lst (s _ _ e)
  | tup e => exact .tup (s _ _ e)
theorem HasC.same {C : Addr} {H H' : Hp} {p : Addr} {nm : List Str} (h : HasC C H p nm) (s : Same H H') : HasC C H' p nm := h.ext fun b o e _ _ => s b o e
abbrev nWO : List Str := ["one", "other", "over", "web", "first", "last", "name", "many", "p", "q"]
theorem scWO : FnScope nWO ["one", "other", "over"] (defScope sWeightsOver) := ⟨rfl, rfl, rfl, by decide +kernel, rfl, by decide +kernel, by decide +kernel⟩
abbrev coWO : Scope := { kind := .function, names := [(".0", .local), ("p", .cell), ("tuple", .globalImplicit), ("many", .cell), ("other", .cell)], isGenerator := false, isCoroutine := false }
abbrev gWO : TE := tDGet2 (tVar 7) (tTup (tCons (tVar 8) (tCons (tVar 9) tNil))) (tC (.int 0))
theorem ok_wo {f C CU : Addr} {fd : FuncData} (F : Fun K "weights_of_over" "weights_of_over" sWeightsOver f fd) (T : TxtW K mg C) (U : TxtUnk P w K mg base CU) (Gm : MethD P w K mg base C "places" ["self"] 1 (spPlaces C)) (Gh : MethD P w K mg base C "__contains__" ["self", "name"] 1 (spHas K C))
    (Gp : Def P w K mg base "pairs_over" ["paper"] 2 (spPair C)) : FnOk P w K mg base (L2.CX P w) 4 f fd ["one", "other", "over"] (spWO K C CU) := by
  obtain ⟨fm, fdm, Gm, mm, bm⟩ := Gm.ex
  obtain ⟨fh, fdh, Gh, mh, bh⟩ := Gh.ex
  obtain ⟨fp, fdp, Gp, mp, kp, bp⟩ := Gp.ex
  obtain ⟨fi0, fdi, iC, tI, Gi, bi⟩ := U.ini
  refine okX (k := 3) F scWO (fun vs H Q E h => ?_) (fun cdv A outer s H vs Q E hr h => ?_)
  · obtain ⟨_, _, _, _, _, _, _, _, _, _, _, _, _, _, rfl, _⟩ := h
    rfl
  obtain ⟨one, q1, oth, q2, ov, wb, qw, fi, la, n1, n2, n', fk, lk, rfl, ⟨h1, c1⟩, ⟨h2, c2⟩, hov, hwb, hfi, hla, l1, l2, l3, hal, af, al, kq, ke⟩ := h
  have hu := hu_of hr
  have hr1 := hr.mono (by decide : 1 ≤ 3)
  have hr2 := hr.mono (by decide : 2 ≤ 3)
  have tk := takes_of (X := cxOf (L2.CX P w) P w K mg base nWO "weights_of_over" (defScope sWeightsOver) f cdv A outer s H E) (E := E) rfl rfl rfl rfl
  refine ⟨_, pss_cons (ps_asg (pv 2) (pg_tup rfl (pgs_cons (pg_name (i := 3) scWO.nd rfl (.inl rfl)) (pgs_cons (pg_name (i := 4) scWO.nd rfl (.inl rfl)) (pgs_cons (pg_name (i := 5) scWO.nd rfl (.inl rfl)) pgs_nil)))))
    (Evl.pss_cut (ps_for (passes_of rfl) rfl (pi_list (pe_meth0 (pv 3) T.cl mm Gm hr1 bm .nil pass0)) (pg_name (i := 6) scWO.nd rfl (.inl rfl))
      (pss_one (ps_if (pt_cmpR (op_notInOwn (E := E0) Gh mh hr1 bh pass0 spHas_mono) (pe_dget1 hu (pv 4) (pv 6) ⟨rfl, rfl, rfl, rfl⟩) (pv 0) (by rfl))
        (pss_one (ps_raise rfl tk (pmk_oexL U.oex iC tI Gi hr bi pass0 (by rfl) U.mU (pa_cons (pv 6) pa_nil)))) pss_nil)))
    (Evl.pss_cut (ps_for (passes_of rfl) rfl (pi_list (pe_meth0 (pv 3) T.cl mm Gm hr1 bm .nil pass0)) (pg_name (i := 6) scWO.nd rfl (.inl rfl))
      (pss_one (ps_if (pt_cmpR (op_notInOwn (E := E0) Gh mh hr1 bh pass0 spHas_mono) (pe_dget1 hu (pv 5) (pv 6) ⟨rfl, rfl, rfl, rfl⟩) (pv 1) (by rfl))
        (pss_one (ps_raise rfl tk (pmk_oexL U.oex iC tI Gi hr bi pass0 (by rfl) U.mU (pa_cons (pv 6) pa_nil)))) pss_nil)))
    (pss_cons (ps_set (i := 7) scWO.nd rfl (Or.inr rfl) (pe_call Gp hr2 (by rfl) mp kp bp .nil pass0 (pa_cons (pv 2) pa_nil)))
    (pss_one (ps_ret (pe_callTy call_tupL (by rfl) T.tuple (by decide +kernel) (pa_cons
      (pe_lc (own := [("p", 8)]) (g := gName 8) (tt := tYes) (te := tCB (rTupL K) (tCons (tLc (iList K (tMeth C "places" (spPlaces C) [] E0 (tVar 1) tNil)) (gName 9) tYes gWO [9]) tNil)) rfl scWO.nd (pi_list (pe_meth0 (pv 0) T.cl mm Gm hr1 bm .nil pass0)) (blkOk_by (N := nWO) (sc := defScope sWeightsOver) (by decide +kernel))
        (fun _ _ _ _ _ => pg_name (i := 8) scWO.nd rfl (Or.inr rfl)) (fun _ _ _ _ _ => pts_nil)
        (fun _ _ _ _ _ => by
          refine pe_callTy call_tupL ?z (by exact T.tuple) (by decide +kernel) (pa_cons ?y pa_nil)
          case z => rfl
          case y =>
            refine pe_lc (own := [("q", 9)]) (g := gName 9) (tt := tYes) (te := gWO) rfl scWO.nd ?a ?b ?c ?d ?e
            case a => exact pi_list (pe_meth0 (pv 1) T.cl mm Gm hr1 bm .nil pass0)
            case b => exact (blkOk_by (N := nWO) (sc := coWO) (by decide +kernel))
            case c => intro _ _ _ _ _; exact pg_name (i := 9) scWO.nd rfl (.inl rfl)
            case d => intro _ _ _ _ _; exact pts_nil
            case e =>
              intro _ _ _ _ _
              exact pe_dget2 hu (pv 7) (pe_tup (pa_cons (pv 8) (pa_cons (pv 9) pa_nil))) pe_int ⟨rfl, rfl, rfl, rfl⟩)) pa_nil))))))), ?_⟩
  refine ⟨_, rfl, ov, _, rfl, SqT.of hov, rfl, _, _, rfl, _, _, rfl, _, _, rfl, rfl, ?_⟩
  obtain ⟨dw, fw, e1, _, e3, _⟩ := id hwb
  obtain ⟨dx1, fs1, _, _, g1, _, _, _⟩ := id c1
  obtain ⟨dx2, fs2, _, _, g2, _, _, _⟩ := id c2
  -- all lead to a place of one
  refine ⟨fun σ H1 => ∃ v6, σ = [some (.ref one), some (.ref oth), some (.ref ov), some (.ref wb), some (.ref fi), some (.ref la), v6, none, none, none] ∧ (∀ x ∈ n', isOne n1 ((valV fk (Sum.inr x)).getD .non) = true) ∧ Same H H1, ?_, ?_⟩
  · refine ⟨_, rfl, wb, dw, fw, rfl, e1, e3, wb, qw, n', rfl, hwb, l3, fun r H1 hr0 hr1 s1 => ?_⟩
    refine ⟨r, rfl, ⟨_, SqL.of hr1⟩, ?_⟩
    refine for_list (xs := n'.map V.str) (fun i σ H2 => ∃ v6, σ = [some (.ref one), some (.ref oth), some (.ref ov), some (.ref wb), some (.ref fi), some (.ref la), v6, none, none, none] ∧ (∀ x ∈ n'.take i, isOne n1 ((valV fk (Sum.inr x)).getD .non) = true) ∧ Same H1 H2) ⟨none, rfl, (fun x hx => by simp at hx), Same.refl _⟩ (fun i σ H2 _ ⟨_, _, _, h⟩ => SqL.of (h _ _ hr1)) ?_ ?_
    · rintro i v σ H2 hi ⟨v6, rfl, ha, s2⟩
      rw [List.getElem?_map] at hi
      obtain ⟨x, hx, rfl⟩ := Option.map_eq_some_iff.mp hi
      have s12 := s1.trans s2
      have hfi2 := s12 _ _ hfi
      refine ⟨_, rfl, fi, rfl, .inl ⟨fk, .inl hfi2⟩, _, rfl, valV fk (Sum.inr x), DGet.k (k := Sum.inr x) hfi2, _, rfl, one, dx1, fs1, rfl, s12 _ _ g1, one, n1, _, rfl, c1.same s12, (af x).same s12, _, rfl, ?_⟩
      by_cases hb : isOne n1 ((valV fk (Sum.inr x)).getD .non) = true
      · rw [hb]
        refine ⟨_, rfl, iteF ⟨_, rfl, fun y hy => ?_, s2⟩⟩
        rw [List.take_add_one, hx] at hy
        rcases List.mem_append.mp hy with z | z
        · exact ha y z
        · rw [show y = x from by simpa using z]
          exact hb
      · rw [Bool.eq_false_iff.mpr hb]
        refine ⟨_, rfl, iteT ⟨_, rfl, by show (1 : Nat) ≤ 1000; decide, fun a ha' => ?_⟩⟩
        refine raise_unk (hal x (List.mem_of_getElem? hx)) ha' s12 fun d H' q1' q2' q3' => ke x d H' ?_ q1' q2' q3'
        have hbad : badOf fk n' n1 = some x := find_at hx (by rw [Bool.eq_false_iff.mpr hb]; rfl) fun y hy => by rw [ha y hy]; rfl
        unfold dueOf
        rw [hbad]
        rfl
    · rintro σ H2 ⟨v6, rfl, ha, s2⟩
      rw [List.length_map, List.take_of_length_le (Nat.le_refl _)] at ha
      exact ⟨v6, rfl, ha, s1.trans s2⟩
  rintro σ H1 ⟨v6, rfl, ok1, s1⟩
  have no1 : badOf fk n' n1 = none := List.find?_eq_none.mpr fun y hy => by rw [ok1 y hy]; decide
  -- all lead to a place of other
  refine ⟨fun σ H2 => ∃ v6, σ = [some (.ref one), some (.ref oth), some (.ref ov), some (.ref wb), some (.ref fi), some (.ref la), v6, none, none, none] ∧ (∀ x ∈ n', isOne n2 ((valV lk (Sum.inr x)).getD .non) = true) ∧ Same H H2, ?_, ?_⟩
  · refine ⟨_, rfl, wb, dw, fw, rfl, s1 _ _ e1, e3, wb, qw, n', rfl, hwb.same s1, l3, fun r H2 hr0 hr1 s2 => ?_⟩
    refine ⟨r, rfl, ⟨_, SqL.of hr1⟩, ?_⟩
    refine for_list (xs := n'.map V.str) (fun i σ H3 => ∃ v6, σ = [some (.ref one), some (.ref oth), some (.ref ov), some (.ref wb), some (.ref fi), some (.ref la), v6, none, none, none] ∧ (∀ x ∈ n'.take i, isOne n2 ((valV lk (Sum.inr x)).getD .non) = true) ∧ Same H2 H3) ⟨v6, rfl, (fun x hx => by simp at hx), Same.refl _⟩ (fun i σ H3 _ ⟨_, _, _, h⟩ => SqL.of (h _ _ hr1)) ?_ ?_
    · rintro i v σ H3 hi ⟨v6, rfl, ha, s3⟩
      rw [List.getElem?_map] at hi
      obtain ⟨x, hx, rfl⟩ := Option.map_eq_some_iff.mp hi
      have s13 := s1.trans (s2.trans s3)
      have hla2 := s13 _ _ hla
      refine ⟨_, rfl, la, rfl, .inl ⟨lk, .inl hla2⟩, _, rfl, valV lk (Sum.inr x), DGet.k (k := Sum.inr x) hla2, _, rfl, oth, dx2, fs2, rfl, s13 _ _ g2, oth, n2, _, rfl, c2.same s13, (al x).same s13, _, rfl, ?_⟩
      by_cases hb : isOne n2 ((valV lk (Sum.inr x)).getD .non) = true
      · rw [hb]
        refine ⟨_, rfl, iteF ⟨_, rfl, fun y hy => ?_, s3⟩⟩
        rw [List.take_add_one, hx] at hy
        rcases List.mem_append.mp hy with z | z
        · exact ha y z
        · rw [show y = x from by simpa using z]
          exact hb
      · rw [Bool.eq_false_iff.mpr hb]
        refine ⟨_, rfl, iteT ⟨_, rfl, by show (1 : Nat) ≤ 1000; decide, fun a ha' => ?_⟩⟩
        refine raise_unk (hal x (List.mem_of_getElem? hx)) ha' s13 fun d H' q1' q2' q3' => ke x d H' ?_ q1' q2' q3'
        have hbad : badOf lk n' n2 = some x := find_at hx (by rw [Bool.eq_false_iff.mpr hb]; rfl) fun y hy => by rw [ha y hy]; rfl
        unfold dueOf
        rw [no1, hbad]
        rfl
    · rintro σ H3 ⟨v6, rfl, ha, s3⟩
      rw [List.length_map, List.take_of_length_le (Nat.le_refl _)] at ha
      exact ⟨v6, rfl, ha, s1.trans (s2.trans s3)⟩
  rintro σ H2 ⟨v6', rfl, ok2, s2⟩
  have no2 : dueOf n' n1 n2 fk lk = none := by
    unfold dueOf
    rw [no1]
    exact List.find?_eq_none.mpr fun y hy => by rw [ok2 y hy]; decide
  -- the pairs
  refine ⟨_, rfl, ov, wb, qw, fi, la, n', fk, lk, rfl, s2 _ _ hov, hwb.same s2, s2 _ _ hfi, s2 _ _ hla, l3, fun x hx => ?_, fun D kvs H3 hD0 hD3 hc s3 => ?_⟩
  · obtain ⟨p, hp, _⟩ := isOne_at (ok1 x hx)
    obtain ⟨q, hq, _⟩ := isOne_at (ok2 x hx)
    exact ⟨p, q, hp, hq⟩
  have s23 := s2.trans s3
  obtain ⟨dy1, fy1, y1, _, y3, _⟩ := id (h1.same s23)
  refine ⟨_, rfl, one, dy1, fy1, rfl, y1, y3, one, q1, n1, rfl, h1.same s23, by omega, fun r H4 hr0 hr4 s4 => ?_⟩
  have s24 := s23.trans s4
  have hD4 := s4 _ _ hD3
  refine ⟨r, rfl, ⟨_, SqL.of hr4⟩, fun L hL => ?_⟩
  refine lc_it (walk_list (xs := n1.map V.str)) (fun i H5 => ∃ as, RowsAt H5 L as ((cntT n1 n2 n' fk lk).take i) ∧ Same H4 H5) ⟨[], RowsAt.nil, same_new hL⟩ (fun i H5 _ ⟨_, _, s⟩ => SqL.of (s _ _ hr4)) ?_ ?_
  · rintro i x H5' H5 hi ⟨as, R, s5⟩ ⟨rfl, hx⟩
    rw [List.getElem?_map] at hx
    obtain ⟨p, hp, rfl⟩ := Option.map_eq_some_iff.mp hx
    have hil := (List.getElem?_eq_some_iff.mp hp).1
    refine ⟨rfl, tyes ?_⟩
    have s25 := s24.trans s5
    obtain ⟨dy2, fy2, z1, _, z3, _⟩ := id (h2.same s25)
    refine ⟨_, rfl, oth, dy2, fy2, rfl, z1, z3, oth, q2, n2, rfl, h2.same s25, by omega, fun r2 H6 hr20 hr26 s6 => ?_⟩
    refine ⟨r2, rfl, ⟨_, SqL.of hr26⟩, fun M hM => ?_⟩
    refine lc_it (walk_list (xs := n2.map V.str)) (fun j H7 => H7 M = some (.lst (((n2.take j).map fun q => (cntV n' fk lk p q : Int)).map V.int)) ∧ Same H6 H7) ⟨upd_same, same_new hM⟩ (fun j H7 _ h => SqL.of (h.2 _ _ hr26)) ?_ ?_
    · rintro j v H7' H7 hj ⟨hM7, s7⟩ ⟨rfl, hv⟩
      rw [List.getElem?_map] at hv
      obtain ⟨q, hq, rfl⟩ := Option.map_eq_some_iff.mp hv
      refine ⟨rfl, tyes ?_⟩
      have hD7 := s7 _ _ (s6 _ _ (s5 _ _ hD4))
      refine ⟨_, rfl, D, rfl, .inr ⟨kvs, .inl hD7⟩, _, rfl, _, rfl, (by show 2 ≤ sizeLine; decide), fun u hu' => ?_⟩
      have su := same_new (o := .tup [V.str p, V.str q]) hu'
      refine ⟨valV kvs [Sum.inr p, Sum.inr q], DGet.t (k := [Sum.inr p, Sum.inr q]) (su _ _ hD7) upd_same, ?_⟩
      rw [hc]
      refine ⟨_, su _ _ hM7, Evl.sz_lt (by rw [List.length_map, List.length_map, List.length_take]; omega), ?_, Same.off (s7.trans su) hM⟩
      rw [upd_same, List.take_add_one, hq, List.map_append, List.map_append]
      rfl
    · rintro H7 ⟨hM7, s7⟩
      rw [List.length_map, List.take_of_length_le (Nat.le_refl _)] at hM7
      refine ⟨M, _, rfl, SqL.of hM7, fun t ht => ?_⟩
      have s8 := s6.trans (s7.trans (same_new (o := .tup ((n2.map fun q => (cntV n' fk lk p q : Int)).map V.int)) ht))
      have R8 := R.same s8
      have hl : (as.map V.ref).length ≤ 8 := by rw [R.len, List.length_take]; unfold cntT; rw [List.length_map]; omega
      exact ⟨_, R8.1, Evl.sz_lt (by omega), as ++ [t], R8.addI (by unfold cntT; rw [List.getElem?_map, hp]; rfl) upd_same, Same.off (s5.trans s8) hL⟩
  · rintro H5 ⟨as, R, s5⟩
    have lz : (n1.map V.str).length = (cntT n1 n2 n' fk lk).length := by unfold cntT; rw [List.length_map, List.length_map]
    rw [lz, List.take_length] at R
    refine ⟨L, _, rfl, SqL.of R.1, fun t ht => ?_⟩
    have s6 := same_new (o := .tup (as.map V.ref)) ht
    exact kq no2 t _ ((R.same s6).tbl upd_same) (s24.trans (s5.trans s6))
end
end Nm
set_option maxRecDepth 100000
set_option maxHeartbeats 4000000
/-! _law_due -/
namespace Nm
open PySem PySem.Spec PyProof.Rows L2
/-- repr of a text -/
theorem call_reprS {X : Cx} : CallR X (.builtin "repr") (fun xs H Q => ∃ z : Str, xs = [.str z] ∧ (reprText z).length ≤ sizeLine ∧ Q (.str (reprText z)) H) := by
  intro pins s σ H xs us Q I r h
  obtain ⟨z, rfl, hz, q⟩ := h
  obtain ⟨u, rfl, t, rfl⟩ := vals1 r
  exact PySem.P.repr_of_str ⟨.str _, H, I.tok _, ⟨_, rfl⟩, q⟩ hz
structure TxtQ (mg : Str → Option Value) : Prop extends TxtH mg where
  repr : mg "repr" = none
def unkV (x : Str) : List V := [.str "UnknownName", .str (reprText x)]
/-- where the second one leads a name -/
def lastS (lk : List (Key × V)) (x : Str) : Str := match valV lk (Sum.inr x) with
  | some (.str q) => q
  | _ => ""
def ownS (nm : List Str) (fk lk : List (Key × V)) (p : Str) : List Str := (nm.filter fun x => decide (valV fk (Sum.inr x) = some (.str p))).map (lastS lk)
theorem own_count {fk lk : List (Key × V)} {p q : Str} : ∀ {nm : List Str}, (∀ x ∈ nm, ∃ z : Str, valV lk (Sum.inr x) = some (.str z)) → (ownS nm fk lk p).count q = cntV nm fk lk p q
  | [], _ => rfl
  | x :: nm, h => by
    have ih := own_count (fk := fk) (p := p) (q := q) (nm := nm) fun y hy => h y (List.mem_cons_of_mem _ hy)
    obtain ⟨z, hz⟩ := h x List.mem_cons_self
    unfold ownS cntV at ih ⊢
    by_cases e : valV fk (Sum.inr x) = some (.str p)
    · rw [List.filter_cons_of_pos (by simpa using e), List.map_cons, List.count_cons, ih]
      have el : lastS lk x = z := by unfold lastS; rw [hz]
      rw [el]
      by_cases e2 : z = q
      · subst e2
        rw [List.filter_cons_of_pos (by simp [e, hz])]
        simp
      · rw [List.filter_cons_of_neg (by simp [e, hz, e2])]
        simp [e2]
    · rw [List.filter_cons_of_neg (by simpa using e), List.filter_cons_of_neg (by simp [e]), ih]
abbrev nDu : List Str := ["_law_one", "_law_other", "_law_web", "_law_first", "_law_last", "_law_led", "_law_beneath", "_law_name", "_law_found", "_law_p", "_law_own", "_law_q"]
abbrev stDu (wo wt ww fi la : Addr) (v5 v6 v7 v8 v9 v10 v11 : Option V) : L2.St := [some (.ref wo), some (.ref wt), some (.ref ww), some (.ref fi), some (.ref la), v5, v6, v7, v8, v9, v10, v11]
section
variable {P : Program} {w : World} {K : PySem.W.Frag} {mg : Str → Option Value} {base : Heap}
def spDue (K : PySem.W.Frag) : Sp := fun vs H Q _ => ∃ (wo wt ww fi la na1 nb1 nt1 na2 nb2 nt2 na' nb' nt' : Addr) (n1 n2 n' : List Str) (fk lk : List (Key × V)), vs = [.ref wo, .ref wt, .ref ww, .ref fi, .ref la] ∧
  H wo = some (.dK (worldD na1 nb1 nt1)) ∧ H na1 = some (.lst (n1.map V.str)) ∧ H wt = some (.dK (worldD na2 nb2 nt2)) ∧ H na2 = some (.lst (n2.map V.str)) ∧ H ww = some (.dK (worldD na' nb' nt')) ∧ H na' = some (.lst (n'.map V.str)) ∧ H fi = some (.dK fk) ∧ H la = some (.dK lk) ∧
  n1.length ≤ 8 ∧ n2.length ≤ 8 ∧ n'.length ≤ 1000 ∧ (∀ x ∈ n', Al 100 x) ∧ (∀ x, AskV K H ((valV fk (Sum.inr x)).getD .non)) ∧ (∀ x, AskV K H ((valV lk (Sum.inr x)).getD .non)) ∧
  (dueOf n' n1 n2 fk lk = none → ∀ (p : Addr) (H' : Hp), TblAt H' p (cntT n1 n2 n' fk lk) → Same H H' → Q (.ref p) H') ∧
  (∀ (x : Str) (l : Addr) (H' : Hp), dueOf n' n1 n2 fk lk = some x → H l = none → H' l = some (.lst (unkV x)) → Same H H' → Q (.ref l) H')
theorem scDu : FnScope nDu ["_law_one", "_law_other", "_law_web", "_law_first", "_law_last"] (defScope sDue) := ⟨rfl, rfl, rfl, by decide +kernel, rfl, by decide +kernel, by decide +kernel⟩
theorem ok_due {f : Addr} {fd : FuncData} (F : Fun K "_law_due" "_law_due" sDue f fd) (T : TxtQ mg) : FnOk P w K mg base CX0 1 f fd ["_law_one", "_law_other", "_law_web", "_law_first", "_law_last"] (spDue K) := by
  refine F.ok scDu (fun vs H Q E h => ?_) (fun cdv A outer s H vs Q E hr h => ?_)
  · obtain ⟨_, _, _, _, _, _, _, _, _, _, _, _, _, _, _, _, _, _, _, rfl, _⟩ := h
    rfl
  obtain ⟨wo, wt, ww, fi, la, na1, nb1, nt1, na2, nb2, nt2, na', nb', nt', n1, n2, n', fk, lk, rfl, hwo, hna1, hwt, hna2, hww, hna', hfi, hla, l1, l2, l3, hal, afi, ala, kq, ke⟩ := h
  have hu := hu_of hr
  refine ⟨_, Evl.pss_cut (ps_for PassesOwn.never rfl (pi_tup (pe_tup (pa_cons (pe_tup (pa_cons (pv 3) (pa_cons (pv 0) pa_nil))) (pa_cons (pe_tup (pa_cons (pv 4) (pa_cons (pv 1) pa_nil))) pa_nil)))) (pg_tup rfl (pgs_cons (pg_name (i := 5) scDu.nd rfl (.inl rfl)) (pgs_cons (pg_name (i := 6) scDu.nd rfl (.inl rfl)) pgs_nil)))
      (pss_one (ps_for PassesOwn.never rfl (pi_list (pe_dget hu (pv 2) pe_str (fun _ _ => rfl))) (pg_name (i := 7) scDu.nd rfl (.inl rfl))
        (pss_one (ps_if (PW.pt (pw_or (pt_cmp (pc_dnotin hu (pv 7) (pv 5))) (pw_or1 (pt_cmpR (op_notInNames hu) (pe_dget hu (pv 5) (pv 7) (fun _ _ => rfl)) (pe_dget hu (pv 6) pe_str (fun _ _ => rfl)) (by rfl)))))
          (pss_one (ps_ret (pe_lst (pa_cons pe_str (pa_cons (pe_callB call_reprS (by rfl) T.repr (by decide +kernel) (pa_cons (pv 7) pa_nil)) pa_nil))))) pss_nil)))))
    (Evl.pss_cut (ps_set (i := 8) scDu.nd rfl (Or.inl rfl) (pe_lst pa_nil))
    (Evl.pss_cut (ps_for PassesOwn.never rfl (pi_list (pe_dget hu (pv 0) pe_str (fun _ _ => rfl))) (pg_name (i := 9) scDu.nd rfl (.inr rfl))
      (Evl.pss_cut (ps_set (i := 10) scDu.nd rfl (Or.inr rfl) (pe_lc (own := [("_law_name", 7)]) (g := gName 7) (tt := tTest (tOp rEq (tDGet (tVar 3) (tVar 7)) (tVar 9))) (te := tDGet (tVar 4) (tVar 7)) rfl scDu.nd (pi_list (pe_dget hu (pv 2) pe_str (fun _ _ => rfl))) (blkOk_by (N := nDu) (sc := defScope sDue) (by decide +kernel))
          (fun _ _ _ _ _ => pg_name (i := 7) scDu.nd rfl (.inl rfl)) (fun _ _ _ _ _ => pts_one (by exact pt_cmpR op_eq (pe_dget hu (pv 3) (pv 7) (fun _ _ => rfl)) (pv 9) (nomark _))) (fun _ _ _ _ _ => by exact pe_dget hu (pv 4) (pv 7) (fun _ _ => rfl))))
      (pss_one (ps_expr (pe_bm PySem.F.plainAttrs_list PySem.F.slot_list_append PySem.F.type_list_append mt_append (pv 8) (pa_cons (pe_callTy call_tupL (by rfl) T.tuple (by decide +kernel) (pa_cons
          (pe_lc (own := [("_law_q", 11)]) (g := gName 11) (tt := tYes) (te := tBM K "list" (rCntS K) (tVar 10) (tCons (tVar 11) tNil)) rfl scDu.nd (pi_list (pe_dget hu (pv 1) pe_str (fun _ _ => rfl))) (blkOk_by (N := nDu) (sc := defScope sDue) (by decide +kernel))
            (fun _ _ _ _ _ => pg_name (i := 11) scDu.nd rfl (.inl rfl)) (fun _ _ _ _ _ => pts_nil) (fun _ _ _ _ _ => by exact pe_bm PySem.F.plainAttrs_list PySem.F.slot_list_count PySem.F.type_list_count mt_lcountS (pv 10) (pa_cons (pv 11) pa_nil))) pa_nil)) pa_nil))))))
    (pss_one (ps_ret (pe_callTy call_tupL (by rfl) T.tuple (by decide +kernel) (pa_cons (pv 8) pa_nil)))))), ?_⟩
  refine ⟨fun σ H1 => ∃ v5 v6 v7, σ = stDu wo wt ww fi la v5 v6 v7 none none none none ∧ badOf fk n' n1 = none ∧ badOf lk n' n2 = none ∧ Same H H1, ?_, ?_⟩
  · refine ⟨_, rfl, _, rfl, (by show 2 ≤ sizeLine; decide), fun t0 h0 => ⟨_, rfl, _, rfl, (by show 2 ≤ sizeLine; decide), fun t1 h1 => ⟨(by show 2 ≤ sizeLine; decide), fun tt htt => ?_⟩⟩⟩
    have z0 := same_new (o := .tup [V.ref fi, V.ref wo]) h0
    have z1 := same_new (o := .tup [V.ref la, V.ref wt]) h1
    have z2 := same_new (o := .tup [V.ref t0, V.ref t1]) htt
    have ht0 := z2 _ _ (z1 _ _ (show (upd H t0 (.tup [V.ref fi, V.ref wo])) t0 = _ from upd_same))
    have ht1 := z2 _ _ (show (upd (upd H t0 (.tup [V.ref fi, V.ref wo])) t1 (.tup [V.ref la, V.ref wt])) t1 = _ from upd_same)
    have htt' : (upd (upd (upd H t0 (.tup [V.ref fi, V.ref wo])) t1 (.tup [V.ref la, V.ref wt])) tt (.tup [V.ref t0, V.ref t1])) tt = some (.tup [V.ref t0, V.ref t1]) := upd_same
    have s01 := (z0.trans z1).trans z2
    generalize upd (upd (upd H t0 (.tup [V.ref fi, V.ref wo])) t1 (.tup [V.ref la, V.ref wt])) tt (.tup [V.ref t0, V.ref t1]) = H0 at *
    refine ⟨tt, rfl, ⟨_, SqT.of htt'⟩, ?_⟩
    refine for_it (walk_tup (xs := [V.ref t0, V.ref t1])) (fun i σ H1 => ∃ v5 v6 v7, σ = stDu wo wt ww fi la v5 v6 v7 none none none none ∧ ((1 ≤ i → badOf fk n' n1 = none) ∧ (2 ≤ i → badOf lk n' n2 = none)) ∧ Same H0 H1)
      ⟨none, none, none, rfl, ⟨fun z => absurd z (by decide), fun z => absurd z (by decide)⟩, Same.refl _⟩ (fun i σ H1 _ ⟨_, _, _, _, _, h⟩ => SqT.of (h _ _ htt')) ?_ ?_
    · rintro i x σ H1' H1 hi ⟨v5, v6, v7, rfl, ⟨b1, b2⟩, s1⟩ ⟨rfl, hx⟩
      match i, hi, hx, b1 with
      | 0, _, hx, _ =>
      cases hx
      refine ⟨t0, _, rfl, SqT.of (s1 _ _ ht0), rfl, _, _, rfl, _, _, rfl, rfl, ?_⟩
      refine ⟨_, rfl, ww, _, rfl, dg_names (s01.trans s1 _ _ hww), na', rfl, ⟨_, SqL.of (s01.trans s1 _ _ hna')⟩, ?_⟩
      refine for_list (xs := n'.map V.str) (fun j σ H2 => ∃ v7, σ = stDu wo wt ww fi la (some (.ref fi)) (some (.ref wo)) v7 none none none none ∧ (∀ x ∈ n'.take j, isOne n1 ((valV fk (Sum.inr x)).getD .non) = true) ∧ Same H1 H2)
        ⟨v7, rfl, (fun x hx => by simp at hx), Same.refl _⟩ (fun j σ H2 _ ⟨_, _, _, h⟩ => SqL.of (h _ _ (s01.trans s1 _ _ hna'))) ?_ ?_
      · rintro j v σ H2 hj ⟨v7, rfl, ha, s2⟩
        rw [List.getElem?_map] at hj
        obtain ⟨x, hx, rfl⟩ := Option.map_eq_some_iff.mp hj
        have s3 : Same H H2 := s01.trans (s1.trans s2)
        have hL := s3 _ _ hfi
        have rl := (hal x (List.mem_of_getElem? hx)).repr.1
        have due : isOne n1 ((valV fk (Sum.inr x)).getD .non) = false → dueOf n' n1 n2 fk lk = some x := fun hb => by
          have hbad : badOf fk n' n1 = some x := find_at hx (by rw [hb]; rfl) fun y hy => by rw [ha y hy]; rfl
          unfold dueOf
          rw [hbad]
          rfl
        refine ⟨_, rfl, _, rfl, fi, _, rfl, DGet.k (k := Sum.inr x) hL, _, rfl, ?_⟩
        cases e : valV fk (Sum.inr x) with
        | none =>
          refine iteT (iteT ⟨_, rfl, x, rfl, Evl.sz_of (by omega), (by show 2 ≤ sizeLine; decide), fun l hl => ?_⟩)
          exact ke x l _ (due (by rw [e]; rfl)) (s3.free hl) upd_same (s3.trans (same_new hl))
        | some v =>
          refine iteF ⟨_, rfl, _, rfl, fi, v, rfl, (by rw [← e]; exact DGet.k (k := Sum.inr x) hL), _, rfl, wo, _, rfl, dg_names (s3 _ _ hwo), na1, n1, rfl, SqL.of (s3 _ _ hna1), (by have z := (afi x).same s3; rw [e] at z; exact z), _, rfl, ?_⟩
          by_cases hb : isOne n1 v = true
          · rw [hb]
            refine iteF ⟨_, rfl, fun y hy => ?_, s2⟩
            rw [List.take_add_one, hx] at hy
            rcases List.mem_append.mp hy with z | z
            · exact ha y z
            · rw [show y = x from by simpa using z, e]
              exact hb
          · rw [Bool.eq_false_iff.mpr hb]
            refine iteT ⟨_, rfl, x, rfl, Evl.sz_of (by omega), (by show 2 ≤ sizeLine; decide), fun l hl => ?_⟩
            exact ke x l _ (due (by rw [e]; exact Bool.eq_false_iff.mpr hb)) (s3.free hl) upd_same (s3.trans (same_new hl))
      · rintro σ H2 ⟨v7, rfl, ha, s2⟩
        rw [List.length_map, List.take_of_length_le (Nat.le_refl _)] at ha
        have noB : badOf fk n' n1 = none := List.find?_eq_none.mpr fun y hy => by rw [ha y hy]; decide
        exact ⟨some (.ref fi), some (.ref wo), v7, rfl, ⟨fun _ => noB, fun z => absurd z (by decide)⟩, s1.trans s2⟩
      | 1, _, hx, b1 =>
      cases hx
      have b1 := b1 (Nat.le_refl _)
      refine ⟨t1, _, rfl, SqT.of (s1 _ _ ht1), rfl, _, _, rfl, _, _, rfl, rfl, ?_⟩
      refine ⟨_, rfl, ww, _, rfl, dg_names (s01.trans s1 _ _ hww), na', rfl, ⟨_, SqL.of (s01.trans s1 _ _ hna')⟩, ?_⟩
      refine for_list (xs := n'.map V.str) (fun j σ H2 => ∃ v7, σ = stDu wo wt ww fi la (some (.ref la)) (some (.ref wt)) v7 none none none none ∧ (∀ x ∈ n'.take j, isOne n2 ((valV lk (Sum.inr x)).getD .non) = true) ∧ Same H1 H2)
        ⟨v7, rfl, (fun x hx => by simp at hx), Same.refl _⟩ (fun j σ H2 _ ⟨_, _, _, h⟩ => SqL.of (h _ _ (s01.trans s1 _ _ hna'))) ?_ ?_
      · rintro j v σ H2 hj ⟨v7, rfl, ha, s2⟩
        rw [List.getElem?_map] at hj
        obtain ⟨x, hx, rfl⟩ := Option.map_eq_some_iff.mp hj
        have s3 : Same H H2 := s01.trans (s1.trans s2)
        have hL := s3 _ _ hla
        have rl := (hal x (List.mem_of_getElem? hx)).repr.1
        have due : isOne n2 ((valV lk (Sum.inr x)).getD .non) = false → dueOf n' n1 n2 fk lk = some x := fun hb => by
          have hbad : badOf lk n' n2 = some x := find_at hx (by rw [hb]; rfl) fun y hy => by rw [ha y hy]; rfl
          unfold dueOf
          rw [b1, hbad]
          rfl
        refine ⟨_, rfl, _, rfl, la, _, rfl, DGet.k (k := Sum.inr x) hL, _, rfl, ?_⟩
        cases e : valV lk (Sum.inr x) with
        | none =>
          refine iteT (iteT ⟨_, rfl, x, rfl, Evl.sz_of (by omega), (by show 2 ≤ sizeLine; decide), fun l hl => ?_⟩)
          exact ke x l _ (due (by rw [e]; rfl)) (s3.free hl) upd_same (s3.trans (same_new hl))
        | some v =>
          refine iteF ⟨_, rfl, _, rfl, la, v, rfl, (by rw [← e]; exact DGet.k (k := Sum.inr x) hL), _, rfl, wt, _, rfl, dg_names (s3 _ _ hwt), na2, n2, rfl, SqL.of (s3 _ _ hna2), (by have z := (ala x).same s3; rw [e] at z; exact z), _, rfl, ?_⟩
          by_cases hb : isOne n2 v = true
          · rw [hb]
            refine iteF ⟨_, rfl, fun y hy => ?_, s2⟩
            rw [List.take_add_one, hx] at hy
            rcases List.mem_append.mp hy with z | z
            · exact ha y z
            · rw [show y = x from by simpa using z, e]
              exact hb
          · rw [Bool.eq_false_iff.mpr hb]
            refine iteT ⟨_, rfl, x, rfl, Evl.sz_of (by omega), (by show 2 ≤ sizeLine; decide), fun l hl => ?_⟩
            exact ke x l _ (due (by rw [e]; exact Bool.eq_false_iff.mpr hb)) (s3.free hl) upd_same (s3.trans (same_new hl))
      · rintro σ H2 ⟨v7, rfl, ha, s2⟩
        rw [List.length_map, List.take_of_length_le (Nat.le_refl _)] at ha
        have noB : badOf lk n' n2 = none := List.find?_eq_none.mpr fun y hy => by rw [ha y hy]; decide
        exact ⟨some (.ref la), some (.ref wt), v7, rfl, ⟨fun _ => b1, fun _ => noB⟩, s1.trans s2⟩
    · rintro σ H1 ⟨v5, v6, v7, rfl, ⟨b1, b2⟩, s1⟩
      exact ⟨v5, v6, v7, rfl, b1 (by simp), b2 (by simp), s01.trans s1⟩
  rintro σ H1 ⟨v5, v6, v7, rfl, b1, b2, s1⟩
  have no : dueOf n' n1 n2 fk lk = none := by
    unfold dueOf
    rw [b1, b2]
    rfl
  have fst : ∀ x ∈ n', ∃ z : Str, valV fk (Sum.inr x) = some (.str z) := fun x hx => by
    have z := List.find?_eq_none.mp b1 x hx
    obtain ⟨y, hy, _⟩ := isOne_at (nm := n1) (o := valV fk (Sum.inr x)) (by simpa using z)
    exact ⟨y, hy⟩
  have lst : ∀ x ∈ n', ∃ z : Str, valV lk (Sum.inr x) = some (.str z) := fun x hx => by
    have z := List.find?_eq_none.mp b2 x hx
    obtain ⟨y, hy, _⟩ := isOne_at (nm := n2) (o := valV lk (Sum.inr x)) (by simpa using z)
    exact ⟨y, hy⟩
  -- found
  refine ⟨fun σ H2 => ∃ D, σ = stDu wo wt ww fi la v5 v6 v7 (some (.ref D)) none none none ∧ H D = none ∧ H2 D = some (.lst []) ∧ Same H H2, ?_, ?_⟩
  · exact ⟨(by show 0 ≤ sizeLine; decide), fun D hD => ⟨D, rfl, s1.free hD, upd_same, s1.trans (same_new hD)⟩⟩
  rintro σ H2 ⟨D, rfl, hD0, hD2, s2⟩
  refine ⟨fun σ H3 => ∃ v7 v9 v10 as, σ = stDu wo wt ww fi la v5 v6 v7 (some (.ref D)) v9 v10 none ∧ RowsAt H3 D as (cntT n1 n2 n' fk lk) ∧ Same H H3, ?_, ?_⟩
  · refine ⟨_, rfl, wo, _, rfl, dg_names (s2 _ _ hwo), na1, rfl, ⟨_, SqL.of (s2 _ _ hna1)⟩, ?_⟩
    refine for_list (xs := n1.map V.str) (fun i σ H3 => ∃ v7 v9 v10 as, σ = stDu wo wt ww fi la v5 v6 v7 (some (.ref D)) v9 v10 none ∧ RowsAt H3 D as ((cntT n1 n2 n' fk lk).take i) ∧ Same H H3) ⟨v7, none, none, [], rfl, RowsAt.nil' hD2, s2⟩ (fun i σ H3 _ ⟨_, _, _, _, _, _, h⟩ => SqL.of (h _ _ hna1)) ?_ ?_
    · rintro i v σ H3 hi ⟨v7, v9, v10, as, rfl, R, s3⟩
      rw [List.getElem?_map] at hi
      obtain ⟨p, hp, rfl⟩ := Option.map_eq_some_iff.mp hi
      have hil := (List.getElem?_eq_some_iff.mp hp).1
      refine ⟨fun σ H4 => ∃ O, σ = stDu wo wt ww fi la v5 v6 v7 (some (.ref D)) (some (.str p)) (some (.ref O)) none ∧ H4 O = some (.lst ((ownS n' fk lk p).map V.str)) ∧ Same H3 H4, ?_, ?_⟩
      · refine ⟨_, rfl, ww, _, rfl, dg_names (s3 _ _ hww), na', rfl, ⟨_, SqL.of (s3 _ _ hna')⟩, fun O hO => ?_⟩
        refine lc_list (xs := n'.map V.str) (fun j H4 => H4 O = some (.lst ((ownS (n'.take j) fk lk p).map V.str)) ∧ Same H3 H4) ⟨upd_same, same_new hO⟩ (fun j H4 _ h => SqL.of (h.2 _ _ (s3 _ _ hna'))) ?_ ?_
        · rintro j v H4 hj ⟨hO4, s4⟩
          have hjl := (List.getElem?_eq_some_iff.mp hj).1
          rw [List.length_map] at hjl
          rw [List.getElem?_map] at hj
          obtain ⟨x, hx, rfl⟩ := Option.map_eq_some_iff.mp hj
          obtain ⟨z, hz⟩ := fst x (List.mem_of_getElem? hx)
          obtain ⟨y, hy⟩ := lst x (List.mem_of_getElem? hx)
          have s34 := s3.trans s4
          have hfi4 := s34 _ _ hfi
          have hla4 := s34 _ _ hla
          refine ⟨rfl, _, rfl, _, rfl, fi, _, rfl, (by rw [← hz]; exact DGet.k (k := Sum.inr x) hfi4), _, rfl, rfl, _, rfl, ?_⟩
          have step : ownS (n'.take (j + 1)) fk lk p = ownS (n'.take j) fk lk p ++ (if z = p then [y] else []) := by
            unfold ownS
            rw [List.take_add_one, hx, List.filter_append, List.map_append]
            congr 1
            by_cases e : z = p
            · have el : lastS lk x = y := by unfold lastS; rw [hy]
              rw [if_pos e]
              simp [hz, e, el]
            · rw [if_neg e]
              simp [hz, e]
          refine ite2 (fun h => ?_) (fun h => ?_)
          · have e : z = p := V.str.inj (of_decide_eq_true h)
            refine ⟨_, rfl, _, rfl, la, _, rfl, (by rw [← hy]; exact DGet.k (k := Sum.inr x) hla4), _, hO4, Evl.sz_lt ?_, ?_, Same.off s4 hO⟩
            · have := List.length_filter_le (fun x => decide (valV fk (Sum.inr x) = some (.str p))) (n'.take j)
              unfold ownS
              rw [List.length_map, List.length_map]
              rw [List.length_take] at this
              omega
            · rw [upd_same, step, if_pos e, List.map_append]
              rfl
          · have e : ¬ z = p := fun q => of_decide_eq_false (Bool.eq_false_iff.mpr h) (by rw [q])
            exact ⟨by rw [step, if_neg e, List.append_nil]; exact hO4, s4⟩
        · rintro H4 ⟨hO4, s4⟩
          rw [List.length_map, List.take_of_length_le (Nat.le_refl _)] at hO4
          exact ⟨O, rfl, hO4, s4⟩
      rintro σ H4 ⟨O, rfl, hO4, s4⟩
      have R4 := R.same s4
      have s34 := s3.trans s4
      refine ⟨_, rfl, .inl ⟨rfl, _, SqL.of R4.1⟩, _, rfl, wt, _, rfl, dg_names (s34 _ _ hwt), na2, rfl, ⟨_, SqL.of (s34 _ _ hna2)⟩, fun M hM => ?_⟩
      refine lc_list (xs := n2.map V.str) (fun j H5 => H5 M = some (.lst (((n2.take j).map fun q => (cntV n' fk lk p q : Int)).map V.int)) ∧ Same H4 H5) ⟨upd_same, same_new hM⟩ (fun j H5 _ h => SqL.of (h.2 _ _ (s34 _ _ hna2))) ?_ ?_
      · rintro j v H5 hj ⟨hM5, s5⟩
        rw [List.getElem?_map] at hj
        obtain ⟨q, hq, rfl⟩ := Option.map_eq_some_iff.mp hj
        refine ⟨rfl, tyes ?_⟩
        refine ⟨_, rfl, .inl ⟨rfl, _, SqL.of (s5 _ _ hO4)⟩, _, rfl, O, _, q, rfl, rfl, SqL.of (s5 _ _ hO4), ?_⟩
        rw [own_count lst]
        refine ⟨_, hM5, Evl.sz_lt (by rw [List.length_map, List.length_map, List.length_take]; omega), ?_, Same.off s5 hM⟩
        rw [upd_same, List.take_add_one, hq, List.map_append, List.map_append]
        rfl
      · rintro H5 ⟨hM5, s5⟩
        rw [List.length_map, List.take_of_length_le (Nat.le_refl _)] at hM5
        refine ⟨M, _, rfl, SqL.of hM5, fun t ht => ?_⟩
        have s6 := s5.trans (same_new (o := .tup ((n2.map fun q => (cntV n' fk lk p q : Int)).map V.int)) ht)
        have R6 := R4.same s6
        have hl : (as.map V.ref).length ≤ 8 := by rw [R.len, List.length_take]; unfold cntT; rw [List.length_map]; omega
        refine ⟨D, _, _, rfl, rfl, R6.1, Evl.sz_lt (by omega), ?_⟩
        exact ⟨v7, _, _, as ++ [t], rfl, R6.addI (by unfold cntT; rw [List.getElem?_map, hp]; rfl) upd_same, Same.off (s34.trans s6) hD0⟩
    · rintro σ H3 ⟨v7, v9, v10, as, rfl, R, s3⟩
      have lz : (n1.map V.str).length = (cntT n1 n2 n' fk lk).length := by unfold cntT; rw [List.length_map, List.length_map]
      rw [lz, List.take_length] at R
      exact ⟨v7, v9, v10, as, rfl, R, s3⟩
  rintro σ H3 ⟨v7, v9, v10, as, rfl, R, s3⟩
  refine ⟨_, rfl, D, _, rfl, SqL.of R.1, fun t ht => ?_⟩
  have s4 := same_new (o := .tup (as.map V.ref)) ht
  exact kq no t _ ((R.same s4).tbl upd_same) (s3.trans s4)
end
end Nm
set_option maxRecDepth 100000
set_option maxHeartbeats 4000000
/-! _law_spoilt -/
namespace Nm
open PySem PySem.Spec PyProof.Rows L2
/-- what a dict of the law may lead to -/
inductive SmallV (H : Hp) : V → Prop
  | str {z : Str} (h : Al 100 z) : SmallV H (.str z)
  | five : SmallV H (.int 5)
  | non : SmallV H .non
  | tup {a : Addr} (h : H a = some (.tup [.str "a"])) : SmallV H (.ref a)
  | lst {a : Addr} (h : H a = some (.lst [.str "a"])) : SmallV H (.ref a)
theorem SmallV.ask {K : PySem.W.Frag} {H : Hp} {v : V} (h : SmallV H v) : AskV K H v := by
  cases h with
  | str h => exact .str _
  | five => exact .int 5
  | non => exact .non
  | tup h => exact .tup h
  | lst h => exact .lst h
theorem Src.ne_one {H : Hp} {s c a : Addr} {z : Str} (S : Src H s c) (h : H a = some (.lst [.str z])) : a ≠ s ∧ a ≠ c := by
  obtain ⟨cs, l, m, tt, S0⟩ := S
  refine ⟨ne_of h S0.ds (by intro z; cases z), ne_of h S0.dc fun e => ?_⟩
  injection e with e
  cases cs with
  | nil => cases e
  | cons x cs => injection e with e _; cases e
theorem SmallV.kp {H H' : Hp} {s c : Addr} {v : V} (h : SmallV H v) (S : Src H s c) (k : Kp s c H H') : SmallV H' v := by
  cases h with
  | str h => exact .str h
  | five => exact .five
  | non => exact .non
  | tup h =>
    obtain ⟨cs, l, m, tt, S0⟩ := S
    exact .tup (k _ _ h (ne_of h S0.ds (by intro z; cases z)) (ne_of h S0.dc (by intro z; cases z)))
  | lst h =>
    obtain ⟨n1, n2⟩ := S.ne_one h
    exact .lst (k _ _ h n1 n2)
theorem SmallV.ext {H H' : Hp} {v : V} (h : SmallV H v) (k : ∀ b o, H b = some o → (∀ ps, o ≠ .tbl ps) → (∀ kv, o ≠ .dK kv) → H' b = some o) : SmallV H' v := by
  cases h with
  | str h => exact .str h
  | five => exact .five
  | non => exact .non
  | tup h => exact .tup (k _ _ h (fun _ z => by cases z) (fun _ z => by cases z))
  | lst h => exact .lst (k _ _ h (fun _ z => by cases z) (fun _ z => by cases z))
/-- the entries of a dict of the law -/
structure DctL (H : Hp) (n : Nat) (kv : List (Key × V)) : Prop where
  nd : (kv.map (·.1)).Nodup
  len : kv.length ≤ n
  key : ∀ p ∈ kv, ∃ z, p.1 = Sum.inr z ∧ Al 100 z
  val : ∀ p ∈ kv, SmallV H p.2
theorem DctL.ext {H H' : Hp} {n : Nat} {kv : List (Key × V)} (h : DctL H n kv) (k : ∀ v, SmallV H v → SmallV H' v) : DctL H' n kv := ⟨h.nd, h.len, h.key, fun p hp => k _ (h.val p hp)⟩
theorem DctL.same {H H' : Hp} {n : Nat} {kv : List (Key × V)} (h : DctL H n kv) (s : Same H H') : DctL H' n kv := h.ext fun v z => z.ext fun b o e _ _ => s b o e
theorem DctL.kp {H H' : Hp} {s c : Addr} {n : Nat} {kv : List (Key × V)} (h : DctL H n kv) (S : Src H s c) (k : Kp s c H H') : DctL H' n kv := h.ext fun v z => z.kp S k
theorem DctL.mono {H : Hp} {n m : Nat} {kv : List (Key × V)} (h : DctL H n kv) (l : n ≤ m) : DctL H m kv := ⟨h.nd, Nat.le_trans h.len l, h.key, h.val⟩
theorem DctL.put {H : Hp} {n : Nat} {kv : List (Key × V)} {z : Str} {v : V} (h : DctL H n kv) (hz : Al 100 z) (hv : SmallV H v) : DctL H (n + 1) (putK kv (Sum.inr z) v) := by
  refine ⟨nodup_put _ _ h.nd, Nat.le_trans (length_putK _ _ _) (Nat.succ_le_succ h.len), fun p hp => ?_, fun p hp => ?_⟩
  · rcases mem_put hp with e | e
    · rw [e]
      exact ⟨z, rfl, hz⟩
    · exact h.key p e.1
  · rcases mem_put hp with e | e
    · rw [e]
      exact hv
    · exact h.val p e.1
theorem DctL.drop {H : Hp} {n : Nat} {kv : List (Key × V)} {k : Key} (h : DctL H n kv) : DctL H n (dropK kv k) := by
  have sub : List.Sublist (dropK kv k) kv := List.filter_sublist
  exact ⟨(sub.map _).nodup h.nd, Nat.le_trans sub.length_le h.len, fun p hp => h.key p (sub.subset hp), fun p hp => h.val p (sub.subset hp)⟩
theorem DctL.get {H : Hp} {n : Nat} {kv : List (Key × V)} {k : Key} {v : V} (h : DctL H n kv) (e : valV kv k = some v) : SmallV H v := h.val _ (mem_of_val e)
theorem al_a : Al 100 "a" := .word (by decide +kernel)
theorem al_zz : Al 100 "zz" := .word (by decide +kernel)
section
variable {P : Program} {w : World} {K : PySem.W.Frag} {mg : Str → Option Value} {base : Heap}
def spSpo : Sp := fun vs H Q _ => ∃ (s c d nl : Addr) (kv : List (Key × V)) (nm : List Str) (n : Nat), vs = [.ref s, .ref d, .ref nl] ∧ Src H s c ∧ H d = some (.dK kv) ∧ d ≠ s ∧ DctL H n kv ∧ n ≤ 500 ∧ H nl = some (.lst (nm.map V.str)) ∧ nl ≠ c ∧ 1 ≤ nm.length ∧ nm.length ≤ 100 ∧ (∀ x ∈ nm, Al 100 x) ∧
  ∀ (r : Addr) (kv' : List (Key × V)) (H' : Hp), H r = none → H' r = some (.dK kv') → DctL H' (n + 1) kv' → Src H' s c → Kp s c H H' → Q (.ref r) H'
abbrev nSpo : List Str := ["_law_source", "_law_led", "_law_names", "_law_found", "_law_sort", "_law_name"]
theorem scSpo : FnScope nSpo ["_law_source", "_law_led", "_law_names"] (defScope sSpoilt) := ⟨rfl, rfl, rfl, by decide +kernel, rfl, by decide +kernel, by decide +kernel⟩
theorem ok_spo {f : Addr} {fd : FuncData} (F : Fun K "_law_spoilt" "_law_spoilt" sSpoilt f fd) (T : TxtQ mg) (Gp : Def P w K mg base "_law_pick" ["_law_source", "_law_many"] 1 spPick) (Gc : Def P w K mg base "_law_choice_of" ["_law_source", "_law_items"] 2 (spChoice K)) : FnOk P w K mg base CX0 3 f fd ["_law_source", "_law_led", "_law_names"] spSpo := by
  obtain ⟨fp, fdp, Gp, mp, kp, bp⟩ := Gp.ex
  obtain ⟨fc, fdc, Gc, mc, kc, bc⟩ := Gc.ex
  refine F.ok scSpo (fun vs H Q E h => ?_) (fun cdv A outer s H vs Q E hr h => ?_)
  · obtain ⟨_, _, _, _, _, _, _, rfl, _⟩ := h
    rfl
  obtain ⟨sa, ca, d, nl, kv, nm, n, rfl, S, hd, nds, D, hn, hnl, nlc, n1, n2, nal, k⟩ := h
  have hu := hu_of hr
  have hr1 := hr.mono (by decide : 1 ≤ 2)
  refine ⟨_, Evl.pss_cut (ps_par (i := 3) (j := 4) (by rfl) scSpo.nd rfl rfl (by decide) rfl rfl (pa_cons (pe_callTy call_dictD (by rfl) T.dict (by decide +kernel) (pa_cons (pv 1) pa_nil)) (pa_cons (pe_call Gp hr1 (by rfl) mp kp bp .nil pass0 (pa_cons (pv 0) (pa_cons pe_int pa_nil))) pa_nil)) (by rfl))
    (pss_cons (ps_if (pt_cmpR (op_eqNil (Nat.lt_of_succ_lt hu)) (pv 3) pe_dnewK (nomark _)) (pss_one (ps_ret (pv 3))) pss_nil)
    (Evl.pss_cut (ps_set (i := 5) scSpo.nd rfl (Or.inl rfl) (pe_call Gc hr (by rfl) mc kc bc .nil pass0 (pa_cons (pv 0) (pa_cons (pe_callTy (call_list_dK rfl) (by rfl) T.list (by decide +kernel) (pa_cons (pv 1) pa_nil)) pa_nil))))
    (Evl.pss_cut (ps_if (pt_cmpR op_eq (pv 4) pe_int (nomark _)) (pss_one (ps_expr (pe_dpop1 (pv 3) (pv 5) ⟨rfl, rfl, rfl, rfl⟩)))
      (pss_one (ps_if (pt_cmpR op_eq (pv 4) pe_int (nomark _)) (pss_one (ps_dput hu (pv 3) (pv 5) (pe_call Gc hr (by rfl) mc kc bc .nil pass0 (pa_cons (pv 0) (pa_cons (pe_lst (pa_cons pe_str (pa_cons pe_non (pa_cons pe_int (pa_cons (pe_tup (pa_cons pe_str pa_nil)) (pa_cons (pe_lst (pa_cons pe_str pa_nil)) pa_nil)))))) pa_nil))) rfl))
        (pss_one (ps_if (pt_cmpR op_eq (pv 4) pe_int (nomark _)) (pss_one (ps_dput hu (pv 3) pe_str pe_str rfl))
          (pss_one (ps_if (pt_cmpR op_eq (pv 4) pe_int (nomark _)) (pss_one (ps_dput hu (pv 3) (pv 5) (pe_call Gc hr (by rfl) mc kc bc .nil pass0 (pa_cons (pv 0) (pa_cons (pv 2) pa_nil))) rfl)) pss_nil)))))))
    (pss_one (ps_ret (pv 3)))))), ?_⟩
  have nls : nl ≠ sa := by
    obtain ⟨cs, l, m, tt, S0⟩ := id S
    exact ne_of hnl S0.ds (by intro z; cases z)
  have ndc : d ≠ ca := by
    obtain ⟨cs, l, m, tt, S0⟩ := id S
    exact ne_of hd S0.dc (by intro z; cases z)
  have kl := D.len
  refine ⟨fun σ H1 => ∃ (r : Addr) (so : Int), σ = [some (.ref sa), some (.ref d), some (.ref nl), some (.ref r), some (.int so), none] ∧ H r = none ∧ H1 r = some (.dK kv) ∧ Src H1 sa ca ∧ Kp sa ca H H1, ?_, ?_⟩
  · refine ⟨_, rfl, d, kv, rfl, .inl hd, fun r hr0 => ?_⟩
    obtain ⟨nrs, nrc⟩ := S.ne hr0
    refine ⟨_, rfl, sa, ca, 5, rfl, S.new hr0, by decide, by decide, fun kk H1 k0 k1 S1 kp1 => ?_⟩
    exact ⟨_, _, rfl, r, kk, rfl, hr0, kp1 _ _ upd_same nrs nrc, S1, (Kp.same (same_new hr0)).trans kp1⟩
  rintro σ H1 ⟨r, so, rfl, hr0, hr1', S1, kp1⟩
  obtain ⟨nrs, nrc⟩ := S.ne hr0
  refine ⟨_, rfl, fun e he => ?_⟩
  have s2 := same_new (o := .dK []) he
  have hr2 := s2 _ _ hr1'
  have he2 : (upd H1 e (.dK [])) e = some (.dK []) := upd_same
  have S2 := S1.same s2
  have kp2 := kp1.trans (Kp.same s2)
  generalize upd H1 e (.dK []) = H2 at *
  have D2 := D.kp S kp2
  refine ⟨r, e, kv, rfl, rfl, hr2, he2, _, rfl, ?_⟩
  by_cases em : kv = []
  · rw [decide_eq_true em]
    exact iteT ⟨_, rfl, k r kv H2 hr0 hr2 (D2.mono (Nat.le_succ n)) S2 kp2⟩
  rw [decide_eq_false em]
  refine iteF ?_
  have hd2 := kp2 _ _ hd nds ndc
  refine ⟨fun σ H3 => ∃ z v, σ = [some (.ref sa), some (.ref d), some (.ref nl), some (.ref r), some (.int so), some (.str z)] ∧ valV kv (Sum.inr z) = some v ∧ Al 100 z ∧ H3 r = some (.dK kv) ∧ Src H3 sa ca ∧ Kp sa ca H H3, ?_, ?_⟩
  · refine ⟨_, rfl, _, rfl, d, kv, rfl, hd2, fun q hq => ?_⟩
    obtain ⟨nqs, nqc⟩ := S2.ne hq
    refine ⟨sa, ca, q, _, rfl, S2.new hq, nqs, nqc, SqL.of upd_same, ?_, by rw [List.length_map]; omega, fun v H3 hv S3 kp3 => ?_⟩
    · rw [List.length_map]
      exact List.length_pos_iff.mpr em
    · obtain ⟨p, hp, rfl⟩ := List.mem_map.mp hv
      obtain ⟨z, hz, az⟩ := D.key p hp
      have kp23 := (Kp.same (same_new hq)).trans kp3
      refine ⟨z, p.2, by rw [hz]; rfl, ?_, az, kp23 _ _ hr2 nrs nrc, S3, kp2.trans kp23⟩
      rw [← hz]
      exact val_of_mem (k := p.1) (v := p.2) D.nd hp
  rintro σ H3 ⟨z, v, rfl, hv, az, hr3, S3, kp3⟩
  have D3 := D.kp S kp3
  have nqq : ∀ {o : HO}, Kp sa ca H (upd H3 r o) := (kp3.off hr0)
  refine ⟨fun σ H4 => ∃ kv', σ = [some (.ref sa), some (.ref d), some (.ref nl), some (.ref r), some (.int so), some (.str z)] ∧ H4 r = some (.dK kv') ∧ DctL H4 (n + 1) kv' ∧ Src H4 sa ca ∧ Kp sa ca H H4, ?_, ?_⟩
  · refine ⟨_, rfl, rfl, _, rfl, ?_⟩
    refine ite2 (fun h0 => ?_) (fun h0 => ?_)
    · refine ⟨_, rfl, r, rfl, .inl ⟨kv, .inl hr3⟩, _, rfl, kv, Sum.inr z, v, hr3, rfl, hv, ?_⟩
      refine ⟨_, rfl, upd_same, (D3.drop.mono (Nat.le_succ n)).ext fun v z => z.ext fun b o e1 _ e2 => ?_, S3.upd nrs nrc, nqq⟩
      rw [upd_ne (fun q => by subst q; rw [hr3] at e1; cases e1; exact e2 _ rfl)]
      exact e1
    refine ⟨_, rfl, rfl, _, rfl, ?_⟩
    refine ite2 (fun h1 => ?_) (fun h1 => ?_)
    · refine ⟨_, rfl, (by show 1 ≤ sizeLine; decide), fun t ht => ⟨(by show 1 ≤ sizeLine; decide), fun l hl => ⟨(by show 5 ≤ sizeLine; decide), fun q hq => ?_⟩⟩⟩
      have z1 := same_new (o := .tup [V.str "a"]) ht
      have z2 := same_new (o := .lst [V.str "a"]) hl
      have z3 := same_new (o := .lst [V.str "zz", V.non, V.int 5, V.ref t, V.ref l]) hq
      have ht3 := z3 _ _ (z2 _ _ (show (upd H3 t (.tup [V.str "a"])) t = _ from upd_same))
      have hl3 := z3 _ _ (show (upd (upd H3 t (.tup [V.str "a"])) l (.lst [V.str "a"])) l = _ from upd_same)
      have zz := (z1.trans z2).trans z3
      have hq3 : (upd (upd (upd H3 t (.tup [V.str "a"])) l (.lst [V.str "a"])) q (.lst [V.str "zz", V.non, V.int 5, V.ref t, V.ref l])) q = some (.lst [V.str "zz", V.non, V.int 5, V.ref t, V.ref l]) := upd_same
      obtain ⟨nqs, nqc⟩ := S3.ne ((z1.trans z2).free hq)
      generalize upd (upd (upd H3 t (.tup [V.str "a"])) l (.lst [V.str "a"])) q (.lst [V.str "zz", V.non, V.int 5, V.ref t, V.ref l]) = H4 at *
      have S4 := S3.same zz
      refine ⟨sa, ca, q, _, rfl, S4, nqs, nqc, SqL.of hq3, (by show 1 ≤ 5; decide), (by show 5 ≤ 1000; decide), fun x H5 hx S5 kp5 => ?_⟩
      have sx : SmallV H4 x := by
        simp only [List.mem_cons, List.not_mem_nil, or_false] at hx
        rcases hx with rfl | rfl | rfl | rfl | rfl
        · exact .str al_zz
        · exact .non
        · exact .five
        · exact .tup ht3
        · exact .lst hl3
      have sx5 := sx.kp S4 kp5
      have kp35 : Kp sa ca H3 H5 := (Kp.same zz).trans kp5
      have hr5 := kp35 _ _ hr3 nrs nrc
      refine ⟨_, rfl, _, rfl, r, _, rfl, DPut.k (k := Sum.inr z) hr5 (Evl.sz_lt (by omega)), ?_⟩
      refine ⟨_, rfl, upd_same, ((D3.kp S3 kp35).put az sx5).ext fun v z => z.ext fun b o e1 _ e2 => ?_, S5.upd nrs nrc, (kp3.trans kp35).off hr0⟩
      rw [upd_ne (fun q => by subst q; rw [hr5] at e1; cases e1; exact e2 _ rfl)]
      exact e1
    refine ⟨_, rfl, rfl, _, rfl, ?_⟩
    refine ite2 (fun h2 => ?_) (fun h2 => ?_)
    · refine ⟨_, rfl, r, _, rfl, DPut.k (k := Sum.inr "zz") hr3 (Evl.sz_lt (by omega)), ?_⟩
      refine ⟨_, rfl, upd_same, (D3.put al_zz (.str al_zz)).ext fun v z => z.ext fun b o e1 _ e2 => ?_, S3.upd nrs nrc, nqq⟩
      rw [upd_ne (fun q => by subst q; rw [hr3] at e1; cases e1; exact e2 _ rfl)]
      exact e1
    refine ⟨_, rfl, rfl, _, rfl, ?_⟩
    refine ite2 (fun h3 => ?_) (fun h3 => ⟨kv, rfl, hr3, D3.mono (Nat.le_succ n), S3, kp3⟩)
    refine ⟨_, rfl, _, rfl, sa, ca, nl, _, rfl, S3, nls, nlc, SqL.of (kp3 _ _ hnl nls nlc), by rw [List.length_map]; exact n1, by rw [List.length_map]; omega, fun x H5 hx S5 kp5 => ?_⟩
    obtain ⟨y, hy, rfl⟩ := List.mem_map.mp hx
    have hr5 := kp5 _ _ hr3 nrs nrc
    refine ⟨_, rfl, _, rfl, r, _, rfl, DPut.k (k := Sum.inr z) hr5 (Evl.sz_lt (by omega)), ?_⟩
    refine ⟨_, rfl, upd_same, ((D3.kp S3 kp5).put az (.str (nal y hy))).ext fun v z => z.ext fun b o e1 _ e2 => ?_, S5.upd nrs nrc, (kp3.trans kp5).off hr0⟩
    rw [upd_ne (fun q => by subst q; rw [hr5] at e1; cases e1; exact e2 _ rfl)]
    exact e1
  rintro σ H4 ⟨kv', rfl, hr4, D4, S4, kp4⟩
  exact ⟨_, rfl, k r kv' H4 hr0 hr4 D4 S4 kp4⟩
end
end Nm
set_option maxRecDepth 100000
set_option maxHeartbeats 4000000
/-! the end of a law whose promise is told at the caller alone (so that no repr is under way) -/
namespace Nm
open PySem PySem.Spec PyProof.Rows L2 LamX
/-- the promise at the caller -/
def RunC (P : Program) (w : World) (K : PySem.W.Frag) (mg : Str → Option Value) (base : Heap) (CX : CXT) (fa : Addr) (fd : FuncData) (x : Str) (sp : Sp) : Prop :=
  ∀ (s : Shared) (H : Hp) (u : Value) (v : V) (Q : VK) (E : XK), Env0 P w K mg base callerA [] s H → BindsTo s fd ⟨[u], []⟩ [(x, u)] → RelV v u → sp [v] H Q E → codeAny (model P w) callerA (.call (.ref fa) ⟨[u], []⟩) (CR CX [] P w H s Q E) s
/-- the heap at the law's call: the tables, and the script where it is not written -/
def hpL (K : PySem.W.Frag) (cs : List (Addr × Addr)) (a : Addr) (vs : List Value) (ns : List Int) : Hp := fun b =>
  if b ∈ cs.map (·.2) then some (.tbl #[]) else if b = a ∧ K.lookup a = none then some (.frz { cls := .type "list", data := .seq vs.toArray } (.lst (ns.map V.int))) else none
section
variable {P : Program} {w : World} {K : PySem.W.Frag} {mg mb : Str → Option Value} {CX : CXT} {fa a : Addr} {cs : List (Addr × Addr)} {fd : FuncData} {x : Str} {sp : Sp} {s : Shared} {vs : List Value} {ns : List Int}
theorem hpL_tab {b : Addr} (h : b ∈ cs.map (·.2)) : hpL K cs a vs ns b = some (.tbl #[]) := if_pos h
theorem hpL_or (b : Addr) : hpL K cs a vs ns b = none ∨ (b ∈ cs.map (·.2) ∧ hpL K cs a vs ns b = some (.tbl #[])) ∨ (b ∉ cs.map (·.2) ∧ b = a ∧ K.lookup a = none ∧ hpL K cs a vs ns b = some (.frz { cls := .type "list", data := .seq vs.toArray } (.lst (ns.map V.int)))) := by
  by_cases h1 : b ∈ cs.map (·.2)
  · exact .inr (.inl ⟨h1, if_pos h1⟩)
  · by_cases h2 : b = a ∧ K.lookup a = none
    · exact .inr (.inr ⟨h1, h2.1, h2.2, (if_neg h1).trans (if_pos h2)⟩)
    · exact .inl ((if_neg h1).trans (if_neg h2))
theorem law_callG (KX : K.In s.heap) (hns : s.heap.Ns mainGlobals mg) (hb : s.heap.Ns builtinsNs mb) (hbb : ∀ x : Str, x ≠ "__name__" → mb x = bootBuiltins x) (hlim : s.heap.NoLimit) (hg : s.gens = #[])
    (hT : ∀ p ∈ cs, s.heap.get? p.2 = some { cls := .none, data := .fields #[] }) (nT : ∀ p ∈ cs, K.lookup p.2 = none) (C : ∀ p ∈ cs, PySem.W.CodeHd s.heap p.1 p.2)
    (hbm : ∃ (bm : Addr) (ob : Obj), mg "__builtins__" = some (.ref bm) ∧ bm ≠ builtinsNs ∧ s.heap.get? bm = some ob ∧ ob.cls = .type "module" ∧ ob.dict = some builtinsNs ∧ ob.data = .plain)
    (ha : s.heap.get? a = some { cls := .type "list", data := .seq vs.toArray }) (hi : IntsAre vs ns) (hl : ns.length ≤ sizeLine)
    (F : ∀ base : Heap, K.In base → base.Ns mainGlobals mg → (∀ p ∈ cs, TabB base mg p.1 p.2) → RunC P w K mg base CX fa fd x sp) (hbind : ∀ (s : Shared) (u : Value), BindsTo s fd ⟨[u], []⟩ [(x, u)])
    (hsp : ∀ H : Hp, (∀ p ∈ cs, H p.2 = some (.tbl #[])) → SqL K H a (ns.map V.int) → sp [.ref a] H (fun v _ => v = .bl true) fun _ _ _ => False)
    (hCX : ∀ H e s', CX [] H s (fun _ _ _ => False) e s' → False) :
    codeAny (model P w) callerA (.call (.ref fa) ⟨[.ref a], []⟩) (fun r s' => r = .ok (.ret (.bool true)) ∧ OldK s.heap s'.heap ∧ s'.os = s.os ∧ AllBare s'.gens) s := by
  have rv := vals_ints hi
  have tabAt : ∀ {b : Addr}, b ∈ cs.map (·.2) → s.heap.get? b = some { cls := .none, data := .fields #[] } ∧ K.lookup b = none := fun {b} hb => by
    obtain ⟨p, hp, rfl⟩ := List.mem_map.mp hb
    exact ⟨hT p hp, nT p hp⟩
  have inT : ∀ p ∈ cs, p.2 ∈ cs.map (·.2) := fun p hp => List.mem_map.mpr ⟨p, hp, rfl⟩
  generalize hH : hpL K cs a vs ns = H
  have orH : ∀ b, H b = none ∨ (b ∈ cs.map (·.2) ∧ H b = some (.tbl #[])) ∨ (b ∉ cs.map (·.2) ∧ b = a ∧ K.lookup a = none ∧ H b = some (.frz { cls := .type "list", data := .seq vs.toArray } (.lst (ns.map V.int)))) := by
    rw [← hH]
    exact hpL_or
  have tabH : ∀ p ∈ cs, H p.2 = some (.tbl #[]) := fun p hp => by
    rw [← hH]
    exact hpL_tab (inT p hp)
  -- what is tracked is no dict and nothing that is written
  have free : ∀ {b : Addr} {o : Obj}, s.heap.get? b = some o → (∀ vs n, o.data ≠ .seq vs n) → o.data ≠ .fields #[] → H b = none := fun {b o} e n1 n2 => by
    rcases orH b with z | ⟨z, _⟩ | ⟨_, z, _, _⟩
    · exact z
    · rw [(tabAt z).1] at e
      cases e
      exact absurd rfl n2
    · rw [z, ha] at e
      cases e
      exact absurd rfl (n1 _ _)
  have freeD : ∀ {b : Addr} {o : Obj} {es : Array DictEntry} {ep : Nat}, s.heap.get? b = some o → o.data = .dict es ep → H b = none := fun e q => free e (fun _ _ z => by rw [q] at z; cases z) fun z => by rw [q] at z; cases z
  have freeK : ∀ {b : Addr} {o : Obj}, K.lookup b = some o → H b = none := fun {b o} e => by
    rcases orH b with z | ⟨z, _⟩ | ⟨_, z, z2, _⟩
    · exact z
    · rw [(tabAt z).2] at e
      cases e
    · rw [z, z2] at e
      cases e
  have under : ∀ {b : Addr} {o : Obj}, s.heap.get? b = some o → H b = none → (hidT s.heap H).get? b = some o := fun e n => hidT_get e n
  have nsU : ∀ {b : Addr} {m : Str → Option Value}, s.heap.Ns b m → (hidT s.heap H).Ns b m := fun {b m} ⟨o, es, ep, e, q, r⟩ => ⟨o, es, ep, under e (freeD e q), q, r⟩
  have KU : K.In (hidT s.heap H) := fun b o e => under (KX b o e) (freeK e)
  have ok : HOk P w H s.heap := fun b o z => by
    rcases orH b with q | ⟨q, q'⟩ | ⟨_, q, _, q'⟩
    · rw [q] at z
      cases z
    · rw [q'] at z
      cases z
      exact (tabAt q).1
    · rw [q'] at z
      cases z
      subst q
      exact ⟨ha, by rw [List.length_map]; exact hl, vs, _, rv, ha⟩
  have sq : SqL K H a (ns.map V.int) := by
    cases hk : K.lookup a with
    | some o =>
      have e := KX a o hk
      rw [ha] at e
      cases e
      exact .inr ⟨_, vs.toArray, _, hk, rfl, rfl, rfl, by rw [List.size_toArray, hi.length]; exact hl, by simpa using rv⟩
    | none =>
      refine .inl (.inr ⟨{ cls := .type "list", data := .seq vs.toArray }, ?_⟩)
      rcases orH a with z | ⟨z, _⟩ | ⟨_, _, _, z⟩
      · rw [← hH] at z
        unfold hpL at z
        split at z
        · cases z
        · rw [if_pos ⟨rfl, hk⟩] at z
          cases z
      · have := (tabAt z).1
        rw [ha] at this
        cases this
      · exact z
  have mod : L2.Mod K mg (hidT s.heap H) := ⟨KU, nsU hns, ⟨mb, nsU hb, hbb⟩, let ⟨mc, h1, h2⟩ := hlim; ⟨mc, nsU h1, h2⟩⟩
  have TB : ∀ p ∈ cs, TabB (hidT s.heap H) mg p.1 p.2 := fun p hp => by
    obtain ⟨oG, esG, epG, eG, dG, _⟩ := id hns
    refine ⟨?_, ?_, fun z => ?_⟩
    · obtain ⟨o, us, file, tf, flags, tg, inF, text, tt, e1, r1, r2, r3, r⟩ := C p hp
      refine ⟨o, us, file, tf, flags, tg, inF, text, tt, under e1 (free e1 (fun _ _ z => by rw [r2] at z; cases z) fun z => ?_), r1, r2, r3, r⟩
      rw [r2] at z
      cases z
      simp at r3
    · obtain ⟨bm, ob, b1, b2, b3, b4, b5, b6⟩ := hbm
      refine ⟨bm, ob, b1, b2, fun q => ?_, fun q => ?_, under b3 (free b3 (fun _ _ z => by rw [b6] at z; cases z) fun z => by rw [b6] at z; cases z), b4, b5, b6⟩
      · rw [q, eG] at b3
        cases b3
        rw [dG] at b6
        cases b6
      · rw [q, hT p hp] at b3
        cases b3
        cases b6
    · rw [z, hT p hp] at eG
      cases eG
      cases dG
  have e0 : Env0 P w K mg (hidT s.heap H) callerA [] s H := ⟨rfl, mod, fun b o e => of_hidT e, Nat.le_of_eq (hidT_size _ _), trivial, fun b z => absurd (show b ∈ ([] : List Addr) from z) (by simp), ok, .of_eq hg⟩
  refine codeAny_mono (F _ KU (nsU hns) TB s H (.ref a) (.ref a) _ _ e0 (hbind s (.ref a)) rfl (hsp H tabH sq)) fun r s' h => ?_
  cases r with
  | error e => exact (hCX H e s' h).elim
  | ok fl =>
    cases fl with
    | next => exact False.elim h
    | brk => exact False.elim h
    | cont => exact False.elim h
    | ret u =>
      obtain ⟨v, H', os, bare, un, ok', r', q⟩ := h
      obtain rfl : v = .bl true := q
      obtain rfl : u = Value.bool true := r'
      have grown : ∀ p ∈ cs, ∃ more : Array Value, s'.heap.get? p.2 = some { cls := .none, data := .fields more } := fun p hp => by
        obtain ⟨more, z⟩ := un.tbls p.2 #[] (tabH p hp)
        exact ⟨_, ok' p.2 _ z⟩
      have rest : ∀ b o, b ∉ cs.map (·.2) → s.heap.get? b = some o → s'.heap.get? b = some o := fun b o nb e => by
        rcases orH b with z | ⟨z, _⟩ | ⟨_, _, _, z⟩
        · exact un.keep b o e z (by intro y; exact absurd (show b ∈ ([] : List Addr) from y) (by simp)) (by simp)
        · exact absurd z nb
        · obtain ⟨e1, _⟩ := ok b _ z
          obtain ⟨e2, _⟩ := ok' b _ (un.frzs b _ _ z)
          rw [e] at e1
          cases e1
          exact e2
      refine ⟨rfl, ⟨fun b o e => ?_, fun b o e => ?_⟩, os, bare⟩
      · by_cases hm : b ∈ cs.map (·.2)
        · obtain ⟨p, hp, rfl⟩ := List.mem_map.mp hm
          obtain ⟨more, hq⟩ := grown p hp
          rw [hT p hp] at e
          cases e
          exact .inr (.inl ⟨((C p hp).tab (hT p hp)).isCodeTable, rfl, #[], more, rfl, by rw [Array.empty_append]; exact hq⟩)
        · exact .inl (rest b o hm e)
      · by_cases hm : b ∈ cs.map (·.2)
        · obtain ⟨p, hp, rfl⟩ := List.mem_map.mp hm
          obtain ⟨more, hq⟩ := grown p hp
          exact ⟨_, hq⟩
        · exact ⟨o, rest b o hm e⟩
end
/-- what is known of the law's promise at the head's heap h, told at the caller -/
def LawAtG (l : PySem.W.OpenLaw) (w : World) (K : PySem.W.Frag) (CX : CXT) (n : Nat) (x : Str) (mg : Str → Option Value) (fa : Addr) (h : Heap) : Prop :=
  ∃ (fd : FuncData) (cs : List (Addr × Addr)) (sp : Sp), (∀ p ∈ cs, h.get? p.2 = some { cls := .none, data := .fields #[] }) ∧ (∀ p ∈ cs, K.lookup p.2 = none) ∧ (∀ p ∈ cs, PySem.W.CodeHd h p.1 p.2) ∧ (∀ (s : Shared) (u : Value), BindsTo s fd ⟨[u], []⟩ [(x, u)]) ∧
    (∀ (H : Hp) (a : Addr) (ns : List Int), ns.length ≤ n → (∀ p ∈ cs, H p.2 = some (.tbl #[])) → SqL K H a (ns.map V.int) → sp [.ref a] H (fun v _ => v = .bl true) fun _ _ _ => False) ∧
    ∀ base : Heap, K.In base → base.Ns mainGlobals mg → (∀ p ∈ cs, TabB base mg p.1 p.2) → RunC l.prog w K mg base CX fa fd x sp
theorem walk_G {l : PySem.W.OpenLaw} {n : Nat} {q : Program} {loose : List Str} {XP : (Str → Option Value) → Heap → Prop} {YP : World → Heap → Prop} {d : DefRec} {K : Params → PySem.W.Frag} {CX : World → CXT} {x : Str}
    (hn : l.most = some n) (hn2 : n ≤ sizeLine) (hdf : d.params.defaults = []) (hrec : ((recsOf q).any fun e => e.name == d.name) = true) (hY : ∀ (w : World) (h : Heap), YP w h → (K w.params).In h)
    (F : ∀ (w : World) (mg : Str → Option Value) (fa : Addr) (h : Heap), YP w h → (K w.params).In h → h.Ns mainGlobals mg → mg d.name = some (.ref fa) → OwnTab (K w.params) fa h → LawAtG l w (K w.params) (CX w) n x mg fa h)
    (hCX : ∀ (w : World) (H : Hp) (s : Shared) (e : Value) (s' : Shared), CX w [] H s (fun _ _ _ => False) e s' → False) :
    PySem.W.WalkO q loose XP YP l.row.toRowW d [] (fun f vs => PySem.call f vs) := by
  refine Att.attach_callB hn hdf fun w s₀ s₁ mg mb fa o pm cd doc a vs ns G Y ho hd hcd hmg hobj hints hlen _ hg => ?_
  have KX := hY w _ Y
  have own : OwnTab (K w.params) fa s₁.heap := fun c T o1 fd1 e dd us sl q1 q2 q3 q4 q5 => by
    obtain ⟨dL, hm, hnm⟩ := List.any_eq_true.mp hrec
    obtain ⟨fa', of, fdf, cf, Tf, p1, p2, p3, p4, _, p6⟩ := G.T.tab dL hm
    rw [beq_iff_eq.mp hnm, hmg] at p1
    cases p1
    have there := KX _ _ q1
    rw [there] at p2
    cases p2
    rw [q2] at p3
    cases p3
    rw [q3] at p4
    cases p4
    obtain ⟨⟨oc, ws, f1, _, f3, f4⟩, fT⟩ := p6
    have code := KX _ _ q4
    rw [code] at f1
    cases f1
    cases f3
    rw [q5] at f4
    cases f4
    exact fT
  obtain ⟨fd, cs, sp, hT, nT, C, hb, hsp, hF⟩ := F w mg fa _ Y KX G.T.g hmg own
  exact law_callG KX G.T.g G.T.b G.T.builtins G.T.nolimit hg hT nT C G.T.bmain hobj hints (Nat.le_trans hlen hn2) hF hb (fun H hH hS => hsp H a ns hlen hH hS) fun H e s' => hCX w H s₁ e s'
/-- a def's promise at the caller, from its body there -/
theorem runC_of {P : Program} {w : World} {K : PySem.W.Frag} {mg : Str → Option Value} {base : Heap} {CX : CXT} {f : Addr} {fd : FuncData} {x : Str} {st : Stmt} {qual : Str} {N : List Str} {sp : Sp} {nm : Str} (F : Fun K nm qual st f fd) (S : FnScope N [x] (defScope st))
    (hbody : ∀ (cdv : Value) (s : Shared) (H : Hp) (v : V) (Q : VK) (E : XK), (∃ oc od kV doc pm an ct osl, K.lookup f = some ⟨oc, od, .func (PySem.W.fnOf nm qual (defArgs st) (defBody st) (defScope st) .none kV doc pm an cdv ct), osl⟩) → sp [v] H Q E →
      ∃ t, PSs (cxOf CX P w K mg base N qual (defScope st) f cdv callerA [] s H E) (defBody st) t ∧ t { nx := fun _ H' => Q .non H', rt := Q } (start N [v]) H) : RunC P w K mg base CX f fd x sp := by
  obtain ⟨oc, od, kV, doc, pm, an, cdv, ct, osl, rfl, lk, hcd⟩ := F.ex
  intro s H u v Q E e0 hb r hsp
  have hr : Room 1 callerA := ⟨rfl, by decide +kernel, by decide +kernel⟩
  exact run_ofS (k := 0) (ps := [x]) (us := [u]) (vs := [v]) lk hcd S hr e0 hb (.cons r .nil) rfl fun _ => hbody cdv s H v Q E ⟨oc, od, kV, doc, pm, an, ct, osl, lk⟩ hsp
end Nm
set_option maxRecDepth 100000
set_option maxHeartbeats 4000000
/-! != of two dicts of lists of texts, the same ones; repr of a bool -/
namespace Nm
open PySem PySem.Spec PyProof.Rows L2
section
variable {X : Cx} {pins : List (Addr × Obj)} {σ : L2.St} {H : Hp} {s : Shared}
theorem strs_hit {A : Around} : ∀ {zs : List Str} {us ws : List Value}, Vals (zs.map V.str) us → Vals (zs.map V.str) ws → us.length = ws.length ∧ ∀ j (h1 : j < us.length) (h2 : j < ws.length), SeqAt.EqAt A s us[j] ws[j] true
  | [], _, _, .nil, .nil => ⟨rfl, fun j h1 => absurd h1 (Nat.not_lt_zero j)⟩
  | z :: zs, _, _, .cons r t, .cons r' t' => by
    obtain ⟨e, k⟩ := strs_hit t t'
    refine ⟨by simp [e], fun j h1 h2 => ?_⟩
    cases j with
    | zero => exact eqAt_same r r' rfl
    | succ j => exact k j (Nat.lt_of_succ_lt_succ h1) (Nat.lt_of_succ_lt_succ h2)
/-- two lists of the same texts -/
theorem lists_hit (I : Inv X pins σ H s) {A : Around} (hu : A.units < cLine) {u v : Addr} {zs : List Str} (hu' : H u = some (.lst (zs.map V.str))) (hv : H v = some (.lst (zs.map V.str))) : SeqAt.EqAt A s (.ref u) (.ref v) true := by
  by_cases e : u = v
  · subst e
    exact SeqAt.EqAt.same _
  obtain ⟨us, r1, p1, _⟩ := I.list (SqL.of hu')
  obtain ⟨ws, r2, p2, _⟩ := I.list (SqL.of hv)
  obtain ⟨sz, items⟩ := strs_hit (s := s) (A := A.in1) r1 r2
  have z := SeqAt.RcAt.lists (A := A) (e := fun _ => true) p1.isList p2.isList (by simpa using sz) hu fun j h1 h2 => by simpa using items j (by simpa using h1) (by simpa using h2)
  rw [show ((List.range us.toArray.size).all fun _ => true) = true from List.all_eq_true.mpr fun _ _ => rfl] at z
  exact SeqAt.EqAt.of_refs e z
/-- each key leads to a list of the same texts -/
def SameLists (H : Hp) (ks ls : List (Key × V)) : Prop := ks.length = ls.length ∧ ∀ p ∈ ks, ∃ (u v : Addr) (zs : List Str), p.2 = V.ref u ∧ valV ls p.1 = some (V.ref v) ∧ H u = some (.lst (zs.map V.str)) ∧ H v = some (.lst (zs.map V.str))
theorem dict_hits (I : Inv X pins σ H s) {A : Around} (hu : A.units < cLine) {ls : List (Key × V)} {vb : List (Key × Value)} (rb : KV ls vb) : ∀ {ks : List (Key × V)} {va : List (Key × Value)}, KV ks va →
    (∀ p ∈ ks, ∃ (u v : Addr) (zs : List Str), p.2 = V.ref u ∧ valV ls p.1 = some (V.ref v) ∧ H u = some (.lst (zs.map V.str)) ∧ H v = some (.lst (zs.map V.str))) → PySem.W.KeqHits A s vb va true := by
  intro ks va ra
  unfold KV at ra
  induction ra with
  | nil => exact fun _ => .nil
  | @cons p q ps qs h t ih =>
    intro hp
    obtain ⟨e1, e2⟩ := h
    obtain ⟨u, v, zs, ep, ev, hu1, hv1⟩ := hp p List.mem_cons_self
    have there : RelO (some (V.ref v)) (valueAt vb p.1) := by rw [← ev]; exact rb.val p.1
    obtain ⟨y, hy, ry⟩ := there.some_of
    obtain ⟨key, z⟩ := q
    obtain rfl : p.1 = key := e1
    rw [ep] at e2
    cases (show z = Value.ref u from e2)
    cases (show y = Value.ref v from ry)
    exact PySem.W.KeqHits.hit (b := true) (e := true) hy (lists_hit I hu hu1 hv1) (ih fun p' m => hp p' (List.mem_cons_of_mem _ m))
def rNeL : R2 := fun x y H Q => ∃ a b ks ls, x = V.ref a ∧ y = V.ref b ∧ H a = some (.dK ks) ∧ H b = some (.dK ls) ∧ SameLists H ks ls ∧ Q (.bl false) H
theorem op_neL (hu : X.A.units + 1 < cLine) : OpR X (compareOp .NotEq) rNeL := by
  intro pins s σ H x y v u Q I rx ry h
  obtain ⟨a, b, ks, ls, rfl, rfl, ha, hb, ⟨len, each⟩, q⟩ := h
  cases (show v = Value.ref a from rx)
  cases (show u = Value.ref b from ry)
  obtain ⟨_, ya, va, ra, da⟩ := (show ObjOk X.prog X.w H s.heap a (.dK ks) from I.hok a _ ha)
  obtain ⟨_, yb, vb, rb, db⟩ := (show ObjOk X.prog X.w H s.heap b (.dK ls) from I.hok b _ hb)
  have same : va.length = vb.length := by rw [← ra.length, ← rb.length]; exact len
  refine PySem.W.keq_ne (knd := mixKind X.prog X.w) (r := true) ya yb da db (by omega) (fun _ => dict_hits I (A := X.A.in1) (show X.A.units + 1 < cLine from hu) rb ra each) ?_
  rw [same]
  exact ⟨.bl false, H, I, by show Value.bool (!(vb.length == vb.length && true)) = Value.bool false; simp, q⟩
/-- repr of a bool -/
theorem call_reprB : CallR X (.builtin "repr") (fun xs H Q => ∃ b : Bool, xs = [.bl b] ∧ Q (.str (if b then "True" else "False")) H) := by
  intro pins s σ H xs us Q I r h
  obtain ⟨b, rfl, q⟩ := h
  cases r with
  | cons r t =>
    cases t
    cases (show _ = Value.bool b from r)
    exact PySem.P.repr_of_bool ⟨.str (if b then "True" else "False"), H, I.tok _, ⟨_, rfl⟩, q⟩
end
end Nm
set_option maxRecDepth 100000
set_option maxHeartbeats 4000000
/-! != of two lists of the same texts -/
namespace Nm
open PySem PySem.Spec PyProof.Rows L2
section
variable {X : Cx}
def rNeS (K : PySem.W.Frag) : R2 := fun x y H Q => ∃ (a b : Addr) (zs : List Str), x = V.ref a ∧ y = V.ref b ∧ SqL K H a (zs.map V.str) ∧ SqL K H b (zs.map V.str) ∧ Q (.bl false) H
theorem op_neS (hu : X.A.units + 1 < cLine) : OpR X (compareOp .NotEq) (rNeS X.K) := by
  intro pins s σ H x y v u Q I rx ry h
  obtain ⟨a, b, zs, rfl, rfl, ha, hb, q⟩ := h
  cases (show v = Value.ref a from rx)
  cases (show u = Value.ref b from ry)
  obtain ⟨us, r1, p1, _⟩ := I.list ha
  obtain ⟨ws, r2, p2, _⟩ := I.list hb
  obtain ⟨sz, items⟩ := strs_hit (s := s) (A := X.A.in1) r1 r2
  have z := SeqAt.RcNeAt.lists (A := X.A) (e := fun _ => true) p1.isList p2.isList (by simpa using sz) (by omega) fun j h1 h2 => by simpa using items j (by simpa using h1) (by simpa using h2)
  rw [show ((List.range us.toArray.size).all fun _ => true) = true from List.all_eq_true.mpr fun _ _ => rfl] at z
  exact z X.prog X.w X.xe (EP X pins σ Q) ⟨.bl false, H, I, rfl, q⟩
end
end Nm
set_option maxRecDepth 100000
set_option maxHeartbeats 4000000
/-! != of two things that are equal: two Nones, two lists of the same numbers and texts -/
namespace Nm
open PySem PySem.Spec PyProof.Rows L2
section
variable {X : Cx} {s : Shared}
theorem flat_hit {A : Around} : ∀ {xs : List V} {us ws : List Value}, (∀ x ∈ xs, flatB x = true) → Vals xs us → Vals xs ws → us.length = ws.length ∧ ∀ j (h1 : j < us.length) (h2 : j < ws.length), SeqAt.EqAt A s us[j] ws[j] true
  | [], _, _, _, .nil, .nil => ⟨rfl, fun j h1 => absurd h1 (Nat.not_lt_zero j)⟩
  | x :: xs, _, _, hf, .cons r t, .cons r' t' => by
    obtain ⟨e, k⟩ := flat_hit (A := A) (fun y hy => hf y (List.mem_cons_of_mem _ hy)) t t'
    refine ⟨by simp [e], fun j h1 h2 => ?_⟩
    cases j with
    | zero => exact eqAt_same r r' (hf x List.mem_cons_self)
    | succ j => exact k j (Nat.lt_of_succ_lt_succ h1) (Nat.lt_of_succ_lt_succ h2)
def rNeF (K : PySem.W.Frag) : R2 := fun x y H Q => (x = .non ∧ y = .non ∧ Q (.bl false) H) ∨ ∃ (a b : Addr) (xs : List V), x = V.ref a ∧ y = V.ref b ∧ SqL K H a xs ∧ SqL K H b xs ∧ (∀ x ∈ xs, flatB x = true) ∧ Q (.bl false) H
theorem op_neF (hu : X.A.units + 1 < cLine) : OpR X (compareOp .NotEq) (rNeF X.K) := by
  intro pins s σ H x y v u Q I rx ry h
  rcases h with ⟨rfl, rfl, q⟩ | ⟨a, b, xs, rfl, rfl, ha, hb, hf, q⟩
  · exact op_ne pins s σ H _ _ v u Q I rx ry ⟨rfl, q⟩
  · cases (show v = Value.ref a from rx)
    cases (show u = Value.ref b from ry)
    obtain ⟨us, r1, p1, _⟩ := I.list ha
    obtain ⟨ws, r2, p2, _⟩ := I.list hb
    obtain ⟨sz, items⟩ := flat_hit (s := s) (A := X.A.in1) hf r1 r2
    have z := SeqAt.RcNeAt.lists (A := X.A) (e := fun _ => true) p1.isList p2.isList (by simpa using sz) (by omega) fun j h1 h2 => by simpa using items j (by simpa using h1) (by simpa using h2)
    rw [show ((List.range us.toArray.size).all fun _ => true) = true from List.all_eq_true.mpr fun _ _ => rfl] at z
    exact z X.prog X.w X.xe (EP X pins σ Q) ⟨.bl false, H, I, rfl, q⟩
end
end Nm
set_option maxRecDepth 100000
set_option maxHeartbeats 4000000
/-! repr of lists, tuples and dicts, where no repr is under way -/
namespace Nm
open PySem PySem.Spec PyProof.Rows L2
/-- a key as a datum -/
def keyD : Key → PyData
  | .inl i => .int i
  | .inr z => .str z
mutual
/-- the value shows this datum -/
inductive Sh (H : Hp) : V → PyData → Prop
  | non : Sh H .non .none
  | bl (b : Bool) : Sh H (.bl b) (.bool b)
  | int (i : Int) : Sh H (.int i) (.int i)
  | str (z : Str) : Sh H (.str z) (.str z)
  | lst {a : Addr} {xs : List V} {ds : List PyData} (e : H a = some (.lst xs)) (h : ShAll H xs ds) : Sh H (.ref a) (.list ds)
  | tup {a : Addr} {xs : List V} {ds : List PyData} (e : H a = some (.tup xs)) (h : ShAll H xs ds) : Sh H (.ref a) (.tuple ds)
inductive ShAll (H : Hp) : List V → List PyData → Prop
  | nil : ShAll H [] []
  | cons {x : V} {d : PyData} {xs : List V} {ds : List PyData} (h : Sh H x d) (t : ShAll H xs ds) : ShAll H (x :: xs) (d :: ds)
end
section
variable {H H' : Hp}
mutual
theorem Sh.ext {x : V} {d : PyData} (s : ∀ b o, H b = some o → H' b = some o) : Sh H x d → Sh H' x d
  | .non => .non
  | .bl b => .bl b
  | .int i => .int i
  | .str z => .str z
  | .lst e h => .lst (s _ _ e) (ShAll.ext s h)
  | .tup e h => .tup (s _ _ e) (ShAll.ext s h)
theorem ShAll.ext {xs : List V} {ds : List PyData} (s : ∀ b o, H b = some o → H' b = some o) : ShAll H xs ds → ShAll H' xs ds
  | .nil => .nil
  | .cons h t => .cons (Sh.ext s h) (ShAll.ext s t)
end
end
section
variable {X : Cx} {pins : List (Addr × Obj)} {σ : L2.St} {H : Hp} {s : Shared}
mutual
theorem sh_reads (I : Inv X pins σ H s) {x : V} {d : PyData} {u : Value} (r : RelV x u) : Sh H x d → ∃ as, Reads s.heap u d as
  | .non => by
    cases (show u = Value.none from r)
    exact ⟨_, .none⟩
  | .bl b => by
    cases (show u = Value.bool b from r)
    exact ⟨_, .bool b⟩
  | .int i => by
    obtain ⟨t, rfl⟩ := (show ∃ t, u = Value.int i t from r)
    exact ⟨_, .int i t⟩
  | .str z => by
    obtain ⟨t, rfl⟩ := (show ∃ t, u = Value.str z t from r)
    exact ⟨_, .str z t⟩
  | .lst (a := a) e h => by
    cases (show u = Value.ref a from r)
    obtain ⟨its, rv, p, hz⟩ := I.list (SqL.of e)
    obtain ⟨o, n, ho, hc, hd, hdat⟩ := p
    obtain ⟨as, ra⟩ := sh_readsAll I (us := its) rv h
    exact ⟨_, .list ho hc hdat (by simpa using ra)⟩
  | .tup (a := a) e h => by
    cases (show u = Value.ref a from r)
    obtain ⟨its, rv, p, hz⟩ := I.tuple (SqT.of e)
    obtain ⟨o, ho, hc, n, hdat⟩ := p
    obtain ⟨as, ra⟩ := sh_readsAll I (us := its) rv h
    exact ⟨_, .tuple ho hc hdat (by simpa using ra)⟩
theorem sh_readsAll (I : Inv X pins σ H s) {xs : List V} {ds : List PyData} {us : List Value} (r : Vals xs us) : ShAll H xs ds → ∃ as, ReadsAll s.heap us ds as
  | .nil => by
    cases r
    exact ⟨_, .nil⟩
  | .cons h t => by
    cases r with
    | cons r1 r2 =>
      obtain ⟨as, ra⟩ := sh_reads I r1 h
      obtain ⟨bs, rb⟩ := sh_readsAll I r2 t
      exact ⟨_, .cons ra rb⟩
end
/-- repr(x) of a list or a tuple: the text that shows it -/
def rRepr : List V → Hp → VK → Prop := fun xs H Q => ∃ (a : Addr) (d : PyData), xs = [.ref a] ∧ Sh H (.ref a) d ∧ d.showable = true ∧ d.hasDict = false ∧ d.depth ≤ 50 ∧ d.shown.length ≤ sizeLine ∧ Q (.str d.shown) H
theorem call_repr (hg : X.A.guards = some []) (hu : X.A.units + 64 < cLine) : CallR X (.builtin "repr") rRepr := by
  intro pins s σ H xs us Q I r h
  obtain ⟨a, d, rfl, hs, h1, h2, h3, h4, q⟩ := h
  obtain ⟨u, rfl, ru⟩ := vals1 r
  obtain ⟨as, hr⟩ := sh_reads I ru hs
  obtain rfl : u = Value.ref a := ru
  exact repr_of_reads' hr h1 (fun z => by rw [h2] at z; cases z) hg (by omega) (fun _ _ e => e) (fun h' u tk k => ⟨.str d.shown, H, I.kept (t' := tk) k, ⟨u, rfl⟩, q⟩) h4
end
end Nm
set_option maxRecDepth 100000
set_option maxHeartbeats 4000000
/-! repr of a list of two dicts, where no repr is under way -/
namespace Nm
open PySem PySem.Spec PyProof.Rows L2
def keysD (kvs : List (Key × V)) : List PyData := kvs.map fun p => keyD p.1
/-- what a dict shows -/
def dctD (kvs : List (Key × V)) (ds : List PyData) : PyData := .dict ((keysD kvs).zip ds)
theorem ShAll.len {H : Hp} : ∀ {xs : List V} {ds : List PyData}, ShAll H xs ds → xs.length = ds.length
  | _, _, .nil => rfl
  | _, _, .cons _ t => by rw [List.length_cons, List.length_cons, t.len]
mutual
theorem Sh.flatD {H : Hp} {x : V} {d : PyData} : Sh H x d → d.hasDict = false
  | .non => rfl
  | .bl _ => rfl
  | .int _ => rfl
  | .str _ => rfl
  | .lst _ h => by simp only [PyData.hasDict, ShAll.flatD h]
  | .tup _ h => by simp only [PyData.hasDict, ShAll.flatD h]
theorem ShAll.flatD {H : Hp} {xs : List V} {ds : List PyData} : ShAll H xs ds → PyData.hasDictAll ds = false
  | .nil => rfl
  | .cons h t => by simp only [PyData.hasDictAll, Sh.flatD h, ShAll.flatD t, Bool.or_self]
end
theorem keysD_flat : ∀ kvs : List (Key × V), PyData.hasDictAll (keysD kvs) = false
  | [] => rfl
  | (.inl _, _) :: r => by
    have := keysD_flat r
    simp only [keysD, List.map_cons, keyD, PyData.hasDictAll, PyData.hasDict, Bool.false_or] at this ⊢
    exact this
  | (.inr _, _) :: r => by
    have := keysD_flat r
    simp only [keysD, List.map_cons, keyD, PyData.hasDictAll, PyData.hasDict, Bool.false_or] at this ⊢
    exact this
theorem keys_read {P : Program} {w : World} {h : Heap} : ∀ {es : List DictEntry} {kvs : List (Key × V)} {vs : List (Key × Value)}, Pairs (mixKind P w) es vs → KV kvs vs → ∃ as, ReadsAll h (es.map (·.key)) (keysD kvs) as
  | _, _, _, .nil, .nil => ⟨_, .nil⟩
  | _, _, _, .cons (e := e) (kv := kv) h1 _ t, .cons (a := p) r rs => by
    obtain ⟨as, ra⟩ := keys_read (h := h) t rs
    rw [← r.1] at h1
    rcases keyIs_shape (k := p.1) (v := e.key) h1 with ⟨i, t0, e1, e2⟩ | ⟨z, t0, e1, e2⟩
    · refine ⟨[] ++ as, ?_⟩
      show ReadsAll h (e.key :: _) (keyD p.1 :: _) _
      rw [e1, e2]
      exact .cons (.int i t0) ra
    · refine ⟨[] ++ as, ?_⟩
      show ReadsAll h (e.key :: _) (keyD p.1 :: _) _
      rw [e1, e2]
      exact .cons (.str z t0) ra
theorem pairs_vals {P : Program} {w : World} : ∀ {es : List DictEntry} {vs : List (Key × Value)}, Pairs (mixKind P w) es vs → es.map (·.val) = vs.map (·.2)
  | _, _, .nil => rfl
  | _, _, .cons _ h2 t => by rw [List.map_cons, List.map_cons, h2, pairs_vals t]
theorem kv_vals : ∀ {kvs : List (Key × V)} {vs : List (Key × Value)}, KV kvs vs → Vals (kvs.map (·.2)) (vs.map (·.2))
  | _, _, .nil => .nil
  | _, _, .cons r rs => .cons r.2 (kv_vals rs)
section
variable {X : Cx} {pins : List (Addr × Obj)} {σ : L2.St} {H : Hp} {s : Shared}
theorem dct_reads (I : Inv X pins σ H s) {a : Addr} {kvs : List (Key × V)} {ds : List PyData} (ha : H a = some (.dK kvs)) (hs : ShAll H (kvs.map (·.2)) ds) : ∃ (o : Obj) (es : Array DictEntry) (n : Nat) (as bs : List Addr), (a == sysModules) = false ∧ s.heap.get? a = some o ∧ o.cls = .type "dict" ∧ o.data = .dict es n ∧
    ReadsAll s.heap (es.toList.map (·.key)) (((keysD kvs).zip ds).map (·.1)) as ∧ ReadsAll s.heap (es.toList.map (·.val)) (((keysD kvs).zip ds).map (·.2)) bs := by
  obtain ⟨_, hsm, vs, r, o, es, ep, ho, hx, hd, _, pr, _⟩ := dk_of I.hok ha
  have l1 := hs.len
  rw [List.length_map] at l1
  have l2 : (keysD kvs).length = ds.length := by unfold keysD; rw [List.length_map]; exact l1
  rw [List.map_fst_zip (Nat.le_of_eq l2), List.map_snd_zip (Nat.le_of_eq l2.symm)]
  obtain ⟨as, ra⟩ := keys_read (h := s.heap) pr r
  have hv := kv_vals r
  rw [← pairs_vals pr] at hv
  obtain ⟨bs, rb⟩ := sh_readsAll I hv hs
  exact ⟨o, es, ep, as, bs, hsm, ho, hx.1, hd, ra, rb⟩
theorem dct_reprK (I : Inv X pins σ H s) {a : Addr} {kvs : List (Key × V)} {ds : List PyData} (ha : H a = some (.dK kvs)) (hs : ShAll H (kvs.map (·.2)) ds) (h1 : (dctD kvs ds).showable = true) (hz : (dctD kvs ds).shown.length ≤ sizeLine) :
    ∃ bs as, ReadAtMost s.heap (dctD kvs ds).depth bs ∧ ReprK X.prog X.w bs s.heap (dctD kvs ds).depth (.ref a) (dctD kvs ds).shown ∧ Reads s.heap (.ref a) (dctD kvs ds) as := by
  obtain ⟨o, es, n, as, bs, hsm, ho, hc, hd, ra, rb⟩ := dct_reads I ha hs
  have l1 := hs.len
  rw [List.length_map] at l1
  have l2 : (keysD kvs).length = ds.length := by unfold keysD; rw [List.length_map]; exact l1
  unfold dctD at h1 hz ⊢
  have fk : PyData.hasDictAll (((keysD kvs).zip ds).map (·.1)) = false := by rw [List.map_fst_zip (Nat.le_of_eq l2)]; exact keysD_flat kvs
  have fv : PyData.hasDictAll (((keysD kvs).zip ds).map (·.2)) = false := by rw [List.map_snd_zip (Nat.le_of_eq l2.symm)]; exact hs.flatD
  generalize (keysD kvs).zip ds = ps at *
  have room : (dictText (PyData.shownKv ps)).length ≤ sizeLine := by simpa only [PyData.shown] using hz
  obtain ⟨s1, s2⟩ := PyData.showableKv_split ps (by simpa [PyData.showable] using h1)
  obtain ⟨b1, m1, k1⟩ := ReprAllK.of_readsAll (prog := X.prog) (w := X.w) ra s1 (fun z => by rw [fk] at z; cases z) fun t ht => by
    obtain ⟨p, hp, hl⟩ := PyData.shownKv_key_le ps t ht
    exact Nat.le_trans hl (Nat.le_trans (dictText_mem_le hp) room)
  obtain ⟨b2, m2, k2⟩ := ReprAllK.of_readsAll (prog := X.prog) (w := X.w) rb s2 (fun z => by rw [fv] at z; cases z) fun t ht => by
    obtain ⟨p, hp, hl⟩ := PyData.shownKv_val_le ps t ht
    exact Nat.le_trans hl (Nat.le_trans (dictText_mem_le hp) room)
  have rd : Reads s.heap (.ref a) (.dict ps) _ := .dict ho hc hd ra rb
  have both : ReadAtMost s.heap (PyData.depthKv ps) (b1 ++ b2) := (m1.mono (PyData.depthAll_keys_le ps)).append (m2.mono (PyData.depthAll_vals_le ps))
  have out : a ∉ b1 ++ b2 := not_mem_of_deeper rd (by simp only [PyData.depth]; omega) both
  refine ⟨a :: (b1 ++ b2), _, ReadAtMost.cons rd (by simp only [PyData.depth]; omega) both, ?_, rd⟩
  simp only [PyData.depth, PyData.shown, PyData.shownKv_eq]
  have e1 := k1.more_le (as' := b1 ++ b2) (fun b hb => List.mem_append_left _ hb) (PyData.depthAll_keys_le ps)
  have e2 := k2.more_le (as' := b1 ++ b2) (fun b hb => List.mem_append_right _ hb) (PyData.depthAll_vals_le ps)
  exact ReprK.dict ho hc hd hsm out (ReprEntriesK.of_two es.toList _ _ e1 e2)
/-- repr([d, e]) of two dicts -/
def rReprDD : List V → Hp → VK → Prop := fun xs H Q => ∃ (r a b : Addr) (ka kb : List (Key × V)) (da db : List PyData), xs = [.ref r] ∧ H r = some (.lst [.ref a, .ref b]) ∧ H a = some (.dK ka) ∧ H b = some (.dK kb) ∧ ShAll H (ka.map (·.2)) da ∧ ShAll H (kb.map (·.2)) db ∧
  (dctD ka da).showable = true ∧ (dctD kb db).showable = true ∧ (dctD ka da).depth ≤ 40 ∧ (dctD kb db).depth ≤ 40 ∧ (PyData.list [dctD ka da, dctD kb db]).shown.length ≤ sizeLine ∧ Q (.str (PyData.list [dctD ka da, dctD kb db]).shown) H
theorem call_reprDD (hg : X.A.guards = some []) (hu : X.A.units + 64 < cLine) : CallR X (.builtin "repr") rReprDD := by
  intro pins s σ H xs us Q I r h
  obtain ⟨l, a, b, ka, kb, da, db, rfl, hl, ha, hb, sa, sb, wa, wb, pa, pb, hz, q⟩ := h
  obtain ⟨u, rfl, ru⟩ := vals1 r
  obtain rfl : u = Value.ref l := ru
  obtain ⟨its, rv, p, _⟩ := I.list (SqL.of hl)
  obtain ⟨o, n, ho, hc, hd, hdat⟩ := p
  match its, rv with
  | [_, _], .cons r1 (.cons r2 .nil) =>
  cases (show _ = Value.ref a from r1)
  cases (show _ = Value.ref b from r2)
  have zz : (listText [(dctD ka da).shown, (dctD kb db).shown]).length ≤ sizeLine := by simpa only [PyData.shown, PyData.shownAll] using hz
  obtain ⟨ba, as, ma, ra, rda⟩ := dct_reprK I ha sa wa (Nat.le_trans (listText_mem_le (List.mem_cons_self ..)) zz)
  obtain ⟨bb, bs, mb, rb, rdb⟩ := dct_reprK I hb sb wb (Nat.le_trans (listText_mem_le (List.mem_cons_of_mem _ (List.mem_cons_self ..))) zz)
  have rd : Reads s.heap (.ref l) (.list [dctD ka da, dctD kb db]) _ := .list ho hc hdat (.cons rda (.cons rdb .nil))
  have d1 : (dctD ka da).depth ≤ PyData.depthAll [dctD ka da, dctD kb db] := by simp only [PyData.depthAll]; omega
  have d2 : (dctD kb db).depth ≤ PyData.depthAll [dctD ka da, dctD kb db] := by simp only [PyData.depthAll]; omega
  have d3 : PyData.depthAll [dctD ka da, dctD kb db] ≤ 45 := by simp only [PyData.depthAll]; omega
  have out : l ∉ ba ++ bb := not_mem_of_deeper rd (by simp only [PyData.depth]; omega) ((ma.mono d1).append (mb.mono d2))
  have both : ReprAllK X.prog X.w (ba ++ bb) s.heap (PyData.depthAll [dctD ka da, dctD kb db]) [.ref a, .ref b] [(dctD ka da).shown, (dctD kb db).shown] :=
    ((ReprAllK.cons ra .nil).more_le (fun b hb => List.mem_append_left _ hb) d1).item 0 _ rfl |>.elim fun t ht => ((ReprAllK.cons rb .nil).more_le (fun b hb => List.mem_append_right _ hb) d2).item 0 _ rfl |>.elim fun t2 ht2 => by
      obtain ⟨e1, k1⟩ := ht
      obtain ⟨e2, k2⟩ := ht2
      cases e1
      cases e2
      exact .cons k1 (.cons k2 .nil)
  refine call_repr_slot (by omega) ⟨o, ho, hc⟩ F.slot_list_repr.toG ?_
  refine call_list_reprK ho hc hdat out rfl (fun i y e => both.item i y (by simpa using e)) hg (fun b _ => Clear.nil b) (by show X.A.units + 1 + (_ + 1) < cLine; omega) (fun _ _ e => e) (fun h' u tk k => ?_) zz
  exact ⟨_, _, rfl, .str _, H, I.kept (t' := tk) k, ⟨u, rfl⟩, by simpa only [PyData.shown, PyData.shownAll] using q⟩
end
end Nm
set_option maxRecDepth 100000
set_option maxHeartbeats 4000000
/-! == of two worlds: it tells something -/
namespace Nm
open PySem PySem.Spec PyProof.Rows L2
section
variable {prog : Program} {w : World} {κ : Type} [DecidableEq κ] {knd : HeapKind prog w κ} {A : Around} {E : Value → Shared → Prop} {s : Shared}
/-- what the walk over the first dict's entries finds in the second one -/
inductive HitsH (prog : Program) (w : World) (A : Around) (s : Shared) (ys : List (κ × Addr × Value)) : List (κ × Addr × Value) → Bool → Prop
  | nil : HitsH prog w A s ys [] true
  | gone {x : κ × Addr × Value} {r : List (κ × Addr × Value)} : atKey ys x.1 = none → HitsH prog w A s ys (x :: r) false
  | there {x : κ × Addr × Value} {r : List (κ × Addr × Value)} {p : Addr × Value} {e b : Bool} : atKey ys x.1 = some p → SeqAt.EqP prog w A s x.2.2 p.2 e → HitsH prog w A s ys r b → HitsH prog w A s ys (x :: r) (e && b)
theorem hitsH_any {ys : List (κ × Addr × Value)} : ∀ {xs : List (κ × Addr × Value)}, (∀ x ∈ xs, ∀ p : Addr × Value, atKey ys x.1 = some p → ∃ e, SeqAt.EqP prog w A s x.2.2 p.2 e) → ∃ r, HitsH prog w A s ys xs r
  | [], _ => ⟨true, .nil⟩
  | x :: r, h => by
    obtain ⟨b, hb⟩ := hitsH_any (xs := r) fun y hy => h y (List.mem_cons_of_mem _ hy)
    cases e : atKey ys x.1 with
    | none => exact ⟨false, .gone e⟩
    | some p =>
      obtain ⟨k, hk⟩ := h x List.mem_cons_self p e
      exact ⟨_, .there e hk hb⟩
theorem samePairsH {nm : String} {a b : Addr} {xs ys : List (κ × Addr × Value)} {r : Bool} {Q : Bool → Shared → Prop} (hA : knd.room A) (na : (a == sysModules) = false) (nb : (b == sysModules) = false) (da : s.heap.DictOfH knd a xs) (db : s.heap.DictOfH knd b ys)
    (hits : HitsH prog w A s ys xs r) (q1 : xs.length ≠ ys.length → Q false s) (q2 : xs.length = ys.length → Q r s) : wpAny (model prog w) A (Builtin.Dict.samePairs nm a b) Q E s := by
  obtain ⟨oa, es, ep, ho, _, hd, he, hi, _⟩ := da
  obtain ⟨ob, es', ep', ho', _, hd', he', hi', hn'⟩ := db
  have la : es.size = xs.length := size_of_entries he
  have lb : es'.size = ys.length := size_of_entries he'
  unfold Builtin.Dict.samePairs Builtin.Dict.showsAll
  rw [if_neg (by rw [na]; exact Bool.false_ne_true), if_neg (by rw [nb]; exact Bool.false_ne_true)]
  refine wpAny_bind (wpAny_pure (wpAny_bind (wpAny_pure (wpAny_bind (wpAny_dictEntries ho hd ?_)))))
  dsimp only
  refine wpAny_bind (wpAny_dictEntries ho' hd' ?_)
  by_cases hsz : es.size = es'.size
  case neg =>
    rw [if_pos (by simpa using hsz)]
    exact wpAny_bind (wpAny_rule (wpAny_pure (q1 fun z => hsz (by rw [la, lb, z]))))
  have q2 := q2 (by rw [← la, ← lb, hsz])
  rw [if_neg (by rw [hsz]; simp)]
  refine wpAny_bind (wpAny_dictEpoch ho hd (wpAny_bind ?_))
  rw [Std.Legacy.Range.forIn_eq_forIn_range']
  simp only [Std.Legacy.Range.size, Nat.sub_zero, Nat.add_sub_cancel, Nat.div_one]
  refine wpAny_forIn_list _ (fun rest q s' => s' = s ∧ q = (none, ()) ∧ ∃ i, rest = List.range' i (es.size - i) ∧ i ≤ es.size ∧ HitsH prog w A s ys (xs.drop i) r) _ ?_ ?_ _ _ ⟨rfl, rfl, 0, by simp, Nat.zero_le _, hits⟩
  · rintro x rest q s' ⟨rfl, rfl, i, hr, hi2, hpre⟩
    have lt : i < es.size := by
      rcases Nat.lt_or_ge i es.size with z | z
      · exact z
      · rw [Nat.sub_eq_zero_of_le z] at hr
        simp at hr
    obtain ⟨rfl, hrest⟩ : x = i ∧ rest = List.range' (i + 1) (es.size - (i + 1)) := by
      rw [show es.size - i = (es.size - (i + 1)) + 1 from by omega, List.range'_succ] at hr
      exact List.cons.inj hr
    have ltx : x < xs.length := by omega
    refine wpAny_bind (wpAny_dictEntries ho hd ?_)
    rw [entry_at he x, List.getElem?_eq_getElem ltx]
    have cut : xs.drop x = xs[x] :: xs.drop (x + 1) := List.drop_eq_getElem_cons ltx
    have key := hi _ (List.getElem_mem ltx)
    generalize xs[x] = t at *
    rw [cut] at hpre
    show wpAny _ _ (holding [(entryOfKey knd t).key, (entryOfKey knd t).val] _ >>= _) _ _ _
    refine wpAny_bind (wpAny_holding (wpAny_bind ?_))
    refine wpAny_dictFind_heap (knd := knd) hA key ho' hd' he' hi' hn' (fun none_ => ?_) fun j p hj => ?_
    · have z := atKey_none_of_get none_
      cases hpre with
      | gone _ =>
        refine wpAny_pure ?_
        show wpAny _ _ (if (!false) = true then _ else _) _ _ _
        rw [if_pos (by decide)]
        exact wpAny_pure (wpAny_pure q2)
      | there y _ _ => rw [z] at y; cases y
    · have z := atKey_of_get hn' hj
      refine wpAny_bind (wpAny_dictEntries ho' hd' ?_)
      rw [entry_at he' j, hj]
      cases hpre with
      | gone y => rw [z] at y; cases y
      | @there _ _ p' e b' y eq rest' =>
        rw [z] at y
        cases y
        refine wpAny_holding (eq _ _ ?_)
        cases e with
        | false =>
          show wpAny _ _ (if (!false) = true then _ else _) _ _ _
          rw [if_pos (by decide)]
          exact wpAny_pure (wpAny_pure q2)
        | true =>
          show wpAny _ _ (if (!true) = true then _ else _) _ _ _
          rw [if_neg (by decide)]
          refine wpAny_bind (wpAny_dictEpoch ho hd ?_)
          rw [if_neg (by simp)]
          exact wpAny_pure ⟨rfl, rfl, x + 1, hrest, lt, by rw [Bool.true_and]; exact rest'⟩
  · rintro q s' ⟨rfl, rfl, i, hr, hi2, hpre⟩
    have fin : i = es.size := by
      rcases Nat.lt_or_ge i es.size with z | z
      · rw [show es.size - i = (es.size - (i + 1)) + 1 from by omega, List.range'_succ] at hr
        cases hr
      · exact Nat.le_antisymm hi2 z
    rw [fin, la, List.drop_length] at hpre
    cases hpre
    exact wpAny_pure q2
end
section
variable {X : Cx} {pins : List (Addr × Obj)} {σ : L2.St} {H : Hp} {s : Shared}
/-- two values that == can ask of: it tells one thing -/
def EqTells (P : Program) (w : World) (A : Around) (s : Shared) (x y : Value) : Prop := ∃ e, SeqAt.EqP P w A s x y e
theorem eq_lists (I : Inv X pins σ H s) {A : Around} (hu : A.units + 4 < cLine) {a b : Addr} {xs ys : List Str} (ha : H a = some (.lst (xs.map V.str))) (hb : H b = some (.lst (ys.map V.str))) : EqTells X.prog X.w A s (.ref a) (.ref b) := by
  by_cases ab : a = b
  · subst ab
    exact ⟨true, (SeqAt.EqAt.same _).eqP⟩
  obtain ⟨us, r1, p1, _⟩ := I.list (SqL.of ha)
  obtain ⟨vs, r2, p2, _⟩ := I.list (SqL.of hb)
  by_cases hsz : us.toArray.size = vs.toArray.size
  · have strAt : ∀ {zs : List Str} {ws : List Value}, Vals (zs.map V.str) ws → ∀ j (h : j < ws.length), ∃ z t, ws[j] = Value.str z t := by
      intro zs
      induction zs with
      | nil =>
        intro ws r j h
        cases r
        exact absurd h (Nat.not_lt_zero j)
      | cons z zs ih =>
        intro ws r j h
        cases r with
        | cons r t =>
          cases j with
          | zero =>
            obtain ⟨tk, e⟩ := (show ∃ t, _ = Value.str z t from r)
            exact ⟨z, tk, e⟩
          | succ j => exact ih t j (Nat.lt_of_succ_lt_succ h)
    have each : ∀ j : Nat, ∃ e : Bool, ∀ (h1 : j < us.toArray.size) (h2 : j < vs.toArray.size), SeqAt.EqAt A.in1 s us.toArray[j] vs.toArray[j] e := fun j => by
      by_cases h1 : j < us.toArray.size
      · by_cases h2 : j < vs.toArray.size
        · obtain ⟨z1, t1, e1⟩ := strAt r1 j (by simpa using h1)
          obtain ⟨z2, t2, e2⟩ := strAt r2 j (by simpa using h2)
          have g1 : us.toArray[j] = Value.str z1 t1 := by simpa using e1
          have g2 : vs.toArray[j] = Value.str z2 t2 := by simpa using e2
          exact ⟨_, fun _ _ => by rw [g1, g2]; exact SeqAt.EqAt.str_str z1 t1 z2 t2⟩
        · exact ⟨true, fun _ h => absurd h h2⟩
      · exact ⟨true, fun h _ => absurd h h1⟩
    exact ⟨_, (SeqAt.EqAt.of_refs ab (SeqAt.RcAt.lists (A := A) (e := fun j => Classical.choose (each j)) p1.isList p2.isList hsz (by omega) fun j h1 h2 => Classical.choose_spec (each j) h1 h2)).eqP⟩
  · exact ⟨false, (SeqAt.EqAt.of_refs ab (SeqAt.RcAt.lists_lengths (A := A) p1.isList p2.isList (by simpa using hsz) (by omega))).eqP⟩
theorem eq_ints {P : Program} {w : World} {A : Around} {s : Shared} (hu : A.units + 4 < cLine) {x y : V} {u v : Value} {i j : Int} (ex : x = V.int i) (ey : y = V.int j) (rx : RelV x u) (ry : RelV y v) : EqTells P w A s u v := by
  subst ex ey
  obtain ⟨t1, rfl⟩ := (show ∃ t, u = Value.int i t from rx)
  obtain ⟨t2, rfl⟩ := (show ∃ t, v = Value.int j t from ry)
  exact ⟨_, (SeqAt.eqAt_reads (.int i) (.int j) A s _ _ _ _ (.int i t1) (.int j t2) rfl rfl (by simp only [PyData.depth]; omega)).eqP⟩
theorem kt_at {H : Hp} {kvs : List (List Key × V)} {xs : List (List Key × Addr × Value)} (r : KT H kvs xs) : ∀ x ∈ xs, ∃ kv ∈ kvs, RelV kv.2 x.2.2 := by
  induction r with
  | nil => intro x h; cases h
  | @cons p q ps qs h t ih =>
    intro x hx
    rcases List.mem_cons.mp hx with e | e
    · subst e
      exact ⟨p, List.mem_cons_self, h.2.2⟩
    · obtain ⟨kv, h1, h2⟩ := ih x e
      exact ⟨kv, List.mem_cons_of_mem _ h1, h2⟩
theorem at_mem {ys : List (List Key × Addr × Value)} {k : List Key} {p : Addr × Value} (h : atKey ys k = some p) : ∃ k', (k', p) ∈ ys := by
  unfold atKey at h
  obtain ⟨x, hx, rfl⟩ := Option.map_eq_some_iff.mp h
  exact ⟨x.1, List.mem_of_find?_eq_some hx⟩
/-- two dicts of ties -/
theorem eq_ties (I : Inv X pins σ H s) {A : Around} (hu : A.units + 9 < cLine) {a b : Addr} {ks ls : List (List Key × V)} (ha : H a = some (.dT ks)) (hb : H b = some (.dT ls)) (ia : ∀ kv ∈ ks, ∃ i : Int, kv.2 = V.int i) (ib : ∀ kv ∈ ls, ∃ i : Int, kv.2 = V.int i) :
    EqTells X.prog X.w A s (.ref a) (.ref b) := by
  by_cases ab : a = b
  · subst ab
    exact ⟨true, (SeqAt.EqAt.same _).eqP⟩
  obtain ⟨_, na, xs, ra, da⟩ := dt_of I.hok ha
  obtain ⟨_, nb, ys, rb, db⟩ := dt_of I.hok hb
  obtain ⟨r, hr⟩ := hitsH_any (prog := X.prog) (w := X.w) (A := A.in1) (s := s) (ys := ys) (xs := xs) fun x hx p hp => by
    obtain ⟨kv, hm, rv⟩ := kt_at ra x hx
    obtain ⟨k', hm'⟩ := at_mem hp
    obtain ⟨kv', hm2, rv'⟩ := kt_at rb _ hm'
    obtain ⟨i, ei⟩ := ia kv hm
    obtain ⟨j, ej⟩ := ib kv' hm2
    exact eq_ints (by show A.units + 1 + 4 < cLine; omega) ei ej rv rv'
  refine ⟨if xs.length = ys.length then r else false, SeqAt.eqP_refs ab fun E Q hq => ?_⟩
  have two := PySem.F.args_dict_eq_2 (Value.ref a) (Value.ref b)
  refine wpAny_richCompare_same_room (op := .Eq) da.typeIs db.typeIs PySem.F.slot_dict_eq (wpAny_call_entry PySem.F.slot_dict_eq da.typeIs PySem.F.entry_dict_eq ?_ two) (by omega)
  show wpAny _ _ (Builtin.Dict.dictSlotArgs "__eq__" ⟨[.ref a, .ref b], []⟩ >>= _) _ _ s
  refine wpAny_bind ?_; unfold Builtin.Dict.dictSlotArgs
  refine wpAny_bind (wpAny_notOrdered_dict da.typeIs ?_); show wpAny _ _ (pure (Value.ref a, Value.ref b)) _ _ s
  refine wpAny_pure (wpAny_bind (wpAny_isInstance (T := "dict") db.typeIs PySem.F.sub_dict_dict ?_))
  simp only [Bool.not_true, if_false, Bool.false_eq_true]
  refine wpAny_bind (wpAny_pure (wpAny_bind (wpAny_pure (wpAny_bind ?_))))
  refine samePairsH (knd := tupleKind (mixKind X.prog X.w)) (by show A.units + 1 < cLine; omega) na nb da db hr (fun z => ?_) fun z => ?_
  · rw [if_neg z] at hq
    exact wpAny_pure ⟨_, rfl, (fun x => nomatch x), by simpa using hq⟩
  · rw [if_pos z] at hq
    exact wpAny_pure ⟨_, rfl, (fun x => nomatch x), by simpa using hq⟩
theorem worlds_hit (I : Inv X pins σ H s) {A : Around} {ks ls : List (Key × V)} {va vb : List (Key × Value)} (ra : KV ks va) (rb : KV ls vb) (h : ∀ p ∈ ks, ∃ y, valV ls p.1 = some y ∧ ∀ u v, RelV p.2 u → RelV y v → EqTells X.prog X.w A s u v) :
    ∃ r, PySem.W.KeqHitsP X.prog X.w A s vb va r := by
  unfold KV at ra
  induction ra with
  | nil => exact ⟨true, .nil⟩
  | @cons p q ps qs hd t ih =>
    obtain ⟨r, hr⟩ := ih fun p' m => h p' (List.mem_cons_of_mem _ m)
    obtain ⟨y, hy, he⟩ := h p List.mem_cons_self
    have there : RelO (some y) (valueAt vb p.1) := by rw [← hy]; exact rb.val p.1
    obtain ⟨v, hv, rv⟩ := there.some_of
    obtain ⟨key, u⟩ := q
    obtain rfl : p.1 = key := hd.1
    obtain ⟨e, he⟩ := he u v hd.2 rv
    exact ⟨_, .hit hv he hr⟩
/-- one == other, two worlds -/
def rEqW : R2 := fun x y H Q => ∃ (a b a1 b1 t1 a2 b2 t2 : Addr) (n1 c1 n2 c2 : List Str) (k1 k2 : List (List Key × V)), x = V.ref a ∧ y = V.ref b ∧ H a = some (.dK (worldD a1 b1 t1)) ∧ H b = some (.dK (worldD a2 b2 t2)) ∧
  H a1 = some (.lst (n1.map V.str)) ∧ H a2 = some (.lst (n2.map V.str)) ∧ H b1 = some (.lst (c1.map V.str)) ∧ H b2 = some (.lst (c2.map V.str)) ∧ H t1 = some (.dT k1) ∧ H t2 = some (.dT k2) ∧
  (∀ kv ∈ k1, ∃ i : Int, kv.2 = V.int i) ∧ (∀ kv ∈ k2, ∃ i : Int, kv.2 = V.int i) ∧ ∀ r : Bool, Q (.bl r) H
theorem op_eqW (hu : X.A.units + 20 < cLine) : OpR X (compareOp .Eq) rEqW := by
  intro pins s σ H x y v u Q I rx ry h
  obtain ⟨a, b, a1, b1, t1, a2, b2, t2, n1, c1, n2, c2, k1, k2, rfl, rfl, ha, hb, ha1, ha2, hb1, hb2, ht1, ht2, i1, i2, q⟩ := h
  cases (show v = Value.ref a from rx)
  cases (show u = Value.ref b from ry)
  obtain ⟨_, ya, va, ra, da⟩ := dk_of I.hok ha
  obtain ⟨_, yb, vb, rb, db⟩ := dk_of I.hok hb
  have hu1 : X.A.in1.units + 9 < cLine := by show X.A.units + 1 + 9 < cLine; omega
  obtain ⟨r, hr⟩ := worlds_hit I (A := X.A.in1) ra rb fun p hp => by
    unfold worldD at hp
    simp only [List.mem_cons, List.not_mem_nil, or_false] at hp
    rcases hp with rfl | rfl | rfl
    · refine ⟨_, wd_names, fun u v r1 r2 => ?_⟩
      cases (show u = Value.ref a1 from r1)
      cases (show v = Value.ref a2 from r2)
      exact eq_lists I (by omega) ha1 ha2
    · refine ⟨_, wd_colours, fun u v r1 r2 => ?_⟩
      cases (show u = Value.ref b1 from r1)
      cases (show v = Value.ref b2 from r2)
      exact eq_lists I (by omega) hb1 hb2
    · refine ⟨_, wd_ties, fun u v r1 r2 => ?_⟩
      cases (show u = Value.ref t1 from r1)
      cases (show v = Value.ref t2 from r2)
      exact eq_ties I hu1 ht1 ht2 i1 i2
  refine PySem.W.rcP_dicts (knd := mixKind X.prog X.w) (r := r) ya yb da db (by omega) (fun _ => hr) _ _ ?_
  exact ⟨.bl (va.length == vb.length && r), H, I, rfl, q _⟩
end
end Nm
set_option maxRecDepth 100000
set_option maxHeartbeats 4000000
/-! _law_caught(lambda: ..); the texts of what the law compares -/
namespace Nm
open PySem PySem.Spec PyProof.Rows L2 LamX
/-- told: try: return ask() / except UnknownName as e: return ["UnknownName", repr(e.name)] -/
def TCaughtU (K : PySem.W.Frag) (CU : Addr) : (XK → Hp → VK → Prop) → Hp → VK → Prop := fun tl H Q =>
  tl (fun cls d H' => ∃ b, PySem.W.exmOne K cls (.ref CU) = some b ∧ (b = true → cls = .ref CU ∧ ∃ (z : Str) (dd : Addr), d = some dd ∧ H' dd = some (.xd [("name", .str z)]) ∧ (reprText z).length ≤ sizeLine ∧ ∀ r, H' r = none → Q (.ref r) (upd H' r (.lst (unkV z)))) ∧ (b = false → False)) H Q
abbrev nCt : List Str := ["_law_ask", "e"]
theorem scCt : FnScope nCt ["_law_ask"] (defScope sCaught) := ⟨rfl, rfl, rfl, by decide +kernel, rfl, by decide +kernel, by decide +kernel⟩
theorem takes_len {X : Cx} {W : WX} (t : Takes X W) : Takes X (fun cls d σ H => σ.length = X.N.length → W cls d σ H) := fun u s' ⟨a, B, sI, pins, σ, H, cls, d, e, I, nb, up, sky, na, os, ag, w⟩ => t u s' ⟨a, B, sI, pins, σ, H, cls, d, e, I, nb, up, sky, na, os, ag, w I.len⟩
theorem caught_givesU {X : Cx} {g CU : Addr} {cdg : Value} {q : Str} (xf : XfC X.K CU) (nNa : PySem.W.findIn X.K (.ref CU) "name" = some none) (mU : X.mg "UnknownName" = some (.ref CU)) (mr : X.mg "repr" = none) :
    GivesTo X nCt "_law_caught" (defScope sCaught) g cdg (defBody sCaught) "_law_ask" q (TCaughtU X.K CU) := by
  intro f c' s H Q tl act hc h
  refine ⟨_, pss_one (ps_try_as (X := (cxOf C8.CX0 X.prog X.w X.K X.mg X.base nCt "_law_caught" (defScope sCaught) g cdg X.A X.stack s H C8.E0).nox) (c := .ref CU) (i := 1)
      (tb := fun W D σ H => ∃ Ech : XK, (∀ cls d σ' H', Ech cls d H' → σ'.length = 2 → W cls d σ' H') ∧ σ[0]? = some (some (.ref f)) ∧ H c' = some (CodeO c' q) ∧ tl Ech H D.rt)
      rfl rfl scCt.nd rfl rfl ⟨rfl, by decide, .inl mU⟩ takes0 (fun W pn xe tk _ => ?_) (fun a oe cls d pn hz hf => pss_one (ps_ret (pe_lst (pa_cons pe_str (pa_cons (pe_callB call_reprS (by rfl) mr (by decide +kernel) (pa_cons (pe_xf (C := CU) xf nNa hz hf (pv 1)) pa_nil)) pa_nil)))))), ?_⟩
  · refine ⟨fun pins s' σ H' D I h' => ?_⟩
    obtain ⟨Ech, hW, h1, h2, h3⟩ := h'
    exact (pss_one (ps_ret (act (fun cls d σ H => σ.length = 2 → W cls d σ H) pn xe Ech _ _ (takes_len tk) hW))).run pins s' σ H' D I ⟨h1, h2, h3⟩
  · refine ⟨fun cls d H' => ∃ b, PySem.W.exmOne X.K cls (.ref CU) = some b ∧ (b = true → cls = .ref CU ∧ ∃ (z : Str) (dd : Addr), d = some dd ∧ H' dd = some (.xd [("name", .str z)]) ∧ (reprText z).length ≤ sizeLine ∧ ∀ r, H' r = none → Q (.ref r) (upd H' r (.lst (unkV z)))) ∧ (b = false → False), fun cls d σ' H' ⟨b, e1, e2, e3⟩ hlen => ⟨b, e1, fun hb a ha => ?_, fun hb => e3 hb⟩, rfl, hc, h⟩
    obtain ⟨rfl, z, dd, rfl, hx, hl, k⟩ := e2 hb
    exact ⟨_, by rw [List.getElem?_set_self (by omega)], rfl, rfl, dd, _, _, rfl, hx, rfl, z, rfl, hl, by show (2 : Nat) ≤ sizeLine; decide, fun r hr0 => k r hr0⟩
/-! ### texts -/
/-- short enough to be told -/
structure Okd (b : Nat) (d : PyData) : Prop where
  sh : d.showable = true
  nd : d.hasDict = false
  dp : d.depth ≤ 6
  ls : d.leavesShort 8 = true
  bk : d.bulk ≤ b
theorem okd_len {d : PyData} (h1 : d.leavesShort 8 = true) (h2 : d.bulk ≤ 1000000) : d.shown.length ≤ sizeLine := by
  have h3 := PyData.shown_le_bulk 8 (by decide) d h1
  rw [sizeLine_eq]
  omega
theorem Al.okd {n : Nat} {z : Str} (h : Al n z) : Okd n (.str z) := by
  refine ⟨rfl, rfl, by simp [PyData.depth], ?_, h.1⟩
  simp only [PyData.leavesShort, List.all_eq_true, decide_eq_true_eq]
  exact h.2
theorem SmallV.shows {H : Hp} {v : V} (h : SmallV H v) : ∃ d, Sh H v d ∧ Okd 100 d := by
  cases h with
  | str h => exact ⟨_, .str _, h.okd⟩
  | five => exact ⟨_, .int 5, by refine ⟨by decide +kernel, rfl, by simp [PyData.depth], by decide +kernel, by simp [PyData.bulk]⟩⟩
  | non => exact ⟨_, .non, ⟨rfl, rfl, by simp [PyData.depth], rfl, by simp [PyData.bulk]⟩⟩
  | tup h => exact ⟨.tuple [.str "a"], .tup h (.cons (.str _) .nil), ⟨by decide +kernel, by decide +kernel, by simp [PyData.depth, PyData.depthAll], by decide +kernel, by decide +kernel⟩⟩
  | lst h => exact ⟨.list [.str "a"], .lst h (.cons (.str _) .nil), ⟨by decide +kernel, by decide +kernel, by simp [PyData.depth, PyData.depthAll], by decide +kernel, by decide +kernel⟩⟩
/-- a dict's datum can be told -/
structure Okk (n : Nat) (ps : List (PyData × PyData)) : Prop where
  sh : PyData.showableKv ps = true
  dp : PyData.depthKv ps ≤ 6
  ls : PyData.leavesShortKv 8 ps = true
  bk : PyData.bulkKv ps ≤ 202 * n
theorem kv_shows {H : Hp} : ∀ {kv : List (Key × V)}, (∀ p ∈ kv, ∃ z, p.1 = Sum.inr z ∧ Al 100 z) → (∀ p ∈ kv, SmallV H p.2) → ∃ ds, ShAll H (kv.map (·.2)) ds ∧ Okk kv.length ((keysD kv).zip ds)
  | [], _, _ => ⟨[], .nil, ⟨rfl, by simp [keysD, PyData.depthKv], rfl, by simp [keysD, PyData.bulkKv]⟩⟩
  | p :: kv, hk, hv => by
    obtain ⟨ds, h1, h2⟩ := kv_shows (kv := kv) (fun q hq => hk q (List.mem_cons_of_mem _ hq)) fun q hq => hv q (List.mem_cons_of_mem _ hq)
    obtain ⟨z, hz, az⟩ := hk p List.mem_cons_self
    obtain ⟨d, sd, od⟩ := (hv p List.mem_cons_self).shows
    have ok := az.okd
    have e : (keysD (p :: kv)).zip (d :: ds) = (.str z, d) :: (keysD kv).zip ds := by
      unfold keysD
      rw [List.map_cons, List.zip_cons_cons, hz]
      rfl
    refine ⟨d :: ds, .cons sd h1, ?_⟩
    rw [e]
    refine ⟨?_, ?_, ?_, ?_⟩
    · simp only [PyData.showableKv, ok.sh, od.sh, h2.sh, Bool.and_self]
    · simp only [PyData.depthKv]
      have := ok.dp
      have := od.dp
      have := h2.dp
      omega
    · simp only [PyData.leavesShortKv, ok.ls, od.ls, h2.ls, Bool.and_self]
    · simp only [PyData.bulkKv, List.length_cons]
      have := ok.bk
      have := od.bk
      have := h2.bk
      omega
theorem DctL.shows {H : Hp} {n : Nat} {kv : List (Key × V)} (h : DctL H n kv) : ∃ ds, ShAll H (kv.map (·.2)) ds ∧ Okk n ((keysD kv).zip ds) := by
  obtain ⟨ds, h1, h2⟩ := kv_shows h.key h.val
  exact ⟨ds, h1, h2.sh, h2.dp, h2.ls, Nat.le_trans h2.bk (Nat.mul_le_mul_left _ h.len)⟩
/-- two such dicts in a list -/
theorem two_dicts {ka kb : List (Key × V)} {da db : List PyData} {n m : Nat} (ha : Okk n ((keysD ka).zip da)) (hb : Okk m ((keysD kb).zip db)) (hn : n ≤ 500) (hm : m ≤ 500) :
    (dctD ka da).showable = true ∧ (dctD kb db).showable = true ∧ (dctD ka da).depth ≤ 40 ∧ (dctD kb db).depth ≤ 40 ∧ (PyData.list [dctD ka da, dctD kb db]).shown.length ≤ sizeLine := by
  unfold dctD
  refine ⟨by simpa only [PyData.showable] using ha.sh, by simpa only [PyData.showable] using hb.sh, ?_, ?_, ?_⟩
  · simp only [PyData.depth]
    have := ha.dp
    omega
  · simp only [PyData.depth]
    have := hb.dp
    omega
  · refine okd_len ?_ ?_
    · simp only [PyData.leavesShort, PyData.leavesShortAll, ha.ls, hb.ls, Bool.and_self]
    · simp only [PyData.bulk, PyData.bulkAll]
      have := ha.bk
      have := hb.bk
      omega
/-- a refusal -/
def dUnk (z : Str) : PyData := .list [.str "UnknownName", .str (reprText z)]
theorem unk_sh {H : Hp} {r : Addr} {z : Str} (h : H r = some (.lst (unkV z))) : Sh H (.ref r) (dUnk z) := .lst h (.cons (.str _) (.cons (.str _) .nil))
theorem unk_ok {z : Str} (h : Al 100 z) : (dUnk z).showable = true ∧ (dUnk z).hasDict = false ∧ (dUnk z).depth ≤ 50 ∧ (dUnk z).shown.length ≤ sizeLine := by
  have a : Al 20 "UnknownName" := ⟨by decide +kernel, by decide +kernel⟩
  have o1 := a.okd
  have o2 := h.repr.okd
  unfold dUnk
  refine ⟨?_, ?_, ?_, okd_len ?_ ?_⟩
  · simp only [PyData.showable, PyData.showableAll, Bool.and_self]
  · simp only [PyData.hasDict, PyData.hasDictAll, Bool.or_self]
  · simp only [PyData.depth, PyData.depthAll]
    omega
  · simp only [PyData.leavesShort, PyData.leavesShortAll] at o1 o2 ⊢
    have l1 := o1.ls
    have l2 := o2.ls
    simp only [PyData.leavesShort] at l1 l2
    simp only [l1, l2, Bool.and_self]
  · have b1 := o1.bk
    have b2 := o2.bk
    simp only [PyData.bulk] at b1 b2
    simp only [PyData.bulk, PyData.bulkAll]
    omega
/-- a table of numbers -/
def dRow (r : List Int) : PyData := .tuple (r.map PyData.int)
def dTab (tb : List (List Int)) : PyData := .tuple (tb.map dRow)
theorem ints_sh {H : Hp} : ∀ (l : List Int), ShAll H (l.map V.int) (l.map PyData.int)
  | [] => .nil
  | x :: l => .cons (.int _) (ints_sh l)
theorem int_ok {x : Int} (h0 : 0 ≤ x) (h : x ≤ 1000) : PyData.showable (.int x) = true ∧ PyData.leavesShort 8 (.int x) = true := by
  have h1 : x.natAbs ≤ 1000 := by omega
  constructor
  · refine decide_eq_true ?_
    by_cases z : x.natAbs = 0
    · rw [z]
      decide
    · exact (Nat.log2_lt z).mpr (Nat.lt_of_le_of_lt h1 (by decide +kernel))
  · refine decide_eq_true ?_
    have e := PySem.int_text_length_le10 (a := x) (k := 7) (by decide) (by omega)
    show (Str.ofString (toString x)).length ≤ 8
    rw [PySem.ofString_length]
    omega
theorem ints_ok : ∀ {l : List Int}, (∀ x ∈ l, 0 ≤ x ∧ x ≤ 1000) → PyData.showableAll (l.map .int) = true ∧ PyData.hasDictAll (l.map .int) = false ∧ PyData.depthAll (l.map .int) ≤ 3 ∧ PyData.leavesShortAll 8 (l.map .int) = true ∧ PyData.bulkAll (l.map .int) ≤ l.length
  | [], _ => ⟨rfl, rfl, by simp [PyData.depthAll], rfl, by simp [PyData.bulkAll]⟩
  | x :: l, h => by
    obtain ⟨a1, a2, a3, a4, a5⟩ := ints_ok (l := l) fun y hy => h y (List.mem_cons_of_mem _ hy)
    obtain ⟨b1, b2⟩ := int_ok (h x List.mem_cons_self).1 (h x List.mem_cons_self).2
    rw [List.map_cons]
    refine ⟨?_, ?_, ?_, ?_, ?_⟩
    · simp only [PyData.showableAll, b1, a1, Bool.and_self]
    · simp only [PyData.hasDictAll, PyData.hasDict, a2, Bool.or_self]
    · simp only [PyData.depthAll, PyData.depth]
      omega
    · simp only [PyData.leavesShortAll, b2, a4, Bool.and_self]
    · simp only [PyData.bulkAll, PyData.bulk, List.length_cons]
      omega
theorem rows_sh {H : Hp} : ∀ {ts : List Addr} {tb : List (List Int)}, ts.length = tb.length → (∀ (k : Nat) (a : Addr) (r : List Int), ts[k]? = some a → tb[k]? = some r → H a = some (.tup (r.map V.int))) → ShAll H (ts.map V.ref) (tb.map dRow)
  | [], [], _, _ => .nil
  | a :: ts, r :: tb, hl, h => .cons (.tup (h 0 a r rfl rfl) (ints_sh r)) (rows_sh (by simpa using hl) fun k a r h1 h2 => h (k + 1) a r h1 h2)
  | [], _ :: _, hl, _ => by simp at hl
  | _ :: _, [], hl, _ => by simp at hl
theorem tab_sh {H : Hp} {t : Addr} {tb : List (List Int)} (h : TblAt H t tb) : Sh H (.ref t) (dTab tb) := by
  obtain ⟨ts, h1, h2, h3⟩ := h
  exact .tup h1 (rows_sh h2 h3)
theorem rows_ok : ∀ {tb : List (List Int)}, (∀ r ∈ tb, r.length ≤ 8 ∧ ∀ x ∈ r, 0 ≤ x ∧ x ≤ 1000) → PyData.showableAll (tb.map dRow) = true ∧ PyData.hasDictAll (tb.map dRow) = false ∧ PyData.depthAll (tb.map dRow) ≤ 5 ∧ PyData.leavesShortAll 8 (tb.map dRow) = true ∧ PyData.bulkAll (tb.map dRow) ≤ 9 * tb.length
  | [], _ => ⟨rfl, rfl, by simp [PyData.depthAll], rfl, by simp [PyData.bulkAll]⟩
  | r :: tb, h => by
    obtain ⟨a1, a2, a3, a4, a5⟩ := rows_ok (tb := tb) fun y hy => h y (List.mem_cons_of_mem _ hy)
    obtain ⟨rl, rx⟩ := h r List.mem_cons_self
    obtain ⟨c1, c2, c3, c4, c5⟩ := ints_ok rx
    rw [List.map_cons]
    unfold dRow at *
    refine ⟨?_, ?_, ?_, ?_, ?_⟩
    · simp only [PyData.showableAll, PyData.showable, c1, a1, Bool.and_self]
    · simp only [PyData.hasDictAll, PyData.hasDict, c2, a2, Bool.or_self]
    · simp only [PyData.depthAll, PyData.depth]
      omega
    · simp only [PyData.leavesShortAll, PyData.leavesShort, c4, a4, Bool.and_self]
    · simp only [PyData.bulkAll, PyData.bulk, List.length_cons]
      omega
theorem tab_ok {tb : List (List Int)} (n8 : tb.length ≤ 8) (h : ∀ r ∈ tb, r.length ≤ 8 ∧ ∀ x ∈ r, 0 ≤ x ∧ x ≤ 1000) : (dTab tb).showable = true ∧ (dTab tb).hasDict = false ∧ (dTab tb).depth ≤ 50 ∧ (dTab tb).shown.length ≤ sizeLine := by
  obtain ⟨a1, a2, a3, a4, a5⟩ := rows_ok h
  unfold dTab
  refine ⟨by simpa only [PyData.showable] using a1, by simpa only [PyData.hasDict] using a2, ?_, okd_len (by simpa only [PyData.leavesShort] using a4) ?_⟩
  · simp only [PyData.depth]
    omega
  · simp only [PyData.bulk]
    omega
theorem cnt_ok {n1 n2 n' : List Str} {fk lk : List (Key × V)} (h1 : n1.length ≤ 8) (h2 : n2.length ≤ 8) (h' : n'.length ≤ 1000) : (dTab (cntT n1 n2 n' fk lk)).showable = true ∧ (dTab (cntT n1 n2 n' fk lk)).hasDict = false ∧ (dTab (cntT n1 n2 n' fk lk)).depth ≤ 50 ∧ (dTab (cntT n1 n2 n' fk lk)).shown.length ≤ sizeLine := by
  refine tab_ok (by unfold cntT; rw [List.length_map]; exact h1) fun r hr => ?_
  unfold cntT at hr
  obtain ⟨p, _, rfl⟩ := List.mem_map.mp hr
  refine ⟨by rw [List.length_map]; exact h2, fun x hx => ?_⟩
  obtain ⟨q, _, rfl⟩ := List.mem_map.mp hx
  have : cntV n' fk lk p q ≤ n'.length := List.length_filter_le _ _
  omega
end Nm
set_option maxRecDepth 100000
set_option maxHeartbeats 4000000
/-! what a turn of the law stands on -/
namespace Nm
open PySem PySem.Spec PyProof.Rows L2 LamX
def lamQ : Str := (envOfC "law" (defScope sLaw) 0 0 .none).qual ++ "<lambda>"
theorem ne_sameI {x : V} {A B : Prop} (h : B) : if (!decide (x = x)) = true then A else B := by
  rw [decide_eq_true rfl]
  exact h
theorem Src.extN {H H' : Hp} {s c : Addr} (S : Src H s c) (e : ExtN H H') : Src H' s c := by
  obtain ⟨cs, l, m, t, S⟩ := S
  exact ⟨cs, l, m, t, { S with ds := e _ _ S.ds (fun _ z => by cases z), dc := e _ _ S.dc (fun _ z => by cases z) }⟩
theorem tabS_kp {s c : Addr} {H H' : Hp} {PT : Addr} {q : Str} (t : TabS H PT q) (S : Src H s c) (k : Kp s c H H') : TabS H' PT q := by
  obtain ⟨cs, l, m, tt, S⟩ := S
  obtain ⟨ps, h1, h2, h3⟩ := t
  refine ⟨ps, k _ _ h1 (fun z => ?_) (fun z => ?_), h2, fun pos cv hc => ?_⟩
  · rw [z, S.ds] at h1
    cases h1
  · rw [z, S.dc] at h1
    cases h1
  · obtain ⟨c', e1, e2⟩ := h3 pos cv hc
    refine ⟨c', e1, k _ _ e2 (fun z => ?_) (fun z => ?_)⟩
    · rw [z, S.ds] at e2
      cases e2
    · rw [z, S.dc] at e2
      cases e2
theorem tabs_kp {s c : Addr} {H H' : Hp} {T : List (Addr × Str)} (t : Tabs T H) (S : Src H s c) (k : Kp s c H H') : Tabs T H' := fun p hp => tabS_kp (t p hp) S k
mutual
theorem Sh.extN {H H' : Hp} {x : V} {d : PyData} (s : ExtN H H') : Sh H x d → Sh H' x d
  | .non => .non
  | .bl b => .bl b
  | .int i => .int i
  | .str z => .str z
  | .lst e h => .lst (s _ _ e fun _ z => by cases z) (ShAll.extN s h)
  | .tup e h => .tup (s _ _ e fun _ z => by cases z) (ShAll.extN s h)
theorem ShAll.extN {H H' : Hp} {xs : List V} {ds : List PyData} (s : ExtN H H') : ShAll H xs ds → ShAll H' xs ds
  | .nil => .nil
  | .cons h t => .cons (Sh.extN s h) (ShAll.extN s t)
end
theorem DctL.extN {H H' : Hp} {n : Nat} {kv : List (Key × V)} (h : DctL H n kv) (s : ExtN H H') : DctL H' n kv := h.ext fun v z => z.ext fun b o e n1 _ => s b o e n1
/-- a world whose names are these -/
def Wld (H : Hp) (s c wd : Addr) (nm : List Str) : Prop := ∃ (a b t : Addr) (cl : List Str) (kvs : List (List Key × V)) (m : Nat), WorldOk H s c wd a b t nm cl kvs ∧ Ties nm.length m kvs ∧ kvs.length ≤ 4000
theorem Wld.kp {H H' : Hp} {s c wd : Addr} {nm : List Str} (W : Wld H s c wd nm) (e : Kp s c H H') : Wld H' s c wd nm := by
  obtain ⟨a, b, t, cl, kvs, m, W, r⟩ := W
  exact ⟨a, b, t, cl, kvs, m, W.kp e, r⟩
theorem Wld.extN {H H' : Hp} {s c wd : Addr} {nm : List Str} (W : Wld H s c wd nm) (e : ExtN H H') : Wld H' s c wd nm := by
  obtain ⟨a, b, t, cl, kvs, m, W, r⟩ := W
  exact ⟨a, b, t, cl, kvs, m, ⟨e _ _ W.d (fun _ z => by cases z), e _ _ W.hn (fun _ z => by cases z), e _ _ W.hc (fun _ z => by cases z), e _ _ W.ht (fun _ z => by cases z), W.ds, W.as, W.bs, W.ts, W.nn, W.nw, W.cw, W.cn, W.n1⟩, r⟩
/-- a web of these names -/
def WebH (C : Addr) (H : Hp) (s c p : Addr) (nm : List Str) : Prop := ∃ q dc : Addr, (p ≠ s ∧ p ≠ c) ∧ (q ≠ s ∧ q ≠ c) ∧ (dc ≠ s ∧ dc ≠ c) ∧ WebAt C H p q nm ∧ HasD C H p dc nm
theorem WebH.kp {C : Addr} {H H' : Hp} {s c p : Addr} {nm : List Str} (W : WebH C H s c p nm) (e : Kp s c H H') : WebH C H' s c p nm := by
  obtain ⟨q, dc, np, nq, nd, ⟨dx, fs, h1, h2, h3, h4⟩, dx', fs', kc, g1, g2, g3, g4⟩ := W
  exact ⟨q, dc, np, nq, nd, ⟨dx, fs, e _ _ h1 np.1 np.2, h2, h3, e _ _ h4 nq.1 nq.2⟩, dx', fs', kc, e _ _ g1 np.1 np.2, g2, e _ _ g3 nd.1 nd.2, g4⟩
theorem WebH.extN {C : Addr} {H H' : Hp} {s c p : Addr} {nm : List Str} (W : WebH C H s c p nm) (e : ExtN H H') : WebH C H' s c p nm := by
  obtain ⟨q, dc, np, nq, nd, ⟨dx, fs, h1, h2, h3, h4⟩, dx', fs', kc, g1, g2, g3, g4⟩ := W
  exact ⟨q, dc, np, nq, nd, ⟨dx, fs, e _ _ h1 (fun _ z => by cases z), h2, h3, e _ _ h4 (fun _ z => by cases z)⟩, dx', fs', kc, e _ _ g1 (fun _ z => by cases z), g2, e _ _ g3 (fun _ z => by cases z), g4⟩
/-- a web of these names that does not stand at D -/
def WebD (C : Addr) (H : Hp) (s c D p : Addr) (nm : List Str) : Prop := p ≠ D ∧ ∃ q dc : Addr, q ≠ D ∧ dc ≠ D ∧ (p ≠ s ∧ p ≠ c) ∧ (q ≠ s ∧ q ≠ c) ∧ (dc ≠ s ∧ dc ≠ c) ∧ WebAt C H p q nm ∧ HasD C H p dc nm
theorem WebD.web {C : Addr} {H : Hp} {s c D p : Addr} {nm : List Str} (W : WebD C H s c D p nm) : WebH C H s c p nm := by
  obtain ⟨_, q, dc, _, _, r⟩ := W
  exact ⟨q, dc, r⟩
theorem WebD.kp {C : Addr} {H H' : Hp} {s c D p : Addr} {nm : List Str} (W : WebD C H s c D p nm) (e : Kp s c H H') : WebD C H' s c D p nm := by
  obtain ⟨pD, q, dc, qD, dD, np, nq, nd, ⟨dx, fs, h1, h2, h3, h4⟩, dx', fs', kc, g1, g2, g3, g4⟩ := W
  exact ⟨pD, q, dc, qD, dD, np, nq, nd, ⟨dx, fs, e _ _ h1 np.1 np.2, h2, h3, e _ _ h4 nq.1 nq.2⟩, dx', fs', kc, e _ _ g1 np.1 np.2, g2, e _ _ g3 nd.1 nd.2, g4⟩
theorem WebD.upd {C : Addr} {H : Hp} {s c D p : Addr} {nm : List Str} {o : HO} (W : WebD C H s c D p nm) : WebD C (upd H D o) s c D p nm := by
  obtain ⟨pD, q, dc, qD, dD, np, nq, nd, ⟨dx, fs, h1, h2, h3, h4⟩, dx', fs', kc, g1, g2, g3, g4⟩ := W
  exact ⟨pD, q, dc, qD, dD, np, nq, nd, ⟨dx, fs, by rw [upd_ne pD]; exact h1, h2, h3, by rw [upd_ne qD]; exact h4⟩, dx', fs', kc, by rw [upd_ne pD]; exact g1, g2, by rw [upd_ne dD]; exact g3, g4⟩
/-- what stands before the webs are made -/
structure Bw (PT : Addr) (H : Hp) (s c wo wt ww : Addr) (n1 n2 n' : List Str) : Prop where
  S : Src H s c
  T : Tabs [(PT, lamQ)] H
  W1 : Wld H s c wo n1
  W2 : Wld H s c wt n2
  W3 : Wld H s c ww n'
  l1 : n1.length ≤ 8
  l2 : n2.length ≤ 8
  l3 : n'.length ≤ 100
theorem Bw.kp {PT : Addr} {H H' : Hp} {s c wo wt ww : Addr} {n1 n2 n' : List Str} (B : Bw PT H s c wo wt ww n1 n2 n') (e : Kp s c H H') (S : Src H' s c) : Bw PT H' s c wo wt ww n1 n2 n' :=
  ⟨S, tabs_kp B.T B.S e, B.W1.kp e, B.W2.kp e, B.W3.kp e, B.l1, B.l2, B.l3⟩
theorem Bw.same {PT : Addr} {H H' : Hp} {s c wo wt ww : Addr} {n1 n2 n' : List Str} (B : Bw PT H s c wo wt ww n1 n2 n') (e : Same H H') : Bw PT H' s c wo wt ww n1 n2 n' := B.kp (Kp.same e) (B.S.same e)
theorem Bw.extN {PT : Addr} {H H' : Hp} {s c wo wt ww : Addr} {n1 n2 n' : List Str} (B : Bw PT H s c wo wt ww n1 n2 n') (e : ExtN H H') (T : Tabs [(PT, lamQ)] H') : Bw PT H' s c wo wt ww n1 n2 n' :=
  ⟨B.S.extN e, T, B.W1.extN e, B.W2.extN e, B.W3.extN e, B.l1, B.l2, B.l3⟩
/-- and the webs -/
structure Bk (PT C : Addr) (H : Hp) (s c wo wt ww D p1 p2 p3 : Addr) (n1 n2 n' : List Str) : Prop where
  B : Bw PT H s c wo wt ww n1 n2 n'
  hD : H D = some (.lst [.ref p1, .ref p2, .ref p3])
  nD : D ≠ s ∧ D ≠ c
  A1 : WebH C H s c p1 n1
  A2 : WebH C H s c p2 n2
  A3 : WebH C H s c p3 n'
theorem Bk.kp {PT C : Addr} {H H' : Hp} {s c wo wt ww D p1 p2 p3 : Addr} {n1 n2 n' : List Str} (B : Bk PT C H s c wo wt ww D p1 p2 p3 n1 n2 n') (e : Kp s c H H') (S : Src H' s c) : Bk PT C H' s c wo wt ww D p1 p2 p3 n1 n2 n' :=
  ⟨B.B.kp e S, e _ _ B.hD B.nD.1 B.nD.2, B.nD, B.A1.kp e, B.A2.kp e, B.A3.kp e⟩
theorem Bk.same {PT C : Addr} {H H' : Hp} {s c wo wt ww D p1 p2 p3 : Addr} {n1 n2 n' : List Str} (B : Bk PT C H s c wo wt ww D p1 p2 p3 n1 n2 n') (e : Same H H') : Bk PT C H' s c wo wt ww D p1 p2 p3 n1 n2 n' := B.kp (Kp.same e) (B.B.S.same e)
theorem Bk.extN {PT C : Addr} {H H' : Hp} {s c wo wt ww D p1 p2 p3 : Addr} {n1 n2 n' : List Str} (B : Bk PT C H s c wo wt ww D p1 p2 p3 n1 n2 n') (e : ExtN H H') (T : Tabs [(PT, lamQ)] H') : Bk PT C H' s c wo wt ww D p1 p2 p3 n1 n2 n' :=
  ⟨B.B.extN e T, e _ _ B.hD (fun _ z => by cases z), B.nD, B.A1.extN e, B.A2.extN e, B.A3.extN e⟩
/-- a name of a web is short -/
theorem word_al100 {z : Str} (h : isWordB z = true) : Al 100 z := .word h
/-- what a dict of the law leads to may be asked for -/
theorem DctL.ask {K : PySem.W.Frag} {H : Hp} {n : Nat} {kv : List (Key × V)} (h : DctL H n kv) (x : Str) : AskV K H ((valV kv (Sum.inr x)).getD .non) := by
  cases e : valV kv (Sum.inr x) with
  | none => exact .non
  | some v => exact (h.get e).ask
/-- pairs of words -/
theorem dct_words {H : Hp} {n : Nat} {kv : List (Key × V)} (nd : (kv.map (·.1)).Nodup) (hl : kv.length ≤ n) (h : ∀ p ∈ kv, ∃ x y : Str, p = (Sum.inr x, V.str y) ∧ isWordB x = true ∧ isWordB y = true) : DctL H n kv :=
  ⟨nd, hl, fun p hp => by
    obtain ⟨x, y, e, hx, _⟩ := h p hp
    exact ⟨x, by rw [e], .word hx⟩, fun p hp => by
    obtain ⟨x, y, e, _, hy⟩ := h p hp
    rw [e]
    exact .str (.word hy)⟩
theorem lead_words {nm' nm : List Str} {led : List Nat} (hn' : ∀ x ∈ nm', isWordB x = true) (hn : ∀ x ∈ nm, isWordB x = true) (hl : ∀ x ∈ led, x < nm.length) : ∀ p ∈ leadKV nm' nm led, ∃ x y : Str, p = (Sum.inr x, V.str y) ∧ isWordB x = true ∧ isWordB y = true := fun p hp => by
  obtain ⟨⟨x, q⟩, hm, rfl⟩ := List.mem_map.mp hp
  have hq := hl q (List.of_mem_zip hm).2
  refine ⟨x, _, rfl, hn' x (List.of_mem_zip hm).1, ?_⟩
  show isWordB ((nm[q]?).getD "") = true
  rw [List.getElem?_eq_getElem hq]
  exact hn _ (List.getElem_mem hq)
theorem DctL.perm {H : Hp} {n : Nat} {kv kv' : List (Key × V)} (h : DctL H n kv) (p : kv'.Perm kv) : DctL H n kv' :=
  ⟨(p.map (·.1)).nodup_iff.mpr h.nd, by rw [p.length_eq]; exact h.len, fun x hx => h.key x (p.mem_iff.mp hx), fun x hx => h.val x (p.mem_iff.mp hx)⟩
/-- what the law is told -/
def ToldV (H : Hp) (r : Addr) (o : Option Str) (tb : List (List Int)) : Prop := (o = none ∧ TblAt H r tb) ∨ ∃ x, o = some x ∧ H r = some (.lst (unkV x))
def toldD (tb : List (List Int)) : Option Str → PyData
  | none => dTab tb
  | some x => dUnk x
theorem ToldV.shows {H : Hp} {r : Addr} {o : Option Str} {tb : List (List Int)} (h : ToldV H r o tb) : Sh H (.ref r) (toldD tb o) := by
  rcases h with ⟨rfl, h⟩ | ⟨x, rfl, h⟩
  · exact tab_sh h
  · exact unk_sh h
theorem ToldV.same {H H' : Hp} {r : Addr} {o : Option Str} {tb : List (List Int)} (h : ToldV H r o tb) (s : Same H H') : ToldV H' r o tb := by
  rcases h with ⟨rfl, h⟩ | ⟨x, rfl, h⟩
  · exact .inl ⟨rfl, h.same s⟩
  · exact .inr ⟨x, rfl, s _ _ h⟩
theorem due_mem {n' n1 n2 : List Str} {fk lk : List (Key × V)} {x : Str} (h : dueOf n' n1 n2 fk lk = some x) : x ∈ n' := by
  unfold dueOf badOf at h
  rcases Option.or_eq_some_iff.mp h with e | ⟨_, e⟩
  · exact List.mem_of_find?_eq_some e
  · exact List.mem_of_find?_eq_some e
theorem told_ok {n' n1 n2 : List Str} {fk lk : List (Key × V)} (h1 : n1.length ≤ 8) (h2 : n2.length ≤ 8) (h' : n'.length ≤ 1000) (al : ∀ x ∈ n', Al 100 x) : (toldD (cntT n1 n2 n' fk lk) (dueOf n' n1 n2 fk lk)).showable = true ∧ (toldD (cntT n1 n2 n' fk lk) (dueOf n' n1 n2 fk lk)).hasDict = false ∧ (toldD (cntT n1 n2 n' fk lk) (dueOf n' n1 n2 fk lk)).depth ≤ 50 ∧ (toldD (cntT n1 n2 n' fk lk) (dueOf n' n1 n2 fk lk)).shown.length ≤ sizeLine := by
  cases e : dueOf n' n1 n2 fk lk with
  | none => exact cnt_ok h1 h2 h'
  | some x => exact unk_ok (al x (due_mem e))
end Nm
set_option maxRecDepth 100000
set_option maxHeartbeats 8000000
/-! the law -/
namespace Nm
open PySem PySem.Spec PyProof.Rows L2 LamX
theorem tCons1 {A : TE} {σ : L2.St} {H : Hp} {k : List V → Hp → Prop} (h : A σ H fun x H1 => k [x] H1) : tCons A tNil σ H k := h
structure TxtL45 (P : Program) (w : World) (K : PySem.W.Frag) (mg : Str → Option Value) (base : Heap) (C fi CU : Addr) : Prop extends TxtM K mg C fi where
  U : TxtUnk P w K mg base CU
  repr : mg "repr" = none


  exm : PySem.W.exmOne K (.ref CU) (.ref CU) = some true
section
variable {P : Program} {w : World} {K : PySem.W.Frag} {mg : Str → Option Value} {base : Heap}
theorem pass_nothing {X : Cx} : Passes (L2.CX X.prog X.w) X E0 := fun _ _ _ _ _ _ _ ⟨_, _, _, _, _, _, _, _, _, _, _, _, z⟩ => z.elim
/-- a def that may let exceptions out, under a name of the module -/
structure DefX (P : Program) (w : World) (K : PySem.W.Frag) (mg : Str → Option Value) (base : Heap) (x : Str) (ps : List Str) (k : Nat) (sp : Sp) : Prop where
  ex : ∃ f fd, FnOk P w K mg base (L2.CX P w) k f fd ps sp ∧ mg x = some (.ref f) ∧ PySem.W.keepIn K (.ref f) = true ∧ L2.Binds K fd ps []
def spLaw45 (K : PySem.W.Frag) (PT : Addr) : Sp := fun vs H Q _ => ∃ (a : Addr) (ns : List Int), vs = [.ref a] ∧ SqL K H a (ns.map V.int) ∧ ns.length ≤ 63 ∧ H PT = some (.tbl #[]) ∧ ∀ H', Q (.bl true) H'
abbrev nL45 : List Str := ["_law_script", "_law_source", "_law_time", "_law_ground", "_law_one", "_law_low", "_law_other", "_law_web", "_law_high", "_law_turn", "_law_kept", "_law_told", "_law_first", "_law_last", "_law_webs", "_law_name", "_law_p", "_law_world"]
theorem scL45 : FnScope nL45 ["_law_script"] (defScope sLaw) := ⟨rfl, rfl, rfl, by decide +kernel, rfl, by decide +kernel, by decide +kernel⟩
theorem run_law45 {f C fi CU c PT g : Addr} {fd fdc : FuncData} (F : Fun K "law" "law" sLaw f fd) (hcode : ∀ (cdv : Value) oc od kV doc pm an ct osl, K.lookup f = some ⟨oc, od, .func (PySem.W.fnOf "law" "law" (defArgs sLaw) (defBody sLaw) (defScope sLaw) .none kV doc pm an cdv ct), osl⟩ → cdv = .ref c) (T : TxtL45 P w K mg base C fi CU) (TB : TabB base mg c PT) (Fc : Fun K "_law_caught" "_law_caught" sCaught g fdc) (mg' : mg "_law_caught" = some (.ref g)) (bg : L2.Binds K fdc ["_law_ask"] [])
    (Gx : Def P w K mg base "_law_open_cells" ["_law_script"] 1 (spOpen K)) (Gp : Def P w K mg base "_law_pick" ["_law_source", "_law_many"] 1 (spPick)) (Gc : Def P w K mg base "_law_choice_of" ["_law_source", "_law_items"] 2 (spChoice K)) (Gb : Def P w K mg base "_law_base" ["_law_source"] 4 (spBase)) (Go : Def P w K mg base "_law_bound_over" ["_law_source", "_law_ground", "_law_most"] 5 (spBo)) (Gr : Def P w K mg base "_law_draw_world" ["_law_source", "_law_most"] 3 spDraw) (Gv : Def P w K mg base "_law_over" ["_law_source", "_law_world", "_law_numbers"] 4 spOver)
    (Gd : Def P w K mg base "_law_dict" ["_law_source", "_law_over_here", "_law_web", "_law_led"] 4 spDict) (Gm : Def P w K mg base "_law_made" ["_law_source", "_law_world"] 7 (spMade C)) (Ga : Def P w K mg base "_law_any_dict" ["_law_source", "_law_told"] 3 spAnyDict) (Gs : Def P w K mg base "_law_spoilt" ["_law_source", "_law_led", "_law_names"] 3 spSpo) (Gu : Def P w K mg base "_law_due" ["_law_one", "_law_other", "_law_web", "_law_first", "_law_last"] 1 (spDue K)) (Gw : DefX P w K mg base "weights_of_over" ["one", "other", "over"] 4 (spWO K C CU)) :
    RunC P w K mg base CX0 f fd "_law_script" (spLaw45 K PT) := by
  refine runC_of F scL45 fun cdv s H v Q E hcd hsp => ?_
  obtain ⟨oc0, od0, kV0, doc0, pm0, an0, ct0, osl0, lk0⟩ := hcd
  obtain rfl := hcode _ _ _ _ _ _ _ _ _ lk0
  have hr : Room 8 (callerA.deeper (envOfC "law" (defScope sLaw) s.heap.objs.size f (.ref c))) := Room.deeper (k := 8) ⟨rfl, by decide +kernel, by decide +kernel⟩ _
  have hu := hu_of hr
  have hg : (cxOf CX0 P w K mg base nL45 "law" (defScope sLaw) f (.ref c) callerA [] s H E).nox.A.guards = some [] := rfl
  obtain ⟨fx, fdx, Gx, mx, kx, bx⟩ := Gx.ex
  obtain ⟨fp, fdp, Gp, mp, kp, bp⟩ := Gp.ex
  obtain ⟨fc0, fdc0, Gc, mc0, kc0, bc0⟩ := Gc.ex
  obtain ⟨fb, fdb, Gb, mb, kb, bb⟩ := Gb.ex
  obtain ⟨fo, fdo, Go, mo, ko, bo⟩ := Go.ex
  obtain ⟨fr0, fdr0, Gr, mr0, kr0, br0⟩ := Gr.ex
  obtain ⟨fv0, fdv0, Gv, mv0, kv0, bv0⟩ := Gv.ex
  obtain ⟨fd, fdd, Gd, md, kd, bd⟩ := Gd.ex
  obtain ⟨fm, fdm, Gm, mm, km, bm⟩ := Gm.ex
  obtain ⟨fa, fda, Ga, ma, ka, ba⟩ := Ga.ex
  obtain ⟨fs0, fds0, Gs, ms0, ks0, bs0⟩ := Gs.ex
  obtain ⟨fu, fdu, Gu, mu, ku, bu⟩ := Gu.ex
  obtain ⟨fw, fdw, Gw, mw, kw, bw⟩ := Gw.ex
  obtain ⟨oc, od, kVc, doc, pm, an, cdc, ct, osl, rfl, lk, hcg⟩ := Fc.ex
  obtain ⟨sa, ns, hv, hs, hn, hPT, k⟩ := hsp
  cases hv
  refine ⟨_, PSs.nox (pss_cons (ps_set (i := 1) scL45.nd rfl (Or.inr rfl) (pe_call Gx (hr.mono (by decide)) (by rfl) mx kx bx .nil pass0 (pa_cons (pv 0) pa_nil)))
      (pss_cons (ps_for PassesOwn.never rfl (pi_range1 (by rfl) T.range (pa_cons pe_int pa_nil)) (pg_name (i := 2) scL45.nd rfl (Or.inl rfl))
    (pss_cons (ps_set (i := 3) scL45.nd rfl (Or.inr rfl) (pe_call Gb (hr.mono (by decide)) (by rfl) mb kb bb .nil pass0 (pa_cons (pv 1) pa_nil)))
    (Evl.pss_cut (ps_asg (pe_call Go (hr.mono (by decide)) (by rfl) mo ko bo .nil pass0 (pa_cons (pv 1) (pa_cons (pv 3) (pa_cons pe_int pa_nil)))) (pg_tup rfl (pgs_cons (pg_name (i := 4) scL45.nd rfl (.inl rfl)) (pgs_cons (pg_name (i := 5) scL45.nd rfl (.inr rfl)) pgs_nil))))
    (Evl.pss_cut (ps_set (i := 6) scL45.nd rfl (Or.inr rfl) (pe_ifExp (pt_cmpR op_eq (pe_call Gp (hr.mono (by decide)) (by rfl) mp kp bp .nil pass0 (pa_cons (pv 1) (pa_cons pe_int pa_nil))) pe_int (nomark _)) (pe_call Gr (hr.mono (by decide)) (by rfl) mr0 kr0 br0 .nil pass0 (pa_cons (pv 1) (pa_cons pe_int pa_nil))) (pv 3)))
    (Evl.pss_cut (ps_asg (pe_call Gv (hr.mono (by decide)) (by rfl) mv0 kv0 bv0 .nil pass0 (pa_cons (pv 1) (pa_cons (pv 4) (pa_cons (pe_op op_rep (pe_lst (pa_cons (pe_op op_add pe_int (pe_call Gp (hr.mono (by decide)) (by rfl) mp kp bp .nil pass0 (pa_cons (pv 1) (pa_cons pe_int pa_nil)))) pa_nil)) (pe_callB call_len_seq (by rfl) T.len PySem.boot_len (pa_cons (pe_dget hu (pv 4) pe_str (fun _ _ => rfl)) pa_nil))) pa_nil)))) (pg_tup rfl (pgs_cons (pg_name (i := 7) scL45.nd rfl (.inl rfl)) (pgs_cons (pg_name (i := 8) scL45.nd rfl (.inl rfl)) pgs_nil))))
    (Evl.pss_cut (ps_set (i := 12) scL45.nd rfl (Or.inr rfl) (pe_call Gd (hr.mono (by decide)) (by rfl) md kd bd .nil pass0 (pa_cons (pv 1) (pa_cons (pv 7) (pa_cons (pv 4) (pa_cons (pv 8) pa_nil))))))
    (Evl.pss_cut (ps_set (i := 13) scL45.nd rfl (Or.inr rfl) (pe_callTy (call_dictP rfl) (by rfl) T.dict (by decide +kernel) (pa_cons (pe_lc (own := [("_law_name", 15)]) (g := gName 15) (tt := tYes) (te := tTup (tCons (tVar 15) (tCons (tCall (spChoice K) [] E0 (tCons (tVar 1) (tCons (tDGet (tVar 6) (tC (.str "names"))) tNil))) tNil))) rfl scL45.nd (pi_list (pe_dget hu (pv 7) pe_str (fun _ _ => rfl))) (blkOk_by (N := nL45) (sc := defScope sLaw) (by decide +kernel))
        (fun _ _ _ _ _ => pg_name (i := 15) scL45.nd rfl (Or.inl rfl)) (fun _ _ _ _ _ => pts_nil)
        (fun _ _ _ _ _ => by exact pe_tup (pa_cons (pv 15) (pa_cons (pe_call Gc (hr.mono (by decide)) (by rfl) mc0 kc0 bc0 .nil pass0 (pa_cons (pv 1) (pa_cons (pe_dget hu (pv 6) pe_str (fun _ _ => rfl)) pa_nil))) pa_nil)))) pa_nil)))
    (Evl.pss_cut (ps_if (pt_cmpR (op_eqW (Nat.lt_of_le_of_lt (Nat.add_le_add_left (by decide : 20 ≤ 64) _) hr.units)) (pv 6) (pv 3) (nomark _)) (pss_one (ps_set (i := 13) scL45.nd rfl (Or.inr rfl) (pe_callTy (call_dictP rfl) (by rfl) T.dict (by decide +kernel) (pa_cons (pe_lc (own := [("_law_name", 15), ("_law_p", 16)]) (g := gTup K 2 (gCons (gName 15) (gCons (gName 16) gNil))) (tt := tYes) (te := tTup (tCons (tVar 15) (tCons (tOp (rIxL K) (tDGet (tVar 3) (tC (.str "names"))) (tOp (rIxL K) (tVar 5) (tVar 16))) tNil))) rfl scL45.nd (pi_zip (by rfl) T.zip (pa_cons (pe_dget hu (pv 7) pe_str (fun _ _ => rfl)) (pa_cons (pv 8) pa_nil))) (blkOk_by (N := nL45) (sc := defScope sLaw) (by decide +kernel))
        (fun _ _ _ _ _ => pg_tup rfl (pgs_cons (pg_name (i := 15) scL45.nd rfl (Or.inl rfl)) (pgs_cons (pg_name (i := 16) scL45.nd rfl (Or.inl rfl)) pgs_nil))) (fun _ _ _ _ _ => pts_nil)
        (fun _ _ _ _ _ => by exact pe_tup (pa_cons (pv 15) (pa_cons (pe_ix ix_list (pe_dget hu (pv 3) pe_str (fun _ _ => rfl)) (pe_ix ix_list (pv 5) (pv 16) (fun _ _ => rfl)) (fun _ _ => rfl)) pa_nil)))) pa_nil)))) pss_nil)
    (Evl.pss_cut (ps_set (i := 14) scL45.nd rfl (Or.inr rfl) (pe_lc (own := [("_law_world", 17)]) (g := gName 17) (tt := tYes) (te := tCall (spMade C) [] E0 (tCons (tVar 1) (tCons (tVar 17) tNil))) rfl scL45.nd (pi_tup (pe_tup (pa_cons (pv 4) (pa_cons (pv 6) (pa_cons (pv 7) pa_nil))))) (blkOk_by (N := nL45) (sc := defScope sLaw) (by decide +kernel))
        (fun _ _ _ _ _ => pg_name (i := 17) scL45.nd rfl (Or.inl rfl)) (fun _ _ _ _ _ => pts_nil)
        (fun _ _ _ _ _ => by exact (pe_call Gm (hr.mono (by decide)) (by rfl) mm km bm .nil pass0 (pa_cons (pv 1) (pa_cons (pv 17) pa_nil))))))
    (pss_one (ps_for PassesOwn.never rfl (pi_range1 (by rfl) T.range (pa_cons pe_int pa_nil)) (pg_name (i := 9) scL45.nd rfl (Or.inl rfl))
      (Evl.pss_cut (ps_set (i := 10) scL45.nd rfl (Or.inl rfl) (pe_callB (call_reprDD hg hr.units) (by rfl) T.repr (by decide +kernel) (pa_cons (pe_lst (pa_cons (pv 12) (pa_cons (pv 13) pa_nil))) pa_nil)))
      (Evl.pss_cut (ps_set (i := 11) scL45.nd rfl (Or.inl rfl) (pe_lamcall (T := [(PT, (cxOf CX0 P w K mg base nL45 "law" (defScope sLaw) f (.ref c) callerA [] s H E).nox.env.qual ++ "<lambda>")]) (k := 6) (t := fun E => tCall (spWO K C CU) [] E (tCons (tOp (rIxL K) (tVar 14) (tC (.int 0))) (tCons (tOp (rIxL K) (tVar 14) (tC (.int 1))) (tCons (tTup (tCons (tOp (rIxL K) (tVar 14) (tC (.int 2))) (tCons (tVar 12) (tCons (tVar 13) tNil)))) tNil)))) (by rfl) mg' Fc.kp lk hcg bg scCt rfl (.inl rfl) (caught_givesU T.U.xf T.U.nNa T.U.mU T.repr) TB rfl
          (List.mem_singleton.mpr rfl) (fun p hp _ => by rw [List.mem_singleton.mp hp]) hr (by show LamS (defScope sLaw) _; exact lamS_by (by decide +kernel)) rfl (fun _ _ _ _ _ => rfl)
          (fun A outer s H E f c' hr' => (pe_call Gw (hr'.mono (by decide)) (by rfl) mw kw bw .nil (passes_call (takes_of rfl rfl rfl rfl) fun _ _ _ _ h => h) (pa_cons (pe_ix ix_list (pv 14) (pe_int) (fun _ _ => rfl)) (pa_cons (pe_ix ix_list (pv 14) (pe_int) (fun _ _ => rfl)) (pa_cons (pe_tup (pa_cons (pe_ix ix_list (pv 14) (pe_int) (fun _ _ => rfl)) (pa_cons (pv 12) (pa_cons (pv 13) pa_nil)))) pa_nil)))))))
      (Evl.pss_cut (ps_if (PW.pt (pw_or (pt_cmpR op_ne (pe_callB (call_repr hg hr.units) (by rfl) T.repr (by decide +kernel) (pa_cons (pv 11) pa_nil)) (pe_callB (call_repr hg hr.units) (by rfl) T.repr (by decide +kernel) (pa_cons (pe_call Gu (hr.mono (by decide)) (by rfl) mu ku bu .nil pass0 (pa_cons (pv 4) (pa_cons (pv 6) (pa_cons (pv 7) (pa_cons (pv 12) (pa_cons (pv 13) pa_nil)))))) pa_nil)) (nomark _)) (pw_or1 (pt_cmpR op_ne (pe_callB (call_reprDD hg hr.units) (by rfl) T.repr (by decide +kernel) (pa_cons (pe_lst (pa_cons (pv 12) (pa_cons (pv 13) pa_nil))) pa_nil)) (pv 10) (nomark _))))) (pss_one (ps_ret pe_bl)) pss_nil)
      (Evl.pss_cut (ps_set (i := 12) scL45.nd rfl (Or.inr rfl) (pe_call Ga (hr.mono (by decide)) (by rfl) ma ka ba .nil pass0 (pa_cons (pv 1) (pa_cons (pe_call Gs (hr.mono (by decide)) (by rfl) ms0 ks0 bs0 .nil pass0 (pa_cons (pv 1) (pa_cons (pv 12) (pa_cons (pe_dget hu (pv 4) pe_str (fun _ _ => rfl)) pa_nil)))) pa_nil))))
      (pss_one (ps_set (i := 13) scL45.nd rfl (Or.inr rfl) (pe_call Ga (hr.mono (by decide)) (by rfl) ma ka ba .nil pass0 (pa_cons (pv 1) (pa_cons (pe_call Gs (hr.mono (by decide)) (by rfl) ms0 ks0 bs0 .nil pass0 (pa_cons (pv 1) (pa_cons (pv 13) (pa_cons (pe_dget hu (pv 6) pe_str (fun _ _ => rfl)) pa_nil)))) pa_nil))))))))))))))))))))
      (pss_one (ps_ret pe_bl)))), ?_⟩
  have tab0 : Tabs [(PT, lamQ)] H := fun p hp => by
    rw [List.mem_singleton.mp hp]
    exact TabS.nil hPT
  refine ⟨_, rfl, sa, ns, rfl, hs, hn, fun s0 c0 H1 _ _ S1 s1 => ?_⟩
  refine ⟨_, rfl, by decide, by decide, ?_⟩
  refine for_range (lo := 0) (n := 4) (fun i σ H2 => Src H2 s0 c0 ∧ Tabs [(PT, lamQ)] H2 ∧ ∃ v2 v3 v4 v5 v6 v7 v8 v9 v10 v11 v12 v13 v14, σ = [some (.ref sa), some (.ref s0), v2, v3, v4, v5, v6, v7, v8, v9, v10, v11, v12, v13, v14, none, none, none]) ⟨S1, Tabs.ext tab0 s1, none, none, none, none, none, none, none, none, none, none, none, none, none, rfl⟩ ?_ (fun σ H2 h => k _)
  rintro i σ H2 hi ⟨S2, T2, v2, v3, v4, v5, v6, v7, v8, v9, v10, v11, v12, v13, v14, rfl⟩
  -- the ground
  refine ⟨_, rfl, s0, c0, rfl, S2, fun wd a b t nm cl kvs H3 _ _ _ _ W3 n2 ti3 kl3 S3 kp3 => ?_⟩
  have T3 := tabs_kp T2 S2 kp3
  -- the web over it
  refine ⟨fun σ H4 => ∃ (wo ao bo to l1 : Addr) (n1 cl1 : List Str) (kv1 : List (List Key × V)) (low : List Nat), σ = [some (.ref sa), some (.ref s0), some (.int (0 + (i : Int))), some (.ref wd), some (.ref wo), some (.ref l1), v6, v7, v8, v9, v10, v11, v12, v13, v14, none, none, none] ∧ Src H4 s0 c0 ∧ Tabs [(PT, lamQ)] H4 ∧ WorldOk H4 s0 c0 wd a b t nm cl kvs ∧ WorldOk H4 s0 c0 wo ao bo to n1 cl1 kv1 ∧ Ties n1.length 4000 kv1 ∧ kv1.length ≤ 4000 ∧ totW kv1 ≤ 180 ∧ (l1 ≠ s0 ∧ l1 ≠ c0) ∧ H4 l1 = some (.lst (natV low)) ∧ low.length = n1.length ∧ 1 ≤ low.length ∧ low.length ≤ 5 ∧ (∀ x, x ∈ low ↔ x < nm.length), ?_, ?_⟩
  · refine ⟨_, rfl, _, rfl, s0, c0, wd, a, b, t, nm, cl, kvs, rfl, S3, W3, ti3, kl3, n2, fun r wo ao bo to l1 n1 cl1 kv1 low H4 _ _ _ _ hl0 hr4 W4 ti4 kl4 tw4 hl4 g0 g1 g5 gx S4 kp4 => ?_⟩
    refine ⟨r, _, rfl, SqT.of hr4, rfl, _, _, rfl, _, _, rfl, rfl, ?_⟩
    exact ⟨wo, ao, bo, to, l1, n1, cl1, kv1, low, rfl, S4, tabs_kp T3 S3 kp4, W3.kp kp4, W4, ti4, kl4, tw4, S3.ne hl0, hl4, g0, g1, g5, gx⟩
  rintro σ H4 ⟨wo, ao, bo, to, l1, n1, cl1, kv1, low, rfl, S4, T4, W4, O4, ti4, kl4, tw4, nl1, hl4, g0, g1, g5, gx⟩
  -- the other one
  refine ⟨fun σ H5 => ∃ (wt at2 bt tt : Addr) (m2 : List Str) (cl2 : List Str) (kv2 : List (List Key × V)) (q2 : Nat), σ = [some (.ref sa), some (.ref s0), some (.int (0 + (i : Int))), some (.ref wd), some (.ref wo), some (.ref l1), some (.ref wt), v7, v8, v9, v10, v11, v12, v13, v14, none, none, none] ∧ Src H5 s0 c0 ∧ Tabs [(PT, lamQ)] H5 ∧ Kp s0 c0 H4 H5 ∧ WorldOk H5 s0 c0 wt at2 bt tt m2 cl2 kv2 ∧ Ties m2.length q2 kv2 ∧ kv2.length ≤ 4000 ∧ m2.length ≤ 8, ?_, ?_⟩
  · refine ⟨_, rfl, s0, c0, 3, rfl, S4, by decide, by decide, fun kk H5 k0 k1 S5 kp5 => ⟨rfl, _, rfl, ?_⟩⟩
    refine ite2 (fun h => ?_) (fun h => ?_)
    · refine ⟨_, rfl, s0, c0, 5, rfl, S5, by decide, by decide, fun wt at2 bt tt m2 cl2 kv2 H6 _ _ _ _ W6 n5 ti6 kl6 S6 kp6 => ?_⟩
      exact ⟨wt, at2, bt, tt, m2, cl2, kv2, 2, rfl, S6, tabs_kp T4 S4 (kp5.trans kp6), kp5.trans kp6, W6, ti6, by omega, by omega⟩
    · exact ⟨_, rfl, wd, a, b, t, nm, cl, kvs, 2, rfl, S5, tabs_kp T4 S4 kp5, kp5, W4.kp kp5, ti3, by have := ti3.len; omega, by omega⟩
  rintro σ H5 ⟨wt, at2, bt, tt, m2, cl2, kv2, q2, rfl, S5, T5, kp5, Y5, ti5, kl5, m8⟩
  have W5 := W4.kp kp5
  have O5 := O4.kp kp5
  have hl5 := kp5 _ _ hl4 nl1.1 nl1.2
  clear kp5 W4 O4 hl4 S4 T4
  have n1p := O5.n1
  -- the web above
  refine ⟨fun σ H6 => ∃ (ww aw bw tw lh : Addr) (n' cl' : List Str) (kv' : List (List Key × V)) (high : List Nat), σ = [some (.ref sa), some (.ref s0), some (.int (0 + (i : Int))), some (.ref wd), some (.ref wo), some (.ref l1), some (.ref wt), some (.ref ww), some (.ref lh), v9, v10, v11, v12, v13, v14, none, none, none] ∧ Src H6 s0 c0 ∧ Tabs [(PT, lamQ)] H6 ∧ Kp s0 c0 H5 H6 ∧ WorldOk H6 s0 c0 ww aw bw tw n' cl' kv' ∧ Ties n'.length 4000 kv' ∧ kv'.length ≤ 4000 ∧ n'.length ≤ 100 ∧ (lh ≠ s0 ∧ lh ≠ c0) ∧ H6 lh = some (.lst (natV high)) ∧ high.length = n'.length ∧ (∀ x ∈ high, x < n1.length), ?_, ?_⟩
  · have lm : (n1.map V.str).length = n1.length := List.length_map _
    refine ⟨_, rfl, _, rfl, _, rfl, s0, c0, 3, rfl, S5, by decide, by decide, fun kk H6 k0 k1 S6 kp6 => ⟨_, _, rfl, rfl, (by show 1 ≤ sizeLine; decide), fun l hl => ?_⟩⟩
    have sl := same_new (o := .lst [V.int (1 + kk)]) hl
    have O6 := O5.kp kp6
    refine ⟨_, rfl, wo, _, rfl, dg_names (sl _ _ O6.d), ao, _, rfl, .inl (SqL.of (sl _ _ O6.hn)), l, _, _, rfl, rfl, upd_same, by rw [lm]; omega, by rw [lm]; omega, by rw [lm]; exact Evl.sz_of (by simp; omega), fun nu hnu => ?_⟩
    rw [lm, Int.toNat_natCast, List.flatten_replicate_singleton]
    have sn := sl.trans (same_new (o := .lst (List.replicate n1.length (V.int (1 + kk)))) hnu)
    have hnu2 : (upd (upd H6 l (.lst [V.int (1 + kk)])) nu (.lst (List.replicate n1.length (V.int (1 + kk))))) nu = some (.lst (natV (List.replicate n1.length (1 + kk).toNat))) := by
      rw [upd_same]
      unfold natV
      rw [List.map_replicate, Int.toNat_of_nonneg (by omega)]
    obtain ⟨_, nnc⟩ := S6.ne (sl.free hnu)
    generalize upd (upd H6 l (.lst [V.int (1 + kk)])) nu (.lst (List.replicate n1.length (V.int (1 + kk)))) = H7 at *
    have S7 := S6.same sn
    have kp7 : Kp s0 c0 H5 H7 := kp6.trans (Kp.same sn)
    have rall : ∀ x ∈ List.replicate n1.length (1 + kk).toNat, x = (1 + kk).toNat := fun x hx => List.eq_of_mem_replicate hx
    refine ⟨s0, c0, wo, ao, bo, to, nu, n1, cl1, 4000, kv1, List.replicate n1.length (1 + kk).toNat, rfl, S7, O6.same sn, ti4, by omega, by omega, hnu2, nnc, by rw [List.length_replicate]; exact Nat.le_refl _, fun x hx => by rw [rall x hx]; omega, fun ps hps => ?_, ?_⟩
    · obtain ⟨pl, pn⟩ := hps.ok n1p
      obtain ⟨p, hp⟩ : ∃ p, ps[0]? = some p := ⟨_, List.getElem?_eq_getElem (by omega)⟩
      have hpm := List.mem_of_getElem? hp
      exact ⟨p, hpm, _, by rw [List.getElem?_replicate, if_pos (pn p hpm)], by omega⟩
    intro r ww aw bw tw lh n' cl' kv' high H8 _ _ _ _ hlh0 hr8 W8 n100 ti8 kl8 _ hl8 len8 lt8 _ _ S8 kp8
    refine ⟨r, _, rfl, SqT.of hr8, rfl, _, _, rfl, _, _, rfl, rfl, ?_⟩
    exact ⟨ww, aw, bw, tw, lh, n', cl', kv', high, rfl, S8, tabs_kp T5 S5 (kp7.trans kp8), kp7.trans kp8, W8, ti8, kl8, n100, S7.ne hlh0, hl8, len8, lt8⟩
  rintro σ H6 ⟨ww, aw, bw, tw, lh, n', cl', kv', high, rfl, S6, T6, kp6, Z6, ti6, kl6, n100, nlh, hlh6, hlen, hlt⟩
  have W6 := W5.kp kp6
  have O6 := O5.kp kp6
  have Y6 := Y5.kp kp6
  have hl6 := kp6 _ _ hl5 nl1.1 nl1.2
  clear kp6 W5 O5 Y5 hl5 S5 T5
  have B6 : Bw PT H6 s0 c0 wo wt ww n1 m2 n' := ⟨S6, T6, ⟨ao, bo, to, cl1, kv1, 4000, O6, ti4, kl4⟩, ⟨at2, bt, tt, cl2, kv2, q2, Y6, ti5, kl5⟩, ⟨aw, bw, tw, cl', kv', 4000, Z6, ti6, kl6⟩, by omega, m8, n100⟩
  -- first
  refine ⟨fun σ H7 => ∃ (d1 : Addr) (fk : List (Key × V)), σ = [some (.ref sa), some (.ref s0), some (.int (0 + (i : Int))), some (.ref wd), some (.ref wo), some (.ref l1), some (.ref wt), some (.ref ww), some (.ref lh), v9, v10, v11, some (.ref d1), v13, v14, none, none, none] ∧ Src H7 s0 c0 ∧ Kp s0 c0 H6 H7 ∧ (d1 ≠ s0 ∧ d1 ≠ c0) ∧ H7 d1 = some (.dK fk) ∧ DctL H7 101 fk, ?_, ?_⟩
  · refine ⟨_, rfl, _, rfl, _, rfl, _, rfl, s0, c0, ww, aw, bw, tw, wo, ao, bo, to, lh, n', n1, high, rfl, S6, Z6.d, Z6.hn, O6.d, O6.hn, hlh6, hlen, hlt, Z6.nn, n100, fun p fk H7 hp0 pm hp S7 kp7 => ?_⟩
    have D0 : DctL H7 101 (leadKV n' n1 high) := dct_words (lead_nd hlen Z6.nn) (by unfold leadKV; rw [List.length_map, List.length_zip]; omega) (lead_words Z6.nw O6.nw hlt)
    exact ⟨p, fk, rfl, S7, kp7, S6.ne hp0, hp, D0.perm pm⟩
  rintro σ H7 ⟨d1, fk, rfl, S7, kp7, nd1, hd1, D7⟩
  have W7 := W6.kp kp7
  have Y7 := Y6.kp kp7
  have Z7 := Z6.kp kp7
  have B7 := B6.kp kp7 S7
  have hl7 := kp7 _ _ hl6 nl1.1 nl1.2
  have hlh7 := kp7 _ _ hlh6 nlh.1 nlh.2
  clear kp7 W6 Y6 Z6 B6 O6 hl6 hlh6 S6
  -- last
  refine ⟨fun σ H8 => ∃ (d2 : Addr) (lk2 : List (Key × V)), σ = [some (.ref sa), some (.ref s0), some (.int (0 + (i : Int))), some (.ref wd), some (.ref wo), some (.ref l1), some (.ref wt), some (.ref ww), some (.ref lh), v9, v10, v11, some (.ref d1), some (.ref d2), v14, none, none, none] ∧ Src H8 s0 c0 ∧ Kp s0 c0 H7 H8 ∧ (d2 ≠ s0 ∧ d2 ≠ c0) ∧ H8 d2 = some (.dK lk2) ∧ DctL H8 101 lk2, ?_, ?_⟩
  · refine ⟨_, rfl, ww, _, rfl, dg_names Z7.d, aw, rfl, ⟨_, SqL.of Z7.hn⟩, fun D hD => ?_⟩
    obtain ⟨nDs, nDc⟩ := S7.ne hD
    have ndt : at2 ≠ D := ne_of_none Y7.hn hD
    refine lc_list (xs := n'.map V.str) (fun j H8 => ∃ (ps : List Addr) (kv : List (Key × V)), H8 D = some (.lst (ps.map V.ref)) ∧ ps.length = j ∧ kv.map (·.1) = (n'.take j).map Sum.inr ∧ (∀ p ∈ kv, ∃ x y : Str, p = (Sum.inr x, V.str y) ∧ isWordB x = true ∧ isWordB y = true) ∧ Paired (fun p kv => H8 p = some (.tup [kV kv.1, kv.2]) ∧ (p ≠ s0 ∧ p ≠ c0)) ps kv ∧ Src H8 s0 c0 ∧ Kp s0 c0 H7 H8) ⟨[], [], upd_same, rfl, rfl, fun p hp => (List.not_mem_nil hp).elim, .nil, S7.new hD, Kp.same (same_new hD)⟩ (fun j H8 _ ⟨_, _, _, _, _, _, _, _, q⟩ => SqL.of (q _ _ Z7.hn Z7.as.1 Z7.as.2)) ?_ ?_
    · rintro j x H8 hj ⟨ps, kv, hD8, hpl, hkk, hkw, hpr, S8, kp8⟩
      rw [List.getElem?_map] at hj
      obtain ⟨x0, hx0, rfl⟩ := Option.map_eq_some_iff.mp hj
      have jl := (List.getElem?_eq_some_iff.mp hx0).1
      have Y8 := Y7.kp kp8
      have y1 := Y8.n1
      refine ⟨rfl, tyes ?_⟩
      refine ⟨_, rfl, _, rfl, _, rfl, wt, _, rfl, dg_names Y8.d, s0, c0, at2, _, rfl, S8, Y8.as.1, Y8.as.2, SqL.of Y8.hn, by rw [List.length_map]; omega, by rw [List.length_map]; omega, fun y H9 hy S9 kp9 => ?_⟩
      obtain ⟨y0, hy0, rfl⟩ := List.mem_map.mp hy
      refine ⟨(by show 2 ≤ sizeLine; decide), fun u hu9 => ?_⟩
      have su := same_new (o := .tup [V.str x0, V.str y0]) hu9
      have hD9 := kp9 _ _ hD8 nDs nDc
      have nuD : u ≠ D := fun e => by subst e; rw [hD9] at hu9; cases hu9
      refine ⟨_, su _ _ hD9, Evl.sz_lt (by rw [List.length_map]; omega), ps ++ [u], kv ++ [(Sum.inr x0, V.str y0)], by rw [upd_same, List.map_append]; rfl, by simp [hpl], ?_, fun p hp => ?_, ?_, (S9.same su).upd nDs nDc, ?_⟩
      · rw [List.map_append, hkk, List.take_add_one, hx0, List.map_append]
        rfl
      · rcases List.mem_append.mp hp with e | e
        · exact hkw p e
        · rw [List.mem_singleton.mp e]
          exact ⟨x0, y0, rfl, Z7.nw x0 (List.mem_of_getElem? hx0), Y7.nw y0 hy0⟩
      · refine paired_snoc (Paired.mapP hpr fun p kv h => ?_) ?_
        · refine ⟨?_, h.2⟩
          rw [upd_ne (ne_of h.1 hD8 (by intro z; cases z))]
          exact su _ _ (kp9 _ _ h.1 h.2.1 h.2.2)
        · refine ⟨?_, S9.ne hu9⟩
          rw [upd_ne nuD]
          exact upd_same
      · exact ((kp8.trans kp9).trans (Kp.same su)).off hD
    · rintro H8 ⟨ps, kv, hD8, hpl, hkk, hkw, hpr, S8, kp8⟩
      rw [List.length_map, List.take_length] at hkk
      refine ⟨D, ps, kv, rfl, SqL.of hD8, Paired.mapP hpr fun p kv h => SqT.of h.1, fun r hr => ?_⟩
      have nd : (kv.map (·.1)).Nodup := by
        rw [hkk]
        exact List.Pairwise.map _ (fun a b hab e => hab (Sum.inr.inj e)) Z7.nn
      have kl : kv.length ≤ 101 := by
        have := congrArg List.length hkk
        rw [List.length_map, List.length_map] at this
        omega
      have e0 : mergeK [] kv = kv := by
        rw [merge_nd (acc := []) (by simpa using nd)]
        rfl
      rw [e0]
      exact ⟨r, kv, rfl, S8.new hr, kp8.trans (Kp.same (same_new hr)), S8.ne hr, upd_same, dct_words nd kl hkw⟩
  rintro σ H8 ⟨d2, lk2, rfl, S8, kp8, nd2, hd2, E8⟩
  have W8 := W7.kp kp8
  have Y8 := Y7.kp kp8
  have Z8 := Z7.kp kp8
  have B8 := B7.kp kp8 S8
  have hl8 := kp8 _ _ hl7 nl1.1 nl1.2
  have hlh8 := kp8 _ _ hlh7 nlh.1 nlh.2
  have hd18 := kp8 _ _ hd1 nd1.1 nd1.2
  have D8 := D7.kp S7 kp8
  clear kp8 W7 Y7 Z7 B7 hl7 hlh7 S7 hd1 D7
  -- where the other is the ground
  refine ⟨fun σ H9 => ∃ (d2 : Addr) (lk2 : List (Key × V)), σ = [some (.ref sa), some (.ref s0), some (.int (0 + (i : Int))), some (.ref wd), some (.ref wo), some (.ref l1), some (.ref wt), some (.ref ww), some (.ref lh), v9, v10, v11, some (.ref d1), some (.ref d2), v14, none, none, none] ∧ Bw PT H9 s0 c0 wo wt ww n1 m2 n' ∧ (d2 ≠ s0 ∧ d2 ≠ c0) ∧ H9 d1 = some (.dK fk) ∧ DctL H9 101 fk ∧ H9 d2 = some (.dK lk2) ∧ DctL H9 101 lk2, ?_, ?_⟩
  · refine ⟨_, rfl, _, rfl, wt, wd, at2, bt, tt, a, b, t, m2, cl2, nm, cl, kv2, kvs, rfl, rfl, Y8.d, W8.d, Y8.hn, W8.hn, Y8.hc, W8.hc, Y8.ht, W8.ht, fun kv hm => ?_, fun kv hm => ?_, fun rb => ?_⟩
    · obtain ⟨x, e, _⟩ := ti5.val kv hm
      exact ⟨_, e⟩
    · obtain ⟨x, e, _⟩ := ti3.val kv hm
      exact ⟨_, e⟩
    refine ⟨rb, rfl, ?_⟩
    cases rb with
    | false => exact iteF ⟨d2, lk2, rfl, B8, nd2, hd18, D8, hd2, E8⟩
    | true =>
      refine iteT ?_
      refine ⟨_, rfl, ww, _, rfl, dg_names Z8.d, _, rfl, aw, lh, _, _, rfl, SqL.of Z8.hn, SqL.of hlh8, fun D hD => ?_⟩
      have lowlt : ∀ x ∈ high, low.getD x 0 < nm.length := fun x hx => by
        have hx1 := hlt x hx
        rw [← g0] at hx1
        rw [List.getD_eq_getElem?_getD, List.getElem?_eq_getElem hx1]
        exact (gx _).mp (List.getElem_mem hx1)
      have hup : ∀ x ∈ high.map fun x => low.getD x 0, x < nm.length := fun x hx => by
        obtain ⟨y, hy, rfl⟩ := List.mem_map.mp hx
        exact lowlt y hy
      have ul : (high.map fun x => low.getD x 0).length = n'.length := by rw [List.length_map, hlen]
      generalize hU : (high.map fun x => low.getD x 0) = up at hup ul
      refine lc_it (walk_zip (xs := n'.map V.str) (ys := natV high) (n := n'.length) (by rw [List.length_map, List.length_map]; omega)) (fun i H9 => ∃ ps : List Addr, H9 D = some (.lst (ps.map V.ref)) ∧ ps.length = i ∧ Paired (fun p kv => H9 p = some (.tup [kV kv.1, kv.2])) ps ((leadKV n' nm up).take i) ∧ Same H8 H9) ⟨[], upd_same, rfl, .nil, same_new hD⟩ (fun i H9 _ ⟨_, _, _, _, h⟩ => ⟨SqL.of (h _ _ Z8.hn), SqL.of (h _ _ hlh8)⟩) ?_ ?_
      · rintro j x H9 H10 hj ⟨ps, hD9, hpsl, pr, s9⟩ ⟨T9, x1, y1, rfl, hT, rfl, e1, e2⟩
        have e1 : (n'.map V.str)[j]? = some x1 := e1
        have e2 : (natV high)[j]? = some y1 := e2
        rw [List.getElem?_map] at e1 e2
        obtain ⟨x0, hx0, rfl⟩ := Option.map_eq_some_iff.mp e1
        obtain ⟨y0, hy0, rfl⟩ := Option.map_eq_some_iff.mp e2
        have hym := List.mem_of_getElem? hy0
        have hy1 := hlt y0 hym
        rw [← g0] at hy1
        have hlow : (natV low)[y0]? = some (V.int ((low.getD y0 0 : Nat) : Int)) := by
          unfold natV
          rw [List.getElem?_map, List.getD_eq_getElem?_getD, List.getElem?_eq_getElem hy1]
          rfl
        have hyn := lowlt y0 hym
        obtain ⟨z0, hz0⟩ : ∃ z0, nm[low.getD y0 0]? = some z0 := ⟨_, List.getElem?_eq_getElem hyn⟩
        have hup1 : up[j]? = some (low.getD y0 0) := by
          rw [← hU, List.getElem?_map, hy0]
          rfl
        have sT := same_new (o := .tup [V.str x0, V.int (y0 : Int)]) hT
        refine ⟨T9, _, rfl, SqT.of upd_same, rfl, _, _, rfl, _, _, rfl, rfl, rfl, tyes ?_⟩
        refine ⟨_, rfl, _, rfl, wd, _, rfl, dg_names (sT _ _ (s9 _ _ W8.d)), _, rfl, _, rfl, l1, _, _, _, rfl, rfl, SqL.of (sT _ _ (s9 _ _ hl8)), atI_nat hlow, a, _, _, V.str z0, rfl, rfl, SqL.of (sT _ _ (s9 _ _ W8.hn)), atI_nat (by rw [List.getElem?_map, hz0]; rfl), (by show 2 ≤ sizeLine; decide), fun u hu9 => ?_⟩
        have su := sT.trans (same_new (o := .tup [V.str x0, V.str z0]) hu9)
        have nDu : u ≠ D := fun e => by subst e; rw [sT _ _ hD9] at hu9; cases hu9
        have jl := (List.getElem?_eq_some_iff.mp hx0).1
        refine ⟨_, su _ _ hD9, Evl.sz_lt (by rw [List.length_map]; omega), ps ++ [u], by rw [upd_same, List.map_append]; rfl, by simp [hpsl], ?_, fun b o e => ?_⟩
        · have e : (leadKV n' nm up)[j]? = some (Sum.inr x0, V.str z0) := by
            unfold leadKV
            have hz : (n'.zip up)[j]? = some (x0, low.getD y0 0) := by rw [List.getElem?_zip_eq_some]; exact ⟨hx0, hup1⟩
            rw [List.getElem?_map, hz]
            show some ((Sum.inr x0 : Key), V.str ((nm[low.getD y0 0]?).getD "")) = _
            rw [hz0]
            rfl
          rw [List.take_add_one, e]
          refine paired_snoc (Paired.mapP pr fun p kv h => ?_) ?_
          · rw [upd_ne (ne_of h hD9 (by intro z; cases z))]
            exact su _ _ h
          · rw [upd_ne nDu]
            exact upd_same
        · rw [upd_ne (ne_of_none e hD)]
          exact su _ _ (s9 b o e)
      · rintro H9 ⟨ps, hD9, hpsl, pr, s9⟩
        have hlk : (leadKV n' nm up).length = n'.length := by unfold leadKV; simp; omega
        rw [List.take_of_length_le (by omega)] at pr
        refine ⟨D, ps, leadKV n' nm up, rfl, SqL.of hD9, Paired.mapP pr fun p kv h => SqT.of h, fun r hr => ?_⟩
        have lnd := lead_nd (nm := nm) ul Z8.nn
        have e0 : mergeK [] (leadKV n' nm up) = leadKV n' nm up := by
          rw [merge_nd (acc := []) (by simpa using lnd)]
          rfl
        rw [e0]
        have s10 := s9.trans (same_new (o := .dK (leadKV n' nm up)) hr)
        exact ⟨r, leadKV n' nm up, rfl, B8.same s10, S8.ne (s9.free hr), s10 _ _ hd18, D8.same s10, upd_same, dct_words lnd (by omega) (lead_words Z8.nw W8.nw hup)⟩
  clear B8 nd2 hd18 D8 hd2 E8 W8 Y8 Z8 S8 hl8 hlh8 lk2 d2
  rintro σ H9 ⟨d2, lk2, rfl, B9, nd2, hd1, D9, hd2, E9⟩
  -- the webs
  refine ⟨fun σ H10 => ∃ (D p1 p2 p3 : Addr), σ = [some (.ref sa), some (.ref s0), some (.int (0 + (i : Int))), some (.ref wd), some (.ref wo), some (.ref l1), some (.ref wt), some (.ref ww), some (.ref lh), v9, v10, v11, some (.ref d1), some (.ref d2), some (.ref D), none, none, none] ∧ Bk PT C H10 s0 c0 wo wt ww D p1 p2 p3 n1 m2 n' ∧ H10 d1 = some (.dK fk) ∧ DctL H10 101 fk ∧ H10 d2 = some (.dK lk2) ∧ DctL H10 101 lk2, ?_, ?_⟩
  · refine ⟨_, rfl, _, rfl, _, rfl, (by show 3 ≤ sizeLine; decide), fun q hq => ⟨q, rfl, ⟨_, SqT.of upd_same⟩, ?_⟩⟩
    have sq := same_new (o := .tup [V.ref wo, V.ref wt, V.ref ww]) hq
    have hq1 : (upd H9 q (.tup [V.ref wo, V.ref wt, V.ref ww])) q = some (.tup [V.ref wo, V.ref wt, V.ref ww]) := upd_same
    obtain ⟨nqs, nqc⟩ := B9.S.ne hq
    have B10 := B9.same sq
    have hd1a := sq _ _ hd1
    have hd2a := sq _ _ hd2
    have D10 := D9.same sq
    have E10 := E9.same sq
    generalize upd H9 q (.tup [V.ref wo, V.ref wt, V.ref ww]) = G at *
    intro D hD
    obtain ⟨nDs, nDc⟩ := B10.S.ne hD
    let sel : Nat → List Str := fun j => if j = 0 then n1 else if j = 1 then m2 else n'
    refine lc_it (walk_tup (xs := [V.ref wo, V.ref wt, V.ref ww])) (fun j H10 => ∃ ps : List Addr, ps.length = j ∧ H10 D = some (.lst (ps.map V.ref)) ∧ (∀ (k : Nat) (p : Addr), ps[k]? = some p → WebD C H10 s0 c0 D p (sel k)) ∧ Src H10 s0 c0 ∧ Kp s0 c0 G H10) ⟨[], rfl, upd_same, fun k p h => (by simp at h), B10.S.new hD, Kp.same (same_new hD)⟩ (fun j H10 _ ⟨_, _, _, _, _, kp⟩ => SqT.of (kp _ _ hq1 nqs nqc)) ?_ ?_
    · rintro j x H11 H10 hj ⟨ps, hpl, hD10, hps, S10, kp10⟩ ⟨rfl, hx⟩
      obtain ⟨wx, nx, rfl, ⟨a0, b0, t0, c1, kz, mz, Wx, tix, klx⟩, nx1, hsel⟩ : ∃ wx nx, x = V.ref wx ∧ Wld H10 s0 c0 wx nx ∧ nx.length ≤ 100 ∧ sel j = nx := by
        have h1 := B10.l1
        have h2 := B10.l2
        match j, hx with
        | 0, hx => exact ⟨wo, n1, (Option.some.inj hx).symm, B10.W1.kp kp10, by omega, rfl⟩
        | 1, hx => exact ⟨wt, m2, (Option.some.inj hx).symm, B10.W2.kp kp10, by omega, rfl⟩
        | 2, hx => exact ⟨ww, n', (Option.some.inj hx).symm, B10.W3.kp kp10, n100, rfl⟩
        | j + 3, hx => cases hx
      refine ⟨rfl, tyes ?_⟩
      refine ⟨_, rfl, _, rfl, s0, c0, wx, a0, b0, t0, nx, c1, kz, mz, rfl, S10, Wx, tix, klx, by omega, fun p q0 dc H12 hp0 hq0 hc0 hw hh S12 kp12 => ?_⟩
      have hD12 := kp12 _ _ hD10 nDs nDc
      have npD : p ≠ D := fun e => by subst e; rw [hD10] at hp0; cases hp0
      have nqD : q0 ≠ D := fun e => by subst e; rw [hD10] at hq0; cases hq0
      have ncD : dc ≠ D := fun e => by subst e; rw [hD10] at hc0; cases hc0
      have j3 : j < 3 := hj
      refine ⟨_, hD12, Evl.sz_lt (by rw [List.length_map]; omega), ps ++ [p], by rw [List.length_append, hpl]; rfl, by rw [upd_same, List.map_append]; rfl, fun k p' hk => ?_, S12.upd nDs nDc, (kp10.trans kp12).off hD⟩
      by_cases hk1 : k < ps.length
      · rw [List.getElem?_append_left hk1] at hk
        exact ((hps k p' hk).kp kp12).upd
      · rw [List.getElem?_append_right (by omega)] at hk
        have hk0 : k - ps.length = 0 := by
          have := (List.getElem?_eq_some_iff.mp hk).1
          simp at this
          omega
        rw [hk0] at hk
        cases hk
        have ek : k = j := by omega
        subst ek
        rw [hsel]
        exact WebD.upd ⟨npD, q0, dc, nqD, ncD, S10.ne hp0, S10.ne hq0, S10.ne hc0, hw, hh⟩
    · rintro H10 ⟨ps, hpl, hD10, hps, S10, kp10⟩
      match ps, hpl, hD10, hps with
      | [p1, p2, p3], _, hD10, hps =>
        exact ⟨D, p1, p2, p3, rfl, ⟨B10.kp kp10 S10, hD10, ⟨nDs, nDc⟩, (hps 0 p1 rfl).web, (hps 1 p2 rfl).web, (hps 2 p3 rfl).web⟩, kp10 _ _ hd1a nd1.1 nd1.2, D10.kp B10.S kp10, kp10 _ _ hd2a nd2.1 nd2.2, E10.kp B10.S kp10⟩
  clear B9 hd1 D9 hd2 E9
  rintro σ H10 ⟨D, p1, p2, p3, rfl, B10, hd1, D10, hd2, E10⟩
  have al : ∀ x ∈ n', Al 100 x := by
    obtain ⟨_, _, _, _, _, _, W, _⟩ := B10.B.W3
    exact fun x hx => .word (W.nw x hx)
  -- three turns
  refine ⟨_, rfl, by decide, by decide, ?_⟩
  refine for_range (lo := 0) (n := 3) (fun j σ H11 => ∃ v9 v10 v11 d1 d2 fk lk2, σ = [some (.ref sa), some (.ref s0), some (.int (0 + (i : Int))), some (.ref wd), some (.ref wo), some (.ref l1), some (.ref wt), some (.ref ww), some (.ref lh), v9, v10, v11, some (.ref d1), some (.ref d2), some (.ref D), none, none, none] ∧ Bk PT C H11 s0 c0 wo wt ww D p1 p2 p3 n1 m2 n' ∧ (d1 ≠ s0 ∧ d1 ≠ c0) ∧ (d2 ≠ s0 ∧ d2 ≠ c0) ∧ H11 d1 = some (.dK fk) ∧ DctL H11 (101 + j) fk ∧ H11 d2 = some (.dK lk2) ∧ DctL H11 (101 + j) lk2) ⟨v9, v10, v11, d1, d2, fk, lk2, rfl, B10, nd1, nd2, hd1, D10, hd2, E10⟩ ?_ (fun σ H11 h => ?_)
  · clear B10 hd1 D10 hd2 E10 nd1 nd2 d1 d2 fk lk2
    rintro j σ H11 hj ⟨v9, v10, v11, d1, d2, fk, lk2, rfl, B11, nd1, nd2, hd1, D11, hd2, E11⟩
    obtain ⟨da, sA, okA⟩ := D11.shows
    obtain ⟨db, sB, okB⟩ := E11.shows
    obtain ⟨w1, w2, w3, w4, w5⟩ := two_dicts okA okB (by omega) (by omega)
    -- kept
    refine ⟨fun σ H12 => σ = [some (.ref sa), some (.ref s0), some (.int (0 + (i : Int))), some (.ref wd), some (.ref wo), some (.ref l1), some (.ref wt), some (.ref ww), some (.ref lh), some (.int (0 + (j : Int))), some (.str (PyData.list [dctD fk da, dctD lk2 db]).shown), v11, some (.ref d1), some (.ref d2), some (.ref D), none, none, none] ∧ Bk PT C H12 s0 c0 wo wt ww D p1 p2 p3 n1 m2 n' ∧ H12 d1 = some (.dK fk) ∧ DctL H12 (101 + j) fk ∧ H12 d2 = some (.dK lk2) ∧ DctL H12 (101 + j) lk2 ∧ ShAll H12 (fk.map (·.2)) da ∧ ShAll H12 (lk2.map (·.2)) db, ?_, ?_⟩
    · refine ⟨_, rfl, _, rfl, (by show 2 ≤ sizeLine; decide), fun l hl => ?_⟩
      have sl := same_new (o := .lst [V.ref d1, V.ref d2]) hl
      exact ⟨l, d1, d2, fk, lk2, da, db, rfl, upd_same, sl _ _ hd1, sl _ _ hd2, ShAll.extN (ExtN.of sl) sA, ShAll.extN (ExtN.of sl) sB, w1, w2, w3, w4, w5, rfl, B11.same sl, sl _ _ hd1, D11.same sl, sl _ _ hd2, E11.same sl, ShAll.extN (ExtN.of sl) sA, ShAll.extN (ExtN.of sl) sB⟩
    clear B11 hd1 D11 hd2 E11 sA sB
    rintro σ H12 ⟨rfl, B12, hd1, D12, hd2, E12, sA, sB⟩
    obtain ⟨u1, u2, u3, u4⟩ := told_ok (fk := fk) (lk := lk2) B12.B.l1 B12.B.l2 (Nat.le_trans B12.B.l3 (by decide)) al
    -- told
    refine ⟨fun σ H13 => ∃ r, σ = [some (.ref sa), some (.ref s0), some (.int (0 + (i : Int))), some (.ref wd), some (.ref wo), some (.ref l1), some (.ref wt), some (.ref ww), some (.ref lh), some (.int (0 + (j : Int))), some (.str (PyData.list [dctD fk da, dctD lk2 db]).shown), some (.ref r), some (.ref d1), some (.ref d2), some (.ref D), none, none, none] ∧ ToldV H13 r (dueOf n' n1 m2 fk lk2) (cntT n1 m2 n' fk lk2) ∧ Bk PT C H13 s0 c0 wo wt ww D p1 p2 p3 n1 m2 n' ∧ H13 d1 = some (.dK fk) ∧ DctL H13 (101 + j) fk ∧ H13 d2 = some (.dK lk2) ∧ DctL H13 (101 + j) lk2 ∧ ShAll H13 (fk.map (·.2)) da ∧ ShAll H13 (lk2.map (·.2)) db, ?_, ?_⟩
    · refine ⟨B12.B.T, fun H13 e13 T13 => ?_⟩
      have B13 := B12.extN e13 T13
      have hd1 := e13 _ _ hd1 (fun _ z => by cases z)
      have hd2 := e13 _ _ hd2 (fun _ z => by cases z)
      have D13 := D12.extN e13
      have E13 := E12.extN e13
      have sA := ShAll.extN e13 sA
      have sB := ShAll.extN e13 sB
      refine ⟨_, rfl, D, _, _, V.ref p1, rfl, rfl, SqL.of B13.hD, atI_nat (j := 0) rfl, _, rfl, D, _, _, V.ref p2, rfl, rfl, SqL.of B13.hD, atI_nat (j := 1) rfl, _, rfl, D, _, _, V.ref p3, rfl, rfl, SqL.of B13.hD, atI_nat (j := 2) rfl, _, rfl, _, rfl, (by show 3 ≤ sizeLine; decide), fun ov hov => ?_⟩
      have so := same_new (o := .tup [V.ref p3, V.ref d1, V.ref d2]) hov
      have hov1 : (upd H13 ov (.tup [V.ref p3, V.ref d1, V.ref d2])) ov = some (.tup [V.ref p3, V.ref d1, V.ref d2]) := upd_same
      have B14 := B13.same so
      have hd1 := so _ _ hd1
      have hd2 := so _ _ hd2
      have D14 := D13.same so
      have E14 := E13.same so
      have sA := ShAll.extN (ExtN.of so) sA
      have sB := ShAll.extN (ExtN.of so) sB
      generalize upd H13 ov (.tup [V.ref p3, V.ref d1, V.ref d2]) = H14 at *
      obtain ⟨q1, dc1, _, _, _, wa1, hd1c⟩ := B14.A1
      obtain ⟨q2, dc2, _, _, _, wa2, hd2c⟩ := B14.A2
      obtain ⟨q3, dc3, _, _, _, wa3, _⟩ := B14.A3
      refine ⟨p1, q1, p2, q2, ov, p3, q3, d1, d2, n1, m2, n', fk, lk2, rfl, ⟨wa1, hd1c.has⟩, ⟨wa2, hd2c.has⟩, hov1, wa3, hd1, hd2, B14.B.l1, B14.B.l2, Nat.le_trans B14.B.l3 (by decide), al, D14.ask, E14.ask, fun hno p H15 tb s15 => ?_, fun x d H15 hx _ hdd s15 => ?_⟩
      · exact ⟨p, rfl, .inl ⟨hno, tb⟩, B14.same s15, s15 _ _ hd1, D14.same s15, s15 _ _ hd2, E14.same s15, ShAll.extN (ExtN.of s15) sA, ShAll.extN (ExtN.of s15) sB⟩
      · refine ⟨true, T.exm, fun _ => ⟨rfl, x, d, rfl, hdd, ?_, fun r hr => ?_⟩, fun z => by cases z⟩
        · have := (al x (due_mem hx)).repr.1
          exact Evl.sz_of (by omega)
        · have s16 := s15.trans (same_new (o := .lst (unkV x)) hr)
          exact ⟨r, rfl, .inr ⟨x, hx, upd_same⟩, B14.same s16, s16 _ _ hd1, D14.same s16, s16 _ _ hd2, E14.same s16, ShAll.extN (ExtN.of s16) sA, ShAll.extN (ExtN.of s16) sB⟩
    clear B12 hd1 D12 hd2 E12 sA sB
    rintro σ H13 ⟨r, rfl, tv, B13, hd1, D13, hd2, E13, sA, sB⟩
    -- the two tests
    refine ⟨fun σ H14 => σ = [some (.ref sa), some (.ref s0), some (.int (0 + (i : Int))), some (.ref wd), some (.ref wo), some (.ref l1), some (.ref wt), some (.ref ww), some (.ref lh), some (.int (0 + (j : Int))), some (.str (PyData.list [dctD fk da, dctD lk2 db]).shown), some (.ref r), some (.ref d1), some (.ref d2), some (.ref D), none, none, none] ∧ Bk PT C H14 s0 c0 wo wt ww D p1 p2 p3 n1 m2 n' ∧ H14 d1 = some (.dK fk) ∧ DctL H14 (101 + j) fk ∧ H14 d2 = some (.dK lk2) ∧ DctL H14 (101 + j) lk2, ?_, ?_⟩
    · obtain ⟨a1, b1, t1, _, _, _, V1, _⟩ := B13.B.W1
      obtain ⟨a2, b2, t2, _, _, _, V2, _⟩ := B13.B.W2
      obtain ⟨a3, b3, t3, _, _, _, V3, _⟩ := B13.B.W3
      refine ⟨_, rfl, r, _, rfl, tv.shows, u1, u2, u3, u4, ?_⟩
      refine ⟨_, rfl, _, rfl, _, rfl, _, rfl, _, rfl, wo, wt, ww, d1, d2, a1, b1, t1, a2, b2, t2, a3, b3, t3, n1, m2, n', fk, lk2, rfl, V1.d, V1.hn, V2.d, V2.hn, V3.d, V3.hn, hd1, hd2, B13.B.l1, B13.B.l2, Nat.le_trans B13.B.l3 (by decide), al, D13.ask, E13.ask, fun hno p H14 tb s14 => ?_, fun x p H14 hx _ hp s14 => ?_⟩
      · refine ⟨p, _, rfl, ToldV.shows (.inl ⟨hno, tb⟩), u1, u2, u3, u4, rfl, _, rfl, ne_sameI ?_⟩
        refine ⟨_, rfl, _, rfl, (by show 2 ≤ sizeLine; decide), fun l hl => ?_⟩
        have sl := s14.trans (same_new (o := .lst [V.ref d1, V.ref d2]) hl)
        exact ⟨l, d1, d2, fk, lk2, da, db, rfl, upd_same, sl _ _ hd1, sl _ _ hd2, ShAll.extN (ExtN.of sl) sA, ShAll.extN (ExtN.of sl) sB, w1, w2, w3, w4, w5, _, rfl, rfl, _, rfl, ne_sameI ⟨rfl, B13.same sl, sl _ _ hd1, D13.same sl, sl _ _ hd2, E13.same sl⟩⟩
      · refine ⟨p, _, rfl, ToldV.shows (.inr ⟨x, hx, hp⟩), u1, u2, u3, u4, rfl, _, rfl, ne_sameI ?_⟩
        refine ⟨_, rfl, _, rfl, (by show 2 ≤ sizeLine; decide), fun l hl => ?_⟩
        have sl := s14.trans (same_new (o := .lst [V.ref d1, V.ref d2]) hl)
        exact ⟨l, d1, d2, fk, lk2, da, db, rfl, upd_same, sl _ _ hd1, sl _ _ hd2, ShAll.extN (ExtN.of sl) sA, ShAll.extN (ExtN.of sl) sB, w1, w2, w3, w4, w5, _, rfl, rfl, _, rfl, ne_sameI ⟨rfl, B13.same sl, sl _ _ hd1, D13.same sl, sl _ _ hd2, E13.same sl⟩⟩
    clear B13 hd1 D13 hd2 E13 sA sB tv
    rintro σ H14 ⟨rfl, B14, hd1, D14, hd2, E14⟩
    -- spoilt
    refine ⟨fun σ H15 => ∃ d1n fkn, σ = [some (.ref sa), some (.ref s0), some (.int (0 + (i : Int))), some (.ref wd), some (.ref wo), some (.ref l1), some (.ref wt), some (.ref ww), some (.ref lh), some (.int (0 + (j : Int))), some (.str (PyData.list [dctD fk da, dctD lk2 db]).shown), some (.ref r), some (.ref d1n), some (.ref d2), some (.ref D), none, none, none] ∧ Bk PT C H15 s0 c0 wo wt ww D p1 p2 p3 n1 m2 n' ∧ (d1n ≠ s0 ∧ d1n ≠ c0) ∧ H15 d1n = some (.dK fkn) ∧ DctL H15 (101 + (j + 1)) fkn ∧ H15 d2 = some (.dK lk2) ∧ DctL H15 (101 + j) lk2, ?_, ?_⟩
    · obtain ⟨a1, b1, t1, _, _, _, V1, _⟩ := B14.B.W1
      have := B14.B.l1
      refine ⟨_, rfl, _, rfl, _, rfl, _, rfl, wo, _, rfl, dg_names V1.d, s0, c0, d1, a1, fk, n1, 101 + j, rfl, B14.B.S, hd1, nd1.1, D14, by omega, V1.hn, V1.as.2, V1.n1, by omega, fun x hx => .word (V1.nw x hx), fun q kv' H15 hq0 hq1 D15 S15 kp15 => ?_⟩
      have nq := B14.B.S.ne hq0
      have := D15.len
      refine ⟨s0, c0, q, kv', rfl, S15, hq1, nq.1, D15.nd, by omega, fun p kv2 H16 hp0 pm hp1 S16 kp16 => ?_⟩
      have kp17 := kp15.trans kp16
      exact ⟨p, kv2, rfl, B14.kp kp17 S16, S15.ne hp0, hp1, (D15.kp S15 kp16).perm pm, kp17 _ _ hd2 nd2.1 nd2.2, E14.kp B14.B.S kp17⟩
    clear B14 hd1 D14 hd2 E14 nd1 u1 u2 u3 u4 okA okB w1 w2 w3 w4 w5
    rintro σ H15 ⟨d1n, fk', rfl, B15, nd1, hd1, D15, hd2, E15⟩
    obtain ⟨a1, b1, t1, _, _, _, V1, _⟩ := B15.B.W2
    have := B15.B.l2
    refine ⟨_, rfl, _, rfl, _, rfl, _, rfl, wt, _, rfl, dg_names V1.d, s0, c0, d2, a1, lk2, m2, 101 + j, rfl, B15.B.S, hd2, nd2.1, E15, by omega, V1.hn, V1.as.2, V1.n1, by omega, fun x hx => .word (V1.nw x hx), fun q kv' H16 hq0 hq1 D16 S16 kp16 => ?_⟩
    have nq := B15.B.S.ne hq0
    have := D16.len
    refine ⟨s0, c0, q, kv', rfl, S16, hq1, nq.1, D16.nd, by omega, fun p kv2 H17 hp0 pm hp1 S17 kp17 => ?_⟩
    have kp18 := kp16.trans kp17
    exact ⟨_, _, _, d1n, p, fk', kv2, rfl, B15.kp kp18 S17, nd1, S16.ne hp0, kp18 _ _ hd1 nd1.1 nd1.2, D15.kp B15.B.S kp18, hp1, (D16.kp S16 kp17).perm pm⟩
  · obtain ⟨v9, v10, v11, d1, d2, fk, lk2, rfl, B11, _⟩ := h
    exact ⟨B11.B.S, B11.B.T, _, _, _, _, _, _, _, _, _, _, _, _, _, rfl⟩
end
end Nm
/-! x -> 5 x + 1 goes the whole round of every power of two -/
namespace Nm
open L2
def seq5 : Nat → Nat
  | 0 => 0
  | n + 1 => 5 * seq5 n + 1
theorem seq5_pow : ∀ n, 4 * seq5 n + 1 = 5 ^ n
  | 0 => rfl
  | n + 1 => by
    have h := seq5_pow n
    rw [Nat.pow_succ, ← h]
    show 4 * (5 * seq5 n + 1) + 1 = _
    omega
theorem seq5_add (a : Nat) : ∀ b, seq5 (a + b) = 5 ^ b * seq5 a + seq5 b
  | 0 => by
    show seq5 a = 1 * seq5 a + 0
    omega
  | b + 1 => by
    show 5 * seq5 (a + b) + 1 = 5 ^ (b + 1) * seq5 a + (5 * seq5 b + 1)
    rw [seq5_add a b, Nat.pow_succ, Nat.mul_add, Nat.mul_comm (5 ^ b) 5, Nat.mul_assoc]
    omega
/-- at 2^k it is 2^k times an odd number -/
theorem seq5_two : ∀ k, ∃ c, seq5 (2 ^ k) = 2 ^ k * (2 * c + 1)
  | 0 => ⟨0, rfl⟩
  | k + 1 => by
    obtain ⟨c, h⟩ := seq5_two k
    have e : 2 ^ (k + 1) = 2 ^ k + 2 ^ k := by rw [Nat.pow_succ]; omega
    refine ⟨2 * seq5 (2 ^ k) * c + seq5 (2 ^ k) + c, ?_⟩
    have h2 : seq5 (2 ^ (k + 1)) = (5 ^ (2 ^ k) + 1) * seq5 (2 ^ k) := by
      rw [e, seq5_add, Nat.add_mul, Nat.one_mul]
    rw [h2, ← seq5_pow]
    have h3 : (4 * seq5 (2 ^ k) + 1 + 1) * seq5 (2 ^ k) = 2 * ((2 * seq5 (2 ^ k) + 1) * (2 ^ k * (2 * c + 1))) := by
      conv => lhs; rhs; rw [h]
      have : 4 * seq5 (2 ^ k) + 1 + 1 = 2 * (2 * seq5 (2 ^ k) + 1) := by omega
      rw [this, Nat.mul_assoc]
    rw [h3, Nat.pow_succ, Nat.mul_left_comm (2 * seq5 (2 ^ k) + 1), Nat.mul_comm (2 ^ k) 2, Nat.mul_assoc]
    congr 1
    congr 1
    generalize seq5 (2 ^ k) = z
    rw [Nat.mul_add, Nat.add_mul, Nat.mul_one, Nat.one_mul, Nat.mul_add, Nat.mul_add]
    have : 2 * z * (2 * c) = 2 * (2 * z * c) := by rw [Nat.mul_left_comm]
    omega
theorem seq5_odd (b : Nat) : ∃ d, 5 ^ b = 2 * d + 1 := ⟨2 * seq5 b, by rw [← seq5_pow]; omega⟩
theorem odd_mul (d c : Nat) : (2 * d + 1) * (2 * c + 1) = 2 * (2 * d * c + d + c) + 1 := by
  rw [Nat.add_mul, Nat.mul_add, Nat.mul_one, Nat.one_mul, Nat.mul_add, Nat.mul_add]
  have : 2 * d * (2 * c) = 2 * (2 * d * c) := by rw [Nat.mul_left_comm]
  omega
/-- every number below 2^k is met within the round -/
theorem seq5_all : ∀ k j, j < 2 ^ k → ∃ b, b < 2 ^ k ∧ seq5 b % 2 ^ k = j
  | 0, j, h => ⟨0, Nat.one_pos, by
    have : j = 0 := by
      have : (2 : Nat) ^ 0 = 1 := rfl
      omega
    rw [this]
    rfl⟩
  | k + 1, j, h => by
    have e : 2 ^ (k + 1) = 2 * 2 ^ k := by rw [Nat.pow_succ, Nat.mul_comm]
    have hp : 0 < 2 ^ k := Nat.pow_pos (by decide)
    obtain ⟨b, hb, hbj⟩ := seq5_all k (j % 2 ^ k) (Nat.mod_lt _ hp)
    rw [e] at h ⊢
    by_cases c : seq5 b % (2 * 2 ^ k) = j
    · exact ⟨b, by omega, c⟩
    · refine ⟨2 ^ k + b, by omega, ?_⟩
      obtain ⟨c1, h1⟩ := seq5_two k
      obtain ⟨d, h2⟩ := seq5_odd b
      rw [seq5_add, h1, h2, Nat.mul_left_comm, odd_mul]
      generalize 2 * d * c1 + d + c1 = q
      generalize 2 ^ k = D at *
      have h3 : D * (2 * q + 1) + seq5 b = (D + seq5 b) + 2 * D * q := by
        rw [Nat.mul_add, Nat.mul_one, Nat.mul_assoc, Nat.mul_left_comm]
        omega
      rw [h3, Nat.add_mul_mod_self_left]
      have h4 : seq5 b % (2 * D) % D = j % D := by rw [Nat.mod_mul_left_mod]; exact hbj
      have h5 : seq5 b % (2 * D) < 2 * D := Nat.mod_lt _ (by omega)
      have h6 : (D + seq5 b) % (2 * D) = (D + seq5 b % (2 * D)) % (2 * D) := by rw [Nat.add_mod_mod]
      rw [h6]
      generalize seq5 b % (2 * D) = r at *
      have split : ∀ x, x < 2 * D → x % D = if x < D then x else x - D := fun x hx => by
        split
        · exact Nat.mod_eq_of_lt (by assumption)
        · rw [Nat.mod_eq_sub_mod (by omega)]
          exact Nat.mod_eq_of_lt (by omega)
      rw [split r h5, split j h] at h4
      by_cases r1 : r < D
      · rw [if_pos r1] at h4
        split at h4
        · exact absurd h4 c
        · rw [Nat.mod_eq_of_lt (by omega)]
          omega
      · rw [if_neg r1] at h4
        split at h4
        · rw [Nat.mod_eq_sub_mod (by omega), Nat.mod_eq_of_lt (by omega)]
          omega
        · omega
theorem lcg_seq (m : Nat) : ∀ b, lcgN m b = seq5 b % (m + 1)
  | 0 => by
    show 0 = 0 % (m + 1)
    rw [Nat.zero_mod]
  | b + 1 => by
    show (lcgN m b * 5 + 1) % (m + 1) = (5 * seq5 b + 1) % (m + 1)
    rw [lcg_seq m b, Nat.mul_comm 5, Nat.add_mod, Nat.mod_mul_mod, ← Nat.add_mod]
/-- a mask: one less than a power of two -/
def Pow2 (m : Nat) : Prop := ∃ k, m + 1 = 2 ^ k
theorem lcg_full {m j : Nat} (hm : Pow2 m) (hj : j ≤ m) : ∃ b, b ≤ m ∧ lcgN m b = j := by
  obtain ⟨k, hk⟩ := hm
  obtain ⟨b, h1, h2⟩ := seq5_all k j (by omega)
  exact ⟨b, by omega, by rw [lcg_seq, hk]; exact h2⟩
theorem lcg_back {m : Nat} (hm : Pow2 m) : lcgN m (m + 1) = 0 := by
  obtain ⟨k, hk⟩ := hm
  obtain ⟨c, h⟩ := seq5_two k
  rw [lcg_seq, hk, h]
  exact Nat.mul_mod_right _ _
end Nm
/-! the way of a search through a table of any size -/
namespace Nm
open PySem L2
theorem lcg_turn {m : Nat} (pw : Pow2 m) (n : Nat) : lcgN m (m + 1 + n) = lcgN m n := by
  have z := lcg_back pw
  rw [lcg_seq] at z
  rw [lcg_seq, lcg_seq, seq5_add, Nat.add_mod, Nat.mul_mod, z, Nat.mul_zero, Nat.zero_mod, Nat.zero_add, Nat.mod_mod]
/-- from every slot to every slot -/
theorem lcg_from {m a b : Nat} (pw : Pow2 m) (ha : a ≤ m) (hb : b ≤ m) : ∃ n, n ≤ m ∧ lcgI m a n = b := by
  obtain ⟨u, hu, rfl⟩ := lcg_full pw ha
  obtain ⟨v, hv, rfl⟩ := lcg_full pw hb
  by_cases c : u ≤ v
  · refine ⟨v - u, by omega, ?_⟩
    rw [lcgN_add, show u + (v - u) = v by omega]
  · refine ⟨m + 1 + v - u, by omega, ?_⟩
    rw [lcgN_add, show u + (m + 1 + v - u) = m + 1 + v by omega, lcg_turn pw]
theorem way_meets {m j : Nat} (pw : Pow2 m) (h : Int) (hj : j ≤ m) : ∃ n, n < 10 * SetTable.turns m ∧ way m h n = j := by
  obtain ⟨r, hr, er⟩ := lcg_from pw (runI_le m (SetTable.bits h) 12) hj
  obtain ⟨n, hn, en⟩ := run_nth m (SetTable.bits h) (12 + r)
  refine ⟨n, ?_, ?_⟩
  · unfold SetTable.turns
    omega
  · show (nth m _ n).j = j
    rw [en, ← er, ← runI_tail (bits_lt h)]
    rfl
theorem way_in (m : Nat) (h : Int) (n : Nat) : way m h n ≤ m := by
  have b0 : SetTable.bits h % (m + 1) < m + 1 := Nat.mod_lt _ (Nat.succ_pos _)
  obtain ⟨r1, r2, _⟩ := runEnd_bd (Nat.le_of_lt_succ b0)
  have := nth_in (m := m) n (runAt m (SetTable.bits h % (m + 1)) (SetTable.bits h)) (by unfold runAt; simp only; omega)
  exact Nat.le_trans (Nat.le_add_right _ _) this
/-- a table in which each hash leads to its slot, its mask any -/
structure Tab (t : SetTable) (hs : List Int) : Prop where
  up : Ris t.place.toList
  clean : t.dummies = #[]
  many : t.place.size = hs.length
  pow : Pow2 t.mask
  low : ∀ j ∈ t.place.toList, j ≤ t.mask
  led : ∀ (i : Nat) (h : Int) (j : Nat), hs[i]? = some h → t.place.toList[i]? = some j → ∃ n, way t.mask h n = j ∧ ∀ n' < n, way t.mask h n' ∈ t.place.toList
/-- where the search for a hash ends: the first free slot of its way -/
theorem Tab.free {t : SetTable} {hs : List Int} (T : Tab t hs) (room : hs.length ≤ t.mask) (h : Int) : ∃ N, N < 10 * SetTable.turns t.mask ∧ way t.mask h N ∉ t.place.toList ∧ ∀ n < N, way t.mask h n ∈ t.place.toList := by
  obtain ⟨j, lt, out⟩ := st_missing t.place.toList (t.mask + 1) (by rw [Array.length_toList, T.many]; omega)
  obtain ⟨n, hn, e⟩ := way_meets T.pow h (Nat.le_of_lt_succ lt)
  obtain ⟨N, a, b, c⟩ := st_least (p := fun n => way t.mask h n ∉ t.place.toList) n (e ▸ out)
  exact ⟨N, by omega, b, fun n' hn' => Classical.not_not.mp (c n' hn')⟩
/-- a hash that stands in the table is met ahead of it -/
theorem Tab.ahead {t : SetTable} {hs : List Int} (T : Tab t hs) {h : Int} {N i j : Nat} (out : way t.mask h N ∉ t.place.toList) (hi : hs[i]? = some h) (hj : t.place.toList[i]? = some j) : ∃ n < N, way t.mask h n = j := by
  obtain ⟨n, e, before⟩ := T.led i h j hi hj
  refine ⟨n, Nat.lt_of_not_le fun le => ?_, e⟩
  rcases Nat.lt_or_eq_of_le le with lt | eq
  · exact out (before N lt)
  · subst eq
    exact out (e ▸ List.mem_of_getElem? hj)
/-- one more put at the first free slot of its way -/
theorem Tab.more {t : SetTable} {hs : List Int} (T : Tab t hs) {h : Int} {N : Nat} (out : way t.mask h N ∉ t.place.toList) (bef : ∀ n < N, way t.mask h n ∈ t.place.toList) :
    SetTable.below t.place (way t.mask h N) ≤ hs.length ∧ Tab (t.put (way t.mask h N)).1 (hs.take (SetTable.below t.place (way t.mask h N)) ++ h :: hs.drop (SetTable.below t.place (way t.mask h N))) ∧ (t.put (way t.mask h N)).1.fill = hs.length + 1 := by
  generalize hw : way t.mask h N = j at *
  have hjm : j ≤ t.mask := hw ▸ way_in t.mask h N
  obtain ⟨cut, _, _⟩ := below_cut T.up j
  have in1 : SetTable.below t.place j ≤ hs.length := T.many ▸ cut
  have in2 : SetTable.below t.place j ≤ t.place.toList.length := by rw [Array.length_toList]; exact cut
  have fresh : t.place[SetTable.below t.place j]? ≠ some j := fun e => out (List.mem_of_getElem? (i := SetTable.below t.place j) (by rw [Array.getElem?_toList]; exact e))
  have pp := put_place t j
  have keep : ∀ {x : Nat}, x ∈ t.place.toList → x ∈ (t.put j).1.place.toList := fun hx => pp ▸ mem_ins.2 (.inr hx)
  have sz : (t.put j).1.place.size = hs.length + 1 := by
    rw [← Array.length_toList, pp, len_ins _ in2, Array.length_toList, T.many]
  refine ⟨in1, ⟨ris_insert T.up fresh, put_dm T.clean j, by rw [len_ins _ in1, sz], T.pow, fun x hx => ?_, fun i h' j' a b => ?_⟩, ?_⟩
  · rw [pp] at hx
    rcases mem_ins.1 hx with rfl | z
    · exact hjm
    · exact T.low x z
  · rw [tins_get hs in1] at a
    rw [pp, tins_get _ in2] at b
    have old : ∀ i', hs[i']? = some h' → t.place.toList[i']? = some j' → ∃ n, way t.mask h' n = j' ∧ ∀ n' < n, way t.mask h' n' ∈ (t.put j).1.place.toList := fun i' u v => by
      obtain ⟨n, e, z⟩ := T.led i' h' j' u v
      exact ⟨n, e, fun n' lt => keep (z n' lt)⟩
    rcases Nat.lt_trichotomy i (SetTable.below t.place j) with c | c | c
    · rw [if_pos c] at a b
      exact old i a b
    · rw [if_neg (by omega), if_pos c] at a b
      cases a
      cases b
      exact ⟨N, hw, fun n' lt => keep (bef n' lt)⟩
    · rw [if_neg (by omega), if_neg (by omega)] at a b
      exact old (i - 1) a b
  · show (t.put j).1.place.size + (t.put j).1.dummies.size = _
    rw [sz, put_dm T.clean j]
    rfl
end Nm
/-! laying a table anew, its mask any -/
namespace Nm
open PySem L2
/-- the first free slot on the way of a hash is the one that the laying takes -/
theorem lay_free {m : Nat} (pw : Pow2 m) (ow : Array (Option Nat)) (h : Int) {j : Nat} (hj : j ≤ m) (fr : oAt ow j = none) :
    ∃ N, SetTable.layClean.free m ow (SetTable.turns m) (SetTable.bits h % (m + 1)) (SetTable.bits h) = some (way m h N) ∧ oAt ow (way m h N) = none ∧ ∀ n < N, oAt ow (way m h n) ≠ none := by
  obtain ⟨r, hr, er⟩ := lcg_from pw (runI_le m (SetTable.bits h) 12) hj
  have at_ : way m h (off m (SetTable.bits h % (m + 1)) (SetTable.bits h) (12 + r)) = j := by
    show (nth m _ _).j = j
    rw [nth_off, itL_run, ← er, ← runI_tail (bits_lt h)]
    rfl
  obtain ⟨N, le, emp, occ⟩ := st_least (p := fun n => oAt ow (way m h n) = none) _ (show oAt ow (way m h (off m (SetTable.bits h % (m + 1)) (SetTable.bits h) (12 + r))) = none by rw [at_]; exact fr)
  refine ⟨N, free_spec m ow _ (12 + r) _ _ N ?_ le (fun n lt => ?_) ?_, emp, occ⟩
  · unfold SetTable.turns
    omega
  · cases z : oAt ow (way m h n) with
    | none => exact absurd z (occ n lt)
    | some _ => rfl
  · exact congrArg Option.isNone emp
/-- one hash more -/
theorem own_more {m : Nat} (pw : Pow2 m) {hs : List Int} {ow : Array (Option Nat)} (O : Own m hs ow) (room : hs.length ≤ m) (h : Int) :
    ∃ j, SetTable.layClean.free m ow (SetTable.turns m) (SetTable.bits h % (m + 1)) (SetTable.bits h) = some j ∧ Own m (hs ++ [h]) (ow.setIfInBounds j (some hs.length)) := by
  obtain ⟨ps, pl, pin⟩ := O.ps
  obtain ⟨f, flt, fout⟩ := st_missing ps (m + 1) (by omega)
  have ffree : oAt ow f = none := Classical.byContradiction fun z => fout (pin f (by omega) z)
  obtain ⟨N, got, emp, occ⟩ := lay_free pw ow h (Nat.le_of_lt_succ flt) ffree
  generalize hw : way m h N = j at *
  have jm : j ≤ m := hw ▸ way_in m h N
  have new : oAt (ow.setIfInBounds j (some hs.length)) j = some hs.length := oAt_set_self _ (by rw [O.sz]; omega)
  have still : ∀ i, oAt ow i ≠ none → oAt (ow.setIfInBounds j (some hs.length)) i ≠ none := fun i hi => by
    by_cases c : i = j
    · subst c
      rw [new]
      exact Option.some_ne_none _
    · rw [oAt_set_ne _ c]
      exact hi
  refine ⟨j, got, ⟨by rw [Array.size_setIfInBounds, O.sz], fun i k hi e => ?_, fun k hk => ?_, j :: ps, by simp [pl], fun i hi e => ?_⟩⟩
  · by_cases c : i = j
    · subst c
      rw [new] at e
      cases e
      exact ⟨h, N, by simp, hw, fun n lt => still _ (occ n lt)⟩
    · rw [oAt_set_ne _ c] at e
      obtain ⟨h', n', a, b, d⟩ := O.at_ i k hi e
      refine ⟨h', n', ?_, b, fun n lt => still _ (d n lt)⟩
      rw [List.getElem?_append_left (List.getElem?_eq_some_iff.mp a).1, a]
  · rw [List.length_append, List.length_singleton] at hk
    rcases Nat.lt_or_eq_of_le (Nat.le_of_lt_succ hk) with lt | rfl
    · obtain ⟨i, hi, e⟩ := O.all k lt
      refine ⟨i, hi, ?_⟩
      rw [oAt_set_ne _ (fun z => by subst z; rw [emp] at e; cases e), e]
    · exact ⟨j, jm, new⟩
  · by_cases c : i = j
    · exact c ▸ List.mem_cons_self
    · rw [oAt_set_ne _ c] at e
      exact List.mem_cons_of_mem _ (pin i hi e)
theorem own_all {m : Nat} (pw : Pow2 m) : ∀ (todo hs : List Int) (ow : Array (Option Nat)), Own m hs ow → hs.length + todo.length ≤ m →
    ∃ ow', todo.foldl (stepF m) (some (ow, hs.length)) = some (ow', hs.length + todo.length) ∧ Own m (hs ++ todo) ow'
  | [], hs, ow, O, _ => ⟨ow, rfl, by rw [List.append_nil]; exact O⟩
  | h :: todo, hs, ow, O, room => by
    rw [List.length_cons] at room
    obtain ⟨j, got, O'⟩ := own_more pw O (by omega) h
    obtain ⟨ow', a, b⟩ := own_all pw todo (hs ++ [h]) _ O' (by rw [List.length_append, List.length_singleton]; omega)
    rw [List.length_append, List.length_singleton] at a
    refine ⟨ow', ?_, by rw [List.append_assoc] at b; exact b⟩
    rw [List.foldl_cons, stepF_some got, a, List.length_cons]
    congr 2
    omega
/-- the table laid anew: the entries in another order, each hash led to its slot -/
theorem lay_new (t : SetTable) {hs : Array Int} {want M : Nat} (hM : SetTable.sizeAbove want - 1 = M) (pw : Pow2 M) (room : hs.size ≤ M) :
    ∃ t' ord, t.relaid hs want = some (t', ord) ∧ ord.toList.Perm (List.range hs.size) ∧ Tab t' (ord.toList.map fun i => hs.getD i 0) ∧ t'.mask = M ∧ t'.led = t.led ∧ t'.plain = t.plain := by
  obtain ⟨ow, a, O⟩ := own_all pw hs.toList [] _ (Own.init M) (by rw [Array.length_toList]; show 0 + hs.size ≤ M; omega)
  rw [List.nil_append] at O
  have lay : SetTable.layClean M hs = some ow := by
    rw [layClean_eq]
    exact congrArg (Option.map Prod.fst) a
  have at_ : ∀ {j k : Nat}, (j, k) ∈ liveOf M ow ↔ j ≤ M ∧ oAt ow j = some k := mem_live O.sz
  obtain ⟨up, low⟩ := ris_live (fun j => ow.getD j none) (List.range (M + 1)) (show Ris (List.range (M + 1)) from List.pairwise_lt_range)
  change Ris ((liveOf M ow).map (·.1)) at up
  have all : ∀ k < hs.size, k ∈ (liveOf M ow).map (·.2) := fun k lt => by
    obtain ⟨j, u, v⟩ := O.all k (by rw [Array.length_toList]; exact lt)
    exact List.mem_map.mpr ⟨(j, k), at_.2 ⟨u, v⟩, rfl⟩
  have count : (liveOf M ow).length = hs.size := by
    obtain ⟨ps, pl, pin⟩ := O.ps
    have le : ((liveOf M ow).map (·.1)).length ≤ ps.length := nat_nodup_len _ ps (up.imp fun lt => Nat.ne_of_lt lt) fun x hx => by
      obtain ⟨⟨y, k⟩, hq, rfl⟩ := List.mem_map.mp hx
      obtain ⟨u, v⟩ := at_.1 hq
      exact pin y u (by rw [v]; exact Option.some_ne_none _)
    have ge := nat_nodup_len (List.range hs.size) ((liveOf M ow).map (·.2)) List.nodup_range fun k hk => all k (List.mem_range.mp hk)
    rw [List.length_map, pl] at le
    have hz : hs.toList.length = hs.size := rfl
    rw [List.length_map, List.length_range] at ge
    omega
  refine ⟨tabOf t M ow, ((liveOf M ow).map (·.2)).toArray, by rw [relaid_eq, hM, lay]; rfl, perm_range _ _ (by rw [List.toList_toArray, List.length_map, count]) (fun k lt => by rw [List.toList_toArray]; exact all k lt), ?_, rfl, rfl, rfl⟩
  refine ⟨up, rfl, ?_, pw, fun x hx => ?_, fun i h j u v => ?_⟩
  · show ((liveOf M ow).map (·.1)).toArray.size = _
    simp
  · obtain ⟨⟨y, k⟩, hq, rfl⟩ := List.mem_map.mp (show x ∈ (liveOf M ow).map (·.1) from hx)
    exact (at_.1 hq).1
  · change ((liveOf M ow).map (·.1))[i]? = some j at v
    rw [List.toList_toArray, List.map_map, List.getElem?_map] at u
    rw [List.getElem?_map] at v
    obtain ⟨⟨y, k⟩, hq, rfl⟩ := Option.map_eq_some_iff.mp v
    rw [hq] at u
    have eh : hs.getD k 0 = h := Option.some.inj u
    obtain ⟨b1, b2⟩ := at_.1 (List.mem_of_getElem? hq)
    obtain ⟨h0, N, c1, c2, c3⟩ := O.at_ y k b1 b2
    have e0 : hs.getD k 0 = h0 := by
      rw [Array.getElem?_toList] at c1
      rw [Array.getD_eq_getD_getElem?, c1]
      rfl
    rw [e0] at eh
    subst eh
    refine ⟨N, c2, fun n lt => ?_⟩
    cases z : oAt ow (way M h0 n) with
    | none => exact absurd z (c3 n lt)
    | some k2 => exact List.mem_map.mpr ⟨(way M h0 n, k2), at_.2 ⟨way_in M h0 n, z⟩, rfl⟩
end Nm
set_option maxRecDepth 100000
set_option maxHeartbeats 4000000
/-! sets of tuples of keys (ints, texts): what is asked of the tuples, and the search -/
namespace Nm
open PySem PySem.Spec PyProof.Rows L2
abbrev kh (P : Program) (w : World) (k : List Key) : Int := tupleKeyHash (mixKind P w) k
abbrev IsK (P : Program) (w : World) (h : Heap) (k : List Key) (a : Addr) : Prop := IsTupleKey (mixKind P w) h k a
section
variable {P : Program} {w : World} {A : Around} {E : Value → Shared → Prop} {s : Shared}
theorem told_items {k : List Key} {us : List Value} (T : PySem.ItemsAre (mixKind P w) k us) : ∀ u ∈ us, ∃ y : Key, keyIs y u = true := by
  induction T with
  | nil => exact fun u m => (List.not_mem_nil m).elim
  | @cons y u ks us e _ ih =>
    intro z m
    rcases List.mem_cons.mp m with rfl | m
    · exact ⟨y, e⟩
    · exact ih z m
theorem no_class {y : Key} {u : Value} (n : Nat) (e : keyIs y u = true) : ofAClassStatement n u = pure false := by
  rcases keyIs_shape e with ⟨i, t, rfl, rfl⟩ | ⟨x, t, rfl, rfl⟩ <;> cases n <;> rfl
theorem some_hash {y : Key} {u : Value} (n : Nat) (e : keyIs y u = true) : ∃ b, hashByValue n u = pure b := by
  rcases keyIs_shape e with ⟨i, t, rfl, rfl⟩ | ⟨x, t, rfl, rfl⟩
  · exact ⟨true, by cases n <;> rfl⟩
  · exact ⟨false, by cases n <;> rfl⟩
theorem class_of {k : List Key} {b : Addr} {Q : Bool → Shared → Prop} (T : IsK P w s.heap k b) (q : Q false s) : wpAny (model P w) A (ofAClassStatement 8 (.ref b)) Q E s := by
  have ty := T.typeIs
  obtain ⟨ob, its, cnt, hob, _, dat, itk⟩ := T
  unfold ofAClassStatement
  refine wpAny_bind (wpAny_typeOf ty ?_)
  dsimp only
  have yes : (("tuple" : String) == "tuple") = true := by decide
  simp only [yes, if_true, Bool.not_true, Bool.false_eq_true, if_false]
  try refine wpAny_bind (wpAny_pure ?_)
  try simp only [Bool.not_true, Bool.false_eq_true, if_false]
  show wpAny _ _ (seqItems? (.ref b) >>= _) _ _ s
  refine wpAny_bind (wpAny_seqItems hob dat ?_)
  dsimp only
  refine wpAny_bind ?_
  show wpAny _ _ (forIn its _ _) _ _ s
  rw [← Array.forIn_toList]
  refine wpAny_forIn_list _ (fun left acc st => acc.1 = none ∧ st = s ∧ ∀ u ∈ left, ∃ y : Key, keyIs y u = true) _ ?_ ?_ _ _ ⟨rfl, rfl, told_items itk⟩
  · rintro u left acc st ⟨na, rfl, every⟩
    obtain ⟨y, e⟩ := every u List.mem_cons_self
    rw [no_class _ e]
    refine wpAny_bind (wpAny_pure ?_)
    simp only [Bool.false_eq_true, if_false]
    exact wpAny_pure ⟨rfl, rfl, fun z m => every z (List.mem_cons_of_mem _ m)⟩
  · rintro ⟨c1, c2⟩ st ⟨na, rfl, _⟩
    simp only at na
    subst na
    exact wpAny_pure q
theorem hash_of {k : List Key} {b : Addr} {Q : Bool → Shared → Prop} (T : IsK P w s.heap k b) (q : ∀ r, Q r s) : wpAny (model P w) A (hashByValue 8 (.ref b)) Q E s := by
  have ty := T.typeIs
  obtain ⟨ob, its, cnt, hob, _, dat, itk⟩ := T
  unfold hashByValue
  refine wpAny_bind (wpAny_specialOf ty F.slot_tuple_hash.lookup ?_)
  show wpAny _ _ (seqItems? (.ref b) >>= _) _ _ s
  refine wpAny_bind (wpAny_seqItems hob dat ?_)
  refine wpAny_bind ?_
  show wpAny _ _ (forIn its _ _) _ _ s
  rw [← Array.forIn_toList]
  refine wpAny_forIn_list _ (fun left acc st => acc.1 = none ∧ st = s ∧ ∀ u ∈ left, ∃ y : Key, keyIs y u = true) _ ?_ ?_ _ _ ⟨rfl, rfl, told_items itk⟩
  · rintro u left acc st ⟨na, rfl, every⟩
    obtain ⟨y, e⟩ := every u List.mem_cons_self
    obtain ⟨r, er⟩ := some_hash 7 e
    rw [er]
    refine wpAny_bind (wpAny_pure ?_)
    cases r with
    | true =>
      simp only [Bool.not_true, Bool.false_eq_true, if_false]
      exact wpAny_pure ⟨rfl, rfl, fun z m => every z (List.mem_cons_of_mem _ m)⟩
    | false =>
      simp only [Bool.not_false, if_true]
      exact wpAny_pure (wpAny_pure (q false))
  · rintro ⟨c1, c2⟩ st ⟨na, rfl, _⟩
    simp only at na
    subst na
    exact wpAny_pure (q true)
/-- a search among such tuples cannot be seen -/
theorem seen_of {k : List Key} {b : Addr} {Q : Bool → Shared → Prop} (T : IsK P w s.heap k b) {us : List Value} (hu : ∀ u ∈ us, ∃ j c, u = Value.ref c ∧ IsK P w s.heap j c) (q : Q false s) :
    wpAny (model P w) A (searchCouldBeSeen (.ref b) us) Q E s := by
  unfold searchCouldBeSeen
  refine wpAny_bind ?_
  refine wpAny_forIn_list _ (fun left acc st => acc.1 = none ∧ st = s ∧ ∀ u ∈ left, ∃ j c, u = Value.ref c ∧ IsK P w s.heap j c) _ ?_ ?_ _ _ ⟨rfl, rfl, hu⟩
  · rintro u left acc st ⟨na, rfl, every⟩
    obtain ⟨j, c, rfl, Tc⟩ := every u List.mem_cons_self
    have after : ∀ u ∈ left, ∃ j c, u = Value.ref c ∧ IsK P w st.heap j c := fun z m => every z (List.mem_cons_of_mem _ m)
    dsimp only
    by_cases very : (b == c || (carriedByValue (.ref b) && carriedByValue (.ref c))) = true
    · exact wp_if_pos very (wpAny_pure ⟨rfl, rfl, after⟩)
    · refine wp_if_neg very (wpAny_bind (wpAny_eqIsQuiet_tuple T ?_))
      simp only [Bool.not_true, Bool.false_eq_true, if_false]
      refine wpAny_bind (wpAny_eqIsQuiet_tuple Tc ?_)
      simp only [Bool.not_true, Bool.false_eq_true, if_false]
      refine wpAny_bind (class_of T ?_)
      simp only [Bool.false_eq_true, if_false]
      refine wpAny_bind (class_of Tc ?_)
      simp only [Bool.false_eq_true, if_false]
      exact wpAny_pure ⟨rfl, rfl, after⟩
  · rintro ⟨c1, c2⟩ st ⟨na, rfl, _⟩
    simp only at na
    subst na
    exact wpAny_pure q
/-! ### the table of such a set -/
def MaskIn (m : Nat) : Prop := m = 7 ∨ m = 31 ∨ m = 127 ∨ m = 511 ∨ m = 2047 ∨ m = 8191
theorem MaskIn.pow {m : Nat} (h : MaskIn m) : Pow2 m := by
  rcases h with rfl | rfl | rfl | rfl | rfl | rfl
  · exact ⟨3, rfl⟩
  · exact ⟨5, rfl⟩
  · exact ⟨7, rfl⟩
  · exact ⟨9, rfl⟩
  · exact ⟨11, rfl⟩
  · exact ⟨13, rfl⟩
theorem MaskIn.odd {m : Nat} (h : MaskIn m) : m % 2 = 1 := by
  rcases h with rfl | rfl | rfl | rfl | rfl | rfl <;> rfl
theorem MaskIn.le {m : Nat} (h : MaskIn m) : m ≤ 8191 := by
  rcases h with rfl | rfl | rfl | rfl | rfl | rfl <;> decide
def rowsK (P : Program) (w : World) (L : List (Addr × List Key)) : List (Int × Value) := L.map fun e => (kh P w e.2, Value.ref e.1)
theorem rowsK_len (L : List (Addr × List Key)) : (rowsK P w L).length = L.length := List.length_map ..
structure KSet (P : Program) (w : World) (h : Heap) (a : Addr) (L : List (Addr × List Key)) (es : Array (Int × Value)) (ep : Nat) (t : SetTable) : Prop where
  here : ∃ o, h.get? a = some o ∧ o.ExactSet ∧ o.data = .set es ep t
  rows : es.toList = rowsK P w L
  tab : Tab t (L.map fun e => kh P w e.2)
  nd : (L.map (·.2)).Nodup
  tups : ∀ e ∈ L, IsK P w h e.2 e.1
  mask : MaskIn t.mask
  room : L.length * 5 < t.mask * 3
variable {a : Addr} {L : List (Addr × List Key)} {es : Array (Int × Value)} {ep : Nat} {t : SetTable}
theorem KSet.size (R : KSet P w s.heap a L es ep t) : es.size = L.length := by
  rw [← Array.length_toList, R.rows, rowsK_len]
theorem KSet.places (R : KSet P w s.heap a L es ep t) : t.place.toList.length = L.length := by
  rw [Array.length_toList, R.tab.many, List.length_map]
theorem KSet.fits (R : KSet P w s.heap a L es ep t) : t.fits es.size = true := by
  have p := R.places
  have z := R.size
  have r := R.room
  rw [Array.length_toList] at p
  unfold SetTable.fits SetTable.fill
  rw [R.tab.clean]
  simp
  omega
theorem KSet.entry (R : KSet P w s.heap a L es ep t) {i : Nat} {e : Addr × List Key} (h : L[i]? = some e) : es[i]? = some (kh P w e.2, Value.ref e.1) := by
  rw [← Array.getElem?_toList, R.rows]
  show (L.map _)[i]? = _
  rw [List.getElem?_map, h]
  rfl
theorem KSet.hashAt (R : KSet P w s.heap a L es ep t) {i : Nat} {e : Addr × List Key} (h : L[i]? = some e) : (es[i]?.map (·.1)).getD 0 = kh P w e.2 := by
  rw [R.entry h]
  rfl
theorem KSet.whole (R : KSet P w s.heap a L es ep t) : ¬ t.gaveWay = true := by
  unfold SetTable.gaveWay
  rw [R.mask.odd]
  decide
/-- where the walk stands behind c steps -/
abbrev stand (m : Nat) (h : Int) (c : Nat) : SetTable.Probe := nth m (runAt m (SetTable.bits h % (m + 1)) (SetTable.bits h)) c
theorem stand_dummy (m : Nat) (h : Int) : ∀ c, (stand m h c).dummy = none
  | 0 => rfl
  | c + 1 => by
    show (nth m _ (c + 1)).dummy = none
    rw [nth_succ]
    have ih := stand_dummy m h c
    unfold adv
    split <;> exact ih
theorem stand_on (m : Nat) (h : Int) (c q : Nat) : nth m (stand m h c) q = stand m h (c + q) := (nth_add m c _ q).symm
end
end Nm
set_option maxRecDepth 100000
set_option maxHeartbeats 4000000
/-! the search for a tuple in a set of tuples of keys, to add it or to ask for it -/
namespace Nm
open PySem PySem.Spec PyProof.Rows L2
section
variable {P : Program} {w : World} {A : Around} {E : Value → Shared → Prop} {s : Shared}
variable {a : Addr} {L : List (Addr × List Key)} {es : Array (Int × Value)} {ep : Nat} {t : SetTable}
theorem look_from (R : KSet P w s.heap a L es ep t) {x : Addr} {k : List Key} (T : IsK P w s.heap k x) (hu : A.units < cLine) (ad : Bool) {N : Nat} (lim : N < 10 * SetTable.turns t.mask)
    (out : way t.mask (kh P w k) N ∉ t.place.toList) (bef : ∀ c < N, way t.mask (kh P w k) c ∈ t.place.toList) {Q : SetFound → Shared → Prop}
    (qin : k ∈ L.map (·.2) → ∀ r : Option Nat, (ad = false → r.isSome = true) → Q (.there r) s) (qout : k ∉ L.map (·.2) → Q (.free (way t.mask (kh P w k) N) false) s) :
    ∀ (f c : Nat) (fr : Option SetTable.Probe), fr.getD (t.probeStart (kh P w k)) = stand t.mask (kh P w k) c → c ≤ N → N - c < f →
      (∀ (i : Nat) e, L[i]? = some e → e.2 = k → ∃ d, c ≤ d ∧ d < N ∧ t.place.toList[i]? = some (way t.mask (kh P w k) d)) →
      wpAny (model P w) A (setSearchFrom a (.ref x) (kh P w k) ad f fr) Q E s
  | 0, c, fr, _, _, few, _ => absurd few (Nat.not_lt_zero _)
  | f + 1, c, fr, at_, le, few, ahead => by
    obtain ⟨o, ho, ex, dat⟩ := R.here
    rw [setSearchFrom_succ]
    refine wpAny_bind (wpAny_setState_of ho dat R.fits ?_)
    dsimp only
    refine wp_if_neg R.whole ?_
    try refine wpAny_bind (wpAny_pure ?_)
    have wj : ∀ q, (nth t.mask (stand t.mask (kh P w k) c) q).j = way t.mask (kh P w k) (c + q) := fun q => congrArg SetTable.Probe.j (stand_on t.mask (kh P w k) c q)
    have told := go_spec t R.tab.up R.tab.clean (fun i => (es[i]?.map (·.1)).getD 0) (kh P w k) (10 * SetTable.turns t.mask) (N - c) (stand t.mask (kh P w k) c) (stand_dummy t.mask (kh P w k) c) (by omega)
      (fun q hq => by rw [wj]; exact bef (c + q) (by omega)) (by rw [wj, show c + (N - c) = N by omega]; exact out)
    rcases told with ⟨q, i, hq, hi, hh, first, pr⟩ | ⟨none_, pr⟩
    · -- one of the same hash
      have pr2 : t.probe (fun i => (es[i]?.map (·.1)).getD 0) (kh P w k) (fr.getD (t.probeStart (kh P w k))) = some (.candidate (way t.mask (kh P w k) (c + q)) i (stand t.mask (kh P w k) (c + (q + 1)))) := by
        rw [at_, ← wj, ← stand_on]
        exact pr
      rw [pr2]
      dsimp only
      rw [wj] at hi
      have lt : i < L.length := by
        rw [← R.places]
        exact (List.getElem?_eq_some_iff.mp hi).1
      obtain ⟨e, he⟩ : ∃ e, L[i]? = some e := ⟨_, List.getElem?_eq_getElem lt⟩
      have hm : e ∈ L := List.mem_of_getElem? he
      have Te := R.tups e hm
      have go_on : wpAny (model P w) A (searchRest a (.ref x) (kh P w k) ad f es t (way t.mask (kh P w k) (c + q)) i (stand t.mask (kh P w k) (c + (q + 1)))) Q E s := by
        unfold searchRest
        rw [R.entry he]
        dsimp only
        refine wpAny_bind (wpAny_holding (wpAny_eqBool_tuple hu Te T ?_))
        refine wpAny_bind (wpAny_setState_of ho dat R.fits ?_)
        dsimp only
        have sl : t.slot (way t.mask (kh P w k) (c + q)) = .live i := slot_live R.tab.up hi
        by_cases same : e.2 = k
        · have inn : k ∈ L.map (·.2) := List.mem_map.mpr ⟨e, hm, same⟩
          cases ad with
          | true =>
            refine wp_if_pos (by simp [same]) ?_
            exact wpAny_pure (qin inn none fun z => nomatch z)
          | false =>
            refine wp_if_neg (by simp) ?_
            try refine wpAny_bind (wpAny_pure ?_)
            rw [sameMem]
            dsimp only
            simp only [if_true, sl, R.entry he]
            refine wpAny_bind (wpAny_isSame_ref_self (wpAny_bind (wpAny_pure ?_)))
            simp only [if_true]
            refine wp_if_pos (by simp [same]) ?_
            exact wpAny_pure (qin inn (some i) fun _ => rfl)
        · refine wp_if_neg (by simp [same]) ?_
          try refine wpAny_bind (wpAny_pure ?_)
          rw [sameMem]
          dsimp only
          simp only [if_true, sl, R.entry he]
          refine wpAny_bind (wpAny_isSame_ref_self (wpAny_bind (wpAny_pure ?_)))
          simp only [if_true]
          refine wp_if_neg (by simp [same]) ?_
          refine look_from R T hu ad lim out bef qin qout f (c + (q + 1)) _ rfl (by omega) (by omega) fun i0 e0 h0 k0 => ?_
          obtain ⟨d, d1, d2, d3⟩ := ahead i0 e0 h0 k0
          refine ⟨d, ?_, d2, d3⟩
          rcases Nat.lt_or_ge (c + q) d with gt | le'
          · omega
          exfalso
          rcases Nat.lt_or_eq_of_le le' with lt' | eq'
          · refine first (d - c) i0 (by omega) (by rw [wj, show c + (d - c) = d by omega]; exact d3) ?_
            exact (R.hashAt h0).trans (congrArg (kh P w) k0)
          · rw [eq'] at d3
            have s0 := slot_live R.tab.up d3
            rw [sl] at s0
            injection s0 with s0
            subst s0
            rw [he] at h0
            cases h0
            exact same k0
      by_cases led : t.led = true
      · refine wp_if_neg (by simp [led]) ?_
        try refine wpAny_bind (wpAny_pure ?_)
        exact go_on
      · refine wp_if_pos (by simp [led]) ?_
        refine wpAny_bind (seen_of T (fun u m => ?_) ?_)
        · obtain ⟨r, hr, er⟩ := List.mem_map.mp m
          have m2 : r ∈ es.toList := by
            have := (show r ∈ es ∧ r.1 = kh P w k by simpa using hr).1
            simpa using this
          rw [R.rows] at m2
          obtain ⟨e2, hm2, ee⟩ := List.mem_map.mp m2
          exact ⟨e2.2, e2.1, by rw [← er, ← ee], R.tups e2 hm2⟩
        · refine wp_if_neg (by decide) ?_
          try refine wpAny_bind (wpAny_pure ?_)
          exact go_on
    · -- the free slot
      have pr2 : t.probe (fun i => (es[i]?.map (·.1)).getD 0) (kh P w k) (fr.getD (t.probeStart (kh P w k))) = some (.empty (way t.mask (kh P w k) N) none) := by
        have ew : way t.mask (kh P w k) N = (nth t.mask (stand t.mask (kh P w k) c) (N - c)).j := by rw [wj, show c + (N - c) = N by omega]
        rw [at_, ew]
        exact pr
      rw [pr2]
      dsimp only
      refine wpAny_pure (qout fun m => ?_)
      obtain ⟨e0, m0, k0⟩ := List.mem_map.mp m
      obtain ⟨i0, h0⟩ := List.getElem?_of_mem m0
      obtain ⟨d, d1, d2, d3⟩ := ahead i0 e0 h0 k0
      refine none_ (d - c) i0 (by omega) (by rw [wj, show c + (d - c) = d by omega]; exact d3) ?_
      exact (R.hashAt h0).trans (congrArg (kh P w) k0)
/-- the search from its beginning -/
theorem look (R : KSet P w s.heap a L es ep t) {x : Addr} {k : List Key} (T : IsK P w s.heap k x) (hu : A.units < cLine) (ad : Bool) {Q : SetFound → Shared → Prop}
    (qin : k ∈ L.map (·.2) → ∀ r : Option Nat, (ad = false → r.isSome = true) → Q (.there r) s)
    (qout : ∀ N, k ∉ L.map (·.2) → way t.mask (kh P w k) N ∉ t.place.toList → (∀ c < N, way t.mask (kh P w k) c ∈ t.place.toList) → Q (.free (way t.mask (kh P w k) N) false) s) :
    wpAny (model P w) A (setSearch a (.ref x) (kh P w k) ad) Q E s := by
  have room := R.room
  obtain ⟨N, lim, out, bef⟩ := R.tab.free (by rw [List.length_map]; omega) (kh P w k)
  have big : N < 100000 := by
    have := R.mask.le
    unfold SetTable.turns at lim
    omega
  unfold setSearch
  refine look_from R T hu ad lim out bef qin (fun n => qout N n out bef) 100000 0 none rfl (Nat.zero_le _) (by omega) fun i e he ek => ?_
  have lt : i < t.place.toList.length := by
    rw [R.places]
    exact (List.getElem?_eq_some_iff.mp he).1
  have hj := List.getElem?_eq_getElem lt
  obtain ⟨d, d1, d2⟩ := R.tab.ahead out (i := i) (by rw [List.getElem?_map, he, ← ek]; rfl) hj
  exact ⟨d, Nat.zero_le _, d1, by rw [hj, d2]⟩
/-- x in such a set -/
theorem find_in (R : KSet P w s.heap a L es ep t) {x : Addr} {k : List Key} (T : IsK P w s.heap k x) (hu : A.units < cLine) {Q : Option Nat → Shared → Prop}
    (q : ∀ r : Option Nat, (r.isSome = true ↔ k ∈ L.map (·.2)) → Q r s) : wpAny (model P w) A (setFind a (.ref x) (kh P w k)) Q E s := by
  obtain ⟨o, ho, ex, dat⟩ := R.here
  unfold setFind setFindIn
  refine wpAny_bind (wpAny_setState_of ho dat R.fits ?_)
  dsimp only
  refine wp_if_neg (by simp [byScan, Value.scannable]) ?_
  try refine wpAny_bind (wpAny_pure ?_)
  refine wpAny_bind (look R T hu false (fun inn r hr => ?_) fun N n _ _ => ?_)
  · dsimp only
    exact wpAny_pure (q r ⟨fun _ => inn, fun _ => hr rfl⟩)
  · dsimp only
    exact wpAny_pure (q none ⟨fun z => (nomatch z), fun z => absurd z n⟩)
end
end Nm
set_option maxRecDepth 100000
set_option maxHeartbeats 4000000
/-! a tuple put into a set of tuples of keys -/
namespace Nm
open PySem PySem.Spec PyProof.Rows L2
theorem new_mask : SetTable.sizeAbove (SetTable.grown 5) = 32 ∧ SetTable.sizeAbove (SetTable.grown 19) = 128 ∧ SetTable.sizeAbove (SetTable.grown 77) = 512 ∧ SetTable.sizeAbove (SetTable.grown 307) = 2048 ∧ SetTable.sizeAbove (SetTable.grown 1229) = 8192 := by decide +kernel
/-- how a table grows -/
theorem grows {m n : Nat} (h : MaskIn m) (few : n * 5 < m * 3) (full : (n + 1) * 5 ≥ m * 3) (le : n + 1 ≤ 4900) :
    ∃ M, SetTable.sizeAbove (SetTable.grown (n + 1)) - 1 = M ∧ MaskIn M ∧ SetTable.sizeAbove (SetTable.grown (n + 1)) ≤ 8192 ∧ (n + 1) * 5 < M * 3 := by
  obtain ⟨a1, a2, a3, a4, a5⟩ := new_mask
  rcases h with rfl | rfl | rfl | rfl | rfl | rfl
  · obtain rfl : n = 4 := by omega
    exact ⟨31, by rw [a1], .inr (.inl rfl), by rw [a1]; decide, by decide⟩
  · obtain rfl : n = 18 := by omega
    exact ⟨127, by rw [a2], .inr (.inr (.inl rfl)), by rw [a2]; decide, by decide⟩
  · obtain rfl : n = 76 := by omega
    exact ⟨511, by rw [a3], .inr (.inr (.inr (.inl rfl))), by rw [a3]; decide, by decide⟩
  · obtain rfl : n = 306 := by omega
    exact ⟨2047, by rw [a4], .inr (.inr (.inr (.inr (.inl rfl)))), by rw [a4]; decide, by decide⟩
  · obtain rfl : n = 1228 := by omega
    exact ⟨8191, by rw [a5], .inr (.inr (.inr (.inr (.inr rfl)))), by rw [a5]; decide, by decide⟩
  · omega
section
variable {P : Program} {w : World} {A : Around} {E : Value → Shared → Prop} {s : Shared}
theorem isK_but {h h' : Heap} {k : List Key} {a b : Addr} {o : Obj} {es : Array (Int × Value)} {ep : Nat} {t : SetTable} (T : IsK P w h k b) (ho : h.get? a = some o) (dat : o.data = .set es ep t) (sb : Heap.SameBut a h h') : IsK P w h' k b := by
  obtain ⟨u, its, cnt, hu, cl, ud, itk⟩ := T
  refine ⟨u, its, cnt, (sb.2 b fun e => ?_).trans hu, cl, ud, itk⟩
  subst e
  rw [ho] at hu
  cases hu
  rw [dat] at ud
  cases ud
theorem rowsK_put (L : List (Addr × List Key)) (i : Nat) (x : Addr) (k : List Key) : rowsK P w (L.take i ++ (x, k) :: L.drop i) = (rowsK P w L).take i ++ (kh P w k, Value.ref x) :: (rowsK P w L).drop i := by
  unfold rowsK
  rw [List.map_append, List.map_cons, List.map_take, List.map_drop]
/-- the rows in another order -/
theorem rowsK_order {L : List (Addr × List Key)} {es : Array (Int × Value)} {ord : Array Nat} (hr : es.toList = rowsK P w L) (pm : ord.toList.Perm (List.range L.length)) :
    ∃ L', (ord.filterMap (es[·]?)).toList = rowsK P w L' ∧ L'.Perm L ∧ (L'.map fun e => kh P w e.2) = ord.toList.map fun i => (es.map (·.1)).getD i 0 := by
  have sz : es.size = L.length := by rw [← Array.length_toList, hr, rowsK_len]
  have row : ∀ (i : Nat) e, L[i]? = some e → es[i]? = some (kh P w e.2, Value.ref e.1) := fun i e h => by
    rw [← Array.getElem?_toList, hr]
    show (L.map _)[i]? = _
    rw [List.getElem?_map, h]
    rfl
  have walk : ∀ js : List Nat, (∀ j ∈ js, j < L.length) → ∃ L', js.filterMap (fun i => es[i]?) = rowsK P w L' ∧ js.filterMap (fun i => L[i]?) = L' ∧ (L'.map fun e => kh P w e.2) = js.map fun i => (es.map (·.1)).getD i 0 := by
    intro js
    induction js with
    | nil => exact fun _ => ⟨[], rfl, rfl, rfl⟩
    | cons j js ih =>
      intro below
      obtain ⟨L', b1, b2, b3⟩ := ih fun i m => below i (List.mem_cons_of_mem _ m)
      obtain ⟨e, he⟩ : ∃ e, L[j]? = some e := ⟨_, List.getElem?_eq_getElem (below j List.mem_cons_self)⟩
      refine ⟨e :: L', by rw [List.filterMap_cons_some (row j e he), b1]; rfl, by rw [List.filterMap_cons_some he, b2], ?_⟩
      rw [List.map_cons, List.map_cons, b3]
      congr 1
      rw [Array.getD_eq_getD_getElem?, Array.getElem?_map, row j e he]
      rfl
  obtain ⟨L', b1, b2, b3⟩ := walk ord.toList fun j m => List.mem_range.mp (pm.mem_iff.mp m)
  refine ⟨L', by simpa using b1, ?_, b3⟩
  have all : ∀ n, n ≤ L.length → (List.range n).filterMap (fun i => L[i]?) = L.take n := by
    intro n
    induction n with
    | zero => exact fun _ => rfl
    | succ n ih =>
      intro le
      rw [List.range_succ, List.filterMap_append, ih (by omega), List.take_add_one, List.filterMap_cons_some (List.getElem?_eq_getElem le), List.getElem?_eq_getElem le]
      rfl
  rw [← b2]
  refine (pm.filterMap _).trans ?_
  rw [all _ (Nat.le_refl _), List.take_length]
variable {a : Addr} {L : List (Addr × List Key)} {es : Array (Int × Value)} {ep : Nat} {t : SetTable}
/-- the table laid anew -/
theorem laid_new {o : Obj} (ho : s.heap.get? a = some o) (ex : o.ExactSet) (dat : o.data = .set es ep t) (rows : es.toList = rowsK P w L) (tab : Tab t (L.map fun e => kh P w e.2)) (le : L.length ≤ t.mask) (nd : (L.map (·.2)).Nodup)
    (tups : ∀ e ∈ L, IsK P w s.heap e.2 e.1) {want M : Nat} (hM : SetTable.sizeAbove want - 1 = M) (mk : MaskIn M) (lim : SetTable.sizeAbove want ≤ 8192) (room : L.length * 5 < M * 3) {Q : Unit → Shared → Prop}
    (q : ∀ h' L' es' ep' t', Heap.SameBut a s.heap h' → KSet P w h' a L' es' ep' t' → L'.Perm L → Q () { s with heap := h' }) : wpAny (model P w) A (setRelay a want) Q E s := by
  have sz : es.size = L.length := by rw [← Array.length_toList, rows, rowsK_len]
  have pl := tab.many
  rw [List.length_map] at pl
  have fits : t.fits es.size = true := by
    unfold SetTable.fits SetTable.fill
    rw [tab.clean]
    simp
    omega
  obtain ⟨t', ord, e, pm, T, em, _, _⟩ := lay_new t (hs := es.map (·.1)) (want := want) hM mk.pow (by rw [Array.size_map, sz]; omega)
  rw [Array.size_map, sz] at pm
  obtain ⟨L', r1, r2, r3⟩ := rowsK_order (P := P) (w := w) rows pm
  rw [← r3] at T
  have sz' : (ord.filterMap (es[·]?)).size = es.size := by rw [← Array.length_toList, r1, rowsK_len, r2.length_eq, sz]
  rw [setRelay_eq]
  refine wpAny_bind (wpAny_setState_of ho dat fits ?_)
  dsimp only
  refine wp_if_neg (by rw [sizeLine_eq]; omega) ?_
  try refine wpAny_bind (wpAny_pure ?_)
  rw [e]
  dsimp only
  refine wpAny_bind ?_
  refine wp_if_neg (by rw [sz']; simp) ?_
  try refine wpAny_bind (wpAny_pure ?_)
  refine wpAny_pure ?_
  dsimp only
  have few : L.length < 4920 := by
    have := mk.le
    omega
  refine wpAny_storeSet_of ho dat ?_ (by rw [sz', sz, sizeLine_eq]; omega)
  have sb : Heap.SameBut a s.heap (s.heap.update a (Obj.putSet (ord.filterMap (es[·]?)) t')) := Heap.SameBut.update ..
  refine q _ L' (ord.filterMap (es[·]?)) (ep + 1) t' sb ⟨⟨_, store_at ho dat, ⟨ex.1, ex.2.1, ex.2.2⟩, rfl⟩, r1, T, (r2.map (·.2)).nodup_iff.mpr nd, fun u m => isK_but (tups u (r2.mem_iff.mp m)) ho dat sb, by rw [em]; exact mk, by rw [r2.length_eq, em]; exact room⟩ r2
/-- adding -/
theorem put_in (R : KSet P w s.heap a L es ep t) {x : Addr} {k : List Key} (T : IsK P w s.heap k x) (hu : A.units < cLine) (few : L.length + 1 ≤ 4900) {Q : Bool → Shared → Prop}
    (q : ∀ b h' L' es' ep' t', Heap.SameBut a s.heap h' → KSet P w h' a L' es' ep' t' → (k ∈ L.map (·.2) → L' = L) → (k ∉ L.map (·.2) → L'.Perm ((x, k) :: L)) → Q b { s with heap := h' }) :
    wpAny (model P w) A (setAddHashed a (.ref x) (kh P w k)) Q E s := by
  obtain ⟨o, ho, ex, dat⟩ := R.here
  have sz := R.size
  have room := R.room
  unfold setAddHashed
  refine wpAny_holding ?_
  rw [show (100000 : Nat) = 99999 + 1 from rfl, setAddHashedIn_succ]
  refine wpAny_bind (wpAny_setState_of ho dat R.fits ?_)
  dsimp only
  refine wp_if_neg (by simp [byScan, Value.scannable]) ?_
  try refine wpAny_bind (wpAny_pure ?_)
  refine wpAny_bind (look R T hu true (fun inn r _ => ?_) fun N nin out bef => ?_)
  · dsimp only
    exact wpAny_pure (q false s.heap L es ep t (Heap.SameBut.refl a s.heap) R (fun _ => rfl) fun z => absurd inn z)
  · dsimp only
    refine wpAny_bind (wpAny_setState_of ho dat R.fits ?_)
    dsimp only
    obtain ⟨c1, c2, c3⟩ := R.tab.more out bef
    have em : (t.put (way t.mask (kh P w k) N)).1.mask = t.mask := rfl
    generalize hpt : t.put (way t.mask (kh P w k) N) = pt at c2 c3 em ⊢
    have ep2 : pt.2 = SetTable.below t.place (way t.mask (kh P w k) N) := by rw [← hpt]; rfl
    obtain ⟨t1, pos⟩ := pt
    dsimp only at c2 c3 em ep2 ⊢
    subst ep2
    generalize hpos : SetTable.below t.place (way t.mask (kh P w k) N) = pos at *
    have rows1 : (SetTable.insertAt es pos (kh P w k, Value.ref x)).toList = rowsK P w (L.take pos ++ (x, k) :: L.drop pos) := by
      rw [SetTable.toList_insertAt, rowsK_put, R.rows]
    have pm : (L.take pos ++ (x, k) :: L.drop pos).Perm ((x, k) :: L) := by
      have z := List.perm_middle (a := (x, k)) (l₁ := L.take pos) (l₂ := L.drop pos)
      rw [List.take_append_drop] at z
      exact z
    have len : (L.take pos ++ (x, k) :: L.drop pos).length = L.length + 1 := pm.length_eq
    have hs : (L.take pos ++ (x, k) :: L.drop pos).map (fun e => kh P w e.2) = (L.map fun e => kh P w e.2).take pos ++ kh P w k :: (L.map fun e => kh P w e.2).drop pos := by
      rw [List.map_append, List.map_cons, List.map_take, List.map_drop]
    rw [← hs] at c2
    have nd1 : ((L.take pos ++ (x, k) :: L.drop pos).map (·.2)).Nodup := (pm.map (·.2)).nodup_iff.mpr (List.nodup_cons.mpr ⟨nin, R.nd⟩)
    have sz1 : (SetTable.insertAt es pos (kh P w k, Value.ref x)).size = L.length + 1 := by rw [← Array.length_toList, rows1, rowsK_len, len]
    generalize SetTable.insertAt es pos (kh P w k, Value.ref x) = es1 at rows1 sz1 ⊢
    generalize L.take pos ++ (x, k) :: L.drop pos = L1 at pm len c2 nd1 rows1
    -- the rest, however the field stands
    have rest : ∀ t2 : SetTable, Tab t2 (L1.map fun e => kh P w e.2) → t2.mask = t.mask → t2.fill = L.length + 1 →
        wpAny (model P w) A (do
            storeSet a es1 t2
            if !false && t2.tooFull then setRelay a (SetTable.grown (es.size + 1))
            return true) Q E s := fun t2 T2 m2 f2 => by
      refine wpAny_bind (wpAny_storeSet_of ho dat ?_ (by rw [sz1, sizeLine_eq]; omega))
      have sb : Heap.SameBut a s.heap (s.heap.update a (Obj.putSet es1 t2)) := Heap.SameBut.update ..
      have ho1 := store_at (es' := es1) (t' := t2) ho dat
      generalize s.heap.update a (Obj.putSet es1 t2) = h1 at sb ho1 ⊢
      have tups1 : ∀ e ∈ L1, IsK P w h1 e.2 e.1 := fun e m => by
        rcases List.mem_cons.mp (pm.mem_iff.mp m) with rfl | m
        · exact isK_but T ho dat sb
        · exact isK_but (R.tups e m) ho dat sb
      by_cases full : t2.tooFull = true
      · have hf := full
        unfold SetTable.tooFull at hf
        rw [decide_eq_true_eq, f2, m2] at hf
        obtain ⟨M, g1, g2, g3, g4⟩ := grows R.mask room hf few
        first
          | (refine wpAny_bind ?_; refine wp_if_pos (by simp [full]) ?_)
          | (refine wp_if_pos (by simp [full]) ?_; refine wpAny_bind ?_)
        rw [sz]
        refine laid_new (s := { s with heap := h1 }) ho1 ⟨ex.1, ex.2.1, ex.2.2⟩ rfl rows1 T2 (by rw [len, m2]; have := R.mask.le; rcases R.mask with e | e | e | e | e | e <;> omega) nd1 tups1 g1 g2 g3 (by rw [len]; exact g4) ?_
        intro h2 L2 es2 ep2 t3 sb2 R2 pm2
        exact wpAny_pure (q true h2 L2 es2 ep2 t3 (sb.trans sb2) R2 (fun z => absurd z nin) fun _ => pm2.trans pm)
      · first
          | refine wp_if_neg (by simp [full]) ?_
          | (refine wpAny_bind ?_; refine wp_if_neg (by simp [full]) ?_; refine wpAny_pure ?_)
        have hf := full
        unfold SetTable.tooFull at hf
        rw [decide_eq_true_eq, f2, m2] at hf
        exact wpAny_pure (q true h1 L1 es1 (ep + 1) t2 sb ⟨⟨_, ho1, ⟨ex.1, ex.2.1, ex.2.2⟩, rfl⟩, rows1, T2, nd1, tups1, by rw [m2]; exact R.mask, by rw [len, m2]; omega⟩ (fun z => absurd z nin) fun _ => pm)
    by_cases pl : t1.plain = true
    · first
        | (refine wpAny_bind ?_; refine wp_if_pos pl ?_)
        | (refine wp_if_pos pl ?_; refine wpAny_bind ?_)
      refine hash_of T fun r => ?_
      cases r with
      | true =>
        simp only [if_true]
        exact rest t1 c2 em (by rw [c3, List.length_map])
      | false =>
        simp only [Bool.false_eq_true, if_false]
        exact rest { t1 with plain := false } ⟨c2.up, c2.clean, c2.many, c2.pow, c2.low, c2.led⟩ em (by show t1.fill = _; rw [c3, List.length_map])
    · first
        | (refine wpAny_bind ?_; refine wp_if_neg pl ?_; refine wpAny_pure ?_)
        | (refine wp_if_neg pl ?_; refine wpAny_bind (wpAny_pure ?_))
        | (refine wp_if_neg pl ?_)
      simp only [if_true]
      exact rest t1 c2 em (by rw [c3, List.length_map])
end
end Nm
set_option maxRecDepth 100000
set_option maxHeartbeats 4000000
/-! sets of tuples of keys as objects: set(), x in them, .add(x) -/
namespace Nm
open PySem PySem.Spec PyProof.Rows L2
/-- such a set, the tuples left out -/
structure KBare (P : Program) (w : World) (h : Heap) (a : Addr) (L : List (Addr × List Key)) : Prop where
  ex : ∃ (es : Array (Int × Value)) (ep : Nat) (t : SetTable), (∃ o, h.get? a = some o ∧ o.ExactSet ∧ o.data = .set es ep t) ∧ es.toList = rowsK P w L ∧ Tab t (L.map fun e => kh P w e.2) ∧ (L.map (·.2)).Nodup ∧ MaskIn t.mask ∧ L.length * 5 < t.mask * 3
theorem KSet.bare {P : Program} {w : World} {h : Heap} {a : Addr} {L : List (Addr × List Key)} {es : Array (Int × Value)} {ep : Nat} {t : SetTable} (R : KSet P w h a L es ep t) : KBare P w h a L := ⟨es, ep, t, R.here, R.rows, R.tab, R.nd, R.mask, R.room⟩
theorem KBare.set {P : Program} {w : World} {h : Heap} {a : Addr} {L : List (Addr × List Key)} (R : KBare P w h a L) (T : ∀ e ∈ L, IsK P w h e.2 e.1) : ∃ es ep t, KSet P w h a L es ep t := by
  obtain ⟨es, ep, t, c1, c2, c3, c4, c5, c6⟩ := R
  exact ⟨es, ep, t, c1, c2, c3, c4, T, c5, c6⟩
def KSetO (P : Program) (w : World) (a : Addr) (L : List (Addr × List Key)) : HO := .ext fun h => KBare P w h a L
theorem kset_obj {P : Program} {w : World} {H : Hp} {h : Heap} {a : Addr} {L : List (Addr × List Key)} (R : KBare P w h a L) : ObjOk P w H h a (KSetO P w a L) := by
  refine ⟨R, ?_, fun h1 h2 p k => ?_⟩
  · obtain ⟨_, _, _, ⟨o, ho, _⟩, _⟩ := R
    exact ⟨o, ho⟩
  · obtain ⟨es, ep, t, ⟨o, ho, r⟩, q⟩ := (show KBare P w h1 a L from p)
    exact ⟨es, ep, t, ⟨o, k o ho, r⟩, q⟩
theorem kbare_typeIs {P : Program} {w : World} {s : Shared} {a : Addr} {L : List (Addr × List Key)} (R : KBare P w s.heap a L) : s.TypeIs (.ref a) "set" := by
  obtain ⟨_, _, _, ⟨o, ho, ex, _⟩, _⟩ := R
  exact ⟨o, ho, ex.1⟩
theorem kbare_noDict {P : Program} {w : World} {h : Heap} {a : Addr} {L : List (Addr × List Key)} (R : KBare P w h a L) : ∀ b, Value.ref a = .ref b → ∃ u, h.get? b = some u ∧ u.dict = none := by
  obtain ⟨_, _, _, ⟨o, ho, ex, _⟩, _⟩ := R
  intro b e
  cases e
  exact ⟨o, ho, ex.2.1⟩
/-- the tuples of such a set stand -/
def KIn (H : Hp) (L : List (Addr × List Key)) : Prop := ∀ e ∈ L, H e.1 = some (.tup (e.2.map kV))
section
variable {X : Cx} {pins : List (Addr × Obj)} {σ : L2.St} {H : Hp} {s : Shared}
theorem kset_get {a : Addr} {L : List (Addr × List Key)} (I : Inv X pins σ H s) (ha : H a = some (KSetO X.prog X.w a L)) : KBare X.prog X.w s.heap a L := (I.hok a _ ha).1
theorem key_is {u : Addr} {k : List Key} (I : Inv X pins σ H s) (hu : H u = some (.tup (k.map kV))) : IsK X.prog X.w s.heap k u := key_of I.hok hu
/-- set() -/
def rSetKT (P : Program) (w : World) : List V → Hp → VK → Prop := fun xs H Q => xs = [] ∧ ∀ p, H p = none → Q (.ref p) (upd H p (KSetO P w p []))
theorem cr_setKT : CallR X (.type "set") (rSetKT X.prog X.w) := by
  intro pins s σ H xs us Q I r h
  obtain ⟨rfl, q⟩ := h
  cases r
  refine setR_new fun _ => ?_
  refine ⟨.ref _, upd H s.heap.objs.size (KSetO X.prog X.w s.heap.objs.size []), I.laid (t' := s.toks) (fun b u e => Heap.get?_push_of_some _ e) (Nat.le_refl _) (kset_obj ?_), rfl, q _ (I.hok.fresh (Nat.le_refl _))⟩
  refine ⟨#[], 0, .fresh 0 0 (!X.w.params.followText "set-order"), ⟨_, Heap.get?_push_size _ rfl, ⟨rfl, rfl, rfl⟩, rfl⟩, rfl, ⟨List.Pairwise.nil, rfl, rfl, ⟨3, rfl⟩, fun x m => ?_, fun i h j e => ?_⟩, List.nodup_nil, .inl rfl, by show 0 * 5 < 7 * 3; decide⟩
  · cases m
  · simp at e
/-- u in a -/
def rInKT (P : Program) (w : World) : V → V → Hp → VK → Prop := fun x y H Q => ∃ (u a : Addr) (k : List Key) (L : List (Addr × List Key)), x = .ref u ∧ y = .ref a ∧ H u = some (.tup (k.map kV)) ∧ H a = some (KSetO P w a L) ∧ KIn H L ∧ ∀ b : Bool, (b = true ↔ k ∈ L.map (·.2)) → Q (.bl b) H
theorem or_inKT (room : X.A.units + 1 < cLine) : OpR X (compareOp .In) (rInKT X.prog X.w) := by
  intro pins s σ H x y v u' Q I rx ry h
  obtain ⟨u, a, k, L, rfl, rfl, hu, ha, kin, q⟩ := h
  cases rx
  cases ry
  have R0 := kset_get I ha
  have ty := kbare_typeIs R0
  obtain ⟨es, ep, t, R⟩ := R0.set fun e m => key_is I (kin e m)
  have T := key_is I hu
  show wpAny _ _ (do return Value.bool (← contains (.ref a) (.ref u))) _ _ s
  refine wpAny_bind ?_
  unfold contains
  try with_reducible refine wpAny_holding ?_
  refine wpAny_bind (wpAny_specialOf ty F.slot_set_contains.lookup ?_)
  refine wp_if_neg (by rw [beq_builtin_none]; exact Bool.false_ne_true) ?_
  refine wpAny_bind (wpAny_callSpecialUnlessNone?_slot (name := Str.ofString "__contains__") ty F.slot_set_contains (wpAny_call_entry F.slot_set_contains ty entry_set_contains ?_ (F.args_set_contains_2 _ _)))
  unfold Builtin.«frozenset.__contains__» Builtin.Frozenset.oneOther
  simp only [List.isEmpty_nil, bind_assoc]
  unfold Builtin.Frozenset.addrOf Builtin.Frozenset.withSetAsKey setContains
  refine wpAny_bind (wpAny_pure ?_)
  try dsimp only
  refine wpAny_bind (wpAny_pure ?_)
  try dsimp only
  refine wpAny_bind (wpAny_tryCatch (wpAny_holding (wpAny_bind (wpAny_pyHash_tuple room T ?_))))
  refine wpAny_bind (find_in (s := { s with toks := s.toks + (k.length + 1) }) R T room fun r hr => wpAny_pure ?_)
  show wpAny _ _ (ret (Value.bool r.isSome)) _ _ _
  exact wpAny_pure ⟨_, rfl, wpAny_truthy_bool (wpAny_pure ⟨.bl r.isSome, H, I.tok _, rfl, q _ hr⟩)⟩
/-- a.add(u), u not in a -/
def rAddKT (P : Program) (w : World) : V → List V → Hp → VK → Prop := fun x xs H Q => ∃ (a u : Addr) (k : List Key) (L : List (Addr × List Key)), x = .ref a ∧ xs = [.ref u] ∧ H u = some (.tup (k.map kV)) ∧ H a = some (KSetO P w a L) ∧ KIn H L ∧ k ∉ L.map (·.2) ∧ L.length + 1 ≤ 4900 ∧
  ∀ L', L'.Perm ((u, k) :: L) → Q .non (upd H a (KSetO P w a L'))
theorem mt_addKT (room : X.A.units + 1 < cLine) : MtR X "set.add" (rAddKT X.prog X.w) := by
  intro pins s σ H x xs v us Q I rx rxs h
  obtain ⟨a, u, k, L, rfl, rfl, hu, ha, kin, nin, few, q⟩ := h
  cases rx
  rw [Vals.ref1 rxs]
  have R0 := kset_get I ha
  obtain ⟨es, ep, t, R⟩ := R0.set fun e m => key_is I (kin e m)
  have T := key_is I hu
  refine wpAny_call_entry F.slot_set_add (kbare_typeIs R0) F.entry_set_add ?_ (F.args_set_add_2 _ _)
  unfold Builtin.«set.add» Builtin.Frozenset.oneOther
  simp only [List.isEmpty_nil, bind_assoc]
  unfold Builtin.Frozenset.addrOf setAdd
  refine wpAny_bind (wpAny_pure ?_)
  try dsimp only
  refine wpAny_bind (wpAny_pure ?_)
  try dsimp only
  refine wpAny_bind (wpAny_holding (wpAny_bind (wpAny_pyHash_tuple room T ?_)))
  refine put_in (s := { s with toks := s.toks + (k.length + 1) }) R T room few fun b h' L' es' ep' t' sb R' _ out => ?_
  show wpAny _ _ (ret Value.none) _ _ _
  refine wpAny_pure ⟨_, rfl, .non, upd H a (KSetO X.prog X.w a L'), I.write (e := a) (t' := s.toks + (k.length + 1)) (by rw [ha]; trivial) (.inl rfl) (fun b u hb hu => (sb.2 b hb).trans hu) ?_ (kset_obj R'.bare), rfl, q L' (out nin)⟩
  obtain ⟨o, ho, _⟩ := R'.here
  exact ⟨o, ho⟩
def tAddKT (P : Program) (w : World) (to : TE) (t : TA) : TE := fun σ H Q => to σ H fun x H1 => (∃ a L, x = V.ref a ∧ H1 a = some (KSetO P w a L)) ∧ t σ H1 fun xs H2 => rAddKT P w x xs H2 Q
variable {o e : Expr} {es : List Expr} {to : TE} {t : TA} {apos cpos : Pos}
theorem pe_addKT (room : X.A.units + 1 < cLine) (ho : PE X o to) (ha : PA X (e :: es) t)
    (b1 : attributeBase o "add" X.env (eval o X.env) = eval o X.env := by rfl)
    (b2 : ((backTo cpos (starEach (e :: es) X.env)).all (fun x => !x.1) && (backToKw cpos (keywordEach [] X.env)).all (fun x => x.1.isSome) && decide ((e :: es).length + ([] : List Keyword).length + (if ([] : List Keyword).isEmpty then 0 else 1) < 30)) = true := by rfl)
    (b3 : (apos.endLine == cpos.line) = true := by rfl) (b4 : starEach (e :: es) X.env = (false, eval e X.env) :: starEach es X.env := by rfl) (b5 : (backTo cpos (starEach es X.env)).any (·.1) = false := by rfl) :
    PE X (.Call (.Attribute o "add" apos) (e :: es) [] cpos) (tAddKT X.prog X.w to t) := by
  refine ⟨fun pins s σ H Q I h => wpAny_Call_method_late b1 b2 b3 rfl (thn (ho.run pins s σ H _ I h) fun v s1 ⟨x, H1, I1, r1, ty, q1⟩ => ?_)⟩
  obtain ⟨a, L, rfl, hka⟩ := ty
  have R := kset_get I1 hka
  cases r1
  refine ⟨"set", "set.add", F.plainAttrs_set, F.slot_set_add, F.type_set_add, kbare_typeIs R, kbare_noDict R, ?_⟩
  have run := ha.run cpos pins s1 σ H1 _ I1 q1
  rw [b4] at run ⊢
  refine Calls.callWith_builtin (by show (false || (backTo cpos (starEach es X.env)).any (·.1)) = false; rw [b5] <;> rfl) (Calls.evalArgs_plain (thn run fun us s2 ⟨vs, H2, I2, r2, q2⟩ => ?_))
  exact mt_addKT room pins s2 σ H2 (.ref a) vs (.ref a) us Q I2 rfl r2 q2
end
end Nm
set_option maxRecDepth 100000
set_option maxHeartbeats 4000000
namespace Nm
open PySem L2
theorem KIn.same {H H' : Hp} {L : List (Addr × List Key)} (h : KIn H L) (s : Same H H') : KIn H' L := fun e m => s _ _ (h e m)
section
variable {P : Program} {w : World} {K : PySem.W.Frag} {mg : Str → Option Value} {base : Heap}
/-! ### need_ties -/
abbrev nNT : List Str := ["ties", "names", "spots", "at", "tie", "spot"]
theorem scNT : FnScope nNT ["ties", "names"] (defScope sNeedTies) := ⟨rfl, rfl, rfl, by decide +kernel, rfl, by decide +kernel, by decide +kernel⟩
theorem ok_needT {f : Addr} {fd : FuncData} (F : Fun K "need_ties" "need_ties" sNeedTies f fd) (T : TxtH mg) (Gs : Def P w K mg base "tie_spot" ["tie", "names"] 3 spSpot) : FnOk P w K mg base CX0 4 f fd ["ties", "names"] spNeedT := by
  obtain ⟨fs, fds, Gs, ms, ks, bs⟩ := Gs.ex
  refine F.ok scNT (fun vs H Q E h => ?_) (fun cdv A outer s H vs Q E hr h => ?_)
  · obtain ⟨_, _, _, _, _, rfl, _⟩ := h
    rfl
  · obtain ⟨p, d, tl, nm, kvs, rfl, ⟨ts, hp, pr⟩, hd, hk, hok, hnd, htl, k⟩ := h
    have hu := hu_of hr
    refine ⟨_, pss_cons (ps_set (i := 2) scNT.nd rfl (Or.inl rfl) (pe_callTy0 cr_setKT (by rfl) T.set (by decide +kernel)))
      (pss_one (ps_for PassesOwn.never rfl (pi_enum (by rfl) T.enumerate (pa_cons (pv 0) pa_nil)) (pg_tup rfl (pgs_cons (pg_name (i := 3) scNT.nd rfl (.inl rfl)) (pgs_cons (pg_name (i := 4) scNT.nd rfl (.inl rfl)) pgs_nil)))
        (pss_cons (ps_set (i := 5) scNT.nd rfl (Or.inl rfl) (pe_call Gs hr (by rfl) ms ks bs .nil pass0 (pa_cons (pv 4) (pa_cons (pv 1) pa_nil))))
        (pss_cons (ps_if (PW.pt (pw_or (pt_cmp (pc_isN (pv 5))) (pw_or1 (pt_cmpR (or_inKT hu) (pv 5) (pv 2) (by rfl))))) (pss_one ps_never) pss_nil)
        (pss_one (ps_expr (pe_addKT hu (pv 2) (pa_cons (pv 5) pa_nil)))))))), ?_⟩
    refine ⟨rfl, fun sp hsp => ?_⟩
    have s1 := same_new (o := KSetO P w sp []) hsp
    have hsp1 : (upd H sp (KSetO P w sp [])) sp = some (KSetO P w sp []) := upd_same
    refine ⟨_, rfl, p, _, rfl, SqL.of (s1 _ _ hp), ?_⟩
    refine for_it (walk_enum (xs := ts.map V.ref)) (fun i σ H2 => ∃ v3 v4 v5 L, σ = [some (.ref p), some (.ref d), some (.ref sp), v3, v4, v5] ∧ H2 sp = some (KSetO P w sp L) ∧ KIn H2 L ∧ (∀ e ∈ L, e.2 ∈ (tl.map TieV.spot).take i) ∧ L.length = i ∧ Same H H2)
      ⟨none, none, none, [], rfl, hsp1, (fun e m => (List.not_mem_nil m).elim), (fun e m => (List.not_mem_nil m).elim), rfl, s1⟩ (fun i σ H2 _ ⟨_, _, _, _, _, _, _, _, _, h⟩ => SqL.of (h _ _ hp)) ?_ ?_
    · rintro i x σ H2 H3 hi ⟨v3, v4, v5, L, rfl, hsp2, kin, hL, hlen, s2⟩ ⟨tp, x1, y1, rfl, htp, rfl, e1, e2⟩
      rw [List.length_map] at hi
      have e2 : (ts.map V.ref)[i]? = some y1 := e2
      rw [List.getElem?_map] at e2
      obtain ⟨t, ht, rfl⟩ := Option.map_eq_some_iff.mp e2
      cases e1
      obtain ⟨tv, htv, htt⟩ := paired_get pr ht
      have s3 : Same H2 (upd H2 tp (.tup [V.int (i : Nat), V.ref t])) := same_new htp
      have htp3 : (upd H2 tp (.tup [V.int (i : Nat), V.ref t])) tp = some (.tup [V.int (i : Nat), V.ref t]) := upd_same
      generalize upd H2 tp (.tup [V.int (i : Nat), V.ref t]) = H3 at *
      refine ⟨tp, _, rfl, SqT.of htp3, rfl, _, _, rfl, _, _, rfl, rfl, ?_⟩
      refine ⟨_, rfl, _, rfl, t, d, tv, nm, kvs, rfl, s3 _ _ (s2 _ _ htt), s3 _ _ (s2 _ _ hd), hk, hok tv (List.mem_of_getElem? htv), fun r H4 hr0 hr4 s4 => ?_⟩
      have s34 := s3.trans s4
      have hsp4 := s34 _ _ hsp2
      have kin4 := kin.same s34
      have nin : tv.spot ∉ L.map (·.2) := fun m => by
        obtain ⟨e, he, ee⟩ := List.mem_map.mp m
        have h1 := hL e he
        rw [ee] at h1
        obtain ⟨j, hj⟩ := List.getElem?_of_mem h1
        rw [List.getElem?_take] at hj
        split at hj
        · rename_i lt
          have h2 : (tl.map TieV.spot)[i]? = some tv.spot := by rw [List.getElem?_map, htv]; rfl
          have := (List.getElem?_inj (List.getElem?_eq_some_iff.mp hj).1 hnd).mp (hj.trans h2.symm)
          omega
        · cases hj
      have hn : decide (V.ref r = V.non) = false := decide_eq_false (fun z => by cases z)
      refine ⟨_, rfl, _, rfl, ?_⟩
      rw [hn]
      refine iteF ?_
      refine ⟨_, rfl, _, rfl, r, sp, tv.spot, L, rfl, rfl, hr4, hsp4, kin4, fun b hb => ⟨_, rfl, ?_⟩⟩
      have hb0 : b = false := by
        cases b with
        | false => rfl
        | true => exact absurd (hb.mp rfl) nin
      subst hb0
      refine iteF ?_
      have hil : i < tl.length := (List.getElem?_eq_some_iff.mp htv).1
      refine ⟨_, rfl, ⟨sp, L, rfl, hsp4⟩, _, rfl, sp, r, tv.spot, L, rfl, rfl, hr4, hsp4, kin4, nin, by omega, fun L' pm => ?_⟩
      have nsp : H sp = none := hsp
      refine ⟨_, _, _, L', rfl, upd_same, fun e m => ?_, fun e m => ?_, by rw [pm.length_eq, List.length_cons, hlen], fun b o e => ?_⟩
      · have he : H4 e.1 = some (.tup (e.2.map kV)) := by
          rcases List.mem_cons.mp (pm.mem_iff.mp m) with rfl | m
          · exact hr4
          · exact kin4 e m
        rw [upd_ne (ne_of he hsp4 (by intro z; cases z))]
        exact he
      · rw [List.take_add_one, show (tl.map TieV.spot)[i]? = some tv.spot by rw [List.getElem?_map, htv]; rfl]
        rcases List.mem_cons.mp (pm.mem_iff.mp m) with rfl | m
        · exact List.mem_append_right _ (by simp)
        · exact List.mem_append_left _ (hL e m)
      · rw [upd_ne (ne_of_none e hsp)]
        exact s34 _ _ (s2 b o e)
    · rintro σ H2 ⟨v3, v4, v5, L, rfl, hsp2, kin, hL, hlen, s2⟩
      exact k H2 s2
end
end Nm
set_option maxRecDepth 100000
set_option maxHeartbeats 8000000
/-! what the top has written, and the law -/
namespace Nm
open PySem PySem.Spec PyProof.Rows L2 LamX
section
variable {P : Program} {w : World} {K : PySem.W.Frag} {mg : Str → Option Value} {base : Heap}
theorem def_mk {x : Str} {ps : List Str} {k : Nat} {sp : Sp} {f : Addr} {fd : FuncData} (G : FnOk P w K mg base CX0 k f fd ps sp) (a : mg x = some (.ref f)) (kp : PySem.W.keepIn K (.ref f) = true) (b : Binds K fd ps []) : Def P w K mg base x ps k sp := ⟨f, fd, G, a, kp, b⟩
theorem defx_mk {x : Str} {ps : List Str} {k : Nat} {sp : Sp} {f : Addr} {fd : FuncData} (G : FnOk P w K mg base (L2.CX P w) k f fd ps sp) (a : mg x = some (.ref f)) (kp : PySem.W.keepIn K (.ref f) = true) (b : Binds K fd ps []) : DefX P w K mg base x ps k sp := ⟨f, fd, G, a, kp, b⟩
/-- a code object's fields as its head's word asks for them -/
def hdV (vs : Array Value) (c P : Addr) : Bool := (match (vs[11]? : Option Value) with | some (.ref P') => P' == P | _ => false) &&
  (match vs.getD 18 .none with | .str _ _ => true | _ => false) && (match vs.getD 7 .none with | .int _ _ => true | _ => false) &&
  (match vs.getD 9 .none with | .bool _ => true | _ => false) && (match vs.getD 10 .none with | .int _ _ => true | _ => false) && c != P
theorem hdV_ok {c PT : Addr} {dd : Option Addr} {vs : Array Value} {sl : Array (Option Value)} (l : K.lookup c = some ⟨.type "code", dd, .fields vs, sl⟩) (h : hdV vs c PT = true) : PySem.W.codeHdIn K c PT = true := by
  unfold PySem.W.codeHdIn
  rw [l]
  exact h
theorem exm_self {C : Addr} {cd : PySem.ClassData} (b : PySem.W.subIn K (.ref C) (.type "BaseException") = some true) (d : PySem.W.clsIn K C = some cd) (t : PySem.W.typeIn K (.ref C) = some (.type "type")) (s : PySem.W.subIn K (.ref C) (.ref C) = some true) : PySem.W.exmOne K (.ref C) (.ref C) = some true := by
  have kc : PySem.W.kitCls K (.ref C) (.ref C) = some true := by
    show (if ((PySem.W.clsIn K C).isSome && PySem.W.typeIn K (.ref C) == some (.type "type")) = true then PySem.W.subIn K (.ref C) (.ref C) else none) = some true
    rw [d, t, s]
    rfl
  unfold PySem.W.exmOne
  rw [b, kc]
  rfl
theorem hdV_11 {c PT : Addr} {vs : Array Value} (h : hdV vs c PT = true) : vs[11]? = some (.ref PT) := by
  unfold hdV at h
  simp only [Bool.and_eq_true] at h
  obtain ⟨⟨⟨⟨⟨e1, _⟩, _⟩, _⟩, _⟩, _⟩ := h
  split at e1
  · rename_i P' h11
    rw [h11, beq_iff_eq.mp e1]
  · cases e1
end
theorem all_mk {l : PySem.W.OpenLaw} {w : World} {K : PySem.W.Frag} {h : Heap} {mg : Str → Option Value} {fa C CB c PT : Addr} (X : K.In h) (G : h.Ns mainGlobals mg) (hfa : mg "law" = some (.ref fa)) (own : OwnTab K fa h)
    {f_isw : Addr} {kV_isw dc_isw pm_isw cd_isw ct_isw : Value} {an_isw : Option Addr} {oc_isw : Value} {od_isw : Option Addr} {sl_isw : Array (Option Value)} (a_isw : PySem.W.nsIn K mainGlobals "is_word" = some (some (.ref f_isw))) (l_isw : K.lookup f_isw = some ⟨oc_isw, od_isw, .func (PySem.W.fnOf "is_word" "is_word" (defArgs sIsWord) (defBody sIsWord) (defScope sIsWord) .none kV_isw dc_isw pm_isw an_isw cd_isw ct_isw), sl_isw⟩) (c_isw : PySem.W.codeIn K cd_isw "is_word" = true) (k_isw : PySem.W.keepIn K (.ref f_isw) = true)
    {f_isi : Addr} {kV_isi dc_isi pm_isi cd_isi ct_isi : Value} {an_isi : Option Addr} {oc_isi : Value} {od_isi : Option Addr} {sl_isi : Array (Option Value)} (a_isi : PySem.W.nsIn K mainGlobals "is_integer" = some (some (.ref f_isi))) (l_isi : K.lookup f_isi = some ⟨oc_isi, od_isi, .func (PySem.W.fnOf "is_integer" "is_integer" (defArgs sIsInteger) (defBody sIsInteger) (defScope sIsInteger) .none kV_isi dc_isi pm_isi an_isi cd_isi ct_isi), sl_isi⟩) (c_isi : PySem.W.codeIn K cd_isi "is_integer" = true) (k_isi : PySem.W.keepIn K (.ref f_isi) = true)
    {f_isn : Addr} {kV_isn dc_isn pm_isn cd_isn ct_isn : Value} {an_isn : Option Addr} {oc_isn : Value} {od_isn : Option Addr} {sl_isn : Array (Option Value)} (a_isn : PySem.W.nsIn K mainGlobals "is_number" = some (some (.ref f_isn))) (l_isn : K.lookup f_isn = some ⟨oc_isn, od_isn, .func (PySem.W.fnOf "is_number" "is_number" (defArgs sIsNumber) (defBody sIsNumber) (defScope sIsNumber) .none kV_isn dc_isn pm_isn an_isn cd_isn ct_isn), sl_isn⟩) (c_isn : PySem.W.codeIn K cd_isn "is_number" = true) (k_isn : PySem.W.keepIn K (.ref f_isn) = true)
    {f_ke : Addr} {kV_ke dc_ke pm_ke cd_ke ct_ke : Value} {an_ke : Option Addr} {oc_ke : Value} {od_ke : Option Addr} {sl_ke : Array (Option Value)} (a_ke : PySem.W.nsIn K mainGlobals "kept" = some (some (.ref f_ke))) (l_ke : K.lookup f_ke = some ⟨oc_ke, od_ke, .func (PySem.W.fnOf "kept" "kept" (defArgs sKept) (defBody sKept) (defScope sKept) .none kV_ke dc_ke pm_ke an_ke cd_ke ct_ke), sl_ke⟩) (c_ke : PySem.W.codeIn K cd_ke "kept" = true) (k_ke : PySem.W.keepIn K (.ref f_ke) = true)
    {f_nw : Addr} {kV_nw dc_nw pm_nw cd_nw ct_nw : Value} {an_nw : Option Addr} {oc_nw : Value} {od_nw : Option Addr} {sl_nw : Array (Option Value)} (a_nw : PySem.W.nsIn K mainGlobals "need_word" = some (some (.ref f_nw))) (l_nw : K.lookup f_nw = some ⟨oc_nw, od_nw, .func (PySem.W.fnOf "need_word" "need_word" (defArgs sNeedWord) (defBody sNeedWord) (defScope sNeedWord) .none kV_nw dc_nw pm_nw an_nw cd_nw ct_nw), sl_nw⟩) (c_nw : PySem.W.codeIn K cd_nw "need_word" = true) (k_nw : PySem.W.keepIn K (.ref f_nw) = true)
    {f_no : Addr} {kV_no dc_no pm_no cd_no ct_no : Value} {an_no : Option Addr} {oc_no : Value} {od_no : Option Addr} {sl_no : Array (Option Value)} (a_no : PySem.W.nsIn K mainGlobals "need_once" = some (some (.ref f_no))) (l_no : K.lookup f_no = some ⟨oc_no, od_no, .func (PySem.W.fnOf "need_once" "need_once" (defArgs sNeedOnce) (defBody sNeedOnce) (defScope sNeedOnce) .none kV_no dc_no pm_no an_no cd_no ct_no), sl_no⟩) (c_no : PySem.W.codeIn K cd_no "need_once" = true) (k_no : PySem.W.keepIn K (.ref f_no) = true)
    {f_np : Addr} {kV_np dc_np pm_np cd_np ct_np : Value} {an_np : Option Addr} {oc_np : Value} {od_np : Option Addr} {sl_np : Array (Option Value)} (a_np : PySem.W.nsIn K mainGlobals "need_places" = some (some (.ref f_np))) (l_np : K.lookup f_np = some ⟨oc_np, od_np, .func (PySem.W.fnOf "need_places" "need_places" (defArgs sNeedPlaces) (defBody sNeedPlaces) (defScope sNeedPlaces) .none kV_np dc_np pm_np an_np cd_np ct_np), sl_np⟩) (c_np : PySem.W.codeIn K cd_np "need_places" = true) (k_np : PySem.W.keepIn K (.ref f_np) = true)
    {f_ts : Addr} {kV_ts dc_ts pm_ts cd_ts ct_ts : Value} {an_ts : Option Addr} {oc_ts : Value} {od_ts : Option Addr} {sl_ts : Array (Option Value)} (a_ts : PySem.W.nsIn K mainGlobals "tie_spot" = some (some (.ref f_ts))) (l_ts : K.lookup f_ts = some ⟨oc_ts, od_ts, .func (PySem.W.fnOf "tie_spot" "tie_spot" (defArgs sTieSpot) (defBody sTieSpot) (defScope sTieSpot) .none kV_ts dc_ts pm_ts an_ts cd_ts ct_ts), sl_ts⟩) (c_ts : PySem.W.codeIn K cd_ts "tie_spot" = true) (k_ts : PySem.W.keepIn K (.ref f_ts) = true)
    {f_nt : Addr} {kV_nt dc_nt pm_nt cd_nt ct_nt : Value} {an_nt : Option Addr} {oc_nt : Value} {od_nt : Option Addr} {sl_nt : Array (Option Value)} (a_nt : PySem.W.nsIn K mainGlobals "need_ties" = some (some (.ref f_nt))) (l_nt : K.lookup f_nt = some ⟨oc_nt, od_nt, .func (PySem.W.fnOf "need_ties" "need_ties" (defArgs sNeedTies) (defBody sNeedTies) (defScope sNeedTies) .none kV_nt dc_nt pm_nt an_nt cd_nt ct_nt), sl_nt⟩) (c_nt : PySem.W.codeIn K cd_nt "need_ties" = true) (k_nt : PySem.W.keepIn K (.ref f_nt) = true)
    {f_ot : Addr} {kV_ot dc_ot pm_ot cd_ot ct_ot : Value} {an_ot : Option Addr} {oc_ot : Value} {od_ot : Option Addr} {sl_ot : Array (Option Value)} (a_ot : PySem.W.nsIn K mainGlobals "ordered_ties" = some (some (.ref f_ot))) (l_ot : K.lookup f_ot = some ⟨oc_ot, od_ot, .func (PySem.W.fnOf "ordered_ties" "ordered_ties" (defArgs sOrderedTies) (defBody sOrderedTies) (defScope sOrderedTies) .none kV_ot dc_ot pm_ot an_ot cd_ot ct_ot), sl_ot⟩) (c_ot : PySem.W.codeIn K cd_ot "ordered_ties" = true) (k_ot : PySem.W.keepIn K (.ref f_ot) = true)
    {f_po : Addr} {kV_po dc_po pm_po cd_po ct_po : Value} {an_po : Option Addr} {oc_po : Value} {od_po : Option Addr} {sl_po : Array (Option Value)} (a_po : PySem.W.nsIn K mainGlobals "pairs_over" = some (some (.ref f_po))) (l_po : K.lookup f_po = some ⟨oc_po, od_po, .func (PySem.W.fnOf "pairs_over" "pairs_over" (defArgs sPairsOver) (defBody sPairsOver) (defScope sPairsOver) .none kV_po dc_po pm_po an_po cd_po ct_po), sl_po⟩) (c_po : PySem.W.codeIn K cd_po "pairs_over" = true) (k_po : PySem.W.keepIn K (.ref f_po) = true)
    {f_wo : Addr} {kV_wo dc_wo pm_wo cd_wo ct_wo : Value} {an_wo : Option Addr} {oc_wo : Value} {od_wo : Option Addr} {sl_wo : Array (Option Value)} (a_wo : PySem.W.nsIn K mainGlobals "weights_of_over" = some (some (.ref f_wo))) (l_wo : K.lookup f_wo = some ⟨oc_wo, od_wo, .func (PySem.W.fnOf "weights_of_over" "weights_of_over" (defArgs sWeightsOver) (defBody sWeightsOver) (defScope sWeightsOver) .none kV_wo dc_wo pm_wo an_wo cd_wo ct_wo), sl_wo⟩) (c_wo : PySem.W.codeIn K cd_wo "weights_of_over" = true) (k_wo : PySem.W.keepIn K (.ref f_wo) = true)
    {f_oc : Addr} {kV_oc dc_oc pm_oc cd_oc ct_oc : Value} {an_oc : Option Addr} {oc_oc : Value} {od_oc : Option Addr} {sl_oc : Array (Option Value)} (a_oc : PySem.W.nsIn K mainGlobals "_law_open_cells" = some (some (.ref f_oc))) (l_oc : K.lookup f_oc = some ⟨oc_oc, od_oc, .func (PySem.W.fnOf "_law_open_cells" "_law_open_cells" (defArgs sOpenCells) (defBody sOpenCells) (defScope sOpenCells) .none kV_oc dc_oc pm_oc an_oc cd_oc ct_oc), sl_oc⟩) (c_oc : PySem.W.codeIn K cd_oc "_law_open_cells" = true) (k_oc : PySem.W.keepIn K (.ref f_oc) = true)
    {f_pk : Addr} {kV_pk dc_pk pm_pk cd_pk ct_pk : Value} {an_pk : Option Addr} {oc_pk : Value} {od_pk : Option Addr} {sl_pk : Array (Option Value)} (a_pk : PySem.W.nsIn K mainGlobals "_law_pick" = some (some (.ref f_pk))) (l_pk : K.lookup f_pk = some ⟨oc_pk, od_pk, .func (PySem.W.fnOf "_law_pick" "_law_pick" (defArgs sPick) (defBody sPick) (defScope sPick) .none kV_pk dc_pk pm_pk an_pk cd_pk ct_pk), sl_pk⟩) (c_pk : PySem.W.codeIn K cd_pk "_law_pick" = true) (k_pk : PySem.W.keepIn K (.ref f_pk) = true)
    {f_ao : Addr} {kV_ao dc_ao pm_ao cd_ao ct_ao : Value} {an_ao : Option Addr} {oc_ao : Value} {od_ao : Option Addr} {sl_ao : Array (Option Value)} (a_ao : PySem.W.nsIn K mainGlobals "_law_any_order" = some (some (.ref f_ao))) (l_ao : K.lookup f_ao = some ⟨oc_ao, od_ao, .func (PySem.W.fnOf "_law_any_order" "_law_any_order" (defArgs sAnyOrder) (defBody sAnyOrder) (defScope sAnyOrder) .none kV_ao dc_ao pm_ao an_ao cd_ao ct_ao), sl_ao⟩) (c_ao : PySem.W.codeIn K cd_ao "_law_any_order" = true) (k_ao : PySem.W.keepIn K (.ref f_ao) = true)
    {f_ch : Addr} {kV_ch dc_ch pm_ch cd_ch ct_ch : Value} {an_ch : Option Addr} {oc_ch : Value} {od_ch : Option Addr} {sl_ch : Array (Option Value)} (a_ch : PySem.W.nsIn K mainGlobals "_law_choice_of" = some (some (.ref f_ch))) (l_ch : K.lookup f_ch = some ⟨oc_ch, od_ch, .func (PySem.W.fnOf "_law_choice_of" "_law_choice_of" (defArgs sChoiceOf) (defBody sChoiceOf) (defScope sChoiceOf) .none kV_ch dc_ch pm_ch an_ch cd_ch ct_ch), sl_ch⟩) (c_ch : PySem.W.codeIn K cd_ch "_law_choice_of" = true) (k_ch : PySem.W.keepIn K (.ref f_ch) = true)
    {f_sh : Addr} {kV_sh dc_sh pm_sh cd_sh ct_sh : Value} {an_sh : Option Addr} {oc_sh : Value} {od_sh : Option Addr} {sl_sh : Array (Option Value)} (a_sh : PySem.W.nsIn K mainGlobals "_law_shape_pairs" = some (some (.ref f_sh))) (l_sh : K.lookup f_sh = some ⟨oc_sh, od_sh, .func (PySem.W.fnOf "_law_shape_pairs" "_law_shape_pairs" (defArgs sShapePairs) (defBody sShapePairs) (defScope sShapePairs) .none kV_sh dc_sh pm_sh an_sh cd_sh ct_sh), sl_sh⟩) (c_sh : PySem.W.codeIn K cd_sh "_law_shape_pairs" = true) (k_sh : PySem.W.keepIn K (.ref f_sh) = true)
    {f_dw : Addr} {kV_dw dc_dw pm_dw cd_dw ct_dw : Value} {an_dw : Option Addr} {oc_dw : Value} {od_dw : Option Addr} {sl_dw : Array (Option Value)} (a_dw : PySem.W.nsIn K mainGlobals "_law_draw_world" = some (some (.ref f_dw))) (l_dw : K.lookup f_dw = some ⟨oc_dw, od_dw, .func (PySem.W.fnOf "_law_draw_world" "_law_draw_world" (defArgs sDrawWorld) (defBody sDrawWorld) (defScope sDrawWorld) .none kV_dw dc_dw pm_dw an_dw cd_dw ct_dw), sl_dw⟩) (c_dw : PySem.W.codeIn K cd_dw "_law_draw_world" = true) (k_dw : PySem.W.keepIn K (.ref f_dw) = true)
    {f_ma : Addr} {kV_ma dc_ma pm_ma cd_ma ct_ma : Value} {an_ma : Option Addr} {oc_ma : Value} {od_ma : Option Addr} {sl_ma : Array (Option Value)} (a_ma : PySem.W.nsIn K mainGlobals "_law_made" = some (some (.ref f_ma))) (l_ma : K.lookup f_ma = some ⟨oc_ma, od_ma, .func (PySem.W.fnOf "_law_made" "_law_made" (defArgs sMade) (defBody sMade) (defScope sMade) .none kV_ma dc_ma pm_ma an_ma cd_ma ct_ma), sl_ma⟩) (c_ma : PySem.W.codeIn K cd_ma "_law_made" = true) (k_ma : PySem.W.keepIn K (.ref f_ma) = true)
    {f_pa : Addr} {kV_pa dc_pa pm_pa cd_pa ct_pa : Value} {an_pa : Option Addr} {oc_pa : Value} {od_pa : Option Addr} {sl_pa : Array (Option Value)} (a_pa : PySem.W.nsIn K mainGlobals "_law_parts" = some (some (.ref f_pa))) (l_pa : K.lookup f_pa = some ⟨oc_pa, od_pa, .func (PySem.W.fnOf "_law_parts" "_law_parts" (defArgs sParts) (defBody sParts) (defScope sParts) .none kV_pa dc_pa pm_pa an_pa cd_pa ct_pa), sl_pa⟩) (c_pa : PySem.W.codeIn K cd_pa "_law_parts" = true) (k_pa : PySem.W.keepIn K (.ref f_pa) = true)
    {f_se : Addr} {kV_se dc_se pm_se cd_se ct_se : Value} {an_se : Option Addr} {oc_se : Value} {od_se : Option Addr} {sl_se : Array (Option Value)} (a_se : PySem.W.nsIn K mainGlobals "_law_seated" = some (some (.ref f_se))) (l_se : K.lookup f_se = some ⟨oc_se, od_se, .func (PySem.W.fnOf "_law_seated" "_law_seated" (defArgs sSeated) (defBody sSeated) (defScope sSeated) .none kV_se dc_se pm_se an_se cd_se ct_se), sl_se⟩) (c_se : PySem.W.codeIn K cd_se "_law_seated" = true) (k_se : PySem.W.keepIn K (.ref f_se) = true)
    {f_ov : Addr} {kV_ov dc_ov pm_ov cd_ov ct_ov : Value} {an_ov : Option Addr} {oc_ov : Value} {od_ov : Option Addr} {sl_ov : Array (Option Value)} (a_ov : PySem.W.nsIn K mainGlobals "_law_over" = some (some (.ref f_ov))) (l_ov : K.lookup f_ov = some ⟨oc_ov, od_ov, .func (PySem.W.fnOf "_law_over" "_law_over" (defArgs sOver) (defBody sOver) (defScope sOver) .none kV_ov dc_ov pm_ov an_ov cd_ov ct_ov), sl_ov⟩) (c_ov : PySem.W.codeIn K cd_ov "_law_over" = true) (k_ov : PySem.W.keepIn K (.ref f_ov) = true)
    {f_di : Addr} {kV_di dc_di pm_di cd_di ct_di : Value} {an_di : Option Addr} {oc_di : Value} {od_di : Option Addr} {sl_di : Array (Option Value)} (a_di : PySem.W.nsIn K mainGlobals "_law_dict" = some (some (.ref f_di))) (l_di : K.lookup f_di = some ⟨oc_di, od_di, .func (PySem.W.fnOf "_law_dict" "_law_dict" (defArgs sDict) (defBody sDict) (defScope sDict) .none kV_di dc_di pm_di an_di cd_di ct_di), sl_di⟩) (c_di : PySem.W.codeIn K cd_di "_law_dict" = true) (k_di : PySem.W.keepIn K (.ref f_di) = true)
    {f_bo : Addr} {kV_bo dc_bo pm_bo cd_bo ct_bo : Value} {an_bo : Option Addr} {oc_bo : Value} {od_bo : Option Addr} {sl_bo : Array (Option Value)} (a_bo : PySem.W.nsIn K mainGlobals "_law_bound_over" = some (some (.ref f_bo))) (l_bo : K.lookup f_bo = some ⟨oc_bo, od_bo, .func (PySem.W.fnOf "_law_bound_over" "_law_bound_over" (defArgs sBoundOver) (defBody sBoundOver) (defScope sBoundOver) .none kV_bo dc_bo pm_bo an_bo cd_bo ct_bo), sl_bo⟩) (c_bo : PySem.W.codeIn K cd_bo "_law_bound_over" = true) (k_bo : PySem.W.keepIn K (.ref f_bo) = true)
    {f_ba : Addr} {kV_ba dc_ba pm_ba cd_ba ct_ba : Value} {an_ba : Option Addr} {oc_ba : Value} {od_ba : Option Addr} {sl_ba : Array (Option Value)} (a_ba : PySem.W.nsIn K mainGlobals "_law_base" = some (some (.ref f_ba))) (l_ba : K.lookup f_ba = some ⟨oc_ba, od_ba, .func (PySem.W.fnOf "_law_base" "_law_base" (defArgs sBase) (defBody sBase) (defScope sBase) .none kV_ba dc_ba pm_ba an_ba cd_ba ct_ba), sl_ba⟩) (c_ba : PySem.W.codeIn K cd_ba "_law_base" = true) (k_ba : PySem.W.keepIn K (.ref f_ba) = true)
    {f_ad : Addr} {kV_ad dc_ad pm_ad cd_ad ct_ad : Value} {an_ad : Option Addr} {oc_ad : Value} {od_ad : Option Addr} {sl_ad : Array (Option Value)} (a_ad : PySem.W.nsIn K mainGlobals "_law_any_dict" = some (some (.ref f_ad))) (l_ad : K.lookup f_ad = some ⟨oc_ad, od_ad, .func (PySem.W.fnOf "_law_any_dict" "_law_any_dict" (defArgs sAnyDict) (defBody sAnyDict) (defScope sAnyDict) .none kV_ad dc_ad pm_ad an_ad cd_ad ct_ad), sl_ad⟩) (c_ad : PySem.W.codeIn K cd_ad "_law_any_dict" = true) (k_ad : PySem.W.keepIn K (.ref f_ad) = true)
    {f_ca : Addr} {kV_ca dc_ca pm_ca cd_ca ct_ca : Value} {an_ca : Option Addr} {oc_ca : Value} {od_ca : Option Addr} {sl_ca : Array (Option Value)} (a_ca : PySem.W.nsIn K mainGlobals "_law_caught" = some (some (.ref f_ca))) (l_ca : K.lookup f_ca = some ⟨oc_ca, od_ca, .func (PySem.W.fnOf "_law_caught" "_law_caught" (defArgs sCaught) (defBody sCaught) (defScope sCaught) .none kV_ca dc_ca pm_ca an_ca cd_ca ct_ca), sl_ca⟩) (c_ca : PySem.W.codeIn K cd_ca "_law_caught" = true) (k_ca : PySem.W.keepIn K (.ref f_ca) = true)
    {f_du : Addr} {kV_du dc_du pm_du cd_du ct_du : Value} {an_du : Option Addr} {oc_du : Value} {od_du : Option Addr} {sl_du : Array (Option Value)} (a_du : PySem.W.nsIn K mainGlobals "_law_due" = some (some (.ref f_du))) (l_du : K.lookup f_du = some ⟨oc_du, od_du, .func (PySem.W.fnOf "_law_due" "_law_due" (defArgs sDue) (defBody sDue) (defScope sDue) .none kV_du dc_du pm_du an_du cd_du ct_du), sl_du⟩) (c_du : PySem.W.codeIn K cd_du "_law_due" = true) (k_du : PySem.W.keepIn K (.ref f_du) = true)
    {f_sp : Addr} {kV_sp dc_sp pm_sp cd_sp ct_sp : Value} {an_sp : Option Addr} {oc_sp : Value} {od_sp : Option Addr} {sl_sp : Array (Option Value)} (a_sp : PySem.W.nsIn K mainGlobals "_law_spoilt" = some (some (.ref f_sp))) (l_sp : K.lookup f_sp = some ⟨oc_sp, od_sp, .func (PySem.W.fnOf "_law_spoilt" "_law_spoilt" (defArgs sSpoilt) (defBody sSpoilt) (defScope sSpoilt) .none kV_sp dc_sp pm_sp an_sp cd_sp ct_sp), sl_sp⟩) (c_sp : PySem.W.codeIn K cd_sp "_law_spoilt" = true) (k_sp : PySem.W.keepIn K (.ref f_sp) = true)
    {f_mi : Addr} {kV_mi dc_mi pm_mi cd_mi ct_mi : Value} {an_mi : Option Addr} {oc_mi : Value} {od_mi : Option Addr} {sl_mi : Array (Option Value)} (a_mi : PySem.W.findIn K (.ref C) "__init__" = some (some (.ref f_mi))) (i_mi : PySem.W.isFn K (.ref f_mi) = true) (l_mi : K.lookup f_mi = some ⟨oc_mi, od_mi, .func (PySem.W.fnOf "__init__" "Web.__init__" (defArgs sWebInit) (defBody sWebInit) (defScope sWebInit) .none kV_mi dc_mi pm_mi an_mi cd_mi ct_mi), sl_mi⟩) (c_mi : PySem.W.codeIn K cd_mi "Web.__init__" = true) (k_mi : PySem.W.keepIn K (.ref f_mi) = true)
    {f_mp : Addr} {kV_mp dc_mp pm_mp cd_mp ct_mp : Value} {an_mp : Option Addr} {oc_mp : Value} {od_mp : Option Addr} {sl_mp : Array (Option Value)} (a_mp : PySem.W.findIn K (.ref C) "places" = some (some (.ref f_mp))) (i_mp : PySem.W.isFn K (.ref f_mp) = true) (l_mp : K.lookup f_mp = some ⟨oc_mp, od_mp, .func (PySem.W.fnOf "places" "Web.places" (defArgs sWebPlaces) (defBody sWebPlaces) (defScope sWebPlaces) .none kV_mp dc_mp pm_mp an_mp cd_mp ct_mp), sl_mp⟩) (c_mp : PySem.W.codeIn K cd_mp "Web.places" = true) (k_mp : PySem.W.keepIn K (.ref f_mp) = true)
    {f_mh : Addr} {kV_mh dc_mh pm_mh cd_mh ct_mh : Value} {an_mh : Option Addr} {oc_mh : Value} {od_mh : Option Addr} {sl_mh : Array (Option Value)} (a_mh : PySem.W.findIn K (.ref C) "__contains__" = some (some (.ref f_mh))) (i_mh : PySem.W.isFn K (.ref f_mh) = true) (l_mh : K.lookup f_mh = some ⟨oc_mh, od_mh, .func (PySem.W.fnOf "__contains__" "Web.__contains__" (defArgs sWebHas) (defBody sWebHas) (defScope sWebHas) .none kV_mh dc_mh pm_mh an_mh cd_mh ct_mh), sl_mh⟩) (c_mh : PySem.W.codeIn K cd_mh "Web.__contains__" = true) (k_mh : PySem.W.keepIn K (.ref f_mh) = true)
    {kV_la dc_la pm_la ct_la : Value} {an_la : Option Addr} {oc_la : Value} {od_la : Option Addr} {sl_la : Array (Option Value)} {f_la : Addr} (a_la : PySem.W.nsIn K mainGlobals "law" = some (some (.ref f_la))) (l_la : K.lookup f_la = some ⟨oc_la, od_la, .func (PySem.W.fnOf "law" "law" (defArgs sLaw) (defBody sLaw) (defScope sLaw) .none kV_la dc_la pm_la an_la (.ref c) ct_la), sl_la⟩) (c_la : PySem.W.codeIn K (.ref c) "law" = true) (k_la : PySem.W.keepIn K (.ref f_la) = true)
    {dd_c : Option Addr} {vs_c : Array Value} {sl_c : Array (Option Value)} (l_c : K.lookup c = some ⟨.type "code", dd_c, .fields vs_c, sl_c⟩) (v_11 : vs_c[11]? = some (.ref PT)) (hd_c : hdV vs_c c PT = true) (n_t : K.lookup PT = none)
    {f_bi cda cc : Addr} {kV_bi dc_bi pm_bi ct_bi : Value} {an_bi : Option Addr} {oc_bi : Value} {od_bi : Option Addr} {sl_bi : Array (Option Value)} (a_bi : PySem.W.findIn K (.ref CB) "__init__" = some (some (.ref f_bi))) (t_bi : PySem.W.typeIn K (.ref f_bi) = some (.type "function"))
    (l_bi : K.lookup f_bi = some ⟨oc_bi, od_bi, .func (PySem.W.ksFn "__init__" "UnknownName.__init__" (defArgs sUnknownInit) (defBody sUnknownInit) (defScope sUnknownInit) .none kV_bi dc_bi pm_bi an_bi (.ref cda) ct_bi cc), sl_bi⟩) (c_bi : PySem.W.codeIn K (.ref cda) "UnknownName.__init__" = true)
    {ccl : Value} {cdd : Option Addr} {vs_b : Array Value} {ccs : Array (Option Value)} (l_b : K.lookup cda = some ⟨ccl, cdd, .fields vs_b, ccs⟩) {file : Str} {tf : Tok} (v_b : vs_b[2]? = some (.str file tf)) (fi_b : ((l.prog.main.file : Str) == file) = true)
    {cl : Value} {cld : Option Addr} {csl : Array (Option Value)} (l_cc : K.lookup cc = some ⟨cl, cld, .cell (some (.ref CB)), csl⟩) {cdB : PySem.ClassData} (d_B : PySem.W.clsIn K CB = some cdB) (m_B : PySem.W.mroIn K CB (.ref CB) = some true) (sV : PySem.W.subIn K (.ref CB) (.type "LookupError") = some true)
    (su_B : PySem.W.ks_superIn K CB CB "__init__" = some (some (.builtin "LookupError.__init__"))) (opq : PySem.W.nsIn K PySem.cStatics "thirdparty.any" = some none) (top_s : (l.prog.main.scope.names.lookup ("super" : Str)).isSome = false)
    {nm_B q_B : Str} {N_B : Addr} {bs_B : List Value} {bm_B : List Value} {sn_B sub_B ab_B col_B dd_B k0_B k1_B k2_B k3_B k5_B : _} (l_B : K.lookup CB = some (excClassObj nm_B q_B CB N_B bs_B bm_B true sn_B sub_B ab_B col_B dd_B k0_B k1_B k2_B k3_B k5_B "LookupError.__new__")) (r_B : leB bm_B = true)
    (sa_B : PySem.W.findIn K (.ref CB) "__setattr__" = some (some (.builtin "object.__setattr__"))) (ex_B : PySem.W.subIn K (.ref CB) (.type "BaseException") = some true) (ty_B : PySem.W.typeIn K (.ref CB) = some (.type "type")) (kp_B : PySem.W.keepIn K (.ref CB) = true) (sb_B : PySem.W.subIn K (.ref CB) (.ref CB) = some true)
    (ga_B : PySem.W.findIn K (.ref CB) "__getattribute__" = some (some (.builtin "BaseException.__getattribute__"))) (gg_B : PySem.W.findIn K (.ref CB) "__getattr__" = some none) (hd_B : PySem.W.hasDictIn K CB = true) (nu_B : PySem.W.findIn K (.ref CB) "name" = some none) (z_B : PySem.W.nsIn K mainGlobals "UnknownName" = some (some (.ref CB)))
    (z_len : PySem.W.nsIn K mainGlobals "len" = some none)
    (z_int : PySem.W.nsIn K mainGlobals "int" = some none)
    (z_list : PySem.W.nsIn K mainGlobals "list" = some none)
    (z_range : PySem.W.nsIn K mainGlobals "range" = some none)
    (z_abs : PySem.W.nsIn K mainGlobals "abs" = some none)
    (z_sorted : PySem.W.nsIn K mainGlobals "sorted" = some none)
    (z_dict : PySem.W.nsIn K mainGlobals "dict" = some none)
    (z_enumerate : PySem.W.nsIn K mainGlobals "enumerate" = some none)
    (z_str : PySem.W.nsIn K mainGlobals "str" = some none)
    (z_max : PySem.W.nsIn K mainGlobals "max" = some none)
    (z_min : PySem.W.nsIn K mainGlobals "min" = some none)
    (z_set : PySem.W.nsIn K mainGlobals "set" = some none)
    (z_sum : PySem.W.nsIn K mainGlobals "sum" = some none)
    (z_zip : PySem.W.nsIn K mainGlobals "zip" = some none)
    (z_isinstance : PySem.W.nsIn K mainGlobals "isinstance" = some none)
    (z_all : PySem.W.nsIn K mainGlobals "all" = some none)
    (z_bool : PySem.W.nsIn K mainGlobals "bool" = some none)
    (z_tuple : PySem.W.nsIn K mainGlobals "tuple" = some none)
    (z_repr : PySem.W.nsIn K mainGlobals "repr" = some none)
    (z_super : PySem.W.nsIn K mainGlobals "super" = some none)
    {tl td : Tok} (z_letters : PySem.W.nsIn K mainGlobals "LETTERS" = some (some (.str "abcdefghijklmnopqrstuvwxyz" tl))) (z_digits : PySem.W.nsIn K mainGlobals "DIGITS" = some (some (.str "0123456789" td)))
    (z_C : PySem.W.nsIn K mainGlobals "Web" = some (some (.ref C))) (pg : PySem.W.plainGet K C Str.empty = true) (hd : PySem.W.hasDictIn K C = true) (po : PySem.W.plainOver K C = true) (sa : PySem.W.findIn K (.ref C) "__setattr__" = some (some (.builtin "object.__setattr__"))) (mk : PySem.W.makesIn K C = true) (kc : PySem.W.keepIn K (.ref C) = true)
    (nCo : PySem.W.findIn K (.ref C) "_colour_of" = some none) (nNa : PySem.W.findIn K (.ref C) "_names" = some none) (nTi : PySem.W.findIn K (.ref C) "_ties" = some none) (nWi : PySem.W.findIn K (.ref C) "_width_of" = some none) :
    LawAtG l w K CX0 63 "_law_script" mg fa h := by
  have e := hfa.symm.trans (PySem.W.mg_of X G a_la)
  cases e
  have none_ := fun {x : Str} (z : PySem.W.nsIn K mainGlobals x = some none) => PySem.W.mg_none_of X G z
  have TA : TxtA mg := ⟨none_ z_len, none_ z_int⟩
  have TB : TxtB mg := ⟨TA, none_ z_list, none_ z_range, none_ z_abs⟩
  have TC : TxtC mg := ⟨TB, none_ z_sorted⟩
  have TD : TxtD mg := ⟨TC, none_ z_dict, none_ z_enumerate, none_ z_str⟩
  have TE : TxtE mg := ⟨TD, none_ z_max, none_ z_min, none_ z_set, none_ z_sum⟩
  have TF : TxtF mg := ⟨TE, none_ z_zip⟩
  have TG : TxtG mg := ⟨TF, none_ z_isinstance, none_ z_all, none_ z_bool, ⟨tl, PySem.W.mg_of X G z_letters⟩, ⟨td, PySem.W.mg_of X G z_digits⟩⟩
  have TH : TxtH mg := ⟨TG, none_ z_tuple⟩
  have TW : TxtW K mg C := ⟨TH, ⟨pg, hd, po, sa⟩, nCo, nNa, nTi, nWi⟩
  have TM : TxtM K mg C f_mi := ⟨TW, PySem.W.mg_of X G z_C, ⟨mk, a_mi, i_mi, kc⟩⟩
  have XF : XfC K CB := ⟨ga_B, gg_B, ex_B, hd_B⟩
  have mB := PySem.W.mg_of X G z_B
  have TQ : TxtQ mg := ⟨TH, none_ z_repr⟩
  have TKe : TxtKe mg := ⟨none_ z_isinstance, none_ z_list, none_ z_tuple, none_ z_dict⟩
  have OX : OexL K CB := ⟨⟨_, _, _, _, _, _, _, _, _, _, _, _, _, _, _, l_B, le_of _ r_B⟩, sa_B, ex_B, ty_B, kp_B⟩
  have SF : SupL l.prog K CB f_bi cda cc _ "UnknownName.__init__" sUnknownInit "self" := ⟨OX, ⟨_, _, _, _, _, _, _, _, rfl, l_bi⟩, ⟨_, rfl, rfl⟩, ⟨_, _, _, _, _, _, l_b, v_b, fi_b⟩, c_bi, ⟨_, _, _, l_cc⟩, ⟨_, d_B⟩, m_B, sV, su_B, opq, top_s⟩
  have F_isw := fun_mk (st := sIsWord) l_isw c_isw k_isw
  have b_isw := F_isw.binds (ps := ["value"]) fun _ _ _ _ _ _ us hl => match us, hl with | [_], _ => rfl
  have m_isw := PySem.W.mg_of X G a_isw
  have F_isi := fun_mk (st := sIsInteger) l_isi c_isi k_isi
  have b_isi := F_isi.binds (ps := ["value"]) fun _ _ _ _ _ _ us hl => match us, hl with | [_], _ => rfl
  have m_isi := PySem.W.mg_of X G a_isi
  have F_isn := fun_mk (st := sIsNumber) l_isn c_isn k_isn
  have b_isn := F_isn.binds (ps := ["value", "least"]) fun _ _ _ _ _ _ us hl => match us, hl with | [_, _], _ => rfl
  have m_isn := PySem.W.mg_of X G a_isn
  have F_ke := fun_mk (st := sKept) l_ke c_ke k_ke
  have b_ke := F_ke.binds (ps := ["value"]) fun _ _ _ _ _ _ us hl => match us, hl with | [_], _ => rfl
  have m_ke := PySem.W.mg_of X G a_ke
  have F_nw := fun_mk (st := sNeedWord) l_nw c_nw k_nw
  have b_nw := F_nw.binds (ps := ["value"]) fun _ _ _ _ _ _ us hl => match us, hl with | [_], _ => rfl
  have m_nw := PySem.W.mg_of X G a_nw
  have F_no := fun_mk (st := sNeedOnce) l_no c_no k_no
  have b_no := F_no.binds (ps := ["names"]) fun _ _ _ _ _ _ us hl => match us, hl with | [_], _ => rfl
  have m_no := PySem.W.mg_of X G a_no
  have F_np := fun_mk (st := sNeedPlaces) l_np c_np k_np
  have b_np := F_np.binds (ps := ["places"]) fun _ _ _ _ _ _ us hl => match us, hl with | [_], _ => rfl
  have m_np := PySem.W.mg_of X G a_np
  have F_ts := fun_mk (st := sTieSpot) l_ts c_ts k_ts
  have b_ts := F_ts.binds (ps := ["tie", "names"]) fun _ _ _ _ _ _ us hl => match us, hl with | [_, _], _ => rfl
  have m_ts := PySem.W.mg_of X G a_ts
  have F_nt := fun_mk (st := sNeedTies) l_nt c_nt k_nt
  have b_nt := F_nt.binds (ps := ["ties", "names"]) fun _ _ _ _ _ _ us hl => match us, hl with | [_, _], _ => rfl
  have m_nt := PySem.W.mg_of X G a_nt
  have F_ot := fun_mk (st := sOrderedTies) l_ot c_ot k_ot
  have b_ot := F_ot.binds (ps := ["ties", "names"]) fun _ _ _ _ _ _ us hl => match us, hl with | [_, _], _ => rfl
  have m_ot := PySem.W.mg_of X G a_ot
  have F_po := fun_mk (st := sPairsOver) l_po c_po k_po
  have b_po := F_po.binds (ps := ["paper"]) fun _ _ _ _ _ _ us hl => match us, hl with | [_], _ => rfl
  have m_po := PySem.W.mg_of X G a_po
  have F_wo := fun_mk (st := sWeightsOver) l_wo c_wo k_wo
  have b_wo := F_wo.binds (ps := ["one", "other", "over"]) fun _ _ _ _ _ _ us hl => match us, hl with | [_, _, _], _ => rfl
  have m_wo := PySem.W.mg_of X G a_wo
  have F_oc := fun_mk (st := sOpenCells) l_oc c_oc k_oc
  have b_oc := F_oc.binds (ps := ["_law_script"]) fun _ _ _ _ _ _ us hl => match us, hl with | [_], _ => rfl
  have m_oc := PySem.W.mg_of X G a_oc
  have F_pk := fun_mk (st := sPick) l_pk c_pk k_pk
  have b_pk := F_pk.binds (ps := ["_law_source", "_law_many"]) fun _ _ _ _ _ _ us hl => match us, hl with | [_, _], _ => rfl
  have m_pk := PySem.W.mg_of X G a_pk
  have F_ao := fun_mk (st := sAnyOrder) l_ao c_ao k_ao
  have b_ao := F_ao.binds (ps := ["_law_source", "_law_items"]) fun _ _ _ _ _ _ us hl => match us, hl with | [_, _], _ => rfl
  have m_ao := PySem.W.mg_of X G a_ao
  have F_ch := fun_mk (st := sChoiceOf) l_ch c_ch k_ch
  have b_ch := F_ch.binds (ps := ["_law_source", "_law_items"]) fun _ _ _ _ _ _ us hl => match us, hl with | [_, _], _ => rfl
  have m_ch := PySem.W.mg_of X G a_ch
  have F_sh := fun_mk (st := sShapePairs) l_sh c_sh k_sh
  have b_sh := F_sh.binds (ps := ["_law_source", "_law_count"]) fun _ _ _ _ _ _ us hl => match us, hl with | [_, _], _ => rfl
  have m_sh := PySem.W.mg_of X G a_sh
  have F_dw := fun_mk (st := sDrawWorld) l_dw c_dw k_dw
  have b_dw := F_dw.binds (ps := ["_law_source", "_law_most"]) fun _ _ _ _ _ _ us hl => match us, hl with | [_, _], _ => rfl
  have m_dw := PySem.W.mg_of X G a_dw
  have F_ma := fun_mk (st := sMade) l_ma c_ma k_ma
  have b_ma := F_ma.binds (ps := ["_law_source", "_law_world"]) fun _ _ _ _ _ _ us hl => match us, hl with | [_, _], _ => rfl
  have m_ma := PySem.W.mg_of X G a_ma
  have F_pa := fun_mk (st := sParts) l_pa c_pa k_pa
  have b_pa := F_pa.binds (ps := ["_law_world"]) fun _ _ _ _ _ _ us hl => match us, hl with | [_], _ => rfl
  have m_pa := PySem.W.mg_of X G a_pa
  have F_se := fun_mk (st := sSeated) l_se c_se k_se
  have b_se := F_se.binds (ps := ["_law_source", "_law_world", "_law_led"]) fun _ _ _ _ _ _ us hl => match us, hl with | [_, _, _], _ => rfl
  have m_se := PySem.W.mg_of X G a_se
  have F_ov := fun_mk (st := sOver) l_ov c_ov k_ov
  have b_ov := F_ov.binds (ps := ["_law_source", "_law_world", "_law_numbers"]) fun _ _ _ _ _ _ us hl => match us, hl with | [_, _, _], _ => rfl
  have m_ov := PySem.W.mg_of X G a_ov
  have F_di := fun_mk (st := sDict) l_di c_di k_di
  have b_di := F_di.binds (ps := ["_law_source", "_law_over_here", "_law_web", "_law_led"]) fun _ _ _ _ _ _ us hl => match us, hl with | [_, _, _, _], _ => rfl
  have m_di := PySem.W.mg_of X G a_di
  have F_bo := fun_mk (st := sBoundOver) l_bo c_bo k_bo
  have b_bo := F_bo.binds (ps := ["_law_source", "_law_ground", "_law_most"]) fun _ _ _ _ _ _ us hl => match us, hl with | [_, _, _], _ => rfl
  have m_bo := PySem.W.mg_of X G a_bo
  have F_ba := fun_mk (st := sBase) l_ba c_ba k_ba
  have b_ba := F_ba.binds (ps := ["_law_source"]) fun _ _ _ _ _ _ us hl => match us, hl with | [_], _ => rfl
  have m_ba := PySem.W.mg_of X G a_ba
  have F_ad := fun_mk (st := sAnyDict) l_ad c_ad k_ad
  have b_ad := F_ad.binds (ps := ["_law_source", "_law_told"]) fun _ _ _ _ _ _ us hl => match us, hl with | [_, _], _ => rfl
  have m_ad := PySem.W.mg_of X G a_ad
  have F_ca := fun_mk (st := sCaught) l_ca c_ca k_ca
  have b_ca := F_ca.binds (ps := ["_law_ask"]) fun _ _ _ _ _ _ us hl => match us, hl with | [_], _ => rfl
  have m_ca := PySem.W.mg_of X G a_ca
  have F_du := fun_mk (st := sDue) l_du c_du k_du
  have b_du := F_du.binds (ps := ["_law_one", "_law_other", "_law_web", "_law_first", "_law_last"]) fun _ _ _ _ _ _ us hl => match us, hl with | [_, _, _, _, _], _ => rfl
  have m_du := PySem.W.mg_of X G a_du
  have F_sp := fun_mk (st := sSpoilt) l_sp c_sp k_sp
  have b_sp := F_sp.binds (ps := ["_law_source", "_law_led", "_law_names"]) fun _ _ _ _ _ _ us hl => match us, hl with | [_, _, _], _ => rfl
  have m_sp := PySem.W.mg_of X G a_sp
  have F_mi := fun_mk (st := sWebInit) l_mi c_mi k_mi
  have b_mi := F_mi.binds (ps := ["self", "places", "ties"]) fun _ _ _ _ _ _ us hl => match us, hl with | [_, _, _], _ => rfl
  have F_mp := fun_mk (st := sWebPlaces) l_mp c_mp k_mp
  have b_mp := F_mp.binds (ps := ["self"]) fun _ _ _ _ _ _ us hl => match us, hl with | [_], _ => rfl
  have F_mh := fun_mk (st := sWebHas) l_mh c_mh k_mh
  have b_mh := F_mh.binds (ps := ["self", "name"]) fun _ _ _ _ _ _ us hl => match us, hl with | [_, _], _ => rfl
  have F_la := fun_mk (st := sLaw) l_la c_la k_la
  have b_bi : Binds K (PySem.W.ksFn "__init__" "UnknownName.__init__" (defArgs sUnknownInit) (defBody sUnknownInit) (defScope sUnknownInit) .none kV_bi dc_bi pm_bi an_bi (.ref cda) ct_bi cc) ["self", "name"] [] := .all fun us hl => match us, hl with | [_, _], _ => rfl
  have ht := own c PT _ _ _ _ _ _ l_la rfl rfl l_c v_11
  refine ⟨PySem.W.fnOf "law" "law" (defArgs sLaw) (defBody sLaw) (defScope sLaw) .none kV_la dc_la pm_la an_la (.ref c) ct_la, [(c, PT)], spLaw45 K PT, fun p hp => by rw [List.mem_singleton.mp hp]; exact ht, fun p hp => by rw [List.mem_singleton.mp hp]; exact n_t, fun p hp => by rw [List.mem_singleton.mp hp]; exact PySem.W.codeHd_of_K X (hdV_ok l_c hd_c), (fun s v => .of_eq rfl), fun H a ns hl hT hS => ⟨a, ns, rfl, hS, hl, hT _ (List.mem_singleton.mpr rfl), fun _ => rfl⟩, fun base _ _ tb => ?_⟩
  have TBc := tb _ (List.mem_singleton.mpr rfl)
  have G_pk := def_mk (ok_pick (P := l.prog) (w := w) (base := base) F_pk TA) m_pk k_pk b_pk
  have G_pz := def_mk (ok_pickZ (P := l.prog) (w := w) (base := base) F_pk TA) m_pk k_pk b_pk
  have G_ao := def_mk (ok_any F_ao TB G_pk) m_ao k_ao b_ao
  have G_ch := def_mk (ok_choice F_ch TB G_pk) m_ch k_ch b_ch
  have G_oc := def_mk (ok_open (P := l.prog) (w := w) (base := base) F_oc TB) m_oc k_oc b_oc
  have G_sh := def_mk (ok_shape F_sh TB G_pk) m_sh k_sh b_sh
  have G_dw := def_mk (ok_draw F_dw TB G_pk G_ao G_sh G_ch) m_dw k_dw b_dw
  have G_pa := def_mk (ok_parts (P := l.prog) (w := w) (base := base) F_pa TC) m_pa k_pa b_pa
  have G_se := def_mk (ok_seat F_se TD G_ao) m_se k_se b_se
  have G_ov := def_mk (ok_over F_ov TD G_pz G_pa G_se) m_ov k_ov b_ov
  have G_bo := def_mk (ok_bo F_bo TE G_pk G_ov) m_bo k_bo b_bo
  have G_ba := def_mk (ok_base F_ba G_dw) m_ba k_ba b_ba
  have G_ad := def_mk (ok_anyDict F_ad TF G_ao) m_ad k_ad b_ad
  have G_di := def_mk (ok_dict F_di TF G_ad) m_di k_di b_di
  have G_isw := def_mk (ok_word (P := l.prog) (w := w) (base := base) F_isw TG) m_isw k_isw b_isw
  have G_isi := def_mk (ok_integer (P := l.prog) (w := w) (base := base) F_isi TG) m_isi k_isi b_isi
  have G_isn := def_mk (ok_number F_isn G_isi) m_isn k_isn b_isn
  have G_nw := def_mk (ok_needW F_nw TG G_isw) m_nw k_nw b_nw
  have G_no := def_mk (ok_once (P := l.prog) (w := w) (base := base) F_no TG) m_no k_no b_no
  have G_np := def_mk (ok_needP F_np TG G_nw G_no) m_np k_np b_np
  have G_ts := def_mk (ok_spot F_ts TH G_isw G_isn) m_ts k_ts b_ts
  have G_nt := def_mk (ok_needT F_nt TH G_ts) m_nt k_nt b_nt
  have G_ot := def_mk (ok_ord (P := l.prog) (w := w) (base := base) F_ot TH) m_ot k_ot b_ot
  have O_mi := ok_webI F_mi TW G_np G_nt G_ot
  have Q_mp : MethD l.prog w K mg base C "places" ["self"] 1 (spPlaces C) := ⟨f_mp, _, ok_places F_mp TW, ⟨a_mp, i_mp, k_mp⟩, b_mp⟩
  have Q_mh : MethD l.prog w K mg base C "__contains__" ["self", "name"] 1 (spHas K C) := ⟨f_mh, _, ok_has F_mh TW, ⟨a_mh, i_mh, k_mh⟩, b_mh⟩
  have G_ma := def_mk (ok_made F_ma TM G_pk G_ao O_mi b_mi) m_ma k_ma b_ma
  have G_ke := def_mk (ok_kept (P := l.prog) (w := w) (base := base) F_ke TKe) m_ke k_ke b_ke
  have TU : TxtUnk l.prog w K mg base CB := ⟨mB, OX, XF, nu_B, ⟨f_bi, _, a_bi, t_bi, ok_unkI SF XF nu_B (none_ z_super) G_ke, b_bi⟩⟩
  have TL : TxtL45 l.prog w K mg base C f_mi CB := ⟨TM, TU, none_ z_repr, exm_self ex_B d_B ty_B sb_B⟩
  have G_po := def_mk (ok_pairs F_po TW Q_mp) m_po k_po b_po
  have G_wo := defx_mk (ok_wo F_wo TW TU Q_mp Q_mh G_po) m_wo k_wo b_wo
  have G_du := def_mk (ok_due (P := l.prog) (w := w) (base := base) F_du TQ) m_du k_du b_du
  have G_sp := def_mk (ok_spo F_sp TQ G_pk G_ch) m_sp k_sp b_sp
  refine run_law45 F_la (fun cdv oc od kV doc pm an ct osl lk => ?_) TL TBc F_ca m_ca b_ca G_oc G_pk G_ch G_ba G_bo G_dw G_ov G_di G_ma G_ad G_sp G_du G_wo
  rw [l_la] at lk
  cases lk
  rfl
end Nm
open PySem PySem.W PyProof.Rows in
set_option maxRecDepth 100000 in
set_option maxHeartbeats 0 in
theorem PySem.Challenge.cw_namelessly_k45_weights_of_overs_holds : PySem.Challenge.rw_namelessly_k45_weights_of_overs.Holds := by
  w_on; o_law; k_head; (case hw => w_witness2)
  k_fill
  refine Nm.walk_G (l := PySem.Challenge.rw_namelessly_k45_weights_of_overs) (n := 63) (x := "_law_script") (CX := fun _ => L2.CX0) rfl (by decide) rfl (by decide +kernel) (fun w h Y => PySem.W.km_in_of Y) ?F (fun _ _ _ _ _ z => z)
  case F =>
    intro w mg fa h _ KX G hmg own
    refine' Nm.all_mk KX G hmg own ?a_isw ?l_isw ?c_isw ?k_isw ?a_isi ?l_isi ?c_isi ?k_isi ?a_isn ?l_isn ?c_isn ?k_isn ?a_ke ?l_ke ?c_ke ?k_ke ?a_nw ?l_nw ?c_nw ?k_nw ?a_no ?l_no ?c_no ?k_no ?a_np ?l_np ?c_np ?k_np ?a_ts ?l_ts ?c_ts ?k_ts ?a_nt ?l_nt ?c_nt ?k_nt ?a_ot ?l_ot ?c_ot ?k_ot ?a_po ?l_po ?c_po ?k_po ?a_wo ?l_wo ?c_wo ?k_wo ?a_oc ?l_oc ?c_oc ?k_oc ?a_pk ?l_pk ?c_pk ?k_pk ?a_ao ?l_ao ?c_ao ?k_ao ?a_ch ?l_ch ?c_ch ?k_ch ?a_sh ?l_sh ?c_sh ?k_sh ?a_dw ?l_dw ?c_dw ?k_dw ?a_ma ?l_ma ?c_ma ?k_ma ?a_pa ?l_pa ?c_pa ?k_pa ?a_se ?l_se ?c_se ?k_se ?a_ov ?l_ov ?c_ov ?k_ov ?a_di ?l_di ?c_di ?k_di ?a_bo ?l_bo ?c_bo ?k_bo ?a_ba ?l_ba ?c_ba ?k_ba ?a_ad ?l_ad ?c_ad ?k_ad ?a_ca ?l_ca ?c_ca ?k_ca ?a_du ?l_du ?c_du ?k_du ?a_sp ?l_sp ?c_sp ?k_sp ?a_mi ?i_mi ?l_mi ?c_mi ?k_mi ?a_mp ?i_mp ?l_mp ?c_mp ?k_mp ?a_mh ?i_mh ?l_mh ?c_mh ?k_mh ?a_la ?l_la ?c_la ?k_la ?l_c ?v_11 ?hd_c ?n_t ?a_bi ?t_bi ?l_bi ?c_bi ?l_b ?v_b ?fi_b ?l_cc ?d_B ?m_B ?sV ?su_B ?opq ?top_s ?l_B ?r_B ?sa_B ?ex_B ?ty_B ?kp_B ?sb_B ?ga_B ?gg_B ?hd_B ?nu_B ?z_B ?z_len ?z_int ?z_list ?z_range ?z_abs ?z_sorted ?z_dict ?z_enumerate ?z_str ?z_max ?z_min ?z_set ?z_sum ?z_zip ?z_isinstance ?z_all ?z_bool ?z_tuple ?z_repr ?z_super ?z_letters ?z_digits ?z_C ?pg ?hd ?po ?sa ?mk ?kc ?nCo ?nNa ?nTi ?nWi
    (case z_C => k_is)
    (case z_B => k_is)
    (case a_isw => k_is)
    (case l_isw => k_is)
    (case c_isw => k_is)
    (case k_isw => k_is)
    (case a_isi => k_is)
    (case l_isi => k_is)
    (case c_isi => k_is)
    (case k_isi => k_is)
    (case a_isn => k_is)
    (case l_isn => k_is)
    (case c_isn => k_is)
    (case k_isn => k_is)
    (case a_ke => k_is)
    (case l_ke => k_is)
    (case c_ke => k_is)
    (case k_ke => k_is)
    (case a_nw => k_is)
    (case l_nw => k_is)
    (case c_nw => k_is)
    (case k_nw => k_is)
    (case a_no => k_is)
    (case l_no => k_is)
    (case c_no => k_is)
    (case k_no => k_is)
    (case a_np => k_is)
    (case l_np => k_is)
    (case c_np => k_is)
    (case k_np => k_is)
    (case a_ts => k_is)
    (case l_ts => k_is)
    (case c_ts => k_is)
    (case k_ts => k_is)
    (case a_nt => k_is)
    (case l_nt => k_is)
    (case c_nt => k_is)
    (case k_nt => k_is)
    (case a_ot => k_is)
    (case l_ot => k_is)
    (case c_ot => k_is)
    (case k_ot => k_is)
    (case a_po => k_is)
    (case l_po => k_is)
    (case c_po => k_is)
    (case k_po => k_is)
    (case a_wo => k_is)
    (case l_wo => k_is)
    (case c_wo => k_is)
    (case k_wo => k_is)
    (case a_oc => k_is)
    (case l_oc => k_is)
    (case c_oc => k_is)
    (case k_oc => k_is)
    (case a_pk => k_is)
    (case l_pk => k_is)
    (case c_pk => k_is)
    (case k_pk => k_is)
    (case a_ao => k_is)
    (case l_ao => k_is)
    (case c_ao => k_is)
    (case k_ao => k_is)
    (case a_ch => k_is)
    (case l_ch => k_is)
    (case c_ch => k_is)
    (case k_ch => k_is)
    (case a_sh => k_is)
    (case l_sh => k_is)
    (case c_sh => k_is)
    (case k_sh => k_is)
    (case a_dw => k_is)
    (case l_dw => k_is)
    (case c_dw => k_is)
    (case k_dw => k_is)
    (case a_ma => k_is)
    (case l_ma => k_is)
    (case c_ma => k_is)
    (case k_ma => k_is)
    (case a_pa => k_is)
    (case l_pa => k_is)
    (case c_pa => k_is)
    (case k_pa => k_is)
    (case a_se => k_is)
    (case l_se => k_is)
    (case c_se => k_is)
    (case k_se => k_is)
    (case a_ov => k_is)
    (case l_ov => k_is)
    (case c_ov => k_is)
    (case k_ov => k_is)
    (case a_di => k_is)
    (case l_di => k_is)
    (case c_di => k_is)
    (case k_di => k_is)
    (case a_bo => k_is)
    (case l_bo => k_is)
    (case c_bo => k_is)
    (case k_bo => k_is)
    (case a_ba => k_is)
    (case l_ba => k_is)
    (case c_ba => k_is)
    (case k_ba => k_is)
    (case a_ad => k_is)
    (case l_ad => k_is)
    (case c_ad => k_is)
    (case k_ad => k_is)
    (case a_ca => k_is)
    (case l_ca => k_is)
    (case c_ca => k_is)
    (case k_ca => k_is)
    (case a_du => k_is)
    (case l_du => k_is)
    (case c_du => k_is)
    (case k_du => k_is)
    (case a_sp => k_is)
    (case l_sp => k_is)
    (case c_sp => k_is)
    (case k_sp => k_is)
    (case a_mi => k_is)
    (case i_mi => k_is)
    (case l_mi => k_is)
    (case c_mi => k_is)
    (case k_mi => k_is)
    (case a_mp => k_is)
    (case i_mp => k_is)
    (case l_mp => k_is)
    (case c_mp => k_is)
    (case k_mp => k_is)
    (case a_mh => k_is)
    (case i_mh => k_is)
    (case l_mh => k_is)
    (case c_mh => k_is)
    (case k_mh => k_is)
    (case a_la => k_is)
    (case l_la => k_is)
    (case c_la => k_is)
    (case k_la => k_is)
    (case l_c => k_is)
    (case v_11 => rfl)
    (case hd_c => rfl)
    (case n_t => kernel_rfl)
    (case a_bi => k_is)
    (case t_bi => k_is)
    (case l_bi => k_is)
    (case c_bi => k_is)
    (case l_b => k_is)
    (case v_b => rfl)
    (case fi_b => decide +kernel)
    (case l_cc => k_is)
    (case d_B => k_is)
    (case m_B => k_is)
    (case sV => k_is)
    (case su_B => ks_is)
    (case opq => k_is)
    (case top_s => decide +kernel)
    (case l_B => k_is)
    (case r_B => decide +kernel)
    (case sa_B => k_is)
    (case ex_B => k_is)
    (case ty_B => k_is)
    (case kp_B => k_is)
    (case sb_B => k_is)
    (case ga_B => k_is)
    (case gg_B => k_is)
    (case hd_B => k_is)
    (case nu_B => k_is)
    (case z_len => k_is)
    (case z_int => k_is)
    (case z_list => k_is)
    (case z_range => k_is)
    (case z_abs => k_is)
    (case z_sorted => k_is)
    (case z_dict => k_is)
    (case z_enumerate => k_is)
    (case z_str => k_is)
    (case z_max => k_is)
    (case z_min => k_is)
    (case z_set => k_is)
    (case z_sum => k_is)
    (case z_zip => k_is)
    (case z_isinstance => k_is)
    (case z_all => k_is)
    (case z_bool => k_is)
    (case z_tuple => k_is)
    (case z_repr => k_is)
    (case z_super => k_is)
    (case z_letters => k_is)
    (case z_digits => k_is)
    (case pg => k_is)
    (case hd => k_is)
    (case po => k_is)
    (case sa => k_is)
    (case mk => k_is)
    (case kc => k_is)
    (case nCo => k_is)
    (case nNa => k_is)
    (case nTi => k_is)
    (case nWi => k_is)
