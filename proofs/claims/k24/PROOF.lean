import PyProof.Rows.All
import Wide.All
import OpenK.AllK
import Wide.FinOn
import HandS.ForMost
import PySem.Challenge.RW_namelessly_k24_colourings_led
import HandS.ExcInit
import HandS.ExcField
import HandS.FStr
import KE.KExcSuper
import HandS.Evl
import HandS.Style
import HandS.StrMore
import HandS.Walk
import HandS.Sort
import HandS.SortRule
import HandS.Conv
import HandS.Zip
import HandS.IsInst
import HandS.SetKeys
import HandS.DictComp
import HandS.Zip0
import KE.KDictZip
import HandS.Strs
import HandS.TupSets
import HandS.RaiseMore
import HandS.EndTab
import HandS.EndOwn
import HandS.Lambda
import HandS.Dict
import PyProof.ListNew
import HandS.DeepEq
import KE.KEqDict
import PyProof.CallFns
import PyProof.NeKinds
set_option Elab.async false
set_option maxRecDepth 100000
set_option maxHeartbeats 4000000
/-! The text by places -/
namespace Nm
open PySem L2
def top (i : Nat) : Stmt := PySem.Challenge.pw_namelessly_k24_colourings_led.main.body.getD i (.Pass ⟨0, 0, 0, 0⟩)
abbrev sIsWord : Stmt := top 4
abbrev sIsInteger : Stmt := top 5
abbrev sIsNumber : Stmt := top 6
abbrev sPlacesOver : Stmt := top 17
abbrev sNeedWord : Stmt := top 22
abbrev sNeedOnce : Stmt := top 23
abbrev sNeedPlaces : Stmt := top 24
abbrev sTieSpot : Stmt := top 25
abbrev sNeedTies : Stmt := top 26
abbrev sOrderedTies : Stmt := top 27
abbrev sOpenCells : Stmt := top 30
abbrev sPick : Stmt := top 31
abbrev sAnyOrder : Stmt := top 32
abbrev sChoiceOf : Stmt := top 33
abbrev sShapePairs : Stmt := top 34
abbrev sDrawWorld : Stmt := top 35
abbrev sMade : Stmt := top 36
abbrev sParts : Stmt := top 38
abbrev sSeated : Stmt := top 39
abbrev sOver : Stmt := top 40
abbrev sCopiedOver : Stmt := top 41
abbrev sDict : Stmt := top 42
abbrev sAbove : Stmt := top 43
abbrev sLooseWorld : Stmt := top 44
abbrev sAnyDict : Stmt := top 45
abbrev sLaw : Stmt := top 50
abbrev sWebInit : Stmt := inClass (top 28) 0
abbrev sWebPlaces : Stmt := inClass (top 28) 1
abbrev sKept : Stmt := top 7
abbrev sNeedNumbers : Stmt := top 18
abbrev sLedUp : Stmt := top 19
abbrev sLedDown : Stmt := top 20
abbrev sIsWhole : Stmt := top 37
abbrev sCaught : Stmt := top 46
abbrev sNumbersDue : Stmt := top 47
abbrev sDownDue : Stmt := top 48
abbrev sNear : Stmt := top 49
abbrev sWebLen : Stmt := inClass (top 28) 8
abbrev sBadNumberInit : Stmt := inClass (top 13) 0
end Nm
set_option maxRecDepth 100000
set_option maxHeartbeats 4000000
/-! super().__init__(e) in the __init__ of an own exception over ValueError -/
namespace Nm
open PySem PySem.Spec PyProof.Rows L2
section
variable {X : Cx} {pins : List (Addr × Obj)} {σ : L2.St} {H : Hp} {s : Shared} {a C dx u : Addr} {fs : List (Str × V)} {E : Value → Shared → Prop} {A : Around}
/-- super().__init__, bound at u, called: nothing of it is told -/
theorem mw_call {us : List Value} {Q : Value → Shared → Prop} (T : OexC X.K C) (I : Inv X pins σ H s) (hu : s.heap.get? u = some (PySem.W.kxs_mw "ValueError.__init__" a)) (e : H a = some (exo a C (some dx))) (hl : us.length ≤ sizeLine)
    (h : ∀ s', Inv X pins σ H s' → Q .none s') : wpAny (model X.prog X.w) A (call (.ref u) us) Q E s := by
  obtain ⟨nm, q, N, bs, bm, sn, sub, ab, col, dd, k0, k1, k2, k3, k5, hC, hbm⟩ := T.cls
  obtain ⟨t1, ho⟩ := exo_at I.hok e
  have fin : ∀ h', (∀ b o, b ≠ a → s.heap.get? b = some o → h'.get? b = some o) → h'.get? a = some ({ cls := .ref C, dict := some dx, data := .fields #[.ref s.heap.objs.size, .none, .none, .none, .bool false, .none] } : Obj) → Inv X pins σ H { s with heap := h', toks := s.toks } := fun h' k e' => by
    have J := I.write (t' := s.toks) (x := a) (e := a) (o := exo a C (some dx)) (by rw [e]; exact True.intro) (.inl rfl) k ⟨_, e'⟩ (exo_ok e')
    have eu : upd H a (exo a C (some dx)) = H := by
      funext b
      by_cases hb : b = a
      · rw [hb, upd_same, e]
      · rw [upd_ne hb]
    rw [eu] at J
    exact J
  have hCC := I.kIn _ _ hC
  obtain ⟨hp, g, d, t, os⟩ := s
  refine wpAny_call (codeAny_of_tree ?_)
  show wpAny _ A.in1 (callAny (.ref u) ⟨us, []⟩) _ _ _
  simp only [callAny]
  refine wpAny_bind (wpAny_load hu ?_)
  simp only [PySem.W.kxs_mw, show (Value.type "method-wrapper" == Value.type "method" || Value.type "method-wrapper" == Value.type "builtin_function_or_method" || Value.type "method-wrapper" == Value.type "method-wrapper") = true by decide, if_true]
  refine PySem.W.KFB.if_so (by decide) ?_
  refine wpAny_bind (PySem.W.check_bound_init F.excBase_ValueError.toExcCallFacts hCC ho rfl ?_)
  refine wpAny_bind (wpAny_pure (wpAny_pure ?_))
  refine ⟨plainId_quiet F.excBase_ValueError.init.plain _, codeAny_builtin F.excBase_ValueError.initEntry ?_⟩
  exact PySem.W.exc_init_tree (cls := .ref C) (t0 := t1) (dv := some dx) (c2 := .none) (c3 := .none) (b4 := .bool false) ho hl fun h' k e' _ => h _ (fin h' k e')
end
/-- what the written part says of the class at C, its __init__ at f, the code at cda, the cell __class__ at cc -/
structure SupF (P : Program) (K : PySem.W.Frag) (C f cda cc : Addr) (fd : FuncData) (qual : Str) (st : Stmt) (a0 : Str) : Prop where
  oex : OexC K C
  lk : ∃ oc od kV doc pm an ct osl, fd = PySem.W.ksFn "__init__" qual (defArgs st) (defBody st) (defScope st) .none kV doc pm an (.ref cda) ct cc ∧ K.lookup f = some ⟨oc, od, .func fd, osl⟩
  hd : ∃ ar, ((defArgs st).posonlyargs ++ (defArgs st).args).head? = some ar ∧ ar.arg = a0
  code : ∃ ccl cdd vs ccs file tf, K.lookup cda = some ⟨ccl, cdd, .fields vs, ccs⟩ ∧ vs[2]? = some (.str file tf) ∧ ((P.main.file : Str) == file) = true
  recd : PySem.W.codeIn K (.ref cda) qual = true
  cell : ∃ cl cld csl, K.lookup cc = some ⟨cl, cld, .cell (some (.ref C)), csl⟩
  cd : ∃ cd, PySem.W.clsIn K C = some cd
  sub : PySem.W.mroIn K C (.ref C) = some true
  subV : PySem.W.subIn K (.ref C) (.type "ValueError") = some true
  sup : PySem.W.ks_superIn K C C "__init__" = some (some (.builtin "ValueError.__init__"))
  opq : PySem.W.nsIn K cStatics "thirdparty.any" = some none
  top : (P.main.scope.names.lookup ("super" : Str)).isSome = false
section
variable {X : Cx} {pins : List (Addr × Obj)} {σ : L2.St} {H : Hp} {s : Shared} {a C dx f cda cc L : Addr} {fd : FuncData} {qual a0 : Str} {st : Stmt}
/-- super().__init__(e ..), the code known -/
theorem sup_expr {body : List Stmt} {e : Expr} {es : List Expr} {ta : TA} {i : Nat} {p0 p1 p2 pos : Pos} {Q : Value → Shared → Prop} {pl : Sem Bool} (F : SupF X.prog X.K C f cda cc fd qual st a0)
    (hX : X.env = PySem.W.ksEnv qual (defScope st) L f (.ref cda) cc) (hms : X.mg "super" = none)
    (hks : (defScope st).names.lookup ("super" : Str) = some .globalImplicit) (hkc : (defScope st).names.lookup ("__class__" : Str) = some .free) (hN : X.N[i]? = some a0) (hka : (defScope st).names.lookup a0 = some .local) (ha : PA X (e :: es) ta)
    (I : Inv X pins σ H s) (hσ : σ[i]? = some (some (.ref a))) (hH : H a = some (exo a C (some dx)))
    (q : ta σ H fun vs H1 => vs.length ≤ 1000 ∧ H1 a = some (exo a C (some dx)) ∧ ∀ s', Inv X pins σ H1 s' → Q .none s')
    (he : starEach (e :: es) X.env = (false, eval e X.env) :: starEach es X.env := by rfl) (hpl : (backTo pos (starEach es X.env)).any (·.1) = false := by rfl)
    (hc : eval (.Call (.Attribute (.Call (.Name "super" p0) [] [] p1) "__init__" p2) (e :: es) [] pos) X.env = (do
      let ov ← attributeBase (.Call (.Name "super" p0) [] [] p1) "__init__" X.env (eval (.Call (.Name "super" p0) [] [] p1) X.env)
      standAt p2.atName
      let (f, first) ← holding [ov] (getMethod ov "__init__" pl)
      callWith pos f first (backTo pos (starEach (e :: es) X.env)) []) := by rfl) :
    _root_.PySem.wpAt (model X.prog X.w) X.A (.func body X.env) (eval (.Call (.Attribute (.Call (.Name "super" p0) [] [] p1) "__init__" p2) (e :: es) [] pos) X.env) Q X.xe s := by
  have KX := I.kIn
  obtain ⟨oc, od, kV, doc, pm, an, ct, osl, rfl, lk⟩ := F.lk
  obtain ⟨ar, har, hara⟩ := F.hd
  obtain ⟨ccl, cdd, vs, ccs, file, tf, hcode, hvs, hfile⟩ := F.code
  obtain ⟨cl, cld, csl, hcell⟩ := F.cell
  obtain ⟨cd, hcd⟩ := F.cd
  obtain ⟨oD, hD1, hD2⟩ : ∃ oD, s.heap.get? C = some oD ∧ oD.data = .cls cd := by
    unfold PySem.W.clsIn at hcd
    split at hcd
    · rename_i c d cd' sl ho
      cases hcd
      exact ⟨_, KX _ _ ho, rfl⟩
    · cases hcd
  obtain ⟨t1, ho⟩ := exo_at I.hok hH
  obtain ⟨mb, hmb, hmv⟩ := I.mod.blt
  have naC : a ≠ C := fun z => by
    rw [z, hD1] at ho
    cases ho
    cases hD2
  refine PySem.ks_wpAt_MethodCall (pl := pl) ?_ hc
  rw [hX]
  obtain ⟨hp, g, d, t, os⟩ := s
  refine PySem.ks_wpAt_super_base (env := PySem.W.ksEnv qual (defScope st) L f (.ref cda) cc) hks hkc (by decide) rfl (KX _ _ lk) rfl har rfl (KX _ _ hcode) rfl hvs hfile F.top ?_
  have hk : (defScope st).kind = .function := by
    have z := I.ok.kind
    rw [hX] at z
    exact z
  refine PySem.W.ks_loadName_global (env := PySem.W.ksEnv qual (defScope st) L f (.ref cda) cc) hk hks (PySem.Calls.loadGlobal_builtin (env := PySem.W.ksEnv qual (defScope st) L f (.ref cda) cc) (I.mod.glob.keeps I.bk) hms (hmb.keeps I.bk) ((hmv _ (by decide)).trans PyProof.Rows.Boot.«super») ⟨rfl, ?_⟩)
  refine wpAny_loadName_free (env := PySem.W.ksEnv qual (defScope st) L f (.ref cda) cc) hk hkc rfl ⟨_, KX _ _ hcell, rfl⟩ ?_
  obtain ⟨m, hn, hl⟩ := I.loc
  obtain ⟨u0, r0, l0⟩ := hl i a0 (.ref a) hN hσ (by rw [hX]; exact .inl hka)
  obtain rfl : u0 = Value.ref a := r0
  rw [hX] at l0 hn
  have hm0 : m a0 = some (.ref a) := by
    rcases l0 with ⟨_, z⟩ | ⟨z, _⟩
    · exact z
    · have z' : (defScope st).names.lookup a0 = some .cell ∨ (defScope st).names.lookup a0 = some .free := z
      rw [hka] at z'
      rcases z' with z' | z' <;> cases z'
  rw [hara]
  refine wpAny_loadName_local (env := PySem.W.ksEnv qual (defScope st) L f (.ref cda) cc) hk hka hn hm0 ?_
  refine PySem.ks_wpAny_isType_cls hD1 hD2 ⟨rfl, ?_⟩
  refine PySem.ks_wpAny_call_super hD1 hD2 ho rfl (fun c z => by cases z) (PySem.W.looks_mroIn KX F.sub) (fun h' e' k => ?_)
  have I1 : Inv X pins σ H ⟨h', g, d, t, os⟩ := I.kept (t' := t) k
  have KX1 := I1.kIn
  have ho1 := k _ _ ho
  have LT : PySem.W.Looks (model X.prog X.w) h' (typeOf (.ref a)) (.ref C) := fun A Q E s k q => wpAny_typeOf_ref (k _ _ ho1) q
  have hfs := F.sup
  unfold PySem.W.ks_superIn at hfs
  rw [hcd] at hfs
  refine PySem.W.kxs_getMethod PySem.W.kxs_ValueError e' (PySem.W.looks_opaque KX1 F.opq) (l₀ := cd.mro) (fun A Q E s k q => wpAny_bind ((PySem.W.looks_clsIn KX1 hcd) A _ E s k (wpAny_pure q))) rfl KX1 hfs (LT.andThen (PySem.W.looks_subIn KX1 F.subV)) naC (by decide) ?_
  have I2 : Inv X pins σ H ⟨h'.push (PySem.W.kxs_mw "ValueError.__init__" a), g, d, t + 1, os⟩ := I1.kept (t' := t + 1) fun b o z => Heap.get?_push_of_some _ z
  have I3 : Inv X ((h'.objs.size, PySem.W.kxs_mw "ValueError.__init__" a) :: pins) σ H ⟨h'.push (PySem.W.kxs_mw "ValueError.__init__" a), g, d, t + 1, os⟩ := I2.pins_of fun p hp => by
    rcases List.mem_cons.mp hp with z | z
    · subst z
      exact ⟨Heap.get?_push_at rfl rfl, I1.hok.fresh (Nat.le_refl _), Nat.ne_of_gt I1.lt, I1.nofs (Nat.le_refl _), fun v z => by cases z⟩
    · exact I2.pin p (List.mem_append_right _ z)
  show wpAny _ _ (callWith pos (.ref h'.objs.size) [] (backTo pos (starEach (e :: es) (PySem.W.ksEnv qual (defScope st) L f (.ref cda) cc))) []) _ _ _
  rw [← hX]
  have HA : wpAny (model X.prog X.w) X.A (spliced (backTo pos (starEach (e :: es) X.env))) (fun us s1 => PySem.W.KxsAt "ValueError.__init__" h'.objs.size a s1.heap ∧ wpAny (model X.prog X.w) X.A (call (.ref h'.objs.size) us) Q X.xe s1) X.xe ⟨h'.push (PySem.W.kxs_mw "ValueError.__init__" a), g, d, t + 1, os⟩ := by
    refine thn (ha.run pos _ _ σ H _ I3 q) fun us s1 hs1 => ?_
    obtain ⟨vs, H1, I4, r, hl1, hH1, kq⟩ := hs1
    have pu := (I4.pin (h'.objs.size, PySem.W.kxs_mw "ValueError.__init__" a) (List.mem_append_right _ List.mem_cons_self)).1
    exact ⟨pu, mw_call F.oex I4 pu hH1 (by rw [← Paired.length r, sizeLine_eq]; omega) fun s' J => kq s' (J.pins_of fun p hp => J.pin p (List.mem_append_right _ (List.mem_cons_of_mem _ hp)))⟩
  rw [he] at HA ⊢
  refine PySem.W.kxs_callWith (i := "ValueError.__init__") (x := a) (by show (false || (backTo pos (starEach es X.env)).any (·.1)) = false; rw [hpl]; rfl) ?_
  exact PySem.Calls.evalArgs_plain HA
end
/-- the context of such an __init__ -/
def supCx (P : Program) (w : World) (K : PySem.W.Frag) (mg : Str → Option Value) (base : Heap) (N : List Str) (qual : Str) (scope : Scope) (f cda cc : Addr) (A : Around) (outer : List Env) (s : Shared) (H : Hp) (E : XK) : Cx where
  prog := P
  w := w
  K := K
  mg := mg
  base := base
  A := A.deeper (PySem.W.ksEnv qual scope s.heap.objs.size f (.ref cda) cc)
  N := N
  s_0 := s
  H_0 := H
  env := PySem.W.ksEnv qual scope s.heap.objs.size f (.ref cda) cc
  outer := outer
  stack := PySem.W.ksEnv qual scope s.heap.objs.size f (.ref cda) cc :: outer
  ex := []
  fn := fun _ => false
  calm := true
  pn := []
  xe := fun e s' => wpAny (model P w) (A.deeper (PySem.W.ksEnv qual scope s.heap.objs.size f (.ref cda) cc)) (leaving (PySem.W.ksEnv qual scope s.heap.objs.size f (.ref cda) cc) e) (fun _ s'' => CX0 outer H s E e s'') (fun e' s'' => CX0 outer H s E e' s'') s'
/-- what such an __init__'s scope must be -/
structure SupS (p0 p1 : Str) (sc : Scope) : Prop where
  kind : sc.kind = .function
  co : sc.isCoroutine = false
  gen : sc.isGenerator = false
  ne : p0 ≠ p1
  l0 : sc.names.lookup p0 = some .local
  l1 : sc.names.lookup p1 = some .local
  nocell : ∀ x ∈ sc.names, x.2 ≠ .cell
  free : ∀ x ∈ sc.names, x.2 = .free → x.1 = ("__class__" : Str)
  sup : sc.names.lookup ("super" : Str) = some .globalImplicit
  cls : sc.names.lookup ("__class__" : Str) = some .free
section
variable {P : Program} {w : World} {K : PySem.W.Frag} {mg : Str → Option Value} {base : Heap} {A : Around} {outer : List Env} {s : Shared} {H : Hp} {E : XK} {C f cda cc : Addr} {fd : FuncData} {qual p0 p1 : Str} {st : Stmt}
theorem sup_start {h₁ : Heap} {tk : Nat} {x0 x1 : V} {u0 u1 : Value} (S : SupS p0 p1 (defScope st)) (hd : A.handled = none) (e0 : Env0 P w K mg base A outer s H) (hc : ∃ cl cld csl, K.lookup cc = some ⟨cl, cld, .cell (some (.ref C)), csl⟩) (r0 : RelV x0 u0) (r1 : RelV x1 u1)
    (hns : h₁.Ns s.heap.objs.size fun x => [(p0, u0), (p1, u1)].reverse.lookup x) (hk : ∀ b o, s.heap.get? b = some o → h₁.get? b = some o) :
    Inv (supCx P w K mg base [p0, p1] qual (defScope st) f cda cc A outer s H E) [] (start [p0, p1] [x0, x1]) H { s with heap := h₁, toks := tk } := by
  obtain ⟨cl, cld, csl, hcell⟩ := hc
  have hbc := e0.bs _ _ (e0.mod.kin _ _ hcell)
  have noA : ∀ b : Addr, b ∉ (supCx P w K mg base [p0, p1] qual (defScope st) f cda cc A outer s H E).ex := fun b z => absurd (show b ∈ ([] : List Addr) from z) (by simp)
  have cl1 : ∀ {y : Str} {c : Addr}, List.lookup y [(("__class__" : Str), cc)] = some c → y = "__class__" ∧ c = cc := fun {y c} e => by
    have hm := PySem.mem_of_lookup e
    rw [List.mem_singleton] at hm
    cases hm
    exact ⟨rfl, rfl⟩
  refine ⟨⟨e0.mod, S.kind, rfl, rfl, Nat.le_refl _, fun y z c h1 h2 => ?_, fun y hy => ?_, fun y c z _ => (Bool.false_ne_true z).elim, fun _ => hd, Around.frames_deeper e0.frames, .inr ⟨rfl, rfl⟩, fun b z => absurd z (noA b), e0.bs, e0.bsz, fun b _ _ => noA b, fun b z => absurd z (noA b), e0.funs, e0.frf⟩,
    rfl, e0.bare, Un.kept hk, ⟨_, hns, fun i y v h1 h2 h3 => ?_⟩, fun y c h => ?_, e0.hok.fresh (Nat.le_refl _), fun y c h => ?_, fun p hp => absurd (show p ∈ ([] : List (Addr × Obj)) from hp) (by simp), e0.hok.kept hk, rfl⟩
  · exact (cl1 h1).1.trans (cl1 h2).1.symm
  · have hy : (defScope st).names.lookup y = some .cell ∨ (defScope st).names.lookup y = some .free := hy
    rcases hy with hy | hy
    · exact absurd rfl (S.nocell _ (PySem.mem_of_lookup hy))
    · have := S.free _ (PySem.mem_of_lookup hy) rfl
      obtain rfl : y = "__class__" := this
      exact ⟨cc, rfl⟩
  · have h1 : ([p0, p1] : List Str)[i]? = some y := h1
    have h2 : ([some x0, some x1] : List (Option V))[i]? = some (some v) := h2
    have n01 := S.ne
    match i, h1, h2 with
    | 0, h1, h2 =>
      cases h1
      cases h2
      exact ⟨u0, r0, .inl ⟨S.l0, by simp [List.lookup, (show (p0 == p1) = false from by simpa using n01)]⟩⟩
    | 1, h1, h2 =>
      cases h1
      cases h2
      exact ⟨u1, r1, .inl ⟨S.l1, by simp [List.lookup]⟩⟩
    | (n + 2), h1, h2 => simp at h1
  · obtain ⟨_, rfl⟩ := cl1 h
    exact ⟨_, _, hk _ _ hbc.1, rfl⟩
  · obtain ⟨_, rfl⟩ := cl1 h
    exact hbc.2
/-- THE RULE: def __init__(p0, p1): one statement; super().__init__(e ..) -/
theorem sup_def {sp : Sp} {k : Nat} {s1 : Stmt} {e : Expr} {es : List Expr} {q0 q1 q2 q3 q4 : Pos} (F : SupF P K C f cda cc fd qual st p0) (S : SupS p0 p1 (defScope st)) (hms : mg "super" = none)
    (hb : defBody st = [s1, .Expr (.Call (.Attribute (.Call (.Name "super" q0) [] [] q1) "__init__" q2) (e :: es) [] q3) q4]) (len : ∀ vs H Q E, sp vs H Q E → vs.length = 2)
    (hbody : ∀ (A : Around) (outer : List Env) (s : Shared) (H : Hp) (vs : List V) (Q : VK) (E : XK), Room k (A.deeper (PySem.W.ksEnv qual (defScope st) s.heap.objs.size f (.ref cda) cc)) → sp vs H Q E →
      ∃ (a : Addr) (t : TS) (ta : TA), PS (supCx P w K mg base [p0, p1] qual (defScope st) f cda cc A outer s H E) s1 t ∧ PA (supCx P w K mg base [p0, p1] qual (defScope st) f cda cc A outer s H E) (e :: es) ta ∧
        t { nx := fun σ H' => σ[0]? = some (some (.ref a)) ∧ ∃ dx, H' a = some (exo a C (some dx)) ∧ ∀ R : List V → Hp → Prop, (∀ vs H1, vs.length ≤ 1000 → H1 a = some (exo a C (some dx)) → Q .non H1 → R vs H1) → ta σ H' R, rt := fun _ _ => False } (start [p0, p1] vs) H)
    (hsw : ∀ env : Env, swapsWith (.Call (.Attribute (.Call (.Name "super" q0) [] [] q1) "__init__" q2) (e :: es) [] q3) none q4.line env = pure false := by intro env; rfl)
    {pl : Sem Bool} (he : ∀ env : Env, starEach (e :: es) env = (false, eval e env) :: starEach es env := by intro env; rfl) (hpl : ∀ env : Env, (backTo q3 (starEach es env)).any (·.1) = false := by intro env; rfl)
    (hc : ∀ env : Env, eval (.Call (.Attribute (.Call (.Name "super" q0) [] [] q1) "__init__" q2) (e :: es) [] q3) env = (do
      let ov ← attributeBase (.Call (.Name "super" q0) [] [] q1) "__init__" env (eval (.Call (.Name "super" q0) [] [] q1) env)
      standAt q2.atName
      let (f, first) ← holding [ov] (getMethod ov "__init__" pl)
      callWith q3 f first (backTo q3 (starEach (e :: es) env)) []) := by intro env; rfl) : FnOk P w K mg base CX0 (k + 1) f fd [p0, p1] sp := by
  refine ⟨len, fun A outer s H args us vs Q E hr e0 hbd r hsp => ?_⟩
  have F' := F
  obtain ⟨oc, od, kV, doc, pm, an, ct, osl, rfl, lk⟩ := F'.lk
  have KX : K.In s.heap := e0.mod.kin.keeps fun b o e => (e0.bs b o e).1
  have lim : s.heap.NoLimit := e0.mod.nolimit.keeps fun b o e => (e0.bs b o e).1
  have hl2 := len _ _ _ _ hsp
  obtain ⟨a, t, ta, h1, h2, hq⟩ := hbody A outer s H vs Q E (hr.deeper _) hsp
  match vs, us, r, hl2 with
  | [x0, x1], [u0, u1], .cons r0 (.cons r1 .nil), _ =>
    refine PySem.ks_codeAny_call_defAt (binds := [(p0, u0), (p1, u1)]) hr.depth (KX _ _ lk) rfl lim (PySem.W.codeRec_of KX F.recd) rfl hbd S.nocell (fun x hx => ?_) (fun h₁ hns hk₁ => ?_) S.co S.gen S.kind
    · rcases List.mem_cons.mp hx with z | z
      · subst z
        exact S.l0
      · rw [List.mem_singleton] at z
        subst z
        exact S.l1
    · have I := sup_start (qual := qual) (f := f) (cda := cda) (E := E) (tk := s.toks + 2) S hr.hd e0 F.cell r0 r1 hns hk₁
      have hrun := h1.run [] _ _ H _ I hq
      show _root_.PySem.wpAt (model P w) (A.deeper (PySem.W.ksEnv qual (defScope st) s.heap.objs.size f (.ref cda) cc)) (.func (defBody st) (PySem.W.ksEnv qual (defScope st) s.heap.objs.size f (.ref cda) cc)) (execs (defBody st) (PySem.W.ksEnv qual (defScope st) s.heap.objs.size f (.ref cda) cc)) _ _ _
      generalize defBody st = bd at hb ⊢
      rw [show execs bd (PySem.W.ksEnv qual (defScope st) s.heap.objs.size f (.ref cda) cc) = execs [s1, .Expr (.Call (.Attribute (.Call (.Name "super" q0) [] [] q1) "__init__" q2) (e :: es) [] q3) q4] (PySem.W.ksEnv qual (defScope st) s.heap.objs.size f (.ref cda) cc) from by rw [hb]]
      refine PySem.ks_wpAt_execs_cons (PySem.wpAt_of_wpAny (wpAny_mono hrun (fun fl s' hs => ?_) fun e s' hs => hs))
      cases fl with
      | next =>
        obtain ⟨σ', H', J, hσ, dx, hH, hta⟩ := hs
        refine PySem.ks_wpAt_execs_cons (PySem.ks_wpAt_Expr_any (sup_expr (pl := pl) F rfl hms S.sup S.cls (i := 0) rfl S.l0 h2 J hσ hH (hta _ fun vs H1 hl hH1 q => ⟨hl, hH1, fun s2 J2 => ?_⟩) (he _) (hpl _) (hc _)) (hi := J.quiet) (hs := hsw _))
        exact PySem.wpAt_of_wpAny (wpAny_execs_nil ⟨.non, H1, J2.os, J2.bare, J2.base, J2.hok, rfl, q⟩)
      | brk =>
        obtain ⟨_, _, _, z⟩ := hs
        exact False.elim z
      | cont =>
        obtain ⟨_, _, _, z⟩ := hs
        exact False.elim z
      | ret u =>
        obtain ⟨_, _, _, _, _, z⟩ := hs
        exact False.elim z
end
end Nm
set_option maxRecDepth 100000
set_option maxHeartbeats 4000000
namespace Nm
open PySem L2
/-! ### the source of draws -/
def srcD (c : Addr) (left mixed turn : Int) : List (Key × V) :=
  [(Sum.inr "cells", V.ref c), (Sum.inr "left", V.int left), (Sum.inr "mixed", V.int mixed), (Sum.inr "turn", V.int turn)]
structure SrcOk (H : Hp) (s c : Addr) (cs : List Int) (left mixed turn : Int) : Prop where
  ds : H s = some (.dK (srcD c left mixed turn))
  dc : H c = some (.lst (cs.map V.int))
  nn : ∀ x ∈ cs, 0 ≤ x
  len : cs.length ≤ 63
  l0 : 0 ≤ left
  m0 : 0 ≤ mixed
  m1 : mixed < 2147483629
  t0 : 0 ≤ turn
def Src (H : Hp) (s c : Addr) : Prop := ∃ cs left mixed turn, SrcOk H s c cs left mixed turn
/-- all but the source stays -/
def Kp (s c : Addr) (H H' : Hp) : Prop := ∀ b o, H b = some o → b ≠ s → b ≠ c → H' b = some o
theorem Kp.refl {s c : Addr} (H : Hp) : Kp s c H H := fun _ _ h _ _ => h
theorem Kp.trans {s c : Addr} {H H1 H2 : Hp} (a : Kp s c H H1) (b : Kp s c H1 H2) : Kp s c H H2 := fun x o h h1 h2 => b x o (a x o h h1 h2) h1 h2
theorem Kp.same {s c : Addr} {H H1 : Hp} (a : Same H H1) : Kp s c H H1 := fun x o h _ _ => a x o h
theorem Kp.new {s c : Addr} {H H1 : Hp} (a : Kp s c H H1) {p : Addr} {o : HO} (h : H1 p = none) : Kp s c H (upd H1 p o) := fun x u e h1 h2 => by
  have := a x u e h1 h2
  rw [upd_ne (ne_of_none this h)]
  exact this
theorem Src.upd {H : Hp} {s c p : Addr} {o : HO} (S : Src H s c) (h1 : p ≠ s) (h2 : p ≠ c) : Src (upd H p o) s c := by
  obtain ⟨cs, l, m, t, S⟩ := S
  exact ⟨cs, l, m, t, ⟨by rw [upd_ne h1.symm]; exact S.ds, by rw [upd_ne h2.symm]; exact S.dc, S.nn, S.len, S.l0, S.m0, S.m1, S.t0⟩⟩
theorem Src.same {H H' : Hp} {s c : Addr} (S : Src H s c) (e : Same H H') : Src H' s c := by
  obtain ⟨cs, l, m, t, S⟩ := S
  exact ⟨cs, l, m, t, ⟨e _ _ S.ds, e _ _ S.dc, S.nn, S.len, S.l0, S.m0, S.m1, S.t0⟩⟩
theorem Src.ne {H : Hp} {s c p : Addr} (S : Src H s c) (h : H p = none) : p ≠ s ∧ p ≠ c := by
  obtain ⟨cs, l, m, t, S⟩ := S
  exact ⟨(ne_of_none S.ds h).symm, (ne_of_none S.dc h).symm⟩
theorem Src.new {H : Hp} {s c p : Addr} {o : HO} (S : Src H s c) (h : H p = none) : Src (L2.upd H p o) s c := S.upd (S.ne h).1 (S.ne h).2
theorem tyes {σ : St} {H : Hp} {A B : Hp → Prop} (h : A H) : tYes σ H (fun b H3 => if b = true then A H3 else B H3) := by
  show (if true = true then A H else B H)
  rw [if_pos rfl]
  exact h
/-- what is new since H, and stays where only the source changes -/
theorem Kp.off {H H1 : Hp} {s c p : Addr} {o : HO} (a : Kp s c H H1) (h : H p = none) : Kp s c H (L2.upd H1 p o) := fun b u e h1 h2 => by
  rw [upd_ne (ne_of_none e h)]
  exact a b u e h1 h2
theorem Kp.free {H H1 : Hp} {s c p : Addr} (a : Kp s c H H1) (S : Src H1 s c) (h : H1 p = none) : H p = none := by
  cases q : H p with
  | none => rfl
  | some o =>
    obtain ⟨n1, n2⟩ := S.ne h
    rw [a p o q n1 n2] at h
    cases h
theorem same_new {H : Hp} {p : Addr} {o : HO} (h : H p = none) : Same H (upd H p o) := fun x u e => by
  rw [upd_ne (ne_of_none e h)]
  exact e
theorem k1 : ¬ (("cells" : Str) = "left") := by decide +kernel
theorem k2 : ¬ (("cells" : Str) = "mixed") := by decide +kernel
theorem k3 : ¬ (("cells" : Str) = "turn") := by decide +kernel
theorem k4 : ¬ (("left" : Str) = "mixed") := by decide +kernel
theorem k5 : ¬ (("left" : Str) = "turn") := by decide +kernel
theorem k6 : ¬ (("mixed" : Str) = "turn") := by decide +kernel
theorem k4' : ¬ (("mixed" : Str) = "left") := by decide +kernel
theorem k5' : ¬ (("turn" : Str) = "left") := by decide +kernel
section
variable {c : Addr} {l m t : Int}
theorem src_cells : valV (srcD c l m t) (Sum.inr "cells" : Key) = some (.ref c) := valV_pos rfl
theorem inr_ne {x y : Str} (h : ¬ x = y) : ¬ (Sum.inr x : Key) = Sum.inr y := fun e => h (Sum.inr.inj e)
theorem src_left : valV (srcD c l m t) (Sum.inr "left" : Key) = some (.int l) := by
  unfold srcD
  rw [valV_neg (inr_ne k1)]
  exact valV_pos rfl
theorem src_mixed : valV (srcD c l m t) (Sum.inr "mixed" : Key) = some (.int m) := by
  unfold srcD
  rw [valV_neg (inr_ne k2), valV_neg (inr_ne k4)]
  exact valV_pos rfl
theorem src_turn : valV (srcD c l m t) (Sum.inr "turn" : Key) = some (.int t) := by
  unfold srcD
  rw [valV_neg (inr_ne k3), valV_neg (inr_ne k5), valV_neg (inr_ne k6)]
  exact valV_pos rfl
theorem put_left {z : Int} : putK (srcD c l m t) (Sum.inr "left" : Key) (.int z) = srcD c z m t := by
  unfold putK srcD
  simp [k1, k4', k5']
theorem put_turn {z : Int} : putK (srcD c l m t) (Sum.inr "turn" : Key) (.int z) = srcD c l m z := by
  unfold putK srcD
  simp [k3, k5, k6]
theorem src_len : (srcD c l m t).length < sizeLine := by show 4 < sizeLine; decide
end
/-! ### _law_pick -/
def spPick : Sp := fun vs H Q _ => ∃ (s c : Addr) (n : Int), vs = [.ref s, .int n] ∧ Src H s c ∧ 1 ≤ n ∧ n < 1073741824 ∧
  ∀ (k : Int) (H' : Hp), 0 ≤ k → k < n → Src H' s c → Kp s c H H' → Q (.int k) H'
theorem scPick : FnScope ["_law_source", "_law_many", "_law_cells", "_law_left", "_law_turn", "_law_mixed"] ["_law_source", "_law_many"] (defScope sPick) := ⟨rfl, rfl, rfl, by decide +kernel, rfl, by decide +kernel, by decide +kernel⟩
structure TxtA (mg : Str → Option Value) : Prop where
  len : mg "len" = none
  int : mg "int" = none
section
variable {P : Program} {w : World} {K : PySem.W.Frag} {mg : Str → Option Value} {base : Heap}
theorem ok_pick {f : Addr} {fd : FuncData} (F : Fun K "_law_pick" "_law_pick" sPick f fd) (T : TxtA mg) : FnOk P w K mg base CX0 1 f fd ["_law_source", "_law_many"] spPick := by
  refine F.ok scPick (fun vs H Q E h => ?_) (fun cdv A outer s H vs Q E hr h => ?_)
  · obtain ⟨p, dx, n, rfl, _⟩ := h
    rfl
  · obtain ⟨sa, ca, n, rfl, ⟨cs, l, m, t, S⟩, n1, n2, k⟩ := h
    have hu := hu_of hr
    refine ⟨_, pss_cons (ps_if (pt_cmpR op_lt (pv 1) pe_int (nomark _)) (pss_one (ps_ret pe_int)) pss_nil)
      (pss_cons (ps_set (i := 2) scPick.nd rfl (Or.inl rfl) (pe_dget hu (pv 0) pe_str (fun _ _ => rfl)))
      (Evl.pss_cut (ps_while PassesOwn.never (PW.pt (pw_and (pt_cmpR op_lt (pe_dget hu (pv 0) pe_str (fun _ _ => rfl)) pe_int (nomark _)) (pw_and1 (pt_cmpR op_gt (pe_callB call_len_seq (by rfl) T.len PySem.boot_len (pa_cons (pv 2) pa_nil)) pe_int (nomark _)))))
        (pss_one (ps_dput hu (pv 0) pe_str (pe_bm0 PySem.F.plainAttrs_list PySem.F.slot_list_pop PySem.F.type_list_pop mt_pop (pv 2)) rfl)))
      (pss_cons (ps_set (i := 3) scPick.nd rfl (Or.inl rfl) (pe_dget hu (pv 0) pe_str (fun _ _ => rfl)))
      (pss_cons (ps_if (pt_cmpR op_gt (pv 3) pe_int (nomark _))
        (pss_cons (ps_dput hu (pv 0) pe_str (pe_op op_fdiv (pv 3) (pv 1)) rfl) (pss_one (ps_ret (pe_op op_mod (pe_callTy call_int1 (by rfl) T.int (by decide +kernel) (pa_cons (pv 3) pa_nil)) (pv 1))))) pss_nil)
      (pss_cons (ps_dput hu (pv 0) pe_str (pe_op op_add (pe_dget hu (pv 0) pe_str (fun _ _ => rfl)) pe_int) rfl)
      (pss_cons (ps_set (i := 4) scPick.nd rfl (Or.inl rfl) (pe_dget hu (pv 0) pe_str (fun _ _ => rfl)))
      (pss_cons (ps_set (i := 5) scPick.nd rfl (Or.inl rfl) (pe_op op_mod (pe_callTy call_int1 (by rfl) T.int (by decide +kernel) (pa_cons (pe_op op_add (pe_dget hu (pv 0) pe_str (fun _ _ => rfl)) (pe_op op_mul (pv 4) pe_int)) pa_nil)) pe_int))
      (pss_cons (ps_set (i := 5) scPick.nd rfl (Or.inl rfl) (pe_op op_mod (pe_callTy call_int1 (by rfl) T.int (by decide +kernel) (pa_cons (pe_op op_add (pe_op op_mul (pv 5) (pv 5)) (pe_op op_mul (pv 4) pe_int)) pa_nil)) pe_int))
      (pss_one (ps_ret (pe_op op_mod (pe_callTy call_int1 (by rfl) T.int (by decide +kernel) (pa_cons (pe_op op_fdiv (pv 5) pe_int) pa_nil)) (pv 1)))))))))))), ?_⟩
    -- if many < 2: return 0
    refine ⟨_, rfl, _, _, rfl, rfl, _, rfl, ?_⟩
    refine ite2 (fun h1 => k 0 H (by omega) (by omega) ⟨cs, l, m, t, S⟩ (Kp.refl H)) (fun h1 => ?_)
    have hn2 : 2 ≤ n := by
      have := of_decide_eq_false (Bool.eq_false_iff.mpr h1)
      omega
    have hsc : sa ≠ ca := ne_of S.ds S.dc (by intro z; cases z)
    -- cells
    refine ⟨_, rfl, sa, _, rfl, (by rw [← src_cells (l := l) (m := m) (t := t)]; exact DGet.k (k := Sum.inr "cells") S.ds), ?_⟩
    -- while
    refine ⟨fun σ H' => ∃ cs' l', σ = [some (.ref sa), some (.int n), some (.ref ca), none, none, none] ∧ SrcOk H' sa ca cs' l' m t ∧ Kp sa ca H H', ?_, ?_⟩
    · refine ⟨fun mm σ H' => ∃ cs' l', mm = cs'.length ∧ σ = [some (.ref sa), some (.int n), some (.ref ca), none, none, none] ∧ SrcOk H' sa ca cs' l' m t ∧ Kp sa ca H H', ⟨_, cs, l, rfl, rfl, S, Kp.refl H⟩, ?_⟩
      rintro mm σ H1 ⟨cs', l', rfl, rfl, S1, kp⟩
      have dl : DGet H1 sa (V.str "left") (some (.int l')) := by rw [← src_left (c := ca) (m := m) (t := t)]; exact DGet.k (k := Sum.inr "left") S1.ds
      refine ⟨_, rfl, sa, _, rfl, dl, _, _, rfl, rfl, _, rfl, ?_⟩
      refine ite2 (fun hl => ?_) (fun hl => iteF ⟨cs', l', rfl, S1, kp⟩)
      refine ⟨_, rfl, ca, _, rfl, .inl (SqL.of S1.dc), _, _, rfl, rfl, _, rfl, ?_⟩
      refine ite2 (fun hc => ?_) (fun hc => ⟨cs', l', rfl, S1, kp⟩)
      have hc' : 0 < cs'.length := by
        have := of_decide_eq_true hc
        rw [List.length_map] at this
        omega
      obtain ⟨y, hy⟩ : ∃ y, cs'[cs'.length - 1]? = some y := ⟨_, List.getElem?_eq_getElem (by omega)⟩
      have hym : y ∈ cs' := List.mem_of_getElem? hy
      refine ⟨fun σ H' => ∃ cs2 l2, cs2.length < cs'.length ∧ σ = [some (.ref sa), some (.int n), some (.ref ca), none, none, none] ∧ SrcOk H' sa ca cs2 l2 m t ∧ Kp sa ca H H', fun σ' H' ⟨cs2, l2, a1, a2, a3, a4⟩ => ⟨_, a1, cs2, l2, rfl, a2, a3, a4⟩, ?_⟩
      refine ⟨_, rfl, .inl ⟨rfl, _, SqL.of S1.dc⟩, ca, _, .int y, rfl, rfl, S1.dc, (by rw [List.length_map, List.getElem?_map, hy]; rfl), ?_⟩
      have ds2 : (upd H1 ca (.lst (cs'.map V.int).dropLast)) sa = some (.dK (srcD ca l' m t)) := by rw [upd_ne hsc]; exact S1.ds
      refine ⟨_, rfl, sa, _, rfl, DPut.k (k := Sum.inr "left") ds2 src_len, ?_⟩
      refine ⟨cs'.dropLast, y, (by rw [List.length_dropLast]; omega), rfl, ⟨by rw [upd_same, put_left], by rw [upd_ne hsc.symm, upd_same, List.map_dropLast], fun x hx => S1.nn x ((List.dropLast_sublist cs').subset hx), (by rw [List.length_dropLast]; have := S1.len; omega), S1.nn y hym, S1.m0, S1.m1, S1.t0⟩, fun b o e h1 h2 => ?_⟩
      rw [upd_ne h1, upd_ne h2]
      exact kp b o e h1 h2
    rintro σ H1 ⟨cs', l', rfl, S1, kp⟩
    have dl : DGet H1 sa (V.str "left") (some (.int l')) := by rw [← src_left (c := ca) (m := m) (t := t)]; exact DGet.k (k := Sum.inr "left") S1.ds
    refine ⟨_, rfl, sa, _, rfl, dl, ?_⟩
    refine ⟨_, rfl, _, _, rfl, rfl, _, rfl, ?_⟩
    refine ite2 (fun h2 => ?_) (fun h2 => ?_)
    · -- left // many
      have hl2 : 1 < l' := of_decide_eq_true h2
      refine ⟨_, rfl, _, rfl, _, _, rfl, rfl, ⟨by omega, by omega⟩, _, rfl, sa, _, rfl, DPut.k (k := Sum.inr "left") S1.ds src_len, ?_⟩
      refine ⟨_, rfl, .inl ⟨_, rfl, _, rfl, _, _, rfl, rfl, by omega, ?_⟩⟩
      refine k _ _ (Int.emod_nonneg _ (by omega)) (Int.emod_lt_of_pos _ (by omega)) ⟨cs', l' / n, m, t, ⟨by rw [upd_same, put_left], by rw [upd_ne hsc.symm]; exact S1.dc, S1.nn, S1.len, Int.ediv_nonneg (by omega) (by omega), S1.m0, S1.m1, S1.t0⟩⟩ fun b o e h1 h2 => ?_
      rw [upd_ne h1]
      exact kp b o e h1 h2
    · have dt : DGet H1 sa (V.str "turn") (some (.int t)) := by rw [← src_turn (c := ca) (m := m) (l := l')]; exact DGet.k (k := Sum.inr "turn") S1.ds
      refine ⟨_, rfl, sa, _, rfl, dt, _, _, rfl, rfl, _, rfl, sa, _, rfl, DPut.k (k := Sum.inr "turn") S1.ds src_len, ?_⟩
      rw [put_turn]
      have S2 : SrcOk (upd H1 sa (.dK (srcD ca l' m (t + 1)))) sa ca cs' l' m (t + 1) := ⟨upd_same, by rw [upd_ne hsc.symm]; exact S1.dc, S1.nn, S1.len, S1.l0, S1.m0, S1.m1, by have := S1.t0; omega⟩
      have dt2 : DGet (upd H1 sa (.dK (srcD ca l' m (t + 1)))) sa (V.str "turn") (some (.int (t + 1))) := by rw [← src_turn (c := ca) (m := m) (l := l')]; exact DGet.k (k := Sum.inr "turn") S2.ds
      have dm2 : DGet (upd H1 sa (.dK (srcD ca l' m (t + 1)))) sa (V.str "mixed") (some (.int m)) := by rw [← src_mixed (c := ca) (t := t + 1) (l := l')]; exact DGet.k (k := Sum.inr "mixed") S2.ds
      refine ⟨_, rfl, sa, _, rfl, dt2, ?_⟩
      have hm2 : 0 ≤ (m + (t + 1) * 104729) % 998244353 := Int.emod_nonneg _ (by decide)
      have hm3 : (m + (t + 1) * 104729) % 998244353 < 998244353 := Int.emod_lt_of_pos _ (by decide)
      refine ⟨_, rfl, sa, _, rfl, dm2, _, rfl, _, _, rfl, rfl, .inr ⟨by decide, by decide⟩, _, _, rfl, rfl, .inl ⟨_, rfl, _, _, rfl, rfl, (by show (0 : Int) < 998244353; decide), ?_⟩⟩
      refine ⟨_, rfl, _, rfl, _, _, rfl, rfl, .inl ⟨by show -(2 ^ 64 : Int) < _; omega, by show _ < (2 ^ 64 : Int); omega⟩, _, rfl, _, _, rfl, rfl, .inr ⟨by decide, by decide⟩, _, _, rfl, rfl, .inl ⟨_, rfl, _, _, rfl, rfl, (by show (0 : Int) < 2147483647; decide), ?_⟩⟩
      refine ⟨_, rfl, _, _, rfl, rfl, ⟨by decide, by decide⟩, .inl ⟨_, rfl, _, rfl, _, _, rfl, rfl, by show 0 < n; omega, ?_⟩⟩
      refine k _ _ (Int.emod_nonneg _ (by omega)) (Int.emod_lt_of_pos _ (by omega)) ⟨cs', l', m, t + 1, S2⟩ fun b o e h1 h2 => ?_
      rw [upd_ne h1]
      exact kp b o e h1 h2
end
end Nm
set_option maxRecDepth 100000
set_option maxHeartbeats 4000000
namespace Nm
open PySem L2
structure TxtB (mg : Str → Option Value) : Prop extends TxtA mg where
  list : mg "list" = none
  range : mg "range" = none
  abs : mg "abs" = none
/-- a def that stands under a name of the module, with its promise -/
structure Def (P : Program) (w : World) (K : PySem.W.Frag) (mg : Str → Option Value) (base : Heap) (x : Str) (ps : List Str) (k : Nat) (sp : Sp) : Prop where
  ex : ∃ f fd, FnOk P w K mg base CX0 k f fd ps sp ∧ mg x = some (.ref f) ∧ PySem.W.keepIn K (.ref f) = true ∧ Binds K fd ps []
section
variable {P : Program} {w : World} {K : PySem.W.Frag} {mg : Str → Option Value} {base : Heap}
theorem erase_perm {α : Type} {y : α} : ∀ {zs : List α} {i : Nat}, zs[i]? = some y → ([y] ++ zs.eraseIdx i).Perm zs
  | z :: zs, 0, h => by
    simp at h
    subst h
    exact List.Perm.refl _
  | z :: zs, i + 1, h => by
    simp at h
    have := erase_perm (zs := zs) (i := i) h
    show (y :: z :: zs.eraseIdx i).Perm (z :: zs)
    exact (List.Perm.swap z y _).trans (this.cons z)
/-! ### _law_any_order -/
def spAny (K : PySem.W.Frag) : Sp := fun vs H Q _ => ∃ (s c a : Addr) (xs : List V), vs = [.ref s, .ref a] ∧ Src H s c ∧ SqL K H a xs ∧ xs.length ≤ 10000 ∧
  ∀ (p : Addr) (ys : List V) (H' : Hp), H p = none → ys.Perm xs → H' p = some (.lst ys) → Src H' s c → Kp s c H H' → Q (.ref p) H'
theorem scAny : FnScope ["_law_source", "_law_items", "_law_rest", "_law_lap"] ["_law_source", "_law_items"] (defScope sAnyOrder) := ⟨rfl, rfl, rfl, by decide +kernel, rfl, by decide +kernel, by decide +kernel⟩
theorem ok_any {f : Addr} {fd : FuncData} (F : Fun K "_law_any_order" "_law_any_order" sAnyOrder f fd) (T : TxtB mg) (Gp : Def P w K mg base "_law_pick" ["_law_source", "_law_many"] 1 spPick) : FnOk P w K mg base CX0 2 f fd ["_law_source", "_law_items"] (spAny K) := by
  obtain ⟨fp, fdp, Gp, mp, kp, bp⟩ := Gp.ex
  refine F.ok scAny (fun vs H Q E h => ?_) (fun cdv A outer s H vs Q E hr h => ?_)
  · obtain ⟨p, dx, n, xs, rfl, _⟩ := h
    rfl
  · obtain ⟨sa, ca, ia, xs, rfl, S, hx, hl, k⟩ := h
    have hu := hu_of hr
    refine ⟨_, pss_cons (ps_set (i := 2) scAny.nd rfl (Or.inr rfl) (pe_callTy call_list_of (by rfl) T.list (by decide +kernel) (pa_cons (pv 1) pa_nil)))
      (pss_one (ps_ret (pe_lc (own := [("_law_lap", 3)]) (g := gName 3) (tt := tYes) (te := tBM K "list" rPopAt (tVar 2) (tCons (tCall spPick [] E0 (tCons (tVar 0) (tCons (tCB (Evl.rLenS K) (tCons (tVar 2) tNil)) tNil))) tNil)) rfl scAny.nd (pi_range1 (by rfl) T.range (pa_cons (pe_callB call_len_seq (by rfl) T.len PySem.boot_len (pa_cons (pv 2) pa_nil)) pa_nil))
        (blkOk_by (N := ["_law_source", "_law_items", "_law_rest", "_law_lap"]) (sc := defScope sAnyOrder) (by decide +kernel)) (fun _ _ _ _ _ => pg_name (i := 3) scAny.nd rfl (Or.inl rfl)) (fun _ _ _ _ _ => pts_nil)
        (fun _ _ _ _ _ => by exact pe_bm PySem.F.plainAttrs_list PySem.F.slot_list_pop PySem.F.type_list_pop mt_popAt (pv 2) (pa_cons (pe_call Gp hr (by rfl) mp kp bp .nil pass0 (pa_cons (pv 0) (pa_cons (pe_callB call_len_seq (by rfl) T.len PySem.boot_len (pa_cons (pv 2) pa_nil)) pa_nil))) pa_nil))))), ?_⟩
    refine ⟨_, rfl, ia, _, rfl, .inl hx, fun r hr0 => ?_⟩
    refine ⟨_, rfl, r, _, rfl, .inl (SqL.of upd_same), _, rfl, by omega, by omega, fun D hD => ?_⟩
    have hDr : D ≠ r := fun e => by subst e; rw [upd_same] at hD; cases hD
    have hD0 : H D = none := by rw [upd_ne hDr] at hD; exact hD
    obtain ⟨nrs, nrc⟩ := S.ne hr0
    obtain ⟨nDs, nDc⟩ := S.ne hD0
    refine lc_range (lo := 0) (n := xs.length) (fun i H' => ∃ ys zs, (ys ++ zs).Perm xs ∧ ys.length = i ∧ H' D = some (.lst ys) ∧ H' r = some (.lst zs) ∧ Src H' sa ca ∧ Kp sa ca H H') ?_ ?_ ?_
    · exact ⟨[], xs, List.Perm.refl _, rfl, upd_same, by rw [upd_ne hDr.symm, upd_same], (S.new hr0).upd nDs nDc, ((Kp.refl H).off hr0).off hD0⟩
    · rintro i H1 hi ⟨ys, zs, pm, hyl, hy, hz, S1, kp1⟩
      have hlen : ys.length + zs.length = xs.length := by rw [← List.length_append]; exact pm.length_eq
      refine ⟨rfl, tyes ?_⟩
      refine ⟨_, rfl, .inl ⟨rfl, _, SqL.of hz⟩, _, rfl, _, rfl, r, _, rfl, .inl (SqL.of hz), sa, ca, _, rfl, S1, by omega, by omega, fun kk H2 k0 k1 S2 kp2 => ?_⟩
      have hz2 := kp2 _ _ hz nrs nrc
      have hy2 := kp2 _ _ hy nDs nDc
      obtain ⟨y, hyy⟩ : ∃ y, zs[kk.toNat]? = some y := ⟨_, List.getElem?_eq_getElem (by omega)⟩
      refine ⟨r, zs, kk, kk.toNat, y, rfl, rfl, hz2, by omega, by omega, ?_, hyy, ?_⟩
      · exact seqIndex_of k0 k1
      · refine ⟨ys, by rw [upd_ne hDr]; exact hy2, Evl.sz_lt (by omega), ys ++ [y], zs.eraseIdx kk.toNat, ?_, by simp; omega, upd_same, by rw [upd_ne hDr.symm, upd_same], ?_, ?_⟩
        · refine List.Perm.trans ?_ pm
          rw [List.append_assoc]
          refine List.Perm.append_left ys ?_
          exact erase_perm hyy
        · exact (S2.upd nrs nrc).upd nDs nDc
        · exact ((kp1.trans kp2).off hr0).off hD0
    · rintro H1 ⟨ys, zs, pm, hyl, hy, hz, S1, kp1⟩
      have hlen : ys.length + zs.length = xs.length := by rw [← List.length_append]; exact pm.length_eq
      have hz0 : zs = [] := List.length_eq_zero_iff.mp (by omega)
      subst hz0
      rw [List.append_nil] at pm
      exact k D ys H1 hD0 pm hy S1 kp1
end
end Nm
set_option maxRecDepth 100000
set_option maxHeartbeats 4000000
/-! Rules that the layer lacks -/
namespace Nm
open PySem PySem.Spec PyProof.Rows L2
/-- the places that xs[::st] takes -/
def stepIx (st : Int) (n : Nat) : List Nat := sliceRange (sliceBounds none none (some st) n).1 (sliceBounds none none (some st) n).2.1 (sliceBounds none none (some st) n).2.2
def stepV (xs : List V) (st : Int) : List V := (stepIx st xs.length).filterMap (xs[·]?)
theorem stepV_mem {xs : List V} {st : Int} {v : V} (h : v ∈ stepV xs st) : v ∈ xs := by
  obtain ⟨i, _, e⟩ := List.mem_filterMap.mp h
  exact List.mem_of_getElem? e
theorem vals_filter : ∀ (is : List Nat) {xs : List V} {us : List Value}, Vals xs us → Vals (is.filterMap (xs[·]?)) (is.filterMap (us[·]?))
  | [], _, _, _ => .nil
  | i :: is, xs, us, r => by
    rw [List.filterMap_cons, List.filterMap_cons]
    cases e : xs[i]? with
    | none =>
      rw [r.none_of e]
      exact vals_filter is r
    | some x =>
      obtain ⟨u, e2, r2⟩ := r.get e
      rw [e2]
      exact .cons r2 (vals_filter is r)
theorem fm_len {α β : Type} : ∀ (is : List Nat) {xs : List α} {us : List β}, xs.length = us.length → (is.filterMap (xs[·]?)).length = (is.filterMap (us[·]?)).length
  | [], _, _, _ => rfl
  | i :: is, xs, us, h => by
    rw [List.filterMap_cons, List.filterMap_cons]
    have ih := fm_len is h
    by_cases hi : i < xs.length
    · rw [List.getElem?_eq_getElem hi, List.getElem?_eq_getElem (by omega)]
      simp only [List.length_cons]
      omega
    · rw [List.getElem?_eq_none (by omega), List.getElem?_eq_none (by omega)]
      exact ih
theorem stepV_len (xs : List V) (st : Int) : (stepV xs st).length ≤ xs.length := by
  have h := slicePick_size_le (List.replicate xs.length Value.none).toArray none none (some st)
  unfold slicePick at h
  rw [List.size_toArray, List.size_toArray, List.length_replicate] at h
  have e := fm_len (stepIx st xs.length) (xs := xs) (us := List.replicate xs.length Value.none) (by simp)
  unfold stepV
  rw [e]
  have e2 : (stepIx st xs.length).filterMap ((List.replicate xs.length Value.none)[·]?) = (stepIx st xs.length).filterMap ((List.replicate xs.length Value.none).toArray[·]?) := by simp only [List.getElem?_toArray]
  rw [e2]
  exact h
def tStepL (K : PySem.W.Frag) (te ts : TE) : TE := fun σ H Q => te σ H fun x H1 => ts σ H1 fun y H2 => ∃ st, y = .int st ∧ ∃ a xs, x = .ref a ∧ (some st).getD 1 ≠ 0 ∧ (some st).isSome = true ∧ SqL K H2 a xs ∧ ∀ p, H2 p = none → Q (.ref p) (upd H2 p (.lst (stepV xs ((some st).getD 1))))
section
variable {X : Cx}
theorem pe_stepL {e es : PySem.Expr} {te ts : TE} {p3 pos : Pos} (he : PE X e te) (hs : PE X es ts) : PE X (.Subscript e (.Slice none none (some es) p3) pos) (tStepL X.K te ts) := by
  refine ⟨fun pins s σ H Q I h => ?_⟩
  refine Subscript_ (thn (he.run pins s σ H _ I h) fun v s1 ⟨x, H1, I1, r1, q1⟩ => ?_)
  refine wpAny_Slice (thn (po_none.run pins s1 σ H1 (fun o H2 => o = none ∧ H2 = H1) I1 ⟨rfl, rfl⟩) fun vl s2 ⟨l, H2, I2, pl, el, e2⟩ => ?_)
  subst el e2
  refine thn (po_none.run pins s2 σ H2 (fun o H3 => o = none ∧ H3 = H2) I2 ⟨rfl, rfl⟩) fun vu s3 ⟨u, H3, I3, pu, eu, e3⟩ => ?_
  subst eu e3
  refine thn ((po_some hs).run pins s3 σ H3 (fun o H4 => ∃ a xs, x = .ref a ∧ o.getD 1 ≠ 0 ∧ o.isSome = true ∧ SqL X.K H4 a xs ∧ ∀ p, H4 p = none → Q (.ref p) (upd H4 p (.lst (stepV xs (o.getD 1))))) I3 ?_) fun vs s4 ⟨o, H4, I4, ps, a, xs, ex, hst, ho, hx, q⟩ => ?_
  · exact q1
  obtain ⟨st, rfl⟩ := Option.isSome_iff_exists.mp ho
  subst ex
  cases r1
  have I5 : Inv X pins σ H4 { s4 with heap := s4.heap.push { cls := .type "slice", data := .fields #[vl, vu, vs] } } := I4.kept (t' := s4.toks) fun b ob q => Heap.get?_push_of_some _ q
  obtain ⟨its, r, ht, hz⟩ := I5.list hx
  have hlen := r.length
  show wpAny (model X.prog X.w) X.A (subscriptTail e (.Slice none none (some es) p3) (.ref a) (.ref s4.heap.objs.size)) (EP X pins σ Q) X.xe { s4 with heap := s4.heap.push { cls := .type "slice", data := .fields #[vl, vu, vs] } }
  refine tail_any (ops := [.ref a, .ref s4.heap.objs.size]) ht.isList.typeIs (PySem.slot_list_getitem.lookup) ?_ (by with_unfolding_all rfl)
  refine wpAny_getItem_list_slice ht.isList (Heap.IsSliceOf.new _ vl vu vs) pl pu ps (fun z => hst (Option.some.inj z)) ?_ (by rw [List.size_toArray]; omega)
  refine ⟨.ref _, _, I5.laid (t' := s4.toks) (o := .lst (stepV xs st)) (fun b ob q => Heap.get?_push_of_some _ q) (Nat.le_refl _) ?_, rfl, q _ (I5.hok.fresh (Nat.le_refl _))⟩
  have r2 : Vals (stepV xs st) ((stepIx st xs.length).filterMap (its[·]?)) := vals_filter _ r
  refine ⟨?_, _, 0, r2, ?_⟩
  · have h1 := r2.length
    have h2 := slicePick_size_le its.toArray none none (some st)
    have h3 : slicePick its.toArray none none (some st) = ((stepIx st its.length).filterMap (its[·]?)).toArray := by
      unfold slicePick stepIx
      rw [List.size_toArray]
      simp
    rw [h3, List.size_toArray, List.size_toArray] at h2
    rw [hlen] at h1
    show (stepV xs st).length ≤ sizeLine
    omega
  · rw [Heap.get?_push_size _ rfl]
    have h3 : slicePick its.toArray none none (some st) = ((stepIx st its.length).filterMap (its[·]?)).toArray := by
      unfold slicePick stepIx
      rw [List.size_toArray]
      simp
    rw [h3, hlen]
end
end Nm
set_option maxRecDepth 100000
set_option maxHeartbeats 4000000
namespace Nm
open PySem L2
theorem Kp.seq {K : PySem.W.Frag} {s c a : Addr} {H H' : Hp} {xs : List V} (e : Kp s c H H') (h1 : a ≠ s) (h2 : a ≠ c) (h : SqL K H a xs) : SqL K H' a xs := by
  rcases h with (h | ⟨o, h⟩) | h
  · exact .inl (.inl (e _ _ h h1 h2))
  · exact .inl (.inr ⟨o, e _ _ h h1 h2⟩)
  · exact .inr h
theorem merge_src {c : Addr} {l m t : Int} : mergeK [] (srcD c l m t) = srcD c l m t := by
  unfold mergeK srcD
  simp [putK, k1, k2, k3, k4, k5, k6]
section
variable {P : Program} {w : World} {K : PySem.W.Frag} {mg : Str → Option Value} {base : Heap}
/-! ### _law_choice_of -/
def spChoice (K : PySem.W.Frag) : Sp := fun vs H Q _ => ∃ (s c a : Addr) (xs : List V), vs = [.ref s, .ref a] ∧ Src H s c ∧ a ≠ s ∧ a ≠ c ∧ SqL K H a xs ∧ 1 ≤ xs.length ∧ xs.length ≤ 1000 ∧
  ∀ (v : V) (H' : Hp), v ∈ xs → Src H' s c → Kp s c H H' → Q v H'
theorem scChoice : FnScope ["_law_source", "_law_items"] ["_law_source", "_law_items"] (defScope sChoiceOf) := ⟨rfl, rfl, rfl, by decide +kernel, rfl, by decide +kernel, by decide +kernel⟩
theorem ok_choice {f : Addr} {fd : FuncData} (F : Fun K "_law_choice_of" "_law_choice_of" sChoiceOf f fd) (T : TxtB mg) (Gp : Def P w K mg base "_law_pick" ["_law_source", "_law_many"] 1 spPick) : FnOk P w K mg base CX0 2 f fd ["_law_source", "_law_items"] (spChoice K) := by
  obtain ⟨fp, fdp, Gp, mp, kp, bp⟩ := Gp.ex
  refine F.ok scChoice (fun vs H Q E h => ?_) (fun cdv A outer s H vs Q E hr h => ?_)
  · obtain ⟨p, dx, n, xs, rfl, _⟩ := h
    rfl
  · obtain ⟨sa, ca, ia, xs, rfl, S, n1, n2, hx, hl1, hl, k⟩ := h
    refine ⟨_, pss_one (ps_ret (pe_ix ix_list (pv 1) (pe_call Gp hr (by rfl) mp kp bp .nil pass0 (pa_cons (pv 0) (pa_cons (pe_callB call_len_seq (by rfl) T.len PySem.boot_len (pa_cons (pv 1) pa_nil)) pa_nil))) (fun _ _ => rfl))), ?_⟩
    refine ⟨_, rfl, _, rfl, _, rfl, ia, _, rfl, .inl hx, sa, ca, _, rfl, S, by omega, by omega, fun kk H2 k0 k1 S2 kp2 => ?_⟩
    obtain ⟨v, hv⟩ : ∃ v, xs[kk.toNat]? = some v := ⟨_, List.getElem?_eq_getElem (by omega)⟩
    refine ⟨ia, xs, kk, v, rfl, rfl, kp2.seq n1 n2 hx, ?_, k v H2 (List.mem_of_getElem? hv) S2 kp2⟩
    have := atI_nat hv
    rw [Int.toNat_of_nonneg k0] at this
    exact this
/-! ### _law_open_cells -/
def spOpen (K : PySem.W.Frag) : Sp := fun vs H Q _ => ∃ (a : Addr) (ns : List Int), vs = [.ref a] ∧ SqL K H a (ns.map V.int) ∧ ns.length ≤ 63 ∧
  ∀ (s c : Addr) (H' : Hp), H s = none → H c = none → Src H' s c → Same H H' → Q (.ref s) H'
theorem scOpen : FnScope ["_law_script", "_law_mixed", "_law_cell", "_law_cells"] ["_law_script"] (defScope sOpenCells) := ⟨rfl, rfl, rfl, by decide +kernel, rfl, by decide +kernel, by decide +kernel⟩
theorem ok_open {f : Addr} {fd : FuncData} (F : Fun K "_law_open_cells" "_law_open_cells" sOpenCells f fd) (T : TxtB mg) : FnOk P w K mg base CX0 1 f fd ["_law_script"] (spOpen K) := by
  refine F.ok scOpen (fun vs H Q E h => ?_) (fun cdv A outer s H vs Q E hr h => ?_)
  · obtain ⟨p, dx, rfl, _⟩ := h
    rfl
  · obtain ⟨sa, ns, rfl, hx, hl, k⟩ := h
    refine ⟨_, pss_cons (ps_set (i := 1) scOpen.nd rfl (Or.inl rfl) pe_int)
      (pss_cons (ps_for PassesOwn.never rfl (pi_list (pv 0)) (pg_name (i := 2) scOpen.nd rfl (Or.inl rfl))
        (pss_one (ps_set (i := 1) scOpen.nd rfl (Or.inl rfl) (pe_op op_mod (pe_callTy call_int1 (by rfl) T.int (by decide +kernel) (pa_cons (pe_op op_add (pe_op op_add (pe_op op_mul (pv 1) pe_int) (pe_op op_mul (pv 2) pe_int)) pe_int) pa_nil)) pe_int))))
      (pss_cons (ps_setLc (i := 3) (own := [("_law_cell", 2)]) (g := gName 2) (tt := tYes) rfl scOpen.nd rfl rfl (sw_true rfl rfl rfl (by decide +kernel)) (pi_list (pv 0))
        (blkOk_by (N := ["_law_script", "_law_mixed", "_law_cell", "_law_cells"]) (sc := defScope sOpenCells) (by decide +kernel)) (fun _ _ _ _ _ => pg_name (i := 2) scOpen.nd rfl (Or.inl rfl)) (fun _ _ _ _ _ => pts_nil)
        (fun _ _ _ _ _ => pe_callB call_abs (by rfl) T.abs (by decide +kernel) (pa_cons (pv 2) pa_nil)))
      (pss_one (ps_ret (pe_disp (pps_cons pe_str (pe_revL (pv 3)) (pps_cons pe_str pe_int (pps_cons pe_str (pv 1) (pps_cons pe_str pe_int pps_nil)))) (by rfl) (by rfl) (fun z => by cases z) (by decide)))))), ?_⟩
    refine ⟨_, rfl, sa, rfl, ⟨_, hx⟩, ?_⟩
    refine for_list (xs := ns.map V.int) (fun i σ H' => H' = H ∧ ∃ (m : Int) (v : Option V), 0 ≤ m ∧ m < 2147483629 ∧ σ = [some (.ref sa), some (.int m), v, none]) ⟨rfl, 11, none, by decide, by decide, rfl⟩ (fun i σ H' _ h => by rw [h.1]; exact hx) ?_ ?_
    · rintro i x σ H' hi ⟨rfl, m, v, m0, m1, rfl⟩
      rw [List.getElem?_map] at hi
      obtain ⟨y, _, rfl⟩ := Option.map_eq_some_iff.mp hi
      refine ⟨_, rfl, _, _, rfl, rfl, .inr ⟨by decide, by decide⟩, _, rfl, _, _, rfl, rfl, .inr ⟨by decide, by decide⟩, _, _, rfl, rfl, _, _, rfl, rfl, .inl ⟨_, rfl, _, _, rfl, rfl, (by show (0 : Int) < 2147483629; decide), ?_⟩⟩
      exact ⟨rfl, _, some (.int y), Int.emod_nonneg _ (by decide), Int.emod_lt_of_pos _ (by decide), rfl⟩
    · rintro σ H' ⟨rfl, m, v, m0, m1, rfl⟩
      refine ⟨_, rfl, sa, rfl, ⟨_, hx⟩, fun D hD => ?_⟩
      refine lc_list (xs := ns.map V.int) (fun i H1 => Same H' H1 ∧ ∃ cs : List Int, cs.length = i ∧ (∀ x ∈ cs, 0 ≤ x) ∧ H1 D = some (.lst (cs.map V.int))) ⟨same_new hD, [], rfl, by simp, upd_same⟩ (fun i H1 _ h => h.1.seq hx) ?_ ?_
      · rintro i x H1 hi ⟨sm, cs, hcl, hc0, hcD⟩
        have hil := (List.getElem?_eq_some_iff.mp hi).1
        rw [List.length_map] at hil
        rw [List.getElem?_map] at hi
        obtain ⟨y, _, rfl⟩ := Option.map_eq_some_iff.mp hi
        refine ⟨rfl, tyes ?_⟩
        refine ⟨_, rfl, y, rfl, _, hcD, Evl.sz_lt (by rw [List.length_map]; omega), ?_, cs ++ [if y < 0 then -y else y], by simp [hcl], ?_, by rw [upd_same, List.map_append]; rfl⟩
        · intro b o e
          rw [upd_ne (ne_of_none e hD)]
          exact sm b o e
        · intro x hx
          rcases List.mem_append.mp hx with h | h
          · exact hc0 x h
          · rw [List.mem_singleton] at h
            subst h
            split <;> omega
      · rintro H1 ⟨sm, cs, hcl, hc0, hcD⟩
        rw [List.length_map] at hcl
        intro p hp
        have hp0 : H' p = none := sm.free hp
        refine ⟨_, rfl, D, _, rfl, SqL.of (by rw [upd_ne (ne_of_none hcD hp)]; exact hcD), fun q hq => ?_⟩
        have hqp : q ≠ p := fun e => by subst e; rw [upd_same] at hq; cases hq
        have hq1 : H1 q = none := by rw [upd_ne hqp] at hq; exact hq
        have hq0 : H' q = none := sm.free hq1
        refine ⟨_, rfl, by rw [upd_ne hqp.symm, upd_same], srcD q 1 m 0, rfl, (by show 4 ≤ 15; decide), ?_⟩
        rw [merge_src]
        refine k p q _ hp0 hq0 ⟨cs.reverse, 1, m, 0, ⟨upd_same, by rw [upd_ne hqp, upd_same, List.map_reverse], fun x hx => hc0 x (List.mem_reverse.mp hx), by rw [List.length_reverse]; omega, by decide, m0, m1, by decide⟩⟩ fun b o e => ?_
        rw [upd_ne (ne_of_none e hp0), upd_ne (ne_of_none e hq0), upd_ne (ne_of_none e hp0)]
        exact sm b o e
end
end Nm
set_option maxRecDepth 100000
set_option maxHeartbeats 4000000
namespace Nm
open PySem L2
/-- each of xs is a pair of numbers i < j below n -/
def PairsAt (n : Int) (H : Hp) (xs : List V) : Prop := ∀ v ∈ xs, ∃ t i j, v = V.ref t ∧ H t = some (.tup [.int i, .int j]) ∧ 0 ≤ i ∧ i < j ∧ j < n
theorem PairsAt.same {n : Int} {H H' : Hp} {xs : List V} (h : PairsAt n H xs) (e : Same H H') : PairsAt n H' xs := fun v hv => by
  obtain ⟨t, i, j, a, b, c⟩ := h v hv
  exact ⟨t, i, j, a, e _ _ b, c⟩
theorem PairsAt.kp {n : Int} {H H' : Hp} {xs : List V} {s c : Addr} (h : PairsAt n H xs) (S : Src H s c) (e : Kp s c H H') : PairsAt n H' xs := fun v hv => by
  obtain ⟨t, i, j, a, b, r⟩ := h v hv
  obtain ⟨cs, l, m, tt, S⟩ := S
  exact ⟨t, i, j, a, e _ _ b (ne_of b S.ds (by intro z; cases z)) (ne_of b S.dc (by intro z; cases z)), r⟩
theorem PairsAt.snoc {n : Int} {H : Hp} {xs : List V} {t : Addr} {i j : Int} (h : PairsAt n H xs) (e : H t = some (.tup [.int i, .int j])) (h0 : 0 ≤ i) (h1 : i < j) (h2 : j < n) : PairsAt n H (xs ++ [.ref t]) := fun v hv => by
  rcases List.mem_append.mp hv with q | q
  · exact h v q
  · rw [List.mem_singleton] at q
    exact ⟨t, i, j, q, e, h0, h1, h2⟩
theorem PairsAt.sub {n : Int} {H : Hp} {xs ys : List V} (h : PairsAt n H xs) (e : ∀ v ∈ ys, v ∈ xs) : PairsAt n H ys := fun v hv => h v (e v hv)
theorem sq_le {n : Int} (h1 : 1 ≤ n) (h2 : n ≤ 7) : 1 ≤ n * n ∧ n * n ≤ 49 := by
  have h : n = 1 ∨ n = 2 ∨ n = 3 ∨ n = 4 ∨ n = 5 ∨ n = 6 ∨ n = 7 := by omega
  rcases h with rfl | rfl | rfl | rfl | rfl | rfl | rfl <;> decide
section
variable {P : Program} {w : World} {K : PySem.W.Frag} {mg : Str → Option Value} {base : Heap}
/-! ### _law_shape_pairs -/
def spShape : Sp := fun vs H Q _ => ∃ (s c : Addr) (n : Int), vs = [.ref s, .int n] ∧ Src H s c ∧ 1 ≤ n ∧ n ≤ 7 ∧
  ∀ (p : Addr) (xs : List V) (H' : Hp), H p = none → H' p = some (.lst xs) → PairsAt n H' xs → xs.length ≤ 100 → Src H' s c → Kp s c H H' → Q (.ref p) H'
abbrev nShape : List Str := ["_law_source", "_law_count", "_law_every", "_law_road", "_law_rows", "_law_n", "_law_pair", "_law_k"]
theorem scShape : FnScope nShape ["_law_source", "_law_count"] (defScope sShapePairs) := ⟨rfl, rfl, rfl, by decide +kernel, rfl, by decide +kernel, by decide +kernel⟩
theorem ok_shape {f : Addr} {fd : FuncData} (F : Fun K "_law_shape_pairs" "_law_shape_pairs" sShapePairs f fd) (T : TxtB mg) (Gp : Def P w K mg base "_law_pick" ["_law_source", "_law_many"] 1 spPick) : FnOk P w K mg base CX0 2 f fd ["_law_source", "_law_count"] spShape := by
  obtain ⟨fp, fdp, Gp, mp, kp, bp⟩ := Gp.ex
  refine F.ok scShape (fun vs H Q E h => ?_) (fun cdv A outer s H vs Q E hr h => ?_)
  · obtain ⟨p, dx, n, rfl, _⟩ := h
    rfl
  · obtain ⟨sa, ca, n, rfl, S, n1, n2, k⟩ := h
    refine ⟨_, pss_cons (ps_setLc (i := 2) (own := [("_law_n", 5)]) (g := gName 5) rfl scShape.nd rfl rfl (sw_true rfl rfl rfl (by decide +kernel)) (pi_range1 (by rfl) T.range (pa_cons (pe_op op_mul (pv 1) (pv 1)) pa_nil))
        (blkOk_by (N := nShape) (sc := defScope sShapePairs) (by decide +kernel)) (fun _ _ _ _ _ => pg_name (i := 5) scShape.nd rfl (Or.inl rfl))
        (fun _ _ _ _ _ => pts_one (pt_cmpR op_lt (pe_callTy call_int1 (by rfl) T.int (by decide +kernel) (pa_cons (pe_op op_fdiv (pv 5) (pv 1)) pa_nil)) (pe_op op_mod (pe_callTy call_int1 (by rfl) T.int (by decide +kernel) (pa_cons (pv 5) pa_nil)) (pv 1)) (nomark _)))
        (fun _ _ _ _ _ => pe_tup (pa_cons (pe_callTy call_int1 (by rfl) T.int (by decide +kernel) (pa_cons (pe_op op_fdiv (pv 5) (pv 1)) pa_nil)) (pa_cons (pe_op op_mod (pe_callTy call_int1 (by rfl) T.int (by decide +kernel) (pa_cons (pv 5) pa_nil)) (pv 1)) pa_nil))))
      (pss_cons (ps_set (i := 3) scShape.nd rfl (Or.inl rfl) (pe_call Gp hr (by rfl) mp kp bp .nil pass0 (pa_cons (pv 0) (pa_cons pe_int pa_nil))))
      (pss_cons (ps_if (pt_cmpR op_eq (pv 3) pe_int (nomark _)) (pss_one (ps_ret (pe_lc (own := [("_law_pair", 6)]) (g := gName 6) rfl scShape.nd (pi_list (pv 2))
          (blkOk_by (N := nShape) (sc := defScope sShapePairs) (by decide +kernel)) (fun _ _ _ _ _ => pg_name (i := 6) scShape.nd rfl (Or.inl rfl))
          (fun _ _ _ _ _ => pts_one (by exact pt_cmpR op_eq (pe_call Gp hr (by rfl) mp kp bp .nil pass0 (pa_cons (pv 0) (pa_cons pe_int pa_nil))) pe_int (nomark _))) (fun _ _ _ _ _ => pv 6)))) pss_nil)
      (pss_cons (ps_if (pt_cmpR op_eq (pv 3) pe_int (nomark _)) (pss_one (ps_ret (pe_lc (own := [("_law_pair", 6)]) (g := gName 6) rfl scShape.nd (pi_list (pv 2))
          (blkOk_by (N := nShape) (sc := defScope sShapePairs) (by decide +kernel)) (fun _ _ _ _ _ => pg_name (i := 6) scShape.nd rfl (Or.inl rfl))
          (fun _ _ _ _ _ => pts_one (by exact pt_cmpR op_gt (pe_call Gp hr (by rfl) mp kp bp .nil pass0 (pa_cons (pv 0) (pa_cons pe_int pa_nil))) pe_int (nomark _))) (fun _ _ _ _ _ => pv 6)))) pss_nil)
      (pss_cons (ps_if (pt_cmpR op_eq (pv 3) pe_int (nomark _)) (pss_one (ps_ret (pv 2))) pss_nil)
      (pss_cons (ps_setLc (i := 4) (own := [("_law_k", 7)]) (g := gName 7) (tt := tYes) rfl scShape.nd rfl rfl (sw_true rfl rfl rfl (by decide +kernel)) (pi_range1 (by rfl) T.range (pa_cons (pe_op op_sub (pv 1) pe_int) pa_nil))
        (blkOk_by (N := nShape) (sc := defScope sShapePairs) (by decide +kernel)) (fun _ _ _ _ _ => pg_name (i := 7) scShape.nd rfl (Or.inl rfl)) (fun _ _ _ _ _ => pts_nil)
        (fun _ _ _ _ _ => pe_tup (pa_cons (pv 7) (pa_cons (pe_op op_add (pv 7) pe_int) pa_nil))))
      (Evl.pss_cut (ps_if (PW.pt (pw_and (pt_cmpR op_eq (pv 3) pe_int (nomark _)) (pw_and1 (pt_cmpR op_gt (pv 1) pe_int (nomark _))))) (pss_one (ps_ret (pe_op op_cat (pv 4) (pe_lst (pa_cons (pe_tup (pa_cons pe_int (pa_cons (pe_op op_sub (pv 1) pe_int) pa_nil))) pa_nil))))) pss_nil)
      (pss_cons (ps_if (pt_cmpR op_eq (pv 3) pe_int (nomark _)) (pss_one (ps_ret (pe_lc (own := [("_law_k", 7)]) (g := gName 7) (tt := tYes) rfl scShape.nd (pi_range2 (by rfl) T.range (pa_cons pe_int (pa_cons (pv 1) pa_nil)))
          (blkOk_by (N := nShape) (sc := defScope sShapePairs) (by decide +kernel)) (fun _ _ _ _ _ => pg_name (i := 7) scShape.nd rfl (Or.inl rfl)) (fun _ _ _ _ _ => pts_nil)
          (fun _ _ _ _ _ => pe_tup (pa_cons pe_int (pa_cons (pv 7) pa_nil)))))) pss_nil)
      (pss_one (ps_ret (pe_stepL (pv 4) (pe_op op_add pe_int (pe_callTy call_int1 (by rfl) T.int (by decide +kernel) (pa_cons (pe_cmpR op_eq (pv 3) pe_int (nomark _)) pa_nil))))))))))))), ?_⟩
    obtain ⟨q1, q2⟩ := sq_le n1 n2
    refine ⟨_, rfl, _, rfl, _, _, rfl, rfl, .inl ⟨by show -(2 ^ 64 : Int) < _; omega, by show _ < (2 ^ 64 : Int); omega⟩, _, rfl, by omega, by omega, fun D hD => ?_⟩
    refine lc_range (lo := 0) (n := (n * n).toNat) (fun i H' => ∃ xs, H' D = some (.lst xs) ∧ xs.length ≤ i ∧ PairsAt n H' xs ∧ Same H H') ⟨[], upd_same, Nat.le_refl _, (fun v hv => by cases hv), same_new hD⟩ ?_ ?_
    · rintro i H1 hi ⟨xs, hxD, hxl, hxp, sm⟩
      refine ⟨rfl, ?_⟩
      refine ⟨_, rfl, _, rfl, _, _, rfl, rfl, ⟨by omega, by omega⟩, .inl ⟨_, rfl, _, rfl, .inl ⟨_, rfl, _, rfl, _, _, rfl, rfl, by omega, _, _, rfl, rfl, _, rfl, ?_⟩⟩⟩
      refine ite2 (fun hlt => ?_) (fun hlt => ⟨xs, hxD, by omega, hxp, sm⟩)
      refine ⟨_, rfl, _, rfl, _, _, rfl, rfl, ⟨by omega, by omega⟩, .inl ⟨_, rfl, _, rfl, .inl ⟨_, rfl, _, rfl, _, _, rfl, rfl, by omega, (by show 2 ≤ sizeLine; decide), fun t ht => ?_⟩⟩⟩
      have hlt' := of_decide_eq_true hlt
      refine ⟨xs, by rw [upd_ne (ne_of_none hxD ht)]; exact hxD, Evl.sz_lt (by omega), xs ++ [.ref t], upd_same, by simp; omega, ?_, ?_⟩
      · have hDt : t ≠ D := fun e => by subst e; rw [ht] at hxD; cases hxD
        refine PairsAt.snoc (i := (0 + (i : Int)) / n) (j := (0 + (i : Int)) % n) ?_ (by rw [upd_ne hDt, upd_same]) (Int.ediv_nonneg (by omega) (by omega)) hlt' (Int.emod_lt_of_pos _ (by omega))
        refine fun v hv => ?_
        obtain ⟨u, i', j', a, b, r⟩ := hxp v hv
        refine ⟨u, i', j', a, ?_, r⟩
        rw [upd_ne (ne_of b hxD (by intro z; cases z)), upd_ne (ne_of_none b ht)]
        exact b
      · intro b o e
        have := sm b o e
        rw [upd_ne (ne_of_none e hD), upd_ne (ne_of_none this ht)]
        exact this
    rintro H1 ⟨xs, hxD, hxl, hxp, sm⟩
    have S1 := S.same sm
    have hxl' : xs.length ≤ 49 := by omega
    obtain ⟨nDs, nDc⟩ := S.ne hD
    -- road
    refine ⟨_, rfl, sa, ca, 7, rfl, S1, by decide, by decide, fun road H2 r0 r1 S2 kp2 => ?_⟩
    have hxD2 := kp2 _ _ hxD nDs nDc
    have hxp2 := hxp.kp S1 kp2
    have kp02 : Kp sa ca H H2 := (Kp.same sm).trans kp2
    -- a part of every, by draws
    refine ⟨_, rfl, rfl, _, rfl, ?_⟩
    refine ite2 (fun h0 => ?_) (fun h0 => ?_)
    · refine ⟨_, rfl, D, rfl, ⟨xs, SqL.of hxD2⟩, fun E hE => ?_⟩
      obtain ⟨nEs, nEc⟩ := S2.ne hE
      refine lc_list (xs := xs) (fun i H' => ∃ ys, H' E = some (.lst ys) ∧ ys.length ≤ i ∧ (∀ v ∈ ys, v ∈ xs) ∧ H' D = some (.lst xs) ∧ PairsAt n H' xs ∧ Src H' sa ca ∧ Kp sa ca H2 H') ⟨[], upd_same, Nat.le_refl _, (fun v hv => by cases hv), by rw [upd_ne (ne_of_none hxD2 hE)]; exact hxD2, hxp2.same (same_new hE), S2.new hE, (Kp.refl H2).off hE⟩ (fun i H' _ ⟨ys, _, _, _, h, _⟩ => SqL.of h) ?_ ?_
      · rintro i x H3 hi ⟨ys, hyE, hyl, hyx, hxD3, hxp3, S3, kp3⟩
        have hil := (List.getElem?_eq_some_iff.mp hi).1
        refine ⟨rfl, ?_⟩
        refine ⟨_, rfl, sa, ca, 3, rfl, S3, by decide, by decide, fun kk H4 k0 k1 S4 kp4 => ⟨rfl, _, rfl, ?_⟩⟩
        have hyE4 := kp4 _ _ hyE nEs nEc
        have hxD4 := kp4 _ _ hxD3 nDs nDc
        have hxp4 := hxp3.kp S3 kp4
        refine ite2 (fun _ => ?_) (fun _ => ⟨ys, hyE4, by omega, hyx, hxD4, hxp4, S4, kp3.trans kp4⟩)
        have hDE : D ≠ E := ne_of_none hxD2 hE
        refine ⟨_, rfl, ys, hyE4, Evl.sz_lt (by omega), ys ++ [x], upd_same, by simp; omega, ?_, by rw [upd_ne hDE]; exact hxD4, ?_, S4.upd nEs nEc, (kp3.trans kp4).off hE⟩
        · intro v hv
          rcases List.mem_append.mp hv with q | q
          · exact hyx v q
          · rw [List.mem_singleton] at q
            subst q
            exact List.mem_of_getElem? hi
        · refine fun v hv => ?_
          obtain ⟨u, i', j', a, b, r⟩ := hxp4 v hv
          refine ⟨u, i', j', a, ?_, r⟩
          rw [upd_ne (ne_of b hyE4 (by intro z; cases z))]
          exact b
      · rintro H3 ⟨ys, hyE, hyl, hyx, hxD3, hxp3, S3, kp3⟩
        exact k E ys H3 (kp02.free S2 hE) hyE (hxp3.sub hyx) (by omega) S3 (kp02.trans kp3)
    refine ⟨_, rfl, rfl, _, rfl, ?_⟩
    refine ite2 (fun h1 => ?_) (fun h1 => ?_)
    · refine ⟨_, rfl, D, rfl, ⟨xs, SqL.of hxD2⟩, fun E hE => ?_⟩
      obtain ⟨nEs, nEc⟩ := S2.ne hE
      refine lc_list (xs := xs) (fun i H' => ∃ ys, H' E = some (.lst ys) ∧ ys.length ≤ i ∧ (∀ v ∈ ys, v ∈ xs) ∧ H' D = some (.lst xs) ∧ PairsAt n H' xs ∧ Src H' sa ca ∧ Kp sa ca H2 H') ⟨[], upd_same, Nat.le_refl _, (fun v hv => by cases hv), by rw [upd_ne (ne_of_none hxD2 hE)]; exact hxD2, hxp2.same (same_new hE), S2.new hE, (Kp.refl H2).off hE⟩ (fun i H' _ ⟨ys, _, _, _, h, _⟩ => SqL.of h) ?_ ?_
      · rintro i x H3 hi ⟨ys, hyE, hyl, hyx, hxD3, hxp3, S3, kp3⟩
        have hil := (List.getElem?_eq_some_iff.mp hi).1
        refine ⟨rfl, ?_⟩
        refine ⟨_, rfl, sa, ca, 3, rfl, S3, by decide, by decide, fun kk H4 k0 k1 S4 kp4 => ⟨_, _, rfl, rfl, _, rfl, ?_⟩⟩
        have hyE4 := kp4 _ _ hyE nEs nEc
        have hxD4 := kp4 _ _ hxD3 nDs nDc
        have hxp4 := hxp3.kp S3 kp4
        refine ite2 (fun _ => ?_) (fun _ => ⟨ys, hyE4, by omega, hyx, hxD4, hxp4, S4, kp3.trans kp4⟩)
        have hDE : D ≠ E := ne_of_none hxD2 hE
        refine ⟨_, rfl, ys, hyE4, Evl.sz_lt (by omega), ys ++ [x], upd_same, by simp; omega, ?_, by rw [upd_ne hDE]; exact hxD4, ?_, S4.upd nEs nEc, (kp3.trans kp4).off hE⟩
        · intro v hv
          rcases List.mem_append.mp hv with q | q
          · exact hyx v q
          · rw [List.mem_singleton] at q
            subst q
            exact List.mem_of_getElem? hi
        · refine fun v hv => ?_
          obtain ⟨u, i', j', a, b, r⟩ := hxp4 v hv
          refine ⟨u, i', j', a, ?_, r⟩
          rw [upd_ne (ne_of b hyE4 (by intro z; cases z))]
          exact b
      · rintro H3 ⟨ys, hyE, hyl, hyx, hxD3, hxp3, S3, kp3⟩
        exact k E ys H3 (kp02.free S2 hE) hyE (hxp3.sub hyx) (by omega) S3 (kp02.trans kp3)
    refine ⟨_, rfl, rfl, _, rfl, ?_⟩
    refine ite2 (fun h2 => ?_) (fun h2 => ?_)
    · exact ⟨_, rfl, k D xs H2 hD hxD2 hxp2 (by omega) S2 kp02⟩
    -- rows
    refine ⟨_, rfl, _, _, rfl, rfl, _, rfl, by omega, by omega, fun R hR => ?_⟩
    refine lc_range (lo := 0) (n := (n - 1).toNat) (fun i H' => ∃ ys, H' R = some (.lst ys) ∧ ys.length ≤ i ∧ PairsAt n H' ys ∧ Same H2 H') ⟨[], upd_same, Nat.le_refl _, (fun v hv => by cases hv), same_new hR⟩ ?_ ?_
    · rintro i H3 hi ⟨ys, hyR, hyl, hyp, sm3⟩
      refine ⟨rfl, tyes ?_⟩
      refine ⟨_, rfl, _, rfl, _, _, rfl, rfl, (by show 2 ≤ sizeLine; decide), fun t ht => ?_⟩
      refine ⟨ys, by rw [upd_ne (ne_of_none hyR ht)]; exact hyR, Evl.sz_lt (by omega), ys ++ [.ref t], upd_same, by simp; omega, ?_, ?_⟩
      · have hDt : t ≠ R := fun e => by subst e; rw [ht] at hyR; cases hyR
        refine PairsAt.snoc (i := 0 + (i : Int)) (j := 0 + (i : Int) + 1) ?_ (by rw [upd_ne hDt, upd_same]) (by omega) (by omega) (by omega)
        refine fun v hv => ?_
        obtain ⟨u, i', j', a, b, r⟩ := hyp v hv
        refine ⟨u, i', j', a, ?_, r⟩
        rw [upd_ne (ne_of b hyR (by intro z; cases z)), upd_ne (ne_of_none b ht)]
        exact b
      · intro b o e
        have := sm3 b o e
        rw [upd_ne (ne_of_none e hR), upd_ne (ne_of_none this ht)]
        exact this
    rintro H3 ⟨ys, hyR, hyl, hyp, sm3⟩
    have hR0 : H R = none := kp02.free S2 hR
    have S3 := S2.same sm3
    have kp03 : Kp sa ca H H3 := kp02.trans (Kp.same sm3)
    refine ⟨fun σ H' => σ = [some (.ref sa), some (.int n), some (.ref D), some (.int road), some (.ref R), none, none, none] ∧ H' = H3, ?_, ?_⟩
    · refine ⟨_, rfl, rfl, _, rfl, ?_⟩
      refine ite2 (fun h3 => ?_) (fun h3 => iteF ⟨rfl, rfl⟩)
      refine ⟨_, rfl, _, _, rfl, rfl, _, rfl, ?_⟩
      refine ite2 (fun h4 => ?_) (fun h4 => ⟨rfl, rfl⟩)
      have hn2 := of_decide_eq_true h4
      refine ⟨_, rfl, _, rfl, _, _, rfl, rfl, (by show 2 ≤ sizeLine; decide), fun t ht => ?_⟩
      refine ⟨(by show 1 ≤ sizeLine; decide), fun l hl => ?_⟩
      have hlt : l ≠ t := fun e => by subst e; rw [upd_same] at hl; cases hl
      have hRt : R ≠ t := ne_of_none hyR ht
      have hl3 : H3 l = none := by rw [upd_ne hlt] at hl; exact hl
      have hRl : R ≠ l := ne_of_none hyR hl3
      refine ⟨R, l, _, _, rfl, rfl, (by rw [upd_ne hRl, upd_ne hRt]; exact hyR), upd_same, ?_, fun p hp => ?_⟩
      · show ys.length + 1 ≤ sizeLine
        exact Evl.sz_of (by omega)
      · have hpl : p ≠ l := fun e => by subst e; rw [upd_same] at hp; cases hp
        rw [upd_ne hpl] at hp
        have hpt : p ≠ t := fun e => by subst e; rw [upd_same] at hp; cases hp
        rw [upd_ne hpt] at hp
        have sm4 : Same H3 (upd (upd (upd H3 t (.tup [.int 0, .int (n - 1)])) l (.lst [.ref t])) p (.lst (ys ++ [.ref t]))) := fun b o e => by
          rw [upd_ne (ne_of_none e hp), upd_ne (ne_of_none e hl3), upd_ne (ne_of_none e ht)]
          exact e
        refine k p _ _ (kp03.free S3 hp) upd_same ?_ (by simp; omega) (S3.same sm4) (kp03.trans (Kp.same sm4))
        refine PairsAt.snoc (i := 0) (j := n - 1) (hyp.same sm4) (by rw [upd_ne hpt.symm, upd_ne hlt.symm, upd_same]) (by omega) (by omega) (by omega)
    rintro σ H' ⟨rfl, rfl⟩
    refine ⟨_, rfl, rfl, _, rfl, ?_⟩
    refine ite2 (fun h3 => ?_) (fun h3 => ?_)
    · refine ⟨_, rfl, _, _, rfl, by omega, fun E hE => ?_⟩
      refine lc_range (lo := 1) (n := (n - 1).toNat) (fun i H3 => ∃ zs, H3 E = some (.lst zs) ∧ zs.length ≤ i ∧ PairsAt n H3 zs ∧ Same H' H3) ⟨[], upd_same, Nat.le_refl _, (fun v hv => by cases hv), same_new hE⟩ ?_ ?_
      · rintro i H4 hi ⟨zs, hzE, hzl, hzp, sm4⟩
        refine ⟨rfl, tyes ?_⟩
        refine ⟨_, rfl, (by show 2 ≤ sizeLine; decide), fun t ht => ?_⟩
        refine ⟨zs, by rw [upd_ne (ne_of_none hzE ht)]; exact hzE, Evl.sz_lt (by omega), zs ++ [.ref t], upd_same, by simp; omega, ?_, ?_⟩
        · have hDt : t ≠ E := fun e => by subst e; rw [ht] at hzE; cases hzE
          refine PairsAt.snoc (i := 0) (j := 1 + (i : Int)) ?_ (by rw [upd_ne hDt, upd_same]) (by omega) (by omega) (by omega)
          refine fun v hv => ?_
          obtain ⟨u, i', j', a, b, r⟩ := hzp v hv
          refine ⟨u, i', j', a, ?_, r⟩
          rw [upd_ne (ne_of b hzE (by intro z; cases z)), upd_ne (ne_of_none b ht)]
          exact b
        · intro b o e
          have := sm4 b o e
          rw [upd_ne (ne_of_none e hE), upd_ne (ne_of_none this ht)]
          exact this
      · rintro H4 ⟨zs, hzE, hzl, hzp, sm4⟩
        exact k E zs H4 (kp03.free S3 hE) hzE hzp (by omega) (S3.same sm4) (kp03.trans (Kp.same sm4))
    · refine ⟨_, rfl, _, rfl, rfl, .inr ⟨_, rfl, _, _, rfl, rfl, _, rfl, R, ys, rfl, ?_, rfl, SqL.of hyR, fun p hp => ?_⟩⟩
      · show (1 + (if decide (V.int road = V.int 5) = true then (1 : Int) else 0)) ≠ 0
        split <;> decide
      · have sm4 := same_new (o := .lst (stepV ys ((some (1 + (if decide (V.int road = V.int 5) = true then (1 : Int) else 0))).getD 1))) hp
        refine k p _ _ (kp03.free S3 hp) upd_same ((hyp.same sm4).sub fun v hv => stepV_mem hv) ?_ (S3.same sm4) (kp03.trans (Kp.same sm4))
        exact Nat.le_trans (stepV_len _ _) (by omega)
end
end Nm
set_option maxRecDepth 100000
set_option maxHeartbeats 4000000
namespace Nm
open PySem L2
theorem nx {H : Hp} {p q : Addr} {o : HO} (h : upd H p o q = none) : q ≠ p ∧ H q = none := by
  by_cases e : q = p
  · subst e; rw [upd_same] at h; cases h
  · rw [upd_ne e] at h; exact ⟨e, h⟩
def strOf : V → Str
  | .str x => x
  | _ => ""
def intOf : V → Int
  | .int x => x
  | _ => 0
theorem perm_str {ys : List V} {xs : List Str} (h : ys.Perm (xs.map V.str)) : ∃ zs : List Str, ys = zs.map V.str ∧ zs.Perm xs := by
  refine ⟨ys.map strOf, ?_, ?_⟩
  · rw [List.map_map]
    conv => lhs; rw [← List.map_id ys]
    refine List.map_congr_left fun v hv => ?_
    obtain ⟨x, _, rfl⟩ := List.mem_map.mp (h.subset hv)
    rfl
  · have := h.map strOf
    rw [List.map_map] at this
    have e : xs.map (strOf ∘ V.str) = xs := by
      conv => rhs; rw [← List.map_id xs]
      rfl
    rw [e] at this
    exact this
theorem perm_int {ys : List V} {xs : List Int} (h : ys.Perm (xs.map V.int)) : ∃ zs : List Int, ys = zs.map V.int ∧ zs.Perm xs := by
  refine ⟨ys.map intOf, ?_, ?_⟩
  · rw [List.map_map]
    conv => lhs; rw [← List.map_id ys]
    refine List.map_congr_left fun v hv => ?_
    obtain ⟨x, _, rfl⟩ := List.mem_map.mp (h.subset hv)
    rfl
  · have := h.map intOf
    rw [List.map_map] at this
    have e : xs.map (intOf ∘ V.int) = xs := by
      conv => rhs; rw [← List.map_id xs]
      rfl
    rw [e] at this
    exact this
theorem cut_upto (xs : List V) (n : Nat) : cutV xs none (some (n : Int)) = xs.take n := by
  unfold cutV
  have e1 : HT.sIx xs.length 0 none = 0 := rfl
  have e2 : HT.sIx xs.length xs.length (some (n : Int)) = min n xs.length := by
    unfold HT.sIx
    simp
    try omega
  rw [e1, e2]
  simp
section
variable {κ : Type} [DecidableEq κ]
theorem keys_put (kvs : List (κ × V)) (k : κ) (v : V) : (putK kvs k v).map (·.1) = if k ∈ kvs.map (·.1) then kvs.map (·.1) else kvs.map (·.1) ++ [k] := by
  unfold putK
  by_cases h : (kvs.any fun kv => decide (kv.1 = k)) = true
  · have hm : k ∈ kvs.map (·.1) := by
      obtain ⟨kv, h1, h2⟩ := List.any_eq_true.mp h
      exact List.mem_map.mpr ⟨kv, h1, of_decide_eq_true h2⟩
    rw [if_pos h, if_pos hm, List.map_map]
    refine List.map_congr_left fun kv _ => ?_
    show (if kv.1 = k then (kv.1, v) else kv).1 = kv.1
    split <;> rfl
  · have hm : ¬ k ∈ kvs.map (·.1) := fun hm => by
      obtain ⟨kv, h1, h2⟩ := List.mem_map.mp hm
      exact h (List.any_eq_true.mpr ⟨kv, h1, decide_eq_true h2⟩)
    rw [if_neg h, if_neg hm, List.map_append]
    rfl
theorem val_of_mem : ∀ {kvs : List (κ × V)} {k : κ} {v : V}, (kvs.map (·.1)).Nodup → (k, v) ∈ kvs → valV kvs k = some v
  | kv :: r, k, v, nd, h => by
    rw [List.map_cons, List.nodup_cons] at nd
    rcases List.mem_cons.mp h with e | e
    · subst e
      exact valV_pos rfl
    · have hne : ¬ kv.1 = k := fun z => nd.1 (z ▸ List.mem_map.mpr ⟨(k, v), e, rfl⟩)
      rw [valV_neg hne]
      exact val_of_mem nd.2 e
theorem nodup_put {kvs : List (κ × V)} (k : κ) (v : V) (h : (kvs.map (·.1)).Nodup) : ((putK kvs k v).map (·.1)).Nodup := by
  rw [keys_put]
  split
  · exact h
  · rename_i hn
    rw [List.nodup_append]
    refine ⟨h, by simp, fun a ha b hb => ?_⟩
    rw [List.mem_singleton] at hb
    subst hb
    exact fun e => hn (e ▸ ha)
theorem mem_put {kvs : List (κ × V)} {k : κ} {v : V} {p : κ × V} (h : p ∈ putK kvs k v) : p = (k, v) ∨ (p ∈ kvs ∧ p.1 ≠ k) := by
  unfold putK at h
  by_cases h0 : (kvs.any fun kv => decide (kv.1 = k)) = true
  · rw [if_pos h0] at h
    obtain ⟨kv, h1, h2⟩ := List.mem_map.mp h
    by_cases e : kv.1 = k
    · rw [if_pos e] at h2
      left
      rw [← h2, e]
    · rw [if_neg e] at h2
      right
      subst h2
      exact ⟨h1, e⟩
  · rw [if_neg h0] at h
    rcases List.mem_append.mp h with q | q
    · right
      refine ⟨q, fun e => h0 (List.any_eq_true.mpr ⟨p, q, decide_eq_true e⟩)⟩
    · left
      exact List.mem_singleton.mp q
end
end Nm
set_option maxRecDepth 100000
set_option maxHeartbeats 4000000
namespace Nm
open PySem L2
/-! ### words, ties, worlds -/
def letB (z : Str) : Str := Txt.rstripChars z "0123456789"
def isWordB (z : Str) : Bool := decide (z.length ≤ 100) && decide (1 ≤ (letB z).length) && decide ((letB z).length ≤ 8) && decide (z.length ≤ (letB z).length + 4) && (letB z).cps.toList.all (fun c => decide (c ∈ ("abcdefghijklmnopqrstuvwxyz" : Str).cps.toList))
def TieK (n : Nat) (k : List Key) : Prop := ∃ (i j : Nat) (kd : Str), k = [Sum.inl (i : Int), Sum.inl (j : Int), Sum.inr kd] ∧ i < j ∧ j < n ∧ isWordB kd = true
structure Ties (n m : Nat) (kvs : List (List Key × V)) : Prop where
  key : ∀ kv ∈ kvs, TieK n kv.1
  val : ∀ kv ∈ kvs, ∃ x : Nat, kv.2 = V.int (x : Int) ∧ 1 ≤ x ∧ x ≤ m
  nd : (kvs.map (·.1)).Nodup
theorem Ties.nil (n m : Nat) : Ties n m [] := ⟨fun _ h => (List.not_mem_nil h).elim, fun _ h => (List.not_mem_nil h).elim, List.nodup_nil⟩
theorem Ties.put {n m : Nat} {kvs : List (List Key × V)} (h : Ties n m kvs) {k : List Key} {x : Nat} (hk : TieK n k) (h1 : 1 ≤ x) (h2 : x ≤ m) : Ties n m (putK kvs k (V.int (x : Int))) := by
  refine ⟨fun kv hm => ?_, fun kv hm => ?_, nodup_put _ _ h.nd⟩
  · rcases mem_put hm with e | e
    · rw [e]; exact hk
    · exact h.key kv e.1
  · rcases mem_put hm with e | e
    · rw [e]; exact ⟨x, rfl, h1, h2⟩
    · exact h.val kv e.1
/-- all but the source and one thing more stays -/
def Kp3 (s c t : Addr) (H H' : Hp) : Prop := ∀ b o, H b = some o → b ≠ s → b ≠ c → b ≠ t → H' b = some o
theorem Kp3.refl {s c t : Addr} (H : Hp) : Kp3 s c t H H := fun _ _ h _ _ _ => h
theorem Kp3.kp {s c t : Addr} {H H1 H2 : Hp} (a : Kp3 s c t H H1) (b : Kp s c H1 H2) : Kp3 s c t H H2 := fun x o h h1 h2 h3 => b x o (a x o h h1 h2 h3) h1 h2
theorem Kp3.off {s c t : Addr} {H H1 : Hp} {p : Addr} {o : HO} (a : Kp3 s c t H H1) (h : H1 p = none) : Kp3 s c t H (upd H1 p o) := fun x u e h1 h2 h3 => by
  have := a x u e h1 h2 h3
  rw [upd_ne (ne_of_none this h)]
  exact this
theorem Kp3.put {s c t : Addr} {H H1 : Hp} {o : HO} (a : Kp3 s c t H H1) : Kp3 s c t H (upd H1 t o) := fun x u e h1 h2 h3 => by
  rw [upd_ne h3]
  exact a x u e h1 h2 h3
theorem PairsAt.put {n : Int} {H : Hp} {xs : List V} {t : Addr} {o u : HO} (h : PairsAt n H xs) (e : H t = some u) (hu : ∀ ys, u ≠ .tup ys) : PairsAt n (upd H t o) xs := fun v hv => by
  obtain ⟨q, i, j, a, b, r⟩ := h v hv
  refine ⟨q, i, j, a, ?_, r⟩
  rw [upd_ne (ne_of b e (fun z => hu _ z.symm))]
  exact b
/-- a list of one to three words, new since H -/
def WordL (H0 H : Hp) (v : V) : Prop := ∃ e es, v = V.ref e ∧ H0 e = none ∧ H e = some (.lst (List.map V.str es)) ∧ 1 ≤ es.length ∧ es.length ≤ 3 ∧ ∀ x ∈ es, isWordB x = true
theorem WordL.kp {H0 H H' : Hp} {s c : Addr} {v : V} (S : Src H0 s c) (h : WordL H0 H v) (k : Kp s c H H') : WordL H0 H' v := by
  obtain ⟨e, es, a, b, d, r⟩ := h
  obtain ⟨n1, n2⟩ := S.ne b
  exact ⟨e, es, a, b, k _ _ d n1 n2, r⟩
theorem WordL.same {H0 H H' : Hp} {v : V} (h : WordL H0 H v) (k : Same H H') : WordL H0 H' v := by
  obtain ⟨e, es, a, b, d, r⟩ := h
  exact ⟨e, es, a, b, k _ _ d, r⟩
theorem WordL.mk {H0 H : Hp} {l : Addr} (es : List Str) (h0 : Same H0 H) (h : H l = none) (h1 : (decide (1 ≤ es.length) && decide (es.length ≤ 3) && es.all isWordB) = true) : WordL H0 (upd H l (.lst (es.map V.str))) (.ref l) := by
  simp only [Bool.and_eq_true, decide_eq_true_eq, List.all_eq_true] at h1
  exact ⟨l, es, rfl, h0.free h, upd_same, h1.1.1, h1.1.2, h1.2⟩
def seven : List Str := ["a", "b", "c", "d", "e", "p0", "north"]
theorem seven_nd : seven.Nodup := by decide +kernel
theorem seven_w : ∀ x ∈ seven, isWordB x = true := by decide +kernel
def worldD (a b t : Addr) : List (Key × V) := [(Sum.inr "names", V.ref a), (Sum.inr "colours", V.ref b), (Sum.inr "ties", V.ref t)]
structure WorldOk (H : Hp) (s c wd a b t : Addr) (nm cl : List Str) (kvs : List (List Key × V)) : Prop where
  d : H wd = some (.dK (worldD a b t))
  hn : H a = some (.lst (nm.map V.str))
  hc : H b = some (.lst (cl.map V.str))
  ht : H t = some (.dT kvs)
  ds : wd ≠ s ∧ wd ≠ c
  as : a ≠ s ∧ a ≠ c
  bs : b ≠ s ∧ b ≠ c
  ts : t ≠ s ∧ t ≠ c
  nn : nm.Nodup
  nw : ∀ x ∈ nm, isWordB x = true
  cw : ∀ x ∈ cl, isWordB x = true
  cn : cl.length = nm.length
  n1 : 1 ≤ nm.length
theorem WorldOk.kp {H H' : Hp} {s c wd a b t : Addr} {nm cl : List Str} {kvs : List (List Key × V)} (W : WorldOk H s c wd a b t nm cl kvs) (e : Kp s c H H') : WorldOk H' s c wd a b t nm cl kvs :=
  ⟨e _ _ W.d W.ds.1 W.ds.2, e _ _ W.hn W.as.1 W.as.2, e _ _ W.hc W.bs.1 W.bs.2, e _ _ W.ht W.ts.1 W.ts.2, W.ds, W.as, W.bs, W.ts, W.nn, W.nw, W.cw, W.cn, W.n1⟩
theorem WorldOk.same {H H' : Hp} {s c wd a b t : Addr} {nm cl : List Str} {kvs : List (List Key × V)} (W : WorldOk H s c wd a b t nm cl kvs) (e : Same H H') : WorldOk H' s c wd a b t nm cl kvs := W.kp (Kp.same e)
theorem w1 : ¬ (("names" : Str) = "colours") := by decide +kernel
theorem w2 : ¬ (("names" : Str) = "ties") := by decide +kernel
theorem w3 : ¬ (("colours" : Str) = "ties") := by decide +kernel
section
variable {a b t : Addr}
theorem wd_names : valV (worldD a b t) (Sum.inr "names" : Key) = some (.ref a) := valV_pos rfl
theorem wd_colours : valV (worldD a b t) (Sum.inr "colours" : Key) = some (.ref b) := by
  unfold worldD
  rw [valV_neg (inr_ne w1)]
  exact valV_pos rfl
theorem wd_ties : valV (worldD a b t) (Sum.inr "ties" : Key) = some (.ref t) := by
  unfold worldD
  rw [valV_neg (inr_ne w2), valV_neg (inr_ne w3)]
  exact valV_pos rfl
theorem merge_wd : mergeK [] (worldD a b t) = worldD a b t := by
  unfold mergeK worldD
  simp [putK, w1, w2, w3]
theorem dg_names {H : Hp} {wd : Addr} (h : H wd = some (.dK (worldD a b t))) : DGet H wd (V.str "names") (some (.ref a)) := by rw [← wd_names (a := a) (b := b) (t := t)]; exact DGet.k (k := Sum.inr "names") h
theorem dg_colours {H : Hp} {wd : Addr} (h : H wd = some (.dK (worldD a b t))) : DGet H wd (V.str "colours") (some (.ref b)) := by rw [← wd_colours (a := a) (b := b) (t := t)]; exact DGet.k (k := Sum.inr "colours") h
theorem dg_ties {H : Hp} {wd : Addr} (h : H wd = some (.dK (worldD a b t))) : DGet H wd (V.str "ties") (some (.ref t)) := by rw [← wd_ties (a := a) (b := b) (t := t)]; exact DGet.k (k := Sum.inr "ties") h
end
section
variable {P : Program} {w : World} {K : PySem.W.Frag} {mg : Str → Option Value} {base : Heap}
/-! ### _law_draw_world -/
def spDraw : Sp := fun vs H Q _ => ∃ (s c : Addr) (m : Int), vs = [.ref s, .int m] ∧ Src H s c ∧ 1 ≤ m ∧ m ≤ 7 ∧
  ∀ (wd a b t : Addr) (nm cl : List Str) (kvs : List (List Key × V)) (H' : Hp), H wd = none → H a = none → H b = none → H t = none → WorldOk H' s c wd a b t nm cl kvs → (nm.length : Int) ≤ m → Ties nm.length 2 kvs → kvs.length ≤ 300 → Src H' s c → Kp s c H H' → Q (.ref wd) H'
abbrev nDraw : List Str := ["_law_source", "_law_most", "_law_count", "_law_names", "_law_every", "_law_kinds", "_law_ties", "_law_wide", "_law_kind", "_law_one", "_law_other", "_law_name"]
theorem scDraw : FnScope nDraw ["_law_source", "_law_most"] (defScope sDrawWorld) := ⟨rfl, rfl, rfl, by decide +kernel, rfl, by decide +kernel, by decide +kernel⟩
theorem ok_draw {f : Addr} {fd : FuncData} (F : Fun K "_law_draw_world" "_law_draw_world" sDrawWorld f fd) (T : TxtB mg) (Gp : Def P w K mg base "_law_pick" ["_law_source", "_law_many"] 1 spPick)
    (Ga : Def P w K mg base "_law_any_order" ["_law_source", "_law_items"] 2 (spAny K)) (Gs : Def P w K mg base "_law_shape_pairs" ["_law_source", "_law_count"] 2 spShape) (Gc : Def P w K mg base "_law_choice_of" ["_law_source", "_law_items"] 2 (spChoice K)) :
    FnOk P w K mg base CX0 3 f fd ["_law_source", "_law_most"] spDraw := by
  obtain ⟨fp, fdp, Gp, mp, kp, bp⟩ := Gp.ex
  obtain ⟨fa, fda, Ga, ma, ka, ba⟩ := Ga.ex
  obtain ⟨fs, fds, Gs, ms, ks, bs⟩ := Gs.ex
  obtain ⟨fc, fdc, Gc, mc, kc, bc⟩ := Gc.ex
  refine F.ok scDraw (fun vs H Q E h => ?_) (fun cdv A outer s H vs Q E hr h => ?_)
  · obtain ⟨p, dx, n, rfl, _⟩ := h
    rfl
  · obtain ⟨sa, ca, m, rfl, S, n1, n2, k⟩ := h
    have hu := hu_of hr
    have hr1 := hr.mono (by decide : 1 ≤ 2)
    refine ⟨_, Evl.pss_cut (ps_set (i := 2) scDraw.nd rfl (Or.inl rfl) (pe_op op_add pe_int (pe_call Gp hr1 (by rfl) mp kp bp .nil pass0 (pa_cons (pv 0) (pa_cons (pv 1) pa_nil)))))
      (Evl.pss_cut (ps_set (i := 3) scDraw.nd rfl (Or.inl rfl) (pe_slice sl_list (pe_call Ga hr (by rfl) ma ka ba .nil pass0 (pa_cons (pv 0) (pa_cons (pe_lst (pa_cons pe_str (pa_cons pe_str (pa_cons pe_str (pa_cons pe_str (pa_cons pe_str (pa_cons pe_str (pa_cons pe_str pa_nil)))))))) pa_nil))) po_none (po_some (pv 2))))
      (Evl.pss_cut (ps_set (i := 4) scDraw.nd rfl (Or.inr rfl) (pe_ix ix_list (pe_lst (pa_cons (pe_lst (pa_cons pe_str pa_nil)) (pa_cons (pe_lst (pa_cons pe_str pa_nil)) (pa_cons (pe_lst (pa_cons pe_str (pa_cons pe_str pa_nil))) (pa_cons (pe_lst (pa_cons pe_str (pa_cons pe_str (pa_cons pe_str pa_nil)))) (pa_cons (pe_lst (pa_cons pe_str (pa_cons pe_str pa_nil))) pa_nil)))))) (pe_call Gp hr1 (by rfl) mp kp bp .nil pass0 (pa_cons (pv 0) (pa_cons pe_int pa_nil))) (fun _ _ => rfl)))
      (Evl.pss_cut (ps_set (i := 5) scDraw.nd rfl (Or.inl rfl) (pe_ix ix_list (pe_lst (pa_cons (pe_lst (pa_cons pe_str pa_nil)) (pa_cons (pe_lst (pa_cons pe_str pa_nil)) (pa_cons (pe_lst (pa_cons pe_str (pa_cons pe_str pa_nil))) (pa_cons (pe_lst (pa_cons pe_str (pa_cons pe_str pa_nil))) pa_nil))))) (pe_call Gp hr1 (by rfl) mp kp bp .nil pass0 (pa_cons (pv 0) (pa_cons pe_int pa_nil))) (fun _ _ => rfl)))
      (Evl.pss_cut (ps_par (i := 6) (j := 7) (by rfl) scDraw.nd rfl rfl (by decide) rfl rfl (pa_cons pe_dnewT (pa_cons (pe_call Gp hr1 (by rfl) mp kp bp .nil pass0 (pa_cons (pv 0) (pa_cons pe_int pa_nil))) pa_nil)) (by rfl))
      (Evl.pss_cut (ps_for PassesOwn.never rfl (pi_list (pv 5)) (pg_name (i := 8) scDraw.nd rfl (Or.inl rfl))
        (pss_one (ps_for PassesOwn.never rfl (pi_list (pe_call Gs hr (by rfl) ms ks bs .nil pass0 (pa_cons (pv 0) (pa_cons (pv 2) pa_nil)))) (pg_tup rfl (pgs_cons (pg_name (i := 9) scDraw.nd rfl (.inl rfl)) (pgs_cons (pg_name (i := 10) scDraw.nd rfl (.inl rfl)) pgs_nil)))
          (pss_one (ps_dput hu (pv 6) (pe_tup (pa_cons (pv 9) (pa_cons (pv 10) (pa_cons (pv 8) pa_nil)))) (pe_ix ix_list (pe_lst (pa_cons pe_int (pa_cons pe_int (pa_cons (pe_op op_add pe_int (pe_call Gp hr1 (by rfl) mp kp bp .nil pass0 (pa_cons (pv 0) (pa_cons pe_int pa_nil)))) pa_nil)))) (pv 7) (fun _ _ => rfl)) rfl)))))
      (pss_one (ps_ret (pe_disp (pps_cons pe_str (pv 3) (pps_cons pe_str (pe_lc (own := [("_law_name", 11)]) (g := gName 11) (tt := tYes) (te := tCall (spChoice K) [] E0 (tCons (tVar 0) (tCons (tVar 4) tNil))) rfl scDraw.nd (pi_list (pv 3))
          (blkOk_by (N := nDraw) (sc := defScope sDrawWorld) (by decide +kernel)) (fun _ _ _ _ _ => pg_name (i := 11) scDraw.nd rfl (Or.inl rfl)) (fun _ _ _ _ _ => pts_nil)
          (fun _ _ _ _ _ => by exact pe_call Gc hr (by rfl) mc kc bc .nil pass0 (pa_cons (pv 0) (pa_cons (pv 4) pa_nil))))
          (pps_cons pe_str (pv 6) pps_nil))) (by rfl) (by rfl) (fun z => by cases z) (by decide))))))))), ?_⟩
    -- count
    refine ⟨fun σ H1 => ∃ n : Nat, σ = [some (.ref sa), some (.int m), some (.int (n : Int)), none, none, none, none, none, none, none, none, none] ∧ 1 ≤ n ∧ (n : Int) ≤ m ∧ Src H1 sa ca ∧ Kp sa ca H H1, ?_, ?_⟩
    · refine ⟨_, rfl, _, rfl, sa, ca, m, rfl, S, n1, by omega, fun kk H1 k0 k1 S1 kp1 => ⟨_, _, rfl, rfl, ?_⟩⟩
      refine ⟨(1 + kk).toNat, ?_, by omega, by omega, S1, kp1⟩
      rw [Int.toNat_of_nonneg (by omega)]
      rfl
    rintro σ H1 ⟨n, rfl, hn1, hn7, S1, kp1⟩
    -- names
    refine ⟨fun σ H3 => ∃ q nm, σ = [some (.ref sa), some (.int m), some (.int (n : Int)), some (.ref q), none, none, none, none, none, none, none, none] ∧ H q = none ∧ H3 q = some (.lst (List.map V.str nm)) ∧ nm.length = n ∧ nm.Nodup ∧ (∀ x ∈ nm, isWordB x = true) ∧ Src H3 sa ca ∧ Kp sa ca H H3, ?_, ?_⟩
    · refine ⟨_, rfl, (by show 7 ≤ sizeLine; decide), fun l hl => ?_⟩
      refine ⟨sa, ca, l, _, rfl, S1.new hl, SqL.of upd_same, (by show 7 ≤ 10000; decide), fun p ys H2 hp pm hpl S2 kp2 => ?_⟩
      refine ⟨_, rfl, _, rfl, p, ys, rfl, SqL.of hpl, fun q hq => ?_⟩
      obtain ⟨zs, rfl, pz⟩ := perm_str (xs := seven) pm
      have hzl : zs.length = 7 := pz.length_eq
      have kp02 : Kp sa ca H H2 := kp1.trans ((Kp.same (same_new hl)).trans kp2)
      have hq0 : H q = none := kp02.free S2 hq
      refine ⟨q, zs.take n, rfl, hq0, by rw [upd_same, cut_upto, ← List.map_take], by rw [List.length_take]; omega, ((List.take_sublist n zs).nodup (pz.nodup_iff.mpr seven_nd)), fun x hx => seven_w x (pz.subset ((List.take_sublist n zs).subset hx)), S2.new hq, kp02.off hq0⟩
    rintro σ H3 ⟨q, nm, rfl, hq0, hq, hlen, hnd, hwd, S3, kp3⟩
    -- every
    refine ⟨fun σ H4 => ∃ v, σ = [some (.ref sa), some (.int m), some (.int (n : Int)), some (.ref q), some v, none, none, none, none, none, none, none] ∧ WordL H3 H4 v ∧ Src H4 sa ca ∧ Kp sa ca H3 H4, ?_, ?_⟩
    · refine ⟨(by show 1 ≤ sizeLine; decide), fun l1 h1 => ⟨(by show 1 ≤ sizeLine; decide), fun l2 h2 => ⟨(by show 2 ≤ sizeLine; decide), fun l3 h3 => ⟨(by show 3 ≤ sizeLine; decide), fun l4 h4 => ⟨(by show 2 ≤ sizeLine; decide), fun l5 h5 => ⟨(by show 5 ≤ sizeLine; decide), fun l6 h6 => ?_⟩⟩⟩⟩⟩⟩
      have s1 := same_new (o := .lst ((["o"] : List Str).map V.str)) h1
      have s2 := s1.trans (same_new (o := .lst ((["o"] : List Str).map V.str)) h2)
      have s3 := s2.trans (same_new (o := .lst ((["red", "blue"] : List Str).map V.str)) h3)
      have s4 := s3.trans (same_new (o := .lst ((["x", "y", "z"] : List Str).map V.str)) h4)
      have s5 := s4.trans (same_new (o := .lst ((["m10", "m2"] : List Str).map V.str)) h5)
      have s6 := same_new (o := .lst [.ref l1, .ref l2, .ref l3, .ref l4, .ref l5]) h6
      have a5 := (WordL.mk ["m10", "m2"] s4 h5 (by decide +kernel)).same s6
      have a4 := ((WordL.mk ["x", "y", "z"] s3 h4 (by decide +kernel)).same (same_new h5)).same s6
      have a3 := (((WordL.mk ["red", "blue"] s2 h3 (by decide +kernel)).same (same_new h4)).same (same_new h5)).same s6
      have a2 := ((((WordL.mk ["o"] s1 h2 (by decide +kernel)).same (same_new h3)).same (same_new h4)).same (same_new h5)).same s6
      have a1 := (((((WordL.mk ["o"] (Same.refl H3) h1 (by decide +kernel)).same (same_new h2)).same (same_new h3)).same (same_new h4)).same (same_new h5)).same s6
      have all : ∀ v ∈ [V.ref l1, V.ref l2, V.ref l3, V.ref l4, V.ref l5], WordL H3 _ v := fun v hv => by
        rcases List.mem_cons.mp hv with rfl | hv
        · exact a1
        rcases List.mem_cons.mp hv with rfl | hv
        · exact a2
        rcases List.mem_cons.mp hv with rfl | hv
        · exact a3
        rcases List.mem_cons.mp hv with rfl | hv
        · exact a4
        rcases List.mem_cons.mp hv with rfl | hv
        · exact a5
        cases hv
      have s06 := s5.trans s6
      refine ⟨_, rfl, sa, ca, 5, rfl, S3.same s06, by decide, by decide, fun kk H4 k0 k1 S4 kp4 => ?_⟩
      obtain ⟨n6s, n6c⟩ := S3.ne (s5.free h6)
      have hl6 := kp4 _ _ upd_same n6s n6c
      obtain ⟨v, hv⟩ : ∃ v, [V.ref l1, V.ref l2, V.ref l3, V.ref l4, V.ref l5][kk.toNat]? = some v := ⟨_, List.getElem?_eq_getElem (by show kk.toNat < 5; omega)⟩
      refine ⟨l6, _, kk, v, rfl, rfl, SqL.of hl6, ?_, v, rfl, (all v (List.mem_of_getElem? hv)).kp S3 kp4, S4, (Kp.same s06).trans kp4⟩
      have := atI_nat hv
      rw [Int.toNat_of_nonneg k0] at this
      exact this
    rintro σ H4 ⟨ev, rfl, hev, S4, kp4⟩
    -- kinds
    refine ⟨fun σ H5 => ∃ v, σ = [some (.ref sa), some (.int m), some (.int (n : Int)), some (.ref q), some ev, some v, none, none, none, none, none, none] ∧ WordL H4 H5 v ∧ Src H5 sa ca ∧ Kp sa ca H4 H5, ?_, ?_⟩
    · refine ⟨(by show 1 ≤ sizeLine; decide), fun l1 h1 => ⟨(by show 1 ≤ sizeLine; decide), fun l2 h2 => ⟨(by show 2 ≤ sizeLine; decide), fun l3 h3 => ⟨(by show 2 ≤ sizeLine; decide), fun l4 h4 => ⟨(by show 4 ≤ sizeLine; decide), fun l6 h6 => ?_⟩⟩⟩⟩⟩
      have s1 := same_new (o := .lst ((["c"] : List Str).map V.str)) h1
      have s2 := s1.trans (same_new (o := .lst ((["c"] : List Str).map V.str)) h2)
      have s3 := s2.trans (same_new (o := .lst ((["k", "c"] : List Str).map V.str)) h3)
      have s4 := s3.trans (same_new (o := .lst ((["k2", "k10"] : List Str).map V.str)) h4)
      have s6 := same_new (o := .lst [.ref l1, .ref l2, .ref l3, .ref l4]) h6
      have a4 := (WordL.mk ["k2", "k10"] s3 h4 (by decide +kernel)).same s6
      have a3 := ((WordL.mk ["k", "c"] s2 h3 (by decide +kernel)).same (same_new h4)).same s6
      have a2 := (((WordL.mk ["c"] s1 h2 (by decide +kernel)).same (same_new h3)).same (same_new h4)).same s6
      have a1 := ((((WordL.mk ["c"] (Same.refl H4) h1 (by decide +kernel)).same (same_new h2)).same (same_new h3)).same (same_new h4)).same s6
      have all : ∀ v ∈ [V.ref l1, V.ref l2, V.ref l3, V.ref l4], WordL H4 _ v := fun v hv => by
        rcases List.mem_cons.mp hv with rfl | hv
        · exact a1
        rcases List.mem_cons.mp hv with rfl | hv
        · exact a2
        rcases List.mem_cons.mp hv with rfl | hv
        · exact a3
        rcases List.mem_cons.mp hv with rfl | hv
        · exact a4
        cases hv
      have s06 := s4.trans s6
      refine ⟨_, rfl, sa, ca, 4, rfl, S4.same s06, by decide, by decide, fun kk H5 k0 k1 S5 kp5 => ?_⟩
      obtain ⟨n6s, n6c⟩ := S4.ne (s4.free h6)
      have hl6 := kp5 _ _ upd_same n6s n6c
      obtain ⟨v, hv⟩ : ∃ v, [V.ref l1, V.ref l2, V.ref l3, V.ref l4][kk.toNat]? = some v := ⟨_, List.getElem?_eq_getElem (by show kk.toNat < 4; omega)⟩
      refine ⟨l6, _, kk, v, rfl, rfl, SqL.of hl6, ?_, v, rfl, (all v (List.mem_of_getElem? hv)).kp S4 kp5, S5, (Kp.same s06).trans kp5⟩
      have := atI_nat hv
      rw [Int.toNat_of_nonneg k0] at this
      exact this
    rintro σ H5 ⟨kv, rfl, hkv, S5, kp5⟩
    have hev5 := hev.kp S3 kp5
    obtain ⟨ea, es, rfl, ea0, hea, e1, e2, ew⟩ := hev5
    obtain ⟨ka', ks', rfl, ka0, hka, kk1, kk2, kw⟩ := hkv
    have kp05 : Kp sa ca H H5 := (kp3.trans kp4).trans kp5
    obtain ⟨nqs, nqc⟩ := S.ne hq0
    have hq5 : H5 q = some (.lst (List.map V.str nm)) := kp5 _ _ (kp4 _ _ hq nqs nqc) nqs nqc
    obtain ⟨nes, nec⟩ := S3.ne ea0
    obtain ⟨nks, nkc⟩ := S4.ne ka0
    -- ties, wide
    refine ⟨fun σ H6 => ∃ t wi, σ = [some (.ref sa), some (.int m), some (.int (n : Int)), some (.ref q), some (.ref ea), some (.ref ka'), some (.ref t), some (.int wi), none, none, none, none] ∧ H5 t = none ∧ 0 ≤ wi ∧ wi < 3 ∧ H6 t = some (.dT []) ∧ Src H6 sa ca ∧ Kp sa ca H5 H6, ?_, ?_⟩
    · intro t ht
      obtain ⟨nts, ntc⟩ := S5.ne ht
      refine ⟨_, rfl, sa, ca, 3, rfl, S5.new ht, by decide, by decide, fun kk H6 k0 k1 S6 kp6 => ?_⟩
      exact ⟨_, _, rfl, t, kk, rfl, ht, k0, k1, kp6 _ _ upd_same nts ntc, S6, (Kp.same (same_new ht)).trans kp6⟩
    rintro σ H6 ⟨t, wi, rfl, ht0, wi0, wi1, ht, S6, kp6⟩
    obtain ⟨nts, ntc⟩ := S5.ne ht0
    have nkt : ka' ≠ t := ne_of_none hka ht0
    have net : ea ≠ t := ne_of_none hea ht0
    have nqt : q ≠ t := ne_of_none hq5 ht0
    refine ⟨fun σ H7 => ∃ vk v9 v10 kvs, σ = [some (.ref sa), some (.int m), some (.int (n : Int)), some (.ref q), some (.ref ea), some (.ref ka'), some (.ref t), some (.int wi), vk, v9, v10, none] ∧ H7 t = some (.dT kvs) ∧ Ties n 2 kvs ∧ kvs.length ≤ 300 ∧ Src H7 sa ca ∧ Kp3 sa ca t H6 H7, ?_, ?_⟩
    · refine ⟨_, rfl, ka', rfl, ⟨_, SqL.of (kp6 _ _ hka nks nkc)⟩, ?_⟩
      refine for_list (xs := ks'.map V.str) (fun i σ H7 => ∃ vk v9 v10 kvs, σ = [some (.ref sa), some (.int m), some (.int (n : Int)), some (.ref q), some (.ref ea), some (.ref ka'), some (.ref t), some (.int wi), vk, v9, v10, none] ∧ H7 t = some (.dT kvs) ∧ Ties n 2 kvs ∧ kvs.length ≤ 100 * i ∧ Src H7 sa ca ∧ Kp3 sa ca t H6 H7)
        ⟨none, none, none, [], rfl, ht, Ties.nil n 2, by simp, S6, Kp3.refl H6⟩ (fun i σ H7 _ ⟨_, _, _, _, _, _, _, _, _, kp7⟩ => SqL.of (kp7 _ _ (kp6 _ _ hka nks nkc) nks nkc nkt)) ?_ ?_
      · rintro i x σ H7 hi ⟨vk, v9, v10, kvs, rfl, ht7, ti7, hl7, S7, kp7⟩
        have hil := (List.getElem?_eq_some_iff.mp hi).1
        rw [List.length_map] at hil
        rw [List.getElem?_map] at hi
        obtain ⟨kd, hkd, rfl⟩ := Option.map_eq_some_iff.mp hi
        have kdw := kw kd (List.mem_of_getElem? hkd)
        refine ⟨_, rfl, _, rfl, sa, ca, n, rfl, S7, by omega, by omega, fun p xs H8 hp hpl hpr hxl S8 kp8 => ?_⟩
        have ht8 := kp8 _ _ ht7 nts ntc
        have npt : p ≠ t := fun e => by subst e; rw [hp] at ht7; cases ht7
        obtain ⟨nps, npc⟩ := S7.ne hp
        refine ⟨p, rfl, ⟨_, SqL.of hpl⟩, ?_⟩
        refine for_list (xs := xs) (fun j σ H9 => ∃ v9 v10 kvs', σ = [some (.ref sa), some (.int m), some (.int (n : Int)), some (.ref q), some (.ref ea), some (.ref ka'), some (.ref t), some (.int wi), some (.str kd), v9, v10, none] ∧ H9 t = some (.dT kvs') ∧ Ties n 2 kvs' ∧ kvs'.length ≤ kvs.length + j ∧ H9 p = some (.lst xs) ∧ PairsAt n H9 xs ∧ Src H9 sa ca ∧ Kp3 sa ca t H6 H9)
          ⟨v9, v10, kvs, rfl, ht8, ti7, by omega, hpl, hpr, S8, kp7.kp kp8⟩ (fun j σ H9 _ ⟨_, _, _, _, _, _, _, h, _⟩ => SqL.of h) ?_ ?_
        · rintro j x σ H9 hj ⟨v9, v10, kvs', rfl, ht9, ti9, hl9, hp9, hpr9, S9, kp9⟩
          have hjl := (List.getElem?_eq_some_iff.mp hj).1
          obtain ⟨tt, i1, j1, rfl, htt, hi0, hij, hjn⟩ := hpr9 x (List.mem_of_getElem? hj)
          refine ⟨tt, _, rfl, SqT.of htt, rfl, _, _, rfl, _, _, rfl, rfl, ?_⟩
          refine ⟨_, rfl, sa, ca, 2, rfl, S9, by decide, by decide, fun kk H10 k0 k1 S10 kp10 => ⟨_, _, rfl, rfl, (by show 3 ≤ sizeLine; decide), fun l hl => ?_⟩⟩
          have ht10 := kp10 _ _ ht9 nts ntc
          have hp10 := kp10 _ _ hp9 nps npc
          have hpr10 := hpr9.kp S9 kp10
          obtain ⟨x, hx, hx1, hx2⟩ : ∃ x : Nat, atI [V.int 1, V.int 2, V.int (1 + kk)] wi = some (V.int (x : Int)) ∧ 1 ≤ x ∧ x ≤ 2 := by
            have hw : wi = 0 ∨ wi = 1 ∨ wi = 2 := by omega
            rcases hw with rfl | rfl | rfl
            · exact ⟨1, atI_nat (j := 0) rfl, by decide, by decide⟩
            · exact ⟨2, atI_nat (j := 1) rfl, by decide, by decide⟩
            · refine ⟨(1 + kk).toNat, ?_, by omega, by omega⟩
              rw [Int.toNat_of_nonneg (by omega)]
              exact atI_nat (j := 2) rfl
          refine ⟨_, rfl, l, _, wi, _, rfl, rfl, SqL.of upd_same, hx, ?_⟩
          have ht11 : (upd H10 l (.lst [V.int 1, V.int 2, V.int (1 + kk)])) t = some (.dT kvs') := by rw [upd_ne (ne_of_none ht10 hl)]; exact ht10
          refine ⟨_, rfl, _, rfl, _, rfl, _, rfl, (by show 3 ≤ sizeLine; decide), fun u hu => ?_⟩
          have ht12 : (upd (upd H10 l (.lst [V.int 1, V.int 2, V.int (1 + kk)])) u (.tup [.int i1, .int j1, .str kd])) t = some (.dT kvs') := by rw [upd_ne (ne_of_none ht11 hu)]; exact ht11
          have sm12 : Same H10 (upd (upd H10 l (.lst [V.int 1, V.int 2, V.int (1 + kk)])) u (.tup [.int i1, .int j1, .str kd])) := (same_new hl).trans (same_new hu)
          refine ⟨t, _, rfl, DPut.t (k := [Sum.inl i1, Sum.inl j1, Sum.inr kd]) ht12 upd_same (Evl.sz_lt (by omega)), ?_⟩
          refine ⟨some (.int i1), some (.int j1), _, rfl, upd_same, ti9.put ⟨i1.toNat, j1.toNat, kd, by rw [Int.toNat_of_nonneg hi0, Int.toNat_of_nonneg (by omega)], by omega, by omega, kdw⟩ hx1 hx2, by have := length_putK kvs' [Sum.inl i1, Sum.inl j1, Sum.inr kd] (V.int (x : Int)); omega, ?_, ?_, (S10.same sm12).upd nts.symm.symm ntc, ((kp9.kp kp10).kp (Kp.same sm12)).put⟩
          · rw [upd_ne npt]
            exact sm12 _ _ hp10
          · exact (hpr10.same sm12).put ht12 (by intro ys z; cases z)
        · rintro σ H9 ⟨v9, v10, kvs', rfl, ht9, ti9, hl9, hp9, hpr9, S9, kp9⟩
          exact ⟨some (.str kd), v9, v10, kvs', rfl, ht9, ti9, by omega, S9, kp9⟩
      · rintro σ H7 ⟨vk, v9, v10, kvs, rfl, ht7, ti7, hl7, S7, kp7⟩
        rw [List.length_map] at hl7
        exact ⟨vk, v9, v10, kvs, rfl, ht7, ti7, by omega, S7, kp7⟩
    rintro σ H7 ⟨vk, v9, v10, kvs, rfl, ht7, ti7, hl7, S7, kp7⟩
    have hq7 := kp7 _ _ (kp6 _ _ hq5 nqs nqc) nqs nqc nqt
    have hea7 := kp7 _ _ (kp6 _ _ hea nes nec) nes nec net
    have kp07 : Kp sa ca H H7 := fun b o e h1 h2 => kp7 b o (kp6 b o (kp05 b o e h1 h2) h1 h2) h1 h2 (ne_of_none (kp05 b o e h1 h2) ht0)
    have ht00 : H t = none := kp05.free S5 ht0
    intro p hp
    have hp0 : H p = none := kp07.free S7 hp
    obtain ⟨nps, npc⟩ := S7.ne hp
    have npq : p ≠ q := fun e => by subst e; rw [hq7] at hp; cases hp
    have npe : p ≠ ea := fun e => by subst e; rw [hea7] at hp; cases hp
    have npt : p ≠ t := fun e => by subst e; rw [ht7] at hp; cases hp
    have sp := same_new (o := .dK []) hp
    refine ⟨_, rfl, _, rfl, q, rfl, ⟨_, SqL.of (sp _ _ hq7)⟩, fun D hD => ?_⟩
    obtain ⟨nDp, hD7⟩ := nx hD
    have hD0 : H D = none := kp07.free S7 hD7
    obtain ⟨nDs, nDc⟩ := S7.ne hD7
    have sD := same_new (o := .lst []) hD
    have sDp := sp.trans sD
    refine lc_list (xs := nm.map V.str) (fun i H8 => ∃ cl, H8 D = some (.lst (List.map V.str cl)) ∧ cl.length = i ∧ (∀ x ∈ cl, isWordB x = true) ∧ H8 p = some (.dK []) ∧ Src H8 sa ca ∧ Kp sa ca H7 H8)
      ⟨[], upd_same, rfl, (fun x hx => (List.not_mem_nil hx).elim), sD _ _ upd_same, S7.same sDp, Kp.same sDp⟩ (fun i H8 _ ⟨_, _, _, _, _, _, k8⟩ => SqL.of (k8 _ _ hq7 nqs nqc)) ?_ ?_
    · rintro i x H8 hi ⟨cl, hcD, hcl, hcw, hp8, S8, kp8⟩
      have hil := (List.getElem?_eq_some_iff.mp hi).1
      rw [List.length_map] at hil
      refine ⟨rfl, tyes ?_⟩
      refine ⟨_, rfl, _, rfl, sa, ca, ea, _, rfl, S8, nes, nec, SqL.of (kp8 _ _ hea7 nes nec), by rw [List.length_map]; exact e1, by rw [List.length_map]; omega, fun v H9 hv S9 kp9 => ?_⟩
      obtain ⟨x, hx, rfl⟩ := List.mem_map.mp hv
      refine ⟨_, kp9 _ _ hcD nDs nDc, Evl.sz_lt (by rw [List.length_map]; omega), cl ++ [x], by rw [upd_same, List.map_append]; rfl, by simp [hcl], ?_, ?_, S9.upd nDs nDc, ?_⟩
      · intro y hy
        rcases List.mem_append.mp hy with z | z
        · exact hcw y z
        · rw [List.mem_singleton] at z
          subst z
          exact ew y hx
      · rw [upd_ne nDp.symm]
        exact kp9 _ _ hp8 nps npc
      · exact (kp8.trans kp9).off hD7
    · rintro H8 ⟨cl, hcD, hcl, hcw, hp8, S8, kp8⟩
      rw [List.length_map] at hcl
      refine ⟨_, rfl, hp8, worldD q D t, rfl, (by show 3 ≤ 15; decide), ?_⟩
      rw [merge_wd]
      have nDt : D ≠ t := fun e => by subst e; rw [ht7] at hD7; cases hD7
      refine k p q D t nm cl kvs _ hp0 hq0 hD0 ht00 ⟨upd_same, ?_, ?_, ?_, ⟨nps, npc⟩, ⟨nqs, nqc⟩, ⟨nDs, nDc⟩, ⟨nts, ntc⟩, hnd, hwd, hcw, hcl, by omega⟩ (by omega) (by rw [hlen]; exact ti7) hl7 (S8.upd nps npc) ((kp07.trans kp8).off hp0)
      · rw [upd_ne npq.symm]; exact kp8 _ _ hq7 nqs nqc
      · rw [upd_ne nDp]; exact hcD
      · rw [upd_ne npt.symm]; exact kp8 _ _ ht7 nts ntc
end
end Nm
set_option maxRecDepth 100000
set_option maxHeartbeats 4000000
namespace Nm
open PySem L2
section
variable {P : Program} {w : World} {K : PySem.W.Frag} {mg : Str → Option Value} {base : Heap}
/-! ### _law_loose_world -/
def spLoose : Sp := fun vs H Q _ => ∃ (s c : Addr), vs = [.ref s] ∧ Src H s c ∧
  ∀ (wd a b t : Addr) (nm cl : List Str) (kvs : List (List Key × V)) (H' : Hp), H wd = none → H a = none → H b = none → H t = none → WorldOk H' s c wd a b t nm cl kvs → nm.length ≤ 5 → Ties nm.length 2 kvs → kvs.length ≤ 300 → Src H' s c → Kp s c H H' → Q (.ref wd) H'
theorem scLoose : FnScope ["_law_source", "_law_world", "_law_count", "_law_at", "_law_ties", "_law_key"] ["_law_source"] (defScope sLooseWorld) := ⟨rfl, rfl, rfl, by decide +kernel, rfl, by decide +kernel, by decide +kernel⟩
theorem ok_loose {f : Addr} {fd : FuncData} (F : Fun K "_law_loose_world" "_law_loose_world" sLooseWorld f fd) (T : TxtB mg) (Gp : Def P w K mg base "_law_pick" ["_law_source", "_law_many"] 1 spPick)
    (Gd : Def P w K mg base "_law_draw_world" ["_law_source", "_law_most"] 3 spDraw) : FnOk P w K mg base CX0 4 f fd ["_law_source"] spLoose := by
  obtain ⟨fp, fdp, Gp, mp, kp, bp⟩ := Gp.ex
  obtain ⟨fd', fdd, Gd, md, kd, bd⟩ := Gd.ex
  refine F.ok scLoose (fun vs H Q E h => ?_) (fun cdv A outer s H vs Q E hr h => ?_)
  · obtain ⟨p, dx, rfl, _⟩ := h
    rfl
  · obtain ⟨sa, ca, rfl, S, k⟩ := h
    have hu := hu_of hr
    have hr1 := hr.mono (by decide : 1 ≤ 3)
    refine ⟨_, pss_cons (ps_set (i := 1) scLoose.nd rfl (Or.inl rfl) (pe_call Gd hr (by rfl) md kd bd .nil pass0 (pa_cons (pv 0) (pa_cons pe_int pa_nil))))
      (Evl.pss_cut (ps_set (i := 2) scLoose.nd rfl (Or.inl rfl) (pe_callB call_len_seq (by rfl) T.len PySem.boot_len (pa_cons (pe_dget hu (pv 1) pe_str (fun _ _ => rfl)) pa_nil)))
      (Evl.pss_cut (ps_if (PW.pt (pw_or (pt_cmpR op_gt (pe_call Gp hr1 (by rfl) mp kp bp .nil pass0 (pa_cons (pv 0) (pa_cons pe_int pa_nil))) pe_int (nomark _)) (pw_or1 (pt_cmpR op_lt (pv 2) pe_int (nomark _))))) (pss_one (ps_ret (pv 1))) pss_nil)
      (pss_cons (ps_par (i := 3) (j := 4) (by rfl) scLoose.nd rfl rfl (by decide) rfl rfl (pa_cons (pe_op op_add pe_int (pe_call Gp hr1 (by rfl) mp kp bp .nil pass0 (pa_cons (pv 0) (pa_cons (pe_op op_sub (pv 2) pe_int) pa_nil)))) (pa_cons pe_dnewT pa_nil)) (by rfl))
      (Evl.pss_cut (ps_lock (ps_for PassesOwn.never rfl (pi_keys (pe_dget hu (pv 1) pe_str (fun _ _ => rfl))) (pg_name (i := 5) scLoose.nd rfl (Or.inl rfl))
        (pss_one (ps_if (PW.pt (pw_or (pt_cmpR op_lt (pe_ix ix_tup (pv 5) pe_int (fun _ _ => rfl)) (pv 3) (nomark _)) (pw_or1 (pt_cmpR op_ge (pe_ix ix_tup (pv 5) pe_int (fun _ _ => rfl)) (pv 3) (nomark _)))))
          (pss_one (ps_dput hu (pv 4) (pv 5) (pe_dget hu (pe_dget hu (pv 1) pe_str (fun _ _ => rfl)) (pv 5) (fun _ _ => rfl)) rfl)) pss_nil))))
      (pss_one (ps_ret (pe_disp (pps_cons pe_str (pe_dget hu (pv 1) pe_str (fun _ _ => rfl)) (pps_cons pe_str (pe_dget hu (pv 1) pe_str (fun _ _ => rfl)) (pps_cons pe_str (pv 4) pps_nil))) (by rfl) (by rfl) (fun z => by cases z) (by decide)))))))), ?_⟩
    refine ⟨_, rfl, sa, ca, 5, rfl, S, by decide, by decide, fun wd a b t nm cl kvs H1 z1 z2 z3 z4 W hm ti hl S1 kp1 => ?_⟩
    refine ⟨fun σ H' => σ = [some (.ref sa), some (.ref wd), some (.int (nm.length : Int)), none, none, none] ∧ H' = H1, ?_, ?_⟩
    · refine ⟨_, rfl, wd, _, rfl, dg_names W.d, a, _, rfl, .inl (SqL.of W.hn), ?_, rfl⟩
      rw [List.length_map]
      rfl
    rintro σ H' ⟨rfl, rfl⟩
    refine ⟨fun σ H2 => σ = [some (.ref sa), some (.ref wd), some (.int (nm.length : Int)), none, none, none] ∧ 2 ≤ nm.length ∧ Src H2 sa ca ∧ Kp sa ca H' H2, ?_, ?_⟩
    · refine ⟨_, rfl, sa, ca, 3, rfl, S1, by decide, by decide, fun kk H2 k0 k1 S2 kp2 => ⟨_, _, rfl, rfl, _, rfl, ?_⟩⟩
      have ret : Q (.ref wd) H2 := k wd a b t nm cl kvs H2 z1 z2 z3 z4 (W.kp kp2) (by omega) ti hl S2 (kp1.trans kp2)
      refine ite2 (fun h => ?_) (fun h => ?_)
      · exact iteT ⟨_, rfl, ret⟩
      · refine ⟨_, rfl, _, _, rfl, rfl, _, rfl, ?_⟩
        refine ite2 (fun h => ⟨_, rfl, ret⟩) (fun h => ⟨rfl, ?_, S2, kp2⟩)
        have := of_decide_eq_false (Bool.eq_false_iff.mpr h)
        omega
    rintro σ H2 ⟨rfl, hn2, S2, kp2⟩
    have W2 := W.kp kp2
    refine ⟨_, rfl, _, rfl, _, _, rfl, rfl, sa, ca, _, rfl, S2, by show 1 ≤ (nm.length : Int) - 1; omega, by show (nm.length : Int) - 1 < _; omega, fun at' H3 k0 k1 S3 kp3 => ⟨_, _, rfl, rfl, ?_⟩⟩
    intro t2 ht2
    have W3 := W2.kp kp3
    refine ⟨_, _, rfl, ?_⟩
    have s4 := same_new (o := .dT []) ht2
    obtain ⟨n2s, n2c⟩ := S3.ne ht2
    have ntt : t2 ≠ t := fun e => by subst e; rw [W3.ht] at ht2; cases ht2
    have S4 := S3.same s4
    have W4 := W3.same s4
    have kp04 : Kp sa ca H (upd H3 t2 (.dT [])) := ((kp1.trans kp2).trans kp3).trans (Kp.same s4)
    have h20 : H t2 = none := ((kp1.trans kp2).trans kp3).free S3 ht2
    have ht4 : (upd H3 t2 (.dT [])) t2 = some (.dT []) := upd_same
    generalize upd H3 t2 (.dT []) = H4 at *
    refine ⟨fun σ H5 => ∃ v5 kv2, σ = [some (.ref sa), some (.ref wd), some (.int (nm.length : Int)), some (.int (1 + at')), some (.ref t2), v5] ∧ H5 t2 = some (.dT kv2) ∧ Ties nm.length 2 kv2 ∧ kv2.length ≤ 300 ∧ (∀ b o, H4 b = some o → b ≠ t2 → H5 b = some o), ?_, ?_⟩
    · refine ⟨t, _, W4.ht, trivial, fun od => ?_⟩
      have dT5 : (upd H4 t (.frz od (.dT kvs))) wd = some (.dK (worldD a b t)) := by rw [upd_ne (ne_of W4.d W4.ht (by intro z; cases z))]; exact W4.d
      refine ⟨_, rfl, wd, _, rfl, dg_ties dT5, t, od, rfl, .inr ⟨kvs, upd_same, ?_⟩⟩
      refine for_it walk_keysT (fun i σ H5 => ∃ v5 kv2, σ = [some (.ref sa), some (.ref wd), some (.int (nm.length : Int)), some (.int (1 + at')), some (.ref t2), v5] ∧ H5 t = some (.frz od (.dT kvs)) ∧ H5 t2 = some (.dT kv2) ∧ Ties nm.length 2 kv2 ∧ kv2.length ≤ i ∧ (∀ b o, H4 b = some o → b ≠ t → b ≠ t2 → H5 b = some o))
        ⟨none, [], rfl, upd_same, by rw [upd_ne ntt]; exact ht4, Ties.nil _ 2, Nat.le_refl _, fun b o e h1 h2 => by rw [upd_ne h1]; exact e⟩ (fun i σ H5 _ ⟨_, _, _, h, _⟩ => h) ?_ ?_
      · rintro i x σ H5 H6 hi ⟨v5, kv2, rfl, hf, h2, ti2, hl2, kp5⟩ ⟨rfl, key, v, q, hkv, rfl, hq⟩
        have hm := List.mem_of_getElem? hkv
        obtain ⟨i1, j1, kd1, rfl, hij, hjn, hkw⟩ := ti.key _ hm
        obtain ⟨x, hx, hx1, hx2⟩ := ti.val _ hm
        have dW : H6 wd = some (.dK (worldD a b t)) := kp5 _ _ W4.d (ne_of W4.d W4.ht (by intro z; cases z)) (ne_of W4.d ht4 (by intro z; cases z))
        have stay : ∃ v5 kv2, [some (V.ref sa), some (.ref wd), some (.int (nm.length : Int)), some (.int (1 + at')), some (.ref t2), some (.ref q)] = [some (V.ref sa), some (.ref wd), some (.int (nm.length : Int)), some (.int (1 + at')), some (.ref t2), v5] ∧ H6 t = some (.frz od (.dT kvs)) ∧ H6 t2 = some (.dT kv2) ∧ Ties nm.length 2 kv2 ∧ kv2.length ≤ i + 1 ∧ (∀ b o, H4 b = some o → b ≠ t → b ≠ t2 → H6 b = some o) := ⟨some (.ref q), kv2, rfl, hf, h2, ti2, by omega, kp5⟩
        have put : ∃ v5 kv3, [some (V.ref sa), some (.ref wd), some (.int (nm.length : Int)), some (.int (1 + at')), some (.ref t2), some (.ref q)] = [some (V.ref sa), some (.ref wd), some (.int (nm.length : Int)), some (.int (1 + at')), some (.ref t2), v5] ∧ (upd H6 t2 (.dT (putK kv2 [Sum.inl (i1 : Int), Sum.inl (j1 : Int), Sum.inr kd1] (V.int (x : Int))))) t = some (.frz od (.dT kvs)) ∧ (upd H6 t2 (.dT (putK kv2 [Sum.inl (i1 : Int), Sum.inl (j1 : Int), Sum.inr kd1] (V.int (x : Int))))) t2 = some (.dT kv3) ∧ Ties nm.length 2 kv3 ∧ kv3.length ≤ i + 1 ∧ (∀ b o, H4 b = some o → b ≠ t → b ≠ t2 → (upd H6 t2 (.dT (putK kv2 [Sum.inl (i1 : Int), Sum.inl (j1 : Int), Sum.inr kd1] (V.int (x : Int))))) b = some o) :=
          ⟨some (.ref q), _, rfl, by rw [upd_ne ntt.symm]; exact hf, upd_same, ti2.put ⟨i1, j1, kd1, rfl, hij, hjn, hkw⟩ hx1 hx2, by have := length_putK kv2 [Sum.inl (i1 : Int), Sum.inl (j1 : Int), Sum.inr kd1] (V.int (x : Int)); omega, fun b o e h1 h2 => by rw [upd_ne h2]; exact kp5 b o e h1 h2⟩
        have vv : valV kvs [Sum.inl (i1 : Int), Sum.inl (j1 : Int), Sum.inr kd1] = some (V.int (x : Int)) := by
          rw [← hx]
          exact val_of_mem ti.nd hm
        have doit : ∃ a' v', V.ref t = V.ref a' ∧ DGet H6 a' (V.ref q) (some v') ∧ ∃ a'' H4', V.ref t2 = V.ref a'' ∧ DPut H6 a'' (V.ref q) v' H4' ∧ ∃ v5 kv3, [some (V.ref sa), some (.ref wd), some (.int (nm.length : Int)), some (.int (1 + at')), some (.ref t2), some (.ref q)] = [some (V.ref sa), some (.ref wd), some (.int (nm.length : Int)), some (.int (1 + at')), some (.ref t2), v5] ∧ H4' t = some (.frz od (.dT kvs)) ∧ H4' t2 = some (.dT kv3) ∧ Ties nm.length 2 kv3 ∧ kv3.length ≤ i + 1 ∧ (∀ b o, H4 b = some o → b ≠ t → b ≠ t2 → H4' b = some o) :=
          ⟨t, _, rfl, .inr ⟨kvs, _, q, .inr ⟨od, hf⟩, rfl, hq, vv.symm⟩, t2, _, rfl, DPut.t h2 hq (Evl.sz_lt (by omega)), put⟩
        refine ⟨_, rfl, q, _, 1, .int (j1 : Int), rfl, rfl, SqT.of hq, atI_nat (j := 1) rfl, _, rfl, _, _, rfl, rfl, _, rfl, ?_⟩
        refine ite2 (fun h => iteT ?_) (fun h => ?_)
        · refine ⟨_, rfl, wd, _, rfl, dg_ties dW, _, rfl, ?_⟩
          obtain ⟨a', v', e1, g1, a'', H4', e2, g2, r⟩ := doit
          exact ⟨a', v', e1, g1, _, rfl, _, rfl, a'', H4', e2, g2, r⟩
        · refine ⟨_, rfl, q, _, 0, .int (i1 : Int), rfl, rfl, SqT.of hq, atI_nat (j := 0) rfl, _, rfl, _, _, rfl, rfl, _, rfl, ?_⟩
          refine ite2 (fun h => ?_) (fun h => stay)
          refine ⟨_, rfl, wd, _, rfl, dg_ties dW, _, rfl, ?_⟩
          obtain ⟨a', v', e1, g1, a'', H4', e2, g2, r⟩ := doit
          exact ⟨a', v', e1, g1, _, rfl, _, rfl, a'', H4', e2, g2, r⟩
      · rintro σ H5 ⟨v5, kv2, rfl, hf, h2, ti2, hl2, kp5⟩
        refine ⟨hf, v5, kv2, rfl, by rw [upd_ne ntt]; exact h2, ti2, by omega, fun b o e h1 => ?_⟩
        by_cases hb : b = t
        · subst hb; rw [upd_same]; rw [W4.ht] at e; exact e
        · rw [upd_ne hb]; exact kp5 b o e hb h1
    rintro σ H5 ⟨v5, kv2, rfl, h25, ti2, hl2, kp5⟩
    have fr : ∀ b o, H4 b = some o → b ≠ t2 → H5 b = some o := kp5
    have dW5 := kp5 _ _ W4.d (ne_of W4.d ht4 (by intro z; cases z))
    have ha5 := kp5 _ _ W4.hn (ne_of W4.hn ht4 (by intro z; cases z))
    have hb5 := kp5 _ _ W4.hc (ne_of W4.hc ht4 (by intro z; cases z))
    have S5 : Src H5 sa ca := by
      obtain ⟨cs, l, m, tt, S4⟩ := S4
      exact ⟨cs, l, m, tt, ⟨kp5 _ _ S4.ds n2s.symm, kp5 _ _ S4.dc n2c.symm, S4.nn, S4.len, S4.l0, S4.m0, S4.m1, S4.t0⟩⟩
    have kp05 : Kp sa ca H H5 := fun b o e h1 h2 => kp5 b o (kp04 b o e h1 h2) (ne_of_none e h20)
    intro p hp
    have sp := same_new (o := .dK []) hp
    have hp0 : H p = none := kp05.free S5 hp
    obtain ⟨nps, npc⟩ := S5.ne hp
    have npa : p ≠ a := fun e => by subst e; rw [ha5] at hp; cases hp
    have npb : p ≠ b := fun e => by subst e; rw [hb5] at hp; cases hp
    have np2 : p ≠ t2 := fun e => by subst e; rw [h25] at hp; cases hp
    refine ⟨_, rfl, wd, _, rfl, dg_names (sp _ _ dW5), _, rfl, wd, _, rfl, dg_colours (sp _ _ dW5), _, rfl, upd_same, worldD a b t2, rfl, (by show 3 ≤ 15; decide), ?_⟩
    rw [merge_wd]
    refine k p a b t2 nm cl kv2 _ hp0 z2 z3 h20 ⟨upd_same, ?_, ?_, ?_, ⟨nps, npc⟩, W.as, W.bs, ⟨n2s, n2c⟩, W.nn, W.nw, W.cw, W.cn, W.n1⟩ (by omega) ti2 hl2 ((S5.same sp).upd nps npc) ((kp05.trans (Kp.same sp)).off hp0)
    · rw [upd_ne npa.symm]; exact sp _ _ ha5
    · rw [upd_ne npb.symm]; exact sp _ _ hb5
    · rw [upd_ne np2.symm]; exact sp _ _ h25
end
end Nm
set_option maxRecDepth 100000
set_option maxHeartbeats 4000000
/-! sorted of a list of tuples of ints and texts, the first of each an int: a rearrangement -/
namespace Nm
open PySem PySem.Spec PyProof.Rows L2
/-- two rows of keys that are of one kind place by place -/
inductive SameK : List Key → List Key → Prop
  | nil : SameK [] []
  | int {i j : Int} {r q : List Key} : SameK r q → SameK (Sum.inl i :: r) (Sum.inl j :: q)
  | str {x y : Str} {r q : List Key} : SameK r q → SameK (Sum.inr x :: r) (Sum.inr y :: q)
def IsRow (h : Heap) (v : Value) (ks : List Key) : Prop := ∃ a o its n, v = .ref a ∧ h.get? a = some o ∧ o.cls = .type "tuple" ∧ o.data = .seq (List.toArray its) n ∧ Vals (ks.map kV) its
theorem IsRow.keeps {h h' : Heap} {v : Value} {ks : List Key} (p : IsRow h v ks) (k : ∀ b o, h.get? b = some o → o.cls = .type "tuple" → h'.get? b = some o) : IsRow h' v ks := by
  obtain ⟨a, o, its, n, e, ho, hc, hd⟩ := p
  exact ⟨a, o, its, n, e, k _ _ ho hc, hc, hd⟩
section
variable {prog : Program} {w : World} {A : Around} {E : Value → Shared → Prop} {s : Shared}
theorem lex_tot {fin : Bool} : ∀ {ks qs : List Key} {its jts : List Value} (i : Nat), SameK ks qs → Vals (ks.map kV) its → Vals (qs.map kV) jts → 0 < i → ∃ b : Bool, PySem.W.KatLex prog w A true fin (fun r s' => s' = s ∧ r = b) (its.zip jts) i s
  | _, _, _, _, i, .nil, .nil, .nil, _ => ⟨fin, PySem.W.kat_nil ⟨rfl, rfl⟩⟩
  | _, _, _, _, i, .int (i := x) (j := y) sk, .cons (a := _) r1 t1, .cons r2 t2, hi => by
    obtain ⟨t, rfl⟩ := r1
    obtain ⟨u, rfl⟩ := r2
    obtain ⟨b, hb⟩ := lex_tot (i + 1) sk t1 t2 (Nat.succ_pos _)
    by_cases e : x = y
    · refine ⟨b, PySem.W.kat_cons (SeqAt.EqAt.int_int x t y u prog w _ _ ?_)⟩
      refine PySem.W.kat_go (fun _ => PySem.W.kat_yes hb) (fun e1 => absurd e (by simpa using e1))
    · refine ⟨decide (x < y), PySem.W.kat_cons (SeqAt.EqAt.int_int x t y u prog w _ _ ?_)⟩
      refine PySem.W.kat_go (fun e1 => absurd (by simpa using e1) e) (fun _ => PySem.W.kat_no (TS.oneLt_ints _ ⟨rfl, rfl⟩))
  | _, _, _, _, i, .str (x := x) (y := y) sk, .cons r1 t1, .cons r2 t2, hi => by
    obtain ⟨t, rfl⟩ := r1
    obtain ⟨u, rfl⟩ := r2
    obtain ⟨b, hb⟩ := lex_tot (i + 1) sk t1 t2 (Nat.succ_pos _)
    by_cases e : x = y
    · refine ⟨b, PySem.W.kat_cons (SeqAt.EqAt.str_str x t y u prog w _ _ ?_)⟩
      refine PySem.W.kat_go (fun _ => PySem.W.kat_yes hb) (fun e1 => absurd e (by simpa using e1))
    · refine ⟨decide (x.cps.toList < y.cps.toList), PySem.W.kat_cons (SeqAt.EqAt.str_str x t y u prog w _ _ ?_)⟩
      refine PySem.W.kat_go (fun e1 => absurd (by simpa using e1) e) (fun _ => PySem.W.kat_no ?_)
      have hi0 : (true && i == 0) = false := by simp; omega
      rw [hi0]
      exact PySem.W.kat_one _ _ (PyProof.Rows.lt_str (Q := PySem.W.BoolBack (fun r s' => s' = s ∧ r = decide (x.cps.toList < y.cps.toList))) (show s = s ∧ decide (x.cps.toList < y.cps.toList) = decide (x.cps.toList < y.cps.toList) from ⟨rfl, rfl⟩))
theorem row_tot {vs : List Value} {k : Value → Int × List Key} (hp : ∀ v ∈ vs, IsRow s.heap v (Sum.inl (k v).1 :: (k v).2)) (hs : ∀ v ∈ vs, ∀ u ∈ vs, SameK (k v).2 (k u).2) : Srt.Tot prog w A s (tuples' true) (fun p => p.1 ∈ vs) := by
  intro p q hm hm'
  obtain ⟨a, o, its, n, e, ho, hc, hd, hv⟩ := hp _ hm
  obtain ⟨a', o', jts, n', e', ho', hc', hd', hv'⟩ := hp _ hm'
  have sk := hs _ hm _ hm'
  rw [e, e']
  generalize k p.1 = kp at *
  generalize k q.1 = kq at *
  obtain ⟨x, ks⟩ := kp
  obtain ⟨y, qs⟩ := kq
  cases hv with
  | cons r1 t1 =>
    cases hv' with
    | cons r2 t2 =>
      obtain ⟨t, rfl⟩ := r1
      obtain ⟨u, rfl⟩ := r2
      rename_i it jt
      obtain ⟨b, hb⟩ := lex_tot (prog := prog) (w := w) (A := A) (s := s) (fin := decide ((List.toArray (Value.int x t :: it)).size < (List.toArray (Value.int y u :: jt)).size)) 1 sk t1 t2 (by decide)
      by_cases e : x = y
      · refine ⟨b, PySem.W.kat_lt ho hd ho' hd' (PySem.W.kat_cons (SeqAt.EqAt.int_int x t y u prog w _ _ ?_))⟩
        refine PySem.W.kat_go (fun _ => PySem.W.kat_yes hb) (fun e1 => absurd e (by simpa using e1))
      · refine ⟨decide (x < y), PySem.W.kat_lt ho hd ho' hd' (PySem.W.kat_cons (SeqAt.EqAt.int_int x t y u prog w _ _ ?_))⟩
        refine PySem.W.kat_go (fun e1 => absurd (by simpa using e1) e) (fun _ => PySem.W.kat_no (TS.oneLt_ints _ ⟨rfl, rfl⟩))
theorem firsts_row {h : Heap} {k : Value → Int × List Key} : ∀ {vs : List Value}, (∀ v ∈ vs, IsRow h v (Sum.inl (k v).1 :: (k v).2)) → ∃ fs : List Value, PySem.W.KatTups h vs fs ∧ fs.length = vs.length ∧ ∀ f ∈ fs, ∃ x t, f = Value.int x t
  | [], _ => ⟨[], PySem.W.KatTups.nil, rfl, fun _ hm => by simp at hm⟩
  | v :: vs, hp => by
    obtain ⟨fs, h1, h2, h3⟩ := firsts_row (vs := vs) fun v' hm => hp v' (List.mem_cons_of_mem _ hm)
    obtain ⟨a, o, its, n, e, ho, hc, hd, hv⟩ := hp v (List.mem_cons_self ..)
    subst e
    cases hv with
    | cons r1 t1 =>
      obtain ⟨t, rfl⟩ := r1
      refine ⟨.int (k (.ref a)).1 t :: fs, PySem.W.KatTups.cons ho hc hd rfl h1, by rw [List.length_cons, List.length_cons, h2], fun f hm => ?_⟩
      rcases List.mem_cons.mp hm with rfl | hm
      · exact ⟨_, t, rfl⟩
      · exact h3 f hm
theorem rows_sortable {a : Addr} {vs : List Value} {k : Value → Int × List Key} (h0 : 0 < vs.length) (hp : ∀ v ∈ vs, IsRow s.heap v (Sum.inl (k v).1 :: (k v).2)) (hs : ∀ v ∈ vs, ∀ u ∈ vs, SameK (k v).2 (k u).2) (ha : ∀ o, s.heap.get? a = some o → o.cls ≠ .type "tuple") : Srt.Sortable prog w A s a vs := by
  intro h' keep
  have hp' : ∀ v ∈ vs, IsRow h' v (Sum.inl (k v).1 :: (k v).2) := fun v hm => (hp v hm).keeps fun b o e c => keep b o (fun z => by subst z; exact ha o e c) e
  obtain ⟨fs, h1, h2, h3⟩ := firsts_row hp'
  refine ⟨tuples' true, fun Q E hq => ?_, row_tot (s := { s with heap := h' }) hp' hs⟩
  refine PySem.W.kat_kind (T := .type "int") h1 (by omega) (fun f hm => ?_) (by rfl) ?_
  · obtain ⟨x, t, rfl⟩ := h3 f hm
    exact PySem.W.Looks.now
  · have e : (Value.type "int" != Value.type "tuple") = true := by decide +kernel
    rw [e]
    exact hq
theorem sorted_rows {l : Addr} {vs : List Value} {k : Value → Int × List Key} {Q : Value → Shared → Prop} (hl : s.heap.IsList l vs.toArray) (hz : vs.length ≤ sizeLine) (hp : ∀ v ∈ vs, IsRow s.heap v (Sum.inl (k v).1 :: (k v).2)) (hs : ∀ v ∈ vs, ∀ u ∈ vs, SameK (k v).2 (k u).2)
    (h : ∀ (h' : Heap) (d : Addr) (out : List Value), out.Perm vs → (∀ b o, s.heap.get? b = some o → h'.get? b = some o) → s.heap.objs.size ≤ d → (∃ n, h'.get? d = some (seqObj "list" out.toArray n)) → Q (.ref d) { s with heap := h' }) :
    wpAny (model prog w) A (call (.builtin "sorted") [.ref l]) Q E s := by
  refine Srt.sorted_any hl hz (fun h2 h₁ a ha kk => ?_) fun out ho => ?_
  · refine rows_sortable (s := { s with heap := h₁ }) (by omega) (fun v hm => (hp v hm).keeps fun b o e _ => (kk b o e).2) hs fun o e => ?_
    have e' : some o = some (seqObj "list" vs.toArray 0) := e.symm.trans ha
    cases e'
    intro c
    exact absurd (Value.type.inj c) (by decide)
  · exact h _ _ out ho (fun b o e => sortedAll_old e) (Nat.le_succ _) (sortedAll_at s.heap vs out.toArray)
end
/-- sorted(xs): a new list of the same tuples, in some order -/
def rSortedR (K : PySem.W.Frag) : List V → Hp → VK → Prop := fun vs H Q => ∃ a xs, ∃ k : V → Int × List Key, vs = [V.ref a] ∧ SqL K H a xs ∧ (∀ x ∈ xs, ∃ t, x = V.ref t ∧ H t = some (.tup (V.int (k x).1 :: (k x).2.map kV))) ∧ (∀ x ∈ xs, ∀ y ∈ xs, SameK (k x).2 (k y).2) ∧
  ∀ ys p, ys.Perm xs → H p = none → Q (.ref p) (upd H p (.lst ys))
section
variable {X : Cx}
theorem cr_sortedR : CallR X (.builtin "sorted") (rSortedR X.K) := by
  intro pins s σ H vs us Q I r h
  obtain ⟨a, xs, k, rfl, hs, hx, hk, q⟩ := h
  obtain ⟨its, rv, hl, hz⟩ := I.list hs
  obtain ⟨u, rfl, ru⟩ := vals1 r
  obtain rfl : u = Value.ref a := ru
  obtain ⟨e1, e2⟩ := refs_back rv fun x m => by
    obtain ⟨t, e, _⟩ := hx x m
    exact ⟨t, e⟩
  have inx : ∀ v ∈ its, backV v ∈ xs := fun v hv => by rw [e1]; exact List.mem_map.mpr ⟨_, hv, rfl⟩
  refine sorted_rows (k := fun u => k (backV u)) hl.isList (by rw [← rv.length]; exact hz) (fun v hv => ?_) (fun v hv u hu => hk _ (inx v hv) _ (inx u hu)) fun h' d out hp k' hd hn => ?_
  · obtain ⟨t, rfl⟩ := e2 v hv
    obtain ⟨t', e, ht⟩ := hx _ (inx _ hv)
    cases e
    obtain ⟨_, its2, r2, o, ho, hc, n, hd⟩ := I.hok _ _ ht
    exact ⟨t, o, its2, n, rfl, ho, hc, hd, r2⟩
  · have h3 : ∀ u ∈ out, ∃ a, u = Value.ref a := fun u hu => e2 u (hp.mem_iff.mp hu)
    obtain ⟨n, hn⟩ := hn
    refine ⟨.ref d, upd H d (.lst (out.map backV)), I.laid (t' := s.toks) k' hd ⟨?_, out, n, vals_back h3, hn⟩, rfl, q _ d ?_ (I.hok.fresh hd)⟩
    · rw [List.length_map, hp.length_eq, ← rv.length]; exact hz
    · rw [e1]; exact hp.map backV
end
end Nm
set_option maxRecDepth 100000
set_option maxHeartbeats 4000000
/-! sorted of a list of tuples of ints and texts, the first of each an int: in order -/
namespace Nm
open PySem PySem.Spec PyProof.Rows L2
def keyLt : Key → Key → Bool
  | .inl a, .inl b => decide (a < b)
  | .inr x, .inr y => decide (x.cps.toList < y.cps.toList)
  | .inl _, .inr _ => true
  | .inr _, .inl _ => false
def lexK : List Key → List Key → Bool
  | [], [] => false
  | [], _ :: _ => true
  | _ :: _, [] => false
  | a :: r, b :: q => if a = b then lexK r q else keyLt a b
theorem lexK_eq {a b : Key} {r q : List Key} (h : a = b) : lexK (a :: r) (b :: q) = lexK r q := by
  rw [lexK, if_pos h]
theorem lexK_ne {a b : Key} {r q : List Key} (h : ¬ a = b) : lexK (a :: r) (b :: q) = keyLt a b := by
  rw [lexK, if_neg h]
theorem str_eq {x y : Str} (h : x.cps.toList = y.cps.toList) : x = y := by
  cases x
  cases y
  simp at h
  simp [h]
theorem keyLt_anti : ∀ {a b : Key}, keyLt a b = false → keyLt b a = false → a = b
  | .inl a, .inl b, h1, h2 => by
    have h1 := of_decide_eq_false h1
    have h2 := of_decide_eq_false h2
    congr 1
    omega
  | .inr x, .inr y, h1, h2 => by
    have h1 := of_decide_eq_false h1
    have h2 := of_decide_eq_false h2
    rw [List.not_lt] at h1 h2
    rw [str_eq (List.le_antisymm h2 h1)]
  | .inl _, .inr _, h1, _ => by cases h1
  | .inr _, .inl _, _, h2 => by cases h2
theorem keyLt_asym : ∀ {a b : Key}, keyLt a b = true → keyLt b a = false
  | .inl a, .inl b, h => by
    have h := of_decide_eq_true h
    exact decide_eq_false (by omega)
  | .inr x, .inr y, h => by
    have h := of_decide_eq_true h
    exact decide_eq_false (List.lt_asymm h)
  | .inl _, .inr _, _ => rfl
  | .inr _, .inl _, h => by cases h
theorem keyLt_tr : ∀ {a b c : Key}, keyLt b a = false → keyLt c b = false → keyLt c a = false
  | .inl a, .inl b, .inl c, h1, h2 => by
    have h1 := of_decide_eq_false h1
    have h2 := of_decide_eq_false h2
    exact decide_eq_false (by omega)
  | .inr x, .inr y, .inr z, h1, h2 => by
    have h1 := of_decide_eq_false h1
    have h2 := of_decide_eq_false h2
    refine decide_eq_false ?_
    rw [List.not_lt] at *
    exact List.le_trans h1 h2
  | .inl _, .inl _, .inr _, _, _ => rfl
  | .inl _, .inr _, .inr _, _, _ => rfl
  | .inl _, .inr _, .inl _, _, h2 => by cases h2
  | .inr _, .inl _, _, h1, _ => by cases h1
  | .inr _, .inr _, .inl _, _, h2 => by cases h2
theorem lexK_asym : ∀ {x y : List Key}, lexK x y = true → lexK y x = false
  | [], [], h => by cases h
  | [], _ :: _, _ => rfl
  | _ :: _, [], h => by cases h
  | a :: r, b :: q, h => by
    unfold lexK at h ⊢
    by_cases e : a = b
    · rw [if_pos e] at h
      rw [if_pos e.symm]
      exact lexK_asym h
    · rw [if_neg e] at h
      rw [if_neg (fun z => e z.symm)]
      exact keyLt_asym h
theorem lexK_anti : ∀ {x y : List Key}, lexK x y = false → lexK y x = false → x = y
  | [], [], _, _ => rfl
  | [], _ :: _, h, _ => by cases h
  | _ :: _, [], _, h => by cases h
  | a :: r, b :: q, h1, h2 => by
    unfold lexK at h1 h2
    by_cases e : a = b
    · rw [if_pos e] at h1
      rw [if_pos e.symm] at h2
      rw [e, lexK_anti h1 h2]
    · rw [if_neg e] at h1
      rw [if_neg (fun z => e z.symm)] at h2
      exact absurd (keyLt_anti h1 h2) e
theorem lexK_tr : ∀ {x y z : List Key}, lexK y x = false → lexK z y = false → lexK z x = false
  | [], _, [], _, _ => rfl
  | [], _, _ :: _, _, _ => rfl
  | _ :: _, [], _, h, _ => by cases h
  | _ :: _, _ :: _, [], _, h => by cases h
  | a :: r, b :: q, c :: p, h1, h2 => by
    unfold lexK at h1 h2 ⊢
    by_cases e1 : b = a
    · subst e1
      rw [if_pos rfl] at h1
      by_cases e2 : c = b
      · rw [if_pos e2] at h2 ⊢
        exact lexK_tr h1 h2
      · rw [if_neg e2] at h2 ⊢
        exact h2
    · rw [if_neg e1] at h1
      by_cases e2 : c = b
      · subst e2
        rw [if_neg e1]
        exact h1
      · rw [if_neg e2] at h2
        by_cases e3 : c = a
        · subst e3
          exact absurd (keyLt_anti h1 h2) e1
        · rw [if_neg e3]
          exact keyLt_tr h1 h2
theorem swo_lexK {α : Type} (k : α → List Key) : SrtO.Swo fun v u => lexK (k v) (k u) := ⟨fun _ _ h => lexK_asym h, fun _ _ _ h1 h2 => lexK_tr h1 h2⟩
/-- two sorted lists of the same keys are one -/
theorem sorted_one : ∀ {l m : List (List Key)}, l.Pairwise (fun x y => lexK y x = false) → m.Pairwise (fun x y => lexK y x = false) → l.Perm m → l = m
  | [], m, _, _, h => (List.Perm.eq_nil h.symm).symm
  | x :: l, [], _, _, h => absurd h.length_eq (by simp)
  | x :: l, y :: m, hl, hm, h => by
    have h1 : lexK x y = false := by
      rcases List.mem_cons.mp (h.mem_iff.mp (List.mem_cons_self (a := x) (l := l))) with e | hx
      · rw [e]; exact (swo_lexK (fun z => z)).refl y
      · exact (List.pairwise_cons.mp hm).1 x hx
    have h2 : lexK y x = false := by
      rcases List.mem_cons.mp (h.mem_iff.mpr (List.mem_cons_self (a := y) (l := m))) with e | hy
      · rw [e]; exact (swo_lexK (fun z => z)).refl x
      · exact (List.pairwise_cons.mp hl).1 y hy
    have e := lexK_anti h1 h2
    subst e
    rw [sorted_one (List.pairwise_cons.mp hl).2 (List.pairwise_cons.mp hm).2 h.cons_inv]
section
variable {prog : Program} {w : World} {A : Around} {E : Value → Shared → Prop} {s : Shared}
theorem lex_cmp : ∀ {ks qs : List Key} {its jts : List Value} (i : Nat), SameK ks qs → Vals (ks.map kV) its → Vals (qs.map kV) jts → 0 < i → PySem.W.KatLex prog w A true false (fun r s' => s' = s ∧ r = lexK ks qs) (its.zip jts) i s
  | _, _, _, _, i, .nil, .nil, .nil, _ => PySem.W.kat_nil ⟨rfl, rfl⟩
  | _, _, _, _, i, .int (i := x) (j := y) (r := r) (q := q) sk, .cons r1 t1, .cons r2 t2, hi => by
    obtain ⟨t, rfl⟩ := r1
    obtain ⟨u, rfl⟩ := r2
    have ih := lex_cmp (i + 1) sk t1 t2 (Nat.succ_pos _)
    by_cases e : x = y
    · have el : lexK (Sum.inl x :: r) (Sum.inl y :: q) = lexK r q := lexK_eq (by rw [e])
      rw [el]
      refine PySem.W.kat_cons (SeqAt.EqAt.int_int x t y u prog w _ _ ?_)
      exact PySem.W.kat_go (fun _ => PySem.W.kat_yes ih) (fun e1 => absurd e (by simpa using e1))
    · have el : lexK (Sum.inl x :: r) (Sum.inl y :: q) = decide (x < y) := lexK_ne (fun z => e (Sum.inl.inj z))
      rw [el]
      refine PySem.W.kat_cons (SeqAt.EqAt.int_int x t y u prog w _ _ ?_)
      exact PySem.W.kat_go (fun e1 => absurd (by simpa using e1) e) (fun _ => PySem.W.kat_no (TS.oneLt_ints _ ⟨rfl, rfl⟩))
  | _, _, _, _, i, .str (x := x) (y := y) (r := r) (q := q) sk, .cons r1 t1, .cons r2 t2, hi => by
    obtain ⟨t, rfl⟩ := r1
    obtain ⟨u, rfl⟩ := r2
    have ih := lex_cmp (i + 1) sk t1 t2 (Nat.succ_pos _)
    by_cases e : x = y
    · have el : lexK (Sum.inr x :: r) (Sum.inr y :: q) = lexK r q := lexK_eq (by rw [e])
      rw [el]
      refine PySem.W.kat_cons (SeqAt.EqAt.str_str x t y u prog w _ _ ?_)
      exact PySem.W.kat_go (fun _ => PySem.W.kat_yes ih) (fun e1 => absurd e (by simpa using e1))
    · have el : lexK (Sum.inr x :: r) (Sum.inr y :: q) = decide (x.cps.toList < y.cps.toList) := lexK_ne (fun z => e (Sum.inr.inj z))
      rw [el]
      refine PySem.W.kat_cons (SeqAt.EqAt.str_str x t y u prog w _ _ ?_)
      refine PySem.W.kat_go (fun e1 => absurd (by simpa using e1) e) (fun _ => PySem.W.kat_no ?_)
      have hi0 : (true && i == 0) = false := by simp; omega
      rw [hi0]
      exact PySem.W.kat_one _ _ (PyProof.Rows.lt_str (Q := PySem.W.BoolBack (fun r s' => s' = s ∧ r = decide (x.cps.toList < y.cps.toList))) (show s = s ∧ decide (x.cps.toList < y.cps.toList) = decide (x.cps.toList < y.cps.toList) from ⟨rfl, rfl⟩))
theorem same_len : ∀ {ks qs : List Key}, SameK ks qs → ks.length = qs.length
  | _, _, .nil => rfl
  | _, _, .int h => by simp [same_len h]
  | _, _, .str h => by simp [same_len h]
/-- the whole row -/
def rowK (k : Int × List Key) : List Key := Sum.inl k.1 :: k.2
theorem row_cmp {vs : List Value} {k : Value → Int × List Key} (hp : ∀ v ∈ vs, IsRow s.heap v (rowK (k v))) (hs : ∀ v ∈ vs, ∀ u ∈ vs, SameK (k v).2 (k u).2) : SrtO.Cmp prog w A s (tuples' true) (fun p => p.1 ∈ vs) (SrtO.lt2 fun v u => lexK (rowK (k v)) (rowK (k u))) := by
  intro p q hm hm'
  obtain ⟨a, o, its, n, e, ho, hc, hd, hv⟩ := hp _ hm
  obtain ⟨a', o', jts, n', e', ho', hc', hd', hv'⟩ := hp _ hm'
  have sk := hs _ hm _ hm'
  show wpAny (model prog w) A (keyLt' (tuples' true) p.1 q.1) (fun r s' => s' = s ∧ r = lexK (rowK (k p.1)) (rowK (k q.1))) (fun _ _ => False) s
  generalize hkp : k p.1 = kp at *
  generalize hkq : k q.1 = kq at *
  rw [e, e']
  obtain ⟨x, ks⟩ := kp
  obtain ⟨y, qs⟩ := kq
  have hlen : its.length = jts.length := by
    rw [← hv.length, ← hv'.length]
    have := same_len sk
    simp [rowK, this]
  refine PySem.W.kat_lt ho hd ho' hd' ?_
  have hf : decide ((List.toArray its).size < (List.toArray jts).size) = false := by simp [hlen]
  rw [hf]
  cases hv with
  | cons r1 t1 =>
    cases hv' with
    | cons r2 t2 =>
      obtain ⟨t, rfl⟩ := r1
      obtain ⟨u, rfl⟩ := r2
      have ih := lex_cmp (prog := prog) (w := w) (A := A) (s := s) 1 sk t1 t2 (by decide)
      by_cases e : x = y
      · have el : lexK (rowK (x, ks)) (rowK (y, qs)) = lexK ks qs := lexK_eq (by rw [e])
        rw [el]
        refine PySem.W.kat_cons (SeqAt.EqAt.int_int x t y u prog w _ _ ?_)
        exact PySem.W.kat_go (fun _ => PySem.W.kat_yes ih) (fun e1 => absurd e (by simpa using e1))
      · have el : lexK (rowK (x, ks)) (rowK (y, qs)) = decide (x < y) := lexK_ne (fun z => e (Sum.inl.inj z))
        rw [el]
        refine PySem.W.kat_cons (SeqAt.EqAt.int_int x t y u prog w _ _ ?_)
        exact PySem.W.kat_go (fun e1 => absurd (by simpa using e1) e) (fun _ => PySem.W.kat_no (TS.oneLt_ints _ ⟨rfl, rfl⟩))
theorem rows_sortableO {a : Addr} {vs : List Value} {k : Value → Int × List Key} (h0 : 0 < vs.length) (hp : ∀ v ∈ vs, IsRow s.heap v (rowK (k v))) (hs : ∀ v ∈ vs, ∀ u ∈ vs, SameK (k v).2 (k u).2) (ha : ∀ o, s.heap.get? a = some o → o.cls ≠ .type "tuple") : SrtO.SortableO prog w A s a vs fun v u => lexK (rowK (k v)) (rowK (k u)) := by
  intro h' keep
  have hp' : ∀ v ∈ vs, IsRow h' v (rowK (k v)) := fun v hm => (hp v hm).keeps fun b o e c => keep b o (fun z => by subst z; exact ha o e c) e
  obtain ⟨fs, h1, h2, h3⟩ := firsts_row hp'
  refine ⟨tuples' true, fun Q E hq => ?_, row_cmp (s := { s with heap := h' }) hp' hs⟩
  refine PySem.W.kat_kind (T := .type "int") h1 (by omega) (fun f hm => ?_) (by rfl) ?_
  · obtain ⟨x, t, rfl⟩ := h3 f hm
    exact PySem.W.Looks.now
  · have e : (Value.type "int" != Value.type "tuple") = true := by decide +kernel
    rw [e]
    exact hq
theorem sorted_rowsO {l : Addr} {vs : List Value} {k : Value → Int × List Key} {Q : Value → Shared → Prop} (hl : s.heap.IsList l vs.toArray) (hz : vs.length ≤ sizeLine) (hp : ∀ v ∈ vs, IsRow s.heap v (rowK (k v))) (hs : ∀ v ∈ vs, ∀ u ∈ vs, SameK (k v).2 (k u).2)
    (h : ∀ (h' : Heap) (d : Addr) (out : List Value), SrtO.Srtd (fun v u => lexK (rowK (k v)) (rowK (k u))) out → out.Perm vs → (∀ b o, s.heap.get? b = some o → h'.get? b = some o) → s.heap.objs.size ≤ d → (∃ n, h'.get? d = some (seqObj "list" out.toArray n)) → Q (.ref d) { s with heap := h' }) :
    wpAny (model prog w) A (call (.builtin "sorted") [.ref l]) Q E s := by
  refine SrtO.sorted_ord (swo_lexK fun v => rowK (k v)) hl hz (fun h2 h₁ a ha kk => ?_) fun out hs' hb => ?_
  · refine rows_sortableO (s := { s with heap := h₁ }) (by omega) (fun v hm => (hp v hm).keeps fun b o e _ => (kk b o e).2) hs fun o e => ?_
    have e' : some o = some (seqObj "list" vs.toArray 0) := e.symm.trans ha
    cases e'
    intro c
    exact absurd (Value.type.inj c) (by decide)
  · exact h _ _ out hs' hb.perm (fun b o e => sortedAll_old e) (Nat.le_succ _) (sortedAll_at s.heap vs out.toArray)
end
/-- sorted(xs): a new list of the same tuples, in order -/
def rSortedO (K : PySem.W.Frag) : List V → Hp → VK → Prop := fun vs H Q => ∃ a xs, ∃ k : V → Int × List Key, vs = [V.ref a] ∧ SqL K H a xs ∧ (∀ x ∈ xs, ∃ t, x = V.ref t ∧ H t = some (.tup ((rowK (k x)).map kV))) ∧ (∀ x ∈ xs, ∀ y ∈ xs, SameK (k x).2 (k y).2) ∧
  ∀ ys p, ys.Pairwise (fun x y => lexK (rowK (k y)) (rowK (k x)) = false) → ys.Perm xs → H p = none → Q (.ref p) (upd H p (.lst ys))
section
variable {X : Cx}
theorem cr_sortedO : CallR X (.builtin "sorted") (rSortedO X.K) := by
  intro pins s σ H vs us Q I r h
  obtain ⟨a, xs, k, rfl, hs, hx, hk, q⟩ := h
  obtain ⟨its, rv, hl, hz⟩ := I.list hs
  obtain ⟨u, rfl, ru⟩ := vals1 r
  obtain rfl : u = Value.ref a := ru
  obtain ⟨e1, e2⟩ := refs_back rv fun x m => by
    obtain ⟨t, e, _⟩ := hx x m
    exact ⟨t, e⟩
  have inx : ∀ v ∈ its, backV v ∈ xs := fun v hv => by rw [e1]; exact List.mem_map.mpr ⟨_, hv, rfl⟩
  refine sorted_rowsO (k := fun u => k (backV u)) hl.isList (by rw [← rv.length]; exact hz) (fun v hv => ?_) (fun v hv u hu => hk _ (inx v hv) _ (inx u hu)) fun h' d out hsr hp k' hd hn => ?_
  · obtain ⟨t, rfl⟩ := e2 v hv
    obtain ⟨t', e, ht⟩ := hx _ (inx _ hv)
    cases e
    obtain ⟨_, its2, r2, o, ho, hc, n, hd⟩ := I.hok _ _ ht
    exact ⟨t, o, its2, n, rfl, ho, hc, hd, r2⟩
  · have h3 : ∀ u ∈ out, ∃ a, u = Value.ref a := fun u hu => e2 u (hp.mem_iff.mp hu)
    obtain ⟨n, hn⟩ := hn
    refine ⟨.ref d, upd H d (.lst (out.map backV)), I.laid (t' := s.toks) k' hd ⟨?_, out, n, vals_back h3, hn⟩, rfl, q _ d ?_ ?_ (I.hok.fresh hd)⟩
    · rw [List.length_map, hp.length_eq, ← rv.length]; exact hz
    · exact List.pairwise_map.mpr hsr
    · rw [e1]; exact hp.map backV
end
end Nm
set_option maxRecDepth 100000
set_option maxHeartbeats 4000000
namespace Nm
open PySem L2
/-- ints that are places -/
abbrev natV (l : List Nat) : List V := l.map fun (i : Nat) => V.int (i : Int)
/-- the keys of a dict of ties, each by its own tuple -/
def KeyL (H : Hp) (kvs : List (List Key × V)) (ys : List V) : Prop := ∀ y ∈ ys, ∃ b k v, y = V.ref b ∧ H b = some (.tup (List.map kV k)) ∧ (k, v) ∈ kvs
theorem KeyL.same {H H' : Hp} {kvs : List (List Key × V)} {ys : List V} (h : KeyL H kvs ys) (e : Same H H') : KeyL H' kvs ys := fun y hy => by
  obtain ⟨b, k, v, a1, a2, a3⟩ := h y hy
  exact ⟨b, k, v, a1, e _ _ a2, a3⟩
theorem KeyL.kp {H H' : Hp} {kvs : List (List Key × V)} {ys : List V} {s c : Addr} (h : KeyL H kvs ys) (S : Src H s c) (e : Kp s c H H') : KeyL H' kvs ys := fun y hy => by
  obtain ⟨b, k, v, a1, a2, a3⟩ := h y hy
  obtain ⟨cs, l, m, tt, S⟩ := S
  exact ⟨b, k, v, a1, e _ _ a2 (ne_of a2 S.ds (by intro z; cases z)) (ne_of a2 S.dc (by intro z; cases z)), a3⟩
theorem KeyL.put {H : Hp} {kvs : List (List Key × V)} {ys : List V} {t : Addr} {o u : HO} (h : KeyL H kvs ys) (e : H t = some u) (hu : ∀ zs, u ≠ .tup zs) : KeyL (upd H t o) kvs ys := fun y hy => by
  obtain ⟨b, k, v, a1, a2, a3⟩ := h y hy
  refine ⟨b, k, v, a1, ?_, a3⟩
  rw [upd_ne (ne_of a2 e (fun z => hu _ z.symm))]
  exact a2
theorem keyL_of {H : Hp} : ∀ {kvs : List (List Key × V)} {bs : List Addr}, IsKeys H kvs bs → KeyL H kvs (bs.map V.ref) ∧ bs.length = kvs.length
  | _, _, .nil => ⟨fun y hy => (List.not_mem_nil hy).elim, rfl⟩
  | _, _, .cons (a := kv) (b := b) h t => by
    obtain ⟨i1, i2⟩ := keyL_of t
    refine ⟨fun y hy => ?_, by simp [i2]⟩
    rcases List.mem_cons.mp hy with e | e
    · exact ⟨b, kv.1, kv.2, e, h, List.mem_cons_self⟩
    · obtain ⟨b', k, v, a1, a2, a3⟩ := i1 y e
      exact ⟨b', k, v, a1, a2, List.mem_cons_of_mem _ a3⟩
theorem keyL_all {H : Hp} : ∀ {kvs : List (List Key × V)} {bs : List Addr}, IsKeys H kvs bs → ∀ kv ∈ kvs, ∃ b ∈ bs, H b = some (.tup (List.map kV kv.1))
  | _, _, .nil => fun kv h => (List.not_mem_nil h).elim
  | _, _, .cons (b := b) h t => fun kv hm => by
    rcases List.mem_cons.mp hm with e | e
    · subst e
      exact ⟨b, List.mem_cons_self, h⟩
    · obtain ⟨b', h1, h2⟩ := keyL_all t kv e
      exact ⟨b', List.mem_cons_of_mem _ h1, h2⟩
/-- what the tuple at a reference holds, as a row -/
def rowAt (H : Hp) : V → Int × List Key
  | .ref b => (match H b with
    | some (.tup [.int i, .int j, .str kd]) => (i, [Sum.inl j, Sum.inr kd])
    | _ => (0, []))
  | _ => (0, [])
theorem rowAt_of {H : Hp} {b : Addr} {i j : Int} {kd : Str} (h : H b = some (.tup [.int i, .int j, .str kd])) : rowAt H (.ref b) = (i, [Sum.inl j, Sum.inr kd]) := by
  show (match H b with
    | some (.tup [.int i, .int j, .str kd]) => (i, [Sum.inl j, Sum.inr kd])
    | _ => (0, [])) = _
  rw [h]
theorem KeyL.tie {H : Hp} {n m : Nat} {kvs : List (List Key × V)} {ys : List V} (h : KeyL H kvs ys) (T : Ties n m kvs) {y : V} (hy : y ∈ ys) : ∃ (b : Addr) (i j x : Nat) (kd : Str), y = V.ref b ∧ H b = some (.tup [.int (i : Int), .int (j : Int), .str kd]) ∧ ([Sum.inl (i : Int), Sum.inl (j : Int), Sum.inr kd], V.int (x : Int)) ∈ kvs ∧ i < j ∧ j < n ∧ isWordB kd = true ∧ 1 ≤ x ∧ x ≤ m := by
  obtain ⟨b, k, v, a1, a2, a3⟩ := h y hy
  obtain ⟨i, j, kd, e, h1, h2, h3⟩ := T.key _ a3
  obtain ⟨x, e2, h4, h5⟩ := T.val _ a3
  have e' : k = [Sum.inl (i : Int), Sum.inl (j : Int), Sum.inr kd] := e
  have e2' : v = V.int (x : Int) := e2
  subst e' e2'
  exact ⟨b, i, j, x, kd, a1, a2, a3, h1, h2, h3, h4, h5⟩
theorem sort_ties {H : Hp} {n m : Nat} {kvs : List (List Key × V)} {ys : List V} (h : KeyL H kvs ys) (T : Ties n m kvs) : (∀ x ∈ ys, ∃ t, x = V.ref t ∧ H t = some (.tup (V.int (rowAt H x).1 :: (rowAt H x).2.map kV))) ∧ (∀ x ∈ ys, ∀ y ∈ ys, SameK (rowAt H x).2 (rowAt H y).2) := by
  constructor
  · intro y hy
    obtain ⟨b, i, j, x, kd, e, hb, _⟩ := h.tie T hy
    subst e
    refine ⟨b, rfl, ?_⟩
    rw [rowAt_of hb]
    exact hb
  · intro y hy z hz
    obtain ⟨b, i, j, x, kd, e, hb, _⟩ := h.tie T hy
    obtain ⟨b', i', j', x', kd', e', hb', _⟩ := h.tie T hz
    subst e e'
    rw [rowAt_of hb, rowAt_of hb']
    exact .int (.str .nil)
theorem row_key {H : Hp} {n m : Nat} : ∀ {kvs : List (List Key × V)} {bs : List Addr}, IsKeys H kvs bs → (∀ kv ∈ kvs, TieK n kv.1) → (bs.map V.ref).map (fun y => rowK (rowAt H y)) = kvs.map (·.1)
  | _, _, .nil, _ => rfl
  | _, _, .cons (a := kv) (b := b) h t, hk => by
    rw [List.map_cons, List.map_cons, List.map_cons, row_key (n := n) (m := m) t fun kv hm => hk kv (List.mem_cons_of_mem _ hm)]
    obtain ⟨i, j, kd, e, _⟩ := hk kv List.mem_cons_self
    rw [e] at h
    congr 1
    rw [rowAt_of h, e]
    rfl
theorem isKeys_same {H H' : Hp} {kvs : List (List Key × V)} {bs : List Addr} (h : IsKeys H kvs bs) (e : Same H H') : IsKeys H' kvs bs := Paired.mapP h fun _ _ z => e _ _ z
/-- one tie of the parts: what has the number of its far end gets that of its near end -/
def stepP (ps : List Nat) (k : List Key) : List Nat := match k with
  | [Sum.inl i, Sum.inl j, Sum.inr _] => ps.map fun z => if z = (ps[j.toNat]?).getD 0 then (ps[i.toNat]?).getD 0 else z
  | _ => ps
def PartsRel (n : Nat) (kvs : List (List Key × V)) (ps : List Nat) : Prop := ∃ ks : List (List Key), ks.Pairwise (fun x y => lexK y x = false) ∧ ks.Perm (kvs.map (·.1)) ∧ ps = ks.foldl stepP (List.range n)
theorem PartsRel.one {n : Nat} {kvs : List (List Key × V)} {ps qs : List Nat} (h1 : PartsRel n kvs ps) (h2 : PartsRel n kvs qs) : ps = qs := by
  obtain ⟨ks, a1, a2, a3⟩ := h1
  obtain ⟨ks', b1, b2, b3⟩ := h2
  rw [a3, b3, sorted_one a1 b1 (a2.trans b2.symm)]
theorem rgV_nat (n : Nat) : rgV 0 (n : Int) = natV (List.range n) := by
  unfold rgV natV
  have e : ((n : Int) - 0).toNat = n := by omega
  rw [e]
  refine List.map_congr_left fun i _ => ?_
  rw [Int.zero_add]
structure TxtC (mg : Str → Option Value) : Prop extends TxtB mg where
  sorted : mg "sorted" = none
section
variable {P : Program} {w : World} {K : PySem.W.Frag} {mg : Str → Option Value} {base : Heap}
/-! ### _law_parts -/
def spParts : Sp := fun vs H Q _ => ∃ (wd a b t : Addr) (xs : List V) (m : Nat) (kvs : List (List Key × V)), vs = [.ref wd] ∧ H wd = some (.dK (worldD a b t)) ∧ H a = some (.lst xs) ∧ H t = some (.dT kvs) ∧ xs.length ≤ 1000 ∧ kvs.length ≤ 10000 ∧ Ties xs.length m kvs ∧
  ∀ (p : Addr) (ps : List Nat) (H' : Hp), H p = none → H' p = some (.lst (natV ps)) → ps.length = xs.length → (∀ x ∈ ps, x < xs.length) → (∀ (i j : Nat) (kd : Str) (v : V), ([Sum.inl (i : Int), Sum.inl (j : Int), Sum.inr kd], v) ∈ kvs → ps[i]? = ps[j]?) → PartsRel xs.length kvs ps → Same H H' → Q (.ref p) H'
abbrev nParts : List Str := ["_law_world", "_law_found", "_law_one", "_law_other", "_law_kind", "_law_kept", "_law_gone", "_law_number"]
theorem scParts : FnScope nParts ["_law_world"] (defScope sParts) := ⟨rfl, rfl, rfl, by decide +kernel, rfl, by decide +kernel, by decide +kernel⟩
theorem ok_parts {f : Addr} {fd : FuncData} (F : Fun K "_law_parts" "_law_parts" sParts f fd) (T : TxtC mg) : FnOk P w K mg base CX0 1 f fd ["_law_world"] spParts := by
  refine F.ok scParts (fun vs H Q E h => ?_) (fun cdv A outer s H vs Q E hr h => ?_)
  · obtain ⟨wd, a, b, t, xs, m, kvs, rfl, _⟩ := h
    rfl
  · obtain ⟨wd, a, b, t, xs, m, kvs, rfl, hwd, ha, ht, hxl, hkl, ti, k⟩ := h
    have hu := hu_of hr
    refine ⟨_, Evl.pss_cut (ps_set (i := 1) scParts.nd rfl (Or.inl rfl) (pe_listRg rfl (by rfl) T.list (prg_1 (by rfl) T.range (pe_callB call_len_seq (by rfl) T.len PySem.boot_len (pa_cons (pe_dget hu (pv 0) pe_str (fun _ _ => rfl)) pa_nil)))))
      (pss_cons (ps_for PassesOwn.never rfl (pi_list (pe_callB cr_sortedO (by rfl) T.sorted (by decide +kernel) (pa_cons (pe_callTy (call_list_dT rfl) (by rfl) T.list (by decide +kernel) (pa_cons (pe_dget hu (pv 0) pe_str (fun _ _ => rfl)) pa_nil)) pa_nil)))
          (pg_tup rfl (pgs_cons (pg_name (i := 2) scParts.nd rfl (.inl rfl)) (pgs_cons (pg_name (i := 3) scParts.nd rfl (.inl rfl)) (pgs_cons (pg_name (i := 4) scParts.nd rfl (.inl rfl)) pgs_nil))))
        (pss_cons (ps_asg (pe_tup (pa_cons (pe_ix ix_list (pv 1) (pv 2) (fun _ _ => rfl)) (pa_cons (pe_ix ix_list (pv 1) (pv 3) (fun _ _ => rfl)) pa_nil))) (pg_tup rfl (pgs_cons (pg_name (i := 5) scParts.nd rfl (.inr rfl)) (pgs_cons (pg_name (i := 6) scParts.nd rfl (.inr rfl)) pgs_nil))))
        (pss_one (ps_setLc (i := 1) (own := [("_law_number", 7)]) (g := gName 7) (tt := tYes) rfl scParts.nd rfl rfl (sw_true rfl rfl rfl (by decide +kernel)) (pi_list (pv 1))
          (blkOk_by (N := nParts) (sc := defScope sParts) (by decide +kernel)) (fun _ _ _ _ _ => pg_name (i := 7) scParts.nd rfl (Or.inl rfl)) (fun _ _ _ _ _ => pts_nil)
          (fun _ _ _ _ _ => pe_ifExp (pt_cmpR op_eq (pv 7) (pv 6) (nomark _)) (pv 5) (pv 7))))))
      (pss_one (ps_ret (pv 1)))), ?_⟩
    refine ⟨fun σ H1 => ∃ q, σ = [some (.ref wd), some (.ref q), none, none, none, none, none, none] ∧ H q = none ∧ H1 q = some (.lst (natV (List.range xs.length))) ∧ Same H H1, ?_, ?_⟩
    · refine ⟨_, rfl, wd, _, rfl, dg_names hwd, a, _, rfl, .inl (SqL.of ha), _, rfl, ?_⟩
      refine ⟨RgOk.of_le (by omega) (by omega) (by omega) (by omega), fun q hq => ⟨q, rfl, hq, by rw [upd_same, rgV_nat], same_new hq⟩⟩
    rintro σ H1 ⟨q, rfl, hq0, hq, s1⟩
    refine ⟨_, rfl, wd, _, rfl, dg_ties (s1 _ _ hwd), t, kvs, rfl, .inl (s1 _ _ ht), fun l bs hl hk => ?_⟩
    obtain ⟨kl, hbl⟩ := keyL_of hk
    have kl2 := kl.same (same_new (o := .lst (bs.map V.ref)) hl)
    obtain ⟨so1, so2⟩ := sort_ties kl2 ti
    refine ⟨l, _, _, rfl, SqL.of upd_same, so1, so2, fun ys p srt pm hp => ?_⟩
    have pk : (ys.map fun y => rowK (rowAt (upd H1 l (.lst (bs.map V.ref))) y)).Perm (kvs.map (·.1)) := by
      rw [← row_key (m := m) (isKeys_same hk (same_new (o := .lst (bs.map V.ref)) hl)) ti.key]
      exact pm.map _
    have sk : (ys.map fun y => rowK (rowAt (upd H1 l (.lst (bs.map V.ref))) y)).Pairwise (fun x y => lexK y x = false) := List.pairwise_map.mpr srt
    have rows : ∀ (b : Addr) (i j : Nat) (kd : Str), (upd H1 l (.lst (bs.map V.ref))) b = some (.tup [.int (i : Int), .int (j : Int), .str kd]) → rowK (rowAt (upd H1 l (.lst (bs.map V.ref))) (.ref b)) = [Sum.inl (i : Int), Sum.inl (j : Int), Sum.inr kd] := fun b i j kd h => by
      rw [rowAt_of h]
      rfl
    have rows2 : ∀ y ∈ ys, ∃ (b : Addr) (i j x : Nat) (kd : Str), y = V.ref b ∧ (upd H1 l (.lst (bs.map V.ref))) b = some (.tup [.int (i : Int), .int (j : Int), .str kd]) ∧ ([Sum.inl (i : Int), Sum.inl (j : Int), Sum.inr kd], V.int (x : Int)) ∈ kvs ∧ i < j ∧ j < xs.length := fun y hy => by
      obtain ⟨b, i, j, x, kd, e, hb, hm, h1, h2, _⟩ := kl2.tie ti (pm.subset hy)
      exact ⟨b, i, j, x, kd, e, hb, hm, h1, h2⟩
    generalize hks : (ys.map fun y => rowK (rowAt (upd H1 l (.lst (bs.map V.ref))) y)) = ks at *
    have hkat : ∀ (i : Nat) (b : Addr) (i1 j1 : Nat) (kd : Str), ys[i]? = some (.ref b) → (upd H1 l (.lst (bs.map V.ref))) b = some (.tup [.int (i1 : Int), .int (j1 : Int), .str kd]) → ks[i]? = some [Sum.inl (i1 : Int), Sum.inl (j1 : Int), Sum.inr kd] := fun i b i1 j1 kd h1 h2 => by
      rw [← hks, List.getElem?_map, h1]
      exact congrArg some (rows b i1 j1 kd h2)
    have hkl2 : ks.length = ys.length := by rw [← hks, List.length_map]
    have sHs := same_new (o := .lst ys) hp
    have s2 := (same_new (o := .lst (bs.map V.ref)) hl).trans (same_new (o := .lst ys) hp)
    have kly : KeyL (upd (upd H1 l (.lst (bs.map V.ref))) p (.lst ys)) kvs ys := fun y hy => (kl.same s2) y (pm.subset hy)
    have hpp : (upd (upd H1 l (.lst (bs.map V.ref))) p (.lst ys)) p = some (.lst ys) := upd_same
    have hq2 := s2 _ _ hq
    have s02 := s1.trans s2
    have hyl : ys.length ≤ 10000 := by rw [pm.length_eq, List.length_map]; omega
    have hks2 := hkat
    refine ⟨p, rfl, ⟨_, SqL.of hpp⟩, ?_⟩
    generalize hH2 : upd (upd H1 l (.lst (bs.map V.ref))) p (.lst ys) = H2 at *
    refine for_list (xs := ys) (fun i σ H3 => ∃ q ps v2 v3 v4 v5 v6, σ = [some (.ref wd), some (.ref q), v2, v3, v4, v5, v6, none] ∧ H q = none ∧ H3 q = some (.lst (natV ps)) ∧ ps.length = xs.length ∧ (∀ x ∈ ps, x < xs.length) ∧ ps = (ks.take i).foldl stepP (List.range xs.length) ∧ Same H2 H3 ∧
        (∀ y ∈ ys.take i, ∀ (b : Addr) (i1 j1 : Nat) (kd : Str), y = .ref b → H2 b = some (.tup [.int (i1 : Int), .int (j1 : Int), .str kd]) → ps[i1]? = ps[j1]?))
      ⟨q, List.range xs.length, none, none, none, none, none, rfl, hq0, hq2, by simp, fun x hx => List.mem_range.mp hx, rfl, Same.refl _, fun y hy => by simp at hy⟩ (fun i σ H3 _ ⟨_, _, _, _, _, _, _, _, _, _, _, _, _, sm, _⟩ => SqL.of (sm _ _ hpp)) ?_ ?_
    · rintro i y σ H3 hi ⟨q, ps, v2, v3, v4, v5, v6, rfl, hq0, hq3, hpl, hpn, hpf, s3, hdone⟩
      obtain ⟨b1, i1, j1, x1, kd1, rfl, hb1, hmem, hij, hjn, _, _, _⟩ := kly.tie ti (List.mem_of_getElem? hi)
      have hb3 := s3 _ _ hb1
      have hbs1 : (upd H1 l (.lst (bs.map V.ref))) b1 = some (.tup [.int (i1 : Int), .int (j1 : Int), .str kd1]) := by
        obtain ⟨b', i', j', x', kd', e', hb', _⟩ := rows2 _ (List.mem_of_getElem? hi)
        cases e'
        have := sHs _ _ hb'
        rw [hb1] at this
        rw [hb', ← Option.some.inj this]
      obtain ⟨u, hu1⟩ : ∃ u, ps[i1]? = some u := ⟨_, List.getElem?_eq_getElem (by omega)⟩
      obtain ⟨v, hv1⟩ : ∃ v, ps[j1]? = some v := ⟨_, List.getElem?_eq_getElem (by omega)⟩
      refine ⟨b1, _, rfl, SqT.of hb3, rfl, _, _, rfl, _, _, rfl, _, _, rfl, rfl, ?_⟩
      refine ⟨_, rfl, _, rfl, q, _, _, V.int (u : Int), rfl, rfl, SqL.of hq3, atI_nat (by rw [List.getElem?_map, hu1]; rfl), _, rfl, _, rfl, q, _, _, V.int (v : Int), rfl, rfl, SqL.of hq3, atI_nat (by rw [List.getElem?_map, hv1]; rfl), (by show 2 ≤ sizeLine; decide), fun tt htt => ?_⟩
      refine ⟨tt, _, rfl, SqT.of upd_same, rfl, _, _, rfl, _, _, rfl, rfl, ?_⟩
      have s4 := same_new (o := .tup [V.int (u : Int), V.int (v : Int)]) htt
      refine ⟨_, rfl, q, rfl, ⟨_, SqL.of (s4 _ _ hq3)⟩, fun D hD => ?_⟩
      have hD3 : H3 D = none := s4.free hD
      have hD0 : H D = none := (s02.trans s3).free hD3
      refine lc_list (xs := natV ps) (fun j H4 => H4 D = some (.lst (natV ((ps.map fun z => if z = v then u else z).take j))) ∧ Same H3 H4) ⟨upd_same, s4.trans (same_new hD)⟩ (fun j H4 _ h => SqL.of (h.2 _ _ hq3)) ?_ ?_
      · rintro j z H4 hj ⟨hD4, s5⟩
        have hjl := (List.getElem?_eq_some_iff.mp hj).1
        rw [List.length_map] at hjl
        rw [List.getElem?_map] at hj
        obtain ⟨z0, hz0, rfl⟩ := Option.map_eq_some_iff.mp hj
        refine ⟨rfl, tyes ?_⟩
        have tk : natV ((ps.map fun z => if z = v then u else z).take (j + 1)) = natV ((ps.map fun z => if z = v then u else z).take j) ++ [V.int ((if z0 = v then u else z0 : Nat) : Int)] := by
          have e : (ps.map fun z => if z = v then u else z)[j]? = some (if z0 = v then u else z0) := by rw [List.getElem?_map, hz0]; rfl
          rw [List.take_add_one, e]
          unfold natV
          rw [List.map_append]
          rfl
        have fin : ∀ y, y = V.int ((if z0 = v then u else z0 : Nat) : Int) → ∃ acc, H4 D = some (.lst acc) ∧ acc.length < sizeLine ∧ (upd H4 D (.lst (acc ++ [y]))) D = some (.lst (natV ((ps.map fun z => if z = v then u else z).take (j + 1)))) ∧ Same H3 (upd H4 D (.lst (acc ++ [y]))) := fun y hy => by
          refine ⟨_, hD4, Evl.sz_lt (by rw [List.length_map, List.length_take, List.length_map]; omega), by rw [upd_same, tk, hy], fun b o e => ?_⟩
          rw [upd_ne (ne_of_none e hD3)]
          exact s5 b o e
        refine ⟨_, rfl, _, rfl, rfl, _, rfl, ?_⟩
        refine ite2 (fun h => ?_) (fun h => ?_)
        · refine ⟨_, rfl, fin _ ?_⟩
          have : (V.int (z0 : Int)) = V.int (v : Int) := of_decide_eq_true h
          injection this with this
          rw [if_pos (by omega)]
        · refine ⟨_, rfl, fin _ ?_⟩
          have : ¬ (V.int (z0 : Int)) = V.int (v : Int) := of_decide_eq_false (Bool.eq_false_iff.mpr h)
          rw [if_neg (fun e => this (by rw [e]))]
      · rintro H4 ⟨hD4, s5⟩
        rw [List.length_map] at hD4
        rw [List.take_of_length_le (by simp)] at hD4
        refine ⟨D, ps.map fun z => if z = v then u else z, _, _, _, _, _, rfl, hD0, hD4, by simp [hpl], ?_, ?_, s3.trans s5, ?_⟩
        · intro x hx
          obtain ⟨z, hz, rfl⟩ := List.mem_map.mp hx
          split
          · exact hpn u (List.mem_of_getElem? hu1)
          · exact hpn z hz
        · rw [List.take_add_one, hkat i b1 i1 j1 kd1 hi hbs1, List.foldl_append, ← hpf]
          show _ = ps.map fun z => if z = (ps[(j1 : Int).toNat]?).getD 0 then (ps[(i1 : Int).toNat]?).getD 0 else z
          rw [Int.toNat_natCast, Int.toNat_natCast, hu1, hv1]
          rfl
        · intro y hy b i2 j2 kd2 e hb2
          rw [List.getElem?_map, List.getElem?_map]
          rw [List.take_add_one, hi] at hy
          rcases List.mem_append.mp hy with z | z
          · rw [hdone y z b i2 j2 kd2 e hb2]
          · have z' : y = V.ref b1 := by simpa using z
            rw [z'] at e
            cases e
            rw [hb1] at hb2
            injection hb2 with hb2
            injection hb2 with hb2
            simp at hb2
            obtain ⟨e1, e2, _⟩ := hb2
            have e1' : i1 = i2 := by omega
            have e2' : j1 = j2 := by omega
            subst e1' e2'
            rw [hu1, hv1]
            show some (if u = v then u else u) = some (if v = v then u else v)
            simp
    · rintro σ H3 ⟨q, ps, v2, v3, v4, v5, v6, rfl, hq0, hq3, hpl, hpn, hpf, s3, hdone⟩
      refine ⟨_, rfl, k q ps H3 hq0 hq3 hpl hpn ?_ ⟨ks, sk, pk, by rw [hpf, List.take_of_length_le (by omega)]⟩ (s02.trans s3)⟩
      intro i j kd v hm
      rw [List.take_of_length_le (Nat.le_refl _)] at hdone
      have hex : ∃ b, V.ref b ∈ ys ∧ H2 b = some (.tup [.int (i : Int), .int (j : Int), .str kd]) := by
        obtain ⟨b, hb, hb1⟩ := keyL_all hk _ hm
        exact ⟨b, pm.mem_iff.mpr (List.mem_map.mpr ⟨b, hb, rfl⟩), s2 _ _ hb1⟩
      obtain ⟨b, hb, hb2⟩ := hex
      exact hdone _ hb b i j kd rfl hb2
end
end Nm
set_option maxRecDepth 100000
set_option maxHeartbeats 4000000
namespace Nm
open PySem L2
def nameN (k : Nat) : Str := ("n" : Str) ++ ((toString (k : Int) : String) : Str)
theorem nameN_w : ∀ k < 100, isWordB (nameN k) = true := by decide +kernel
theorem nameN_nd : ((List.range 100).map nameN).Nodup := by decide +kernel
section
variable {κ : Type} [DecidableEq κ]
theorem val_none_of {kvs : List (κ × V)} {k : κ} (h : k ∉ kvs.map (·.1)) : valV kvs k = none := by
  cases e : valV kvs k with
  | none => rfl
  | some v => exact absurd (valV_in e) h
end
theorem merge_nd : ∀ {kvs acc : List (Key × V)}, ((acc ++ kvs).map (·.1)).Nodup → mergeK acc kvs = acc ++ kvs
  | [], acc, _ => (List.append_nil _).symm
  | kv :: r, acc, h => by
    show mergeK (putK acc kv.1 kv.2) r = acc ++ kv :: r
    have hn : kv.1 ∉ acc.map (·.1) := fun hm => by
      rw [List.map_append, List.nodup_append] at h
      exact h.2.2 kv.1 hm kv.1 (by simp) rfl
    rw [putK_new _ (val_none_of hn)]
    have e : acc ++ kv :: r = (acc ++ [(kv.1, kv.2)]) ++ r := by simp
    rw [e] at h ⊢
    exact merge_nd h
def natOf : V → Nat
  | .int x => x.toNat
  | _ => 0
theorem perm_nat {ys : List V} {l : List Nat} (h : ys.Perm (natV l)) : ∃ zs : List Nat, ys = natV zs ∧ zs.Perm l := by
  refine ⟨ys.map natOf, ?_, ?_⟩
  · unfold natV
    rw [List.map_map]
    conv => lhs; rw [← List.map_id ys]
    refine List.map_congr_left fun v hv => ?_
    obtain ⟨x, _, rfl⟩ := List.mem_map.mp (h.subset hv)
    rfl
  · have := h.map natOf
    unfold natV at this
    rw [List.map_map] at this
    have e : l.map (natOf ∘ fun (i : Nat) => V.int (i : Int)) = l := by
      conv => rhs; rw [← List.map_id l]
      rfl
    rw [e] at this
    exact this
theorem nameN_len : ∀ k : Nat, k < 100 → ("n" : Str).length + ((toString (k : Int) : String) : Str).length ≤ 100 := by decide +kernel
theorem log_small {i : Nat} (h : i < 1000) : (0 + (i : Int)).natAbs.log2 < 1920 := by
  have e : (0 + (i : Int)).natAbs = i := by omega
  rw [e]
  have := Nat.log2_le_self i
  omega
/-- the pairs (place, seat) -/
def seatKV (od : List Nat) (i : Nat) : List (Key × V) := (od.zipIdx.take i).map fun p => (Sum.inl (p.1 : Int), V.int (p.2 : Int))
theorem seat_keys (od : List Nat) : (seatKV od od.length).map (·.1) = od.map fun (x : Nat) => (Sum.inl (x : Int) : Key) := by
  unfold seatKV
  rw [List.take_of_length_le (by simp), List.map_map]
  have : od = od.zipIdx.map (·.1) := by simp
  conv => rhs; rw [this]
  rw [List.map_map]
  rfl
theorem seat_nd {od : List Nat} (h : od.Nodup) : ((seatKV od od.length).map (·.1)).Nodup := by
  rw [seat_keys]
  refine List.Pairwise.map _ (fun a b hab => ?_) h
  exact fun e => hab (by have := Sum.inl.inj e; omega)
theorem seat_mem {od : List Nat} {j x : Nat} (h : od[j]? = some x) : ((Sum.inl (x : Int) : Key), V.int (j : Int)) ∈ seatKV od od.length := by
  unfold seatKV
  rw [List.take_of_length_le (by simp)]
  refine List.mem_map.mpr ⟨(x, j), ?_, rfl⟩
  rw [List.mem_zipIdx_iff_getElem?]
  exact h
theorem seat_step {od : List Nat} {i x : Nat} (h : od[i]? = some x) : seatKV od (i + 1) = seatKV od i ++ [(Sum.inl (x : Int), V.int (i : Int))] := by
  unfold seatKV
  have e : od.zipIdx[i]? = some (x, i) := by simp [h]
  rw [List.take_add_one, e, List.map_append]
  rfl
theorem paired_snoc {α β : Type} {F : α → β → Prop} : ∀ {l : List α} {m : List β} {a : α} {b : β}, Paired F l m → F a b → Paired F (l ++ [a]) (m ++ [b])
  | _, _, _, _, .nil, h => .cons h .nil
  | _, _, _, _, .cons r t, h => .cons r (paired_snoc t h)
structure TxtD (mg : Str → Option Value) : Prop extends TxtC mg where
  dict : mg "dict" = none
  enumerate : mg "enumerate" = none
  str : mg "str" = none
section
variable {P : Program} {w : World} {K : PySem.W.Frag} {mg : Str → Option Value} {base : Heap}
/-! ### _law_seated -/
def spSeated : Sp := fun vs H Q _ => ∃ (s c wd a b t ld : Addr) (cl : List Str) (m : Nat) (kvs : List (List Key × V)) (led : List Nat), vs = [.ref s, .ref wd, .ref ld] ∧ Src H s c ∧ H wd = some (.dK (worldD a b t)) ∧ wd ≠ s ∧ H b = some (.lst (cl.map V.str)) ∧ b ≠ c ∧ H t = some (.dT kvs) ∧ H ld = some (.lst (natV led)) ∧ ld ≠ c ∧
  cl.length = led.length ∧ (∀ x ∈ cl, isWordB x = true) ∧ 1 ≤ led.length ∧ led.length ≤ 100 ∧ kvs.length ≤ 4000 ∧ Ties led.length m kvs ∧
  ∀ (r wd' a' b' t' ld' : Addr) (nm cl' : List Str) (kvs' : List (List Key × V)) (led' : List Nat) (H' : Hp), H wd' = none → H a' = none → H b' = none → H t' = none → H ld' = none → H' r = some (.tup [.ref wd', .ref ld']) → WorldOk H' s c wd' a' b' t' nm cl' kvs' → nm.length = led.length → Ties nm.length m kvs' → kvs'.length ≤ 4000 →
    H' ld' = some (.lst (natV led')) → led'.length = led.length → (∀ x ∈ led', x ∈ led) → Src H' s c → Kp s c H H' → Q (.ref r) H'
abbrev nSeat : List Str := ["_law_source", "_law_world", "_law_led", "_law_order", "_law_names", "_law_seats", "_law_ties", "_law_one", "_law_other", "_law_kind", "_law_spot", "_law_colours", "_law_k", "_law_new", "_law_old"]
theorem scSeat : FnScope nSeat ["_law_source", "_law_world", "_law_led"] (defScope sSeated) := ⟨rfl, rfl, rfl, by decide +kernel, rfl, by decide +kernel, by decide +kernel⟩
theorem ok_seat {f : Addr} {fd : FuncData} (F : Fun K "_law_seated" "_law_seated" sSeated f fd) (T : TxtD mg) (Ga : Def P w K mg base "_law_any_order" ["_law_source", "_law_items"] 2 (spAny K)) : FnOk P w K mg base CX0 3 f fd ["_law_source", "_law_world", "_law_led"] spSeated := by
  obtain ⟨fa, fda, Ga, ma, ka, ba⟩ := Ga.ex
  refine F.ok scSeat (fun vs H Q E h => ?_) (fun cdv A outer s H vs Q E hr h => ?_)
  · obtain ⟨_, _, _, _, _, _, _, _, _, _, _, rfl, _⟩ := h
    rfl
  · obtain ⟨sa, ca, wd, a, b, t, ld, cl, m, kvs, led, rfl, S, hwd, nws, hb, nbc, ht, hld, nlc, hcl, hcw, hn1, hn2, hkl, ti, k⟩ := h
    have hu := hu_of hr
    refine ⟨_, Evl.pss_cut (ps_set (i := 3) scSeat.nd rfl (Or.inl rfl) (pe_call Ga hr (by rfl) ma ka ba .nil pass0 (pa_cons (pv 0) (pa_cons (pe_listRg rfl (by rfl) T.list (prg_1 (by rfl) T.range (pe_callB call_len_seq (by rfl) T.len PySem.boot_len (pa_cons (pv 2) pa_nil)))) pa_nil))))
      (Evl.pss_cut (ps_set (i := 4) scSeat.nd rfl (Or.inl rfl) (pe_call Ga hr (by rfl) ma ka ba .nil pass0 (pa_cons (pv 0) (pa_cons (pe_lc (own := [("_law_k", 12)]) (g := gName 12) (tt := tYes) rfl scSeat.nd (pi_range1 (by rfl) T.range (pa_cons (pe_callB call_len_seq (by rfl) T.len PySem.boot_len (pa_cons (pv 2) pa_nil)) pa_nil))
          (blkOk_by (N := nSeat) (sc := defScope sSeated) (by decide +kernel)) (fun _ _ _ _ _ => pg_name (i := 12) scSeat.nd rfl (Or.inl rfl)) (fun _ _ _ _ _ => pts_nil)
          (fun _ _ _ _ _ => pe_op op_add_str pe_str (pe_callTy call_str_int (by rfl) T.str (by decide +kernel) (pa_cons (pv 12) pa_nil)))) pa_nil))))
      (Evl.pss_cut (ps_set (i := 5) scSeat.nd rfl (Or.inl rfl) (pe_callTy (call_dictP rfl) (by rfl) T.dict (by decide +kernel) (pa_cons (pe_lc (own := [("_law_new", 13), ("_law_old", 14)]) (g := gTup K 2 (gCons (gName 13) (gCons (gName 14) gNil))) (tt := tYes) rfl scSeat.nd (pi_enum (by rfl) T.enumerate (pa_cons (pv 3) pa_nil))
          (blkOk_by (N := nSeat) (sc := defScope sSeated) (by decide +kernel)) (fun _ _ _ _ _ => pg_tup rfl (pgs_cons (pg_name (i := 13) scSeat.nd rfl (Or.inl rfl)) (pgs_cons (pg_name (i := 14) scSeat.nd rfl (Or.inl rfl)) pgs_nil))) (fun _ _ _ _ _ => pts_nil)
          (fun _ _ _ _ _ => pe_tup (pa_cons (pv 14) (pa_cons (pv 13) pa_nil)))) pa_nil)))
      (pss_cons (ps_set (i := 6) scSeat.nd rfl (Or.inl rfl) pe_dnewT)
      (Evl.pss_cut (ps_for PassesOwn.never rfl (pi_list (pe_callB cr_sortedR (by rfl) T.sorted (by decide +kernel) (pa_cons (pe_callTy (call_list_dT rfl) (by rfl) T.list (by decide +kernel) (pa_cons (pe_dget hu (pv 1) pe_str (fun _ _ => rfl)) pa_nil)) pa_nil)))
          (pg_tup rfl (pgs_cons (pg_name (i := 7) scSeat.nd rfl (.inl rfl)) (pgs_cons (pg_name (i := 8) scSeat.nd rfl (.inl rfl)) (pgs_cons (pg_name (i := 9) scSeat.nd rfl (.inl rfl)) pgs_nil))))
        (pss_cons (ps_set (i := 10) scSeat.nd rfl (Or.inl rfl) (pe_callB cr_sorted (by rfl) T.sorted (by decide +kernel) (pa_cons (pe_lst (pa_cons (pe_dget hu (pv 5) (pv 7) (fun _ _ => rfl)) (pa_cons (pe_dget hu (pv 5) (pv 8) (fun _ _ => rfl)) pa_nil))) pa_nil)))
        (pss_one (ps_dput hu (pv 6) (pe_tup (pa_cons (pe_ix ix_list (pv 10) pe_int (fun _ _ => rfl)) (pa_cons (pe_ix ix_list (pv 10) pe_int (fun _ _ => rfl)) (pa_cons (pv 9) pa_nil)))) (pe_dget hu (pe_dget hu (pv 1) pe_str (fun _ _ => rfl)) (pe_tup (pa_cons (pv 7) (pa_cons (pv 8) (pa_cons (pv 9) pa_nil)))) (fun _ _ => rfl)) rfl))))
      (Evl.pss_cut (ps_setLc (i := 11) (own := [("_law_old", 14)]) (g := gName 14) (tt := tYes) (te := tOp (rIxL K) (tDGet (tVar 1) (tC (.str "colours"))) (tVar 14)) rfl scSeat.nd rfl rfl (sw_true rfl rfl rfl (by decide +kernel)) (pi_list (pv 3))
          (blkOk_by (N := nSeat) (sc := defScope sSeated) (by decide +kernel)) (fun _ _ _ _ _ => pg_name (i := 14) scSeat.nd rfl (Or.inl rfl)) (fun _ _ _ _ _ => pts_nil)
          (fun _ _ _ _ _ => by exact pe_ix ix_list (pe_dget hu (pv 1) pe_str (fun _ _ => rfl)) (pv 14) (fun _ _ => rfl)))
      (pss_one (ps_ret (pe_tup (pa_cons (pe_disp (pps_cons pe_str (pv 4) (pps_cons pe_str (pv 11) (pps_cons pe_str (pv 6) pps_nil))) (by rfl) (by rfl) (fun z => by cases z) (by decide)) (pa_cons
          (pe_lc (own := [("_law_old", 14)]) (g := gName 14) (tt := tYes) (te := tOp (rIxL K) (tVar 2) (tVar 14)) rfl scSeat.nd (pi_list (pv 3))
          (blkOk_by (N := nSeat) (sc := defScope sSeated) (by decide +kernel)) (fun _ _ _ _ _ => pg_name (i := 14) scSeat.nd rfl (Or.inl rfl)) (fun _ _ _ _ _ => pts_nil)
          (fun _ _ _ _ _ => by exact pe_ix ix_list (pv 2) (pv 14) (fun _ _ => rfl))) pa_nil)))))))))), ?_⟩
    generalize hN : led.length = N at *
    -- order
    refine ⟨fun σ H1 => ∃ o od, σ = [some (.ref sa), some (.ref wd), some (.ref ld), some (.ref o), none, none, none, none, none, none, none, none, none, none, none] ∧ H o = none ∧ H1 o = some (.lst (natV od)) ∧ od.Perm (List.range N) ∧ Src H1 sa ca ∧ Kp sa ca H H1, ?_, ?_⟩
    · refine ⟨_, rfl, _, rfl, ld, _, rfl, .inl (SqL.of hld), _, rfl, RgOk.of_le (by omega) (by rw [List.length_map]; omega) (by omega) (by omega), fun q hq => ?_⟩
      refine ⟨sa, ca, q, _, rfl, S.new hq, SqL.of upd_same, by rw [List.length_map, hN, rgV_nat]; simp; omega, fun p ys H1 hp pm hpl S1 kp1 => ?_⟩
      rw [List.length_map, hN, rgV_nat] at pm
      obtain ⟨od, rfl, po⟩ := perm_nat pm
      have hq' : H p = none := (same_new hq).free hp
      exact ⟨p, od, rfl, hq', hpl, po, S1, (Kp.same (same_new hq)).trans kp1⟩
    rintro σ H1 ⟨o, od, rfl, ho0, ho, po, S1, kp1⟩
    have hol : od.length = N := by rw [po.length_eq]; simp
    obtain ⟨nos, noc⟩ := S.ne ho0
    obtain ⟨cs0, l0, m0, t0, S0⟩ := id S
    have nls : ld ≠ sa := ne_of hld S0.ds (by intro z; cases z)
    have nbs : b ≠ sa := ne_of hb S0.ds (by intro z; cases z)
    have nts : t ≠ sa := ne_of ht S0.ds (by intro z; cases z)
    have ntc : t ≠ ca := ne_of ht S0.dc (by intro z; cases z)
    have nwc : wd ≠ ca := ne_of hwd S0.dc (by intro z; cases z)
    have hld1 := kp1 _ _ hld nls nlc
    -- names
    refine ⟨fun σ H2 => ∃ na nm, σ = [some (.ref sa), some (.ref wd), some (.ref ld), some (.ref o), some (.ref na), none, none, none, none, none, none, none, none, none, none] ∧ H na = none ∧ H2 na = some (.lst (List.map V.str nm)) ∧ nm.Perm ((List.range N).map nameN) ∧ Src H2 sa ca ∧ Kp sa ca H1 H2, ?_, ?_⟩
    · refine ⟨_, rfl, _, rfl, ld, _, rfl, .inl (SqL.of hld1), _, rfl, by rw [List.length_map]; omega, by rw [List.length_map]; omega, fun D hD => ?_⟩
      rw [List.length_map, hN]
      refine lc_range (lo := 0) (n := N) (fun i H2 => H2 D = some (.lst (((List.range i).map nameN).map V.str)) ∧ Same H1 H2) ⟨upd_same, same_new hD⟩ ?_ ?_
      · rintro i H2 hi ⟨hD2, s2⟩
        refine ⟨rfl, tyes ?_⟩
        have hl := nameN_len i (by omega)
        refine ⟨_, rfl, _, rfl, log_small (by omega), _, _, rfl, rfl, ?_, _, hD2, Evl.sz_lt (by simp; omega), ?_, ?_⟩
        · rw [Int.zero_add]
          exact Evl.sz_of (by omega)
        · rw [upd_same, List.range_succ, List.map_append, List.map_append, Int.zero_add]
          rfl
        · intro b o e
          rw [upd_ne (ne_of_none e hD)]
          exact s2 b o e
      · rintro H2 ⟨hD2, s2⟩
        refine ⟨sa, ca, D, _, rfl, S1.same s2, SqL.of hD2, by simp; omega, fun p ys H3 hp pm hpl S3 kp3 => ?_⟩
        obtain ⟨nm, rfl, pn⟩ := perm_str pm
        have hp0 : H p = none := kp1.free S1 (s2.free hp)
        exact ⟨p, nm, rfl, hp0, hpl, pn, S3, (Kp.same s2).trans kp3⟩
    rintro σ H2 ⟨na, nm, rfl, hna0, hna, pn, S2, kp2⟩
    have hnl : nm.length = N := by rw [pn.length_eq]; simp
    obtain ⟨nns, nnc⟩ := S.ne hna0
    have ho2 := kp2 _ _ ho nos noc
    have kp02 := kp1.trans kp2
    -- seats
    refine ⟨fun σ H3 => ∃ se, σ = [some (.ref sa), some (.ref wd), some (.ref ld), some (.ref o), some (.ref na), some (.ref se), none, none, none, none, none, none, none, none, none] ∧ H3 se = some (.dK (seatKV od od.length)) ∧ Same H2 H3, ?_, ?_⟩
    · refine ⟨_, rfl, o, _, rfl, SqL.of ho2, fun D hD => ?_⟩
      refine lc_it (walk_enum (xs := natV od)) (fun i H3 => ∃ ps : List Addr, H3 D = some (.lst (ps.map V.ref)) ∧ ps.length = i ∧ Paired (fun p kv => H3 p = some (.tup [kV kv.1, kv.2])) ps (seatKV od i) ∧ Same H2 H3) ⟨[], upd_same, rfl, .nil, same_new hD⟩ (fun i H3 _ ⟨_, _, _, _, h⟩ => SqL.of (h _ _ ho2)) ?_ ?_
      · rintro i x H3 H4 hi ⟨ps, hD3, hpl, pr, s3⟩ ⟨T, x1, y1, rfl, hT, rfl, e1, e2⟩
        rw [List.length_map] at hi
        have e2 : (natV od)[i]? = some y1 := e2
        rw [List.getElem?_map] at e2
        obtain ⟨y0, hy0, rfl⟩ := Option.map_eq_some_iff.mp e2
        cases e1
        refine ⟨T, _, rfl, SqT.of upd_same, rfl, _, _, rfl, _, _, rfl, rfl, rfl, tyes ?_⟩
        refine ⟨_, rfl, _, rfl, (by show 2 ≤ sizeLine; decide), fun u hu => ?_⟩
        have sT := same_new (o := .tup [V.int (i : Nat), V.int (y0 : Int)]) hT
        have su := same_new (o := .tup [V.int (y0 : Int), V.int (i : Nat)]) hu
        have sTu := sT.trans su
        have nDu : u ≠ D := fun e => by subst e; rw [sT _ _ hD3] at hu; cases hu
        refine ⟨_, sTu _ _ hD3, Evl.sz_lt (by rw [List.length_map]; omega), ps ++ [u], by rw [upd_same, List.map_append]; rfl, by simp [hpl], ?_, ?_⟩
        · rw [seat_step hy0]
          refine paired_snoc (Paired.mapP pr fun p kv h => ?_) ?_
          · rw [upd_ne (ne_of h hD3 (by intro z; cases z))]
            exact sTu _ _ h
          · rw [upd_ne nDu]
            exact upd_same
        · intro b ob e
          rw [upd_ne (ne_of_none e hD)]
          exact sTu _ _ (s3 b ob e)
      · rintro H3 ⟨ps, hD3, hpl, pr, s3⟩
        rw [List.length_map] at pr
        refine ⟨D, ps, seatKV od od.length, rfl, SqL.of hD3, Paired.mapP pr fun p kv h => SqT.of h, fun p hp => ?_⟩
        have nd : ((seatKV od od.length).map (·.1)).Nodup := seat_nd (po.nodup_iff.mpr List.nodup_range)
        refine ⟨p, rfl, ?_, s3.trans (same_new hp)⟩
        rw [upd_same, merge_nd (acc := []) (by simpa using nd)]
        rfl
    rintro σ H3 ⟨se, rfl, hse, s3⟩
    intro t2 ht2
    have s4 := same_new (o := .dT []) ht2
    have s24 := s3.trans s4
    have S4 := S2.same s24
    have kp04 : Kp sa ca H (upd H3 t2 (.dT [])) := kp02.trans (Kp.same s24)
    have h20 : H t2 = none := kp02.free S2 (s3.free ht2)
    obtain ⟨n2s, n2c⟩ := S.ne h20
    have hwd4 := kp04 _ _ hwd nws nwc
    have hb4 := kp04 _ _ hb nbs nbc
    have ht4 := kp04 _ _ ht nts ntc
    have hld4 := kp04 _ _ hld nls nlc
    have ho4 := s24 _ _ ho2
    have hna4 := s24 _ _ hna
    have hse4 := s4 _ _ hse
    have h24 : (upd H3 t2 (.dT [])) t2 = some (.dT []) := upd_same
    have ntt : t2 ≠ t := fun e => by subst e; rw [h20] at ht; cases ht
    generalize upd H3 t2 (.dT []) = H4 at *
    -- the ties
    refine ⟨fun σ H5 => ∃ v7 v8 v9 v10 kv2, σ = [some (.ref sa), some (.ref wd), some (.ref ld), some (.ref o), some (.ref na), some (.ref se), some (.ref t2), v7, v8, v9, v10, none, none, none, none] ∧ H5 t2 = some (.dT kv2) ∧ Ties N m kv2 ∧ kv2.length ≤ 4000 ∧ (∀ b o, H4 b = some o → b ≠ t2 → H5 b = some o), ?_, ?_⟩
    · refine ⟨_, rfl, wd, _, rfl, dg_ties hwd4, t, kvs, rfl, .inl ht4, fun l bs hl hk => ?_⟩
      obtain ⟨kl, hbl⟩ := keyL_of hk
      have kl2 := kl.same (same_new (o := .lst (bs.map V.ref)) hl)
      obtain ⟨so1, so2⟩ := sort_ties kl2 ti
      refine ⟨l, _, _, rfl, SqL.of upd_same, so1, so2, fun ys p pm hp => ?_⟩
      have s5 := (same_new (o := .lst (bs.map V.ref)) hl).trans (same_new (o := .lst ys) hp)
      have kly : KeyL (upd (upd H4 l (.lst (bs.map V.ref))) p (.lst ys)) kvs ys := fun y hy => (kl.same s5) y (pm.subset hy)
      have hpp : (upd (upd H4 l (.lst (bs.map V.ref))) p (.lst ys)) p = some (.lst ys) := upd_same
      have hyl : ys.length ≤ 4000 := by rw [pm.length_eq, List.length_map]; omega
      have np2 : p ≠ t2 := fun e => by subst e; rw [same_new hl _ _ h24] at hp; cases hp
      generalize upd (upd H4 l (.lst (bs.map V.ref))) p (.lst ys) = H5 at *
      refine ⟨p, rfl, ⟨_, SqL.of hpp⟩, ?_⟩
      refine for_list (xs := ys) (fun i σ H6 => ∃ v7 v8 v9 v10 kv2, σ = [some (.ref sa), some (.ref wd), some (.ref ld), some (.ref o), some (.ref na), some (.ref se), some (.ref t2), v7, v8, v9, v10, none, none, none, none] ∧ H6 t2 = some (.dT kv2) ∧ Ties N m kv2 ∧ kv2.length ≤ i ∧ (∀ b o, H5 b = some o → b ≠ t2 → H6 b = some o))
        ⟨none, none, none, none, [], rfl, s5 _ _ h24, Ties.nil N m, Nat.le_refl _, fun b o e _ => e⟩ (fun i σ H6 _ ⟨_, _, _, _, _, _, _, _, _, h⟩ => SqL.of (h _ _ hpp np2)) ?_ ?_
      · rintro i y σ H6 hi ⟨v7, v8, v9, v10, kv2, rfl, h26, ti6, hl6, kp6⟩
        have hil := (List.getElem?_eq_some_iff.mp hi).1
        obtain ⟨b1, i1, j1, x1, kd1, rfl, hb1, hmem, hij, hjn, hkw, hx1, hx2⟩ := kly.tie ti (List.mem_of_getElem? hi)
        have stay : ∀ b o, H4 b = some o → b ≠ t2 → H6 b = some o := fun b o e h => kp6 b o (s5 _ _ e) h
        have nb12 : b1 ≠ t2 := ne_of hb1 (s5 _ _ h24) (by intro z; cases z)
        have hb6 := kp6 _ _ hb1 nb12
        have hse6 := stay _ _ hse4 (ne_of hse4 h24 (by intro z; cases z))
        have hwd6 := stay _ _ hwd4 (ne_of hwd4 h24 (by intro z; cases z))
        have ht6 := stay _ _ ht4 ntt.symm
        have seat : ∀ x < N, ∃ j, od[j]? = some x ∧ j < N ∧ valV (seatKV od od.length) (Sum.inl (x : Int) : Key) = some (V.int (j : Int)) := fun x hx => by
          obtain ⟨j, hj⟩ := List.getElem?_of_mem (po.mem_iff.mpr (List.mem_range.mpr hx))
          have hjl := (List.getElem?_eq_some_iff.mp hj).1
          exact ⟨j, hj, by omega, val_of_mem (seat_nd (po.nodup_iff.mpr List.nodup_range)) (seat_mem hj)⟩
        obtain ⟨u1, hu1, hu1n, hv1⟩ := seat i1 (by omega)
        obtain ⟨u2, hu2, hu2n, hv2⟩ := seat j1 hjn
        have hne : u1 ≠ u2 := fun e => by subst e; rw [hu1] at hu2; have := Option.some.inj hu2; omega
        refine ⟨b1, _, rfl, SqT.of hb6, rfl, _, _, rfl, _, _, rfl, _, _, rfl, rfl, ?_⟩
        refine ⟨_, rfl, _, rfl, se, _, rfl, (by rw [← hv1]; exact DGet.k (k := Sum.inl (i1 : Int)) hse6), _, rfl, _, rfl, se, _, rfl, (by rw [← hv2]; exact DGet.k (k := Sum.inl (j1 : Int)) hse6), (by show 2 ≤ sizeLine; decide), fun l1 hl1 => ?_⟩
        refine ⟨l1, [(u1 : Int), (u2 : Int)], rfl, SqL.of upd_same, (by show 2 < 64; decide), fun ns sp pms srt hsp => ?_⟩
        obtain ⟨n0, n1, rfl, h01, h1N⟩ : ∃ n0 n1 : Nat, ns = [(n0 : Int), (n1 : Int)] ∧ n0 < n1 ∧ n1 < N := by
          have hl2 : ns.length = 2 := pms.length_eq
          match ns, hl2 with
          | [z0, z1], _ =>
            have hle : z0 ≤ z1 := by simpa using srt
            have h0 := pms.mem_iff.mp (show z0 ∈ [z0, z1] by simp)
            have h1 := pms.mem_iff.mp (show z1 ∈ [z0, z1] by simp)
            have h2 := pms.mem_iff.mpr (show (u1 : Int) ∈ [(u1 : Int), (u2 : Int)] by simp)
            have h3 := pms.mem_iff.mpr (show (u2 : Int) ∈ [(u1 : Int), (u2 : Int)] by simp)
            simp at h0 h1 h2 h3
            refine ⟨z0.toNat, z1.toNat, ?_, by omega, by omega⟩
            rw [Int.toNat_of_nonneg (by omega), Int.toNat_of_nonneg (by omega)]
        have s7 := (same_new (o := .lst ([(u1 : Int), (u2 : Int)].map V.int)) hl1).trans (same_new (o := .lst ([(n0 : Int), (n1 : Int)].map V.int)) hsp)
        have hsp7 : (upd (upd H6 l1 (.lst ([(u1 : Int), (u2 : Int)].map V.int))) sp (.lst ([(n0 : Int), (n1 : Int)].map V.int))) sp = some (.lst [V.int (n0 : Int), V.int (n1 : Int)]) := upd_same
        refine ⟨_, rfl, wd, _, rfl, dg_ties (s7 _ _ hwd6), _, rfl, _, rfl, _, rfl, (by show 3 ≤ sizeLine; decide), fun q1 hq1 => ?_⟩
        have s8 := s7.trans (same_new (o := .tup [V.int (i1 : Int), V.int (j1 : Int), V.str kd1]) hq1)
        refine ⟨t, V.int (x1 : Int), rfl, (by rw [← val_of_mem ti.nd hmem]; exact DGet.t (k := [Sum.inl (i1 : Int), Sum.inl (j1 : Int), Sum.inr kd1]) (s8 _ _ ht6) upd_same), ?_⟩
        have hsp8 := same_new (o := .tup [V.int (i1 : Int), V.int (j1 : Int), V.str kd1]) hq1 _ _ hsp7
        refine ⟨_, rfl, _, rfl, sp, _, 0, V.int (n0 : Int), rfl, rfl, SqL.of hsp8, atI_nat (j := 0) rfl, _, rfl, sp, _, 1, V.int (n1 : Int), rfl, rfl, SqL.of hsp8, atI_nat (j := 1) rfl, _, rfl, (by show 3 ≤ sizeLine; decide), fun q2 hq2 => ?_⟩
        have s9 := s8.trans (same_new (o := .tup [V.int (n0 : Int), V.int (n1 : Int), V.str kd1]) hq2)
        refine ⟨t2, _, rfl, DPut.t (k := [Sum.inl (n0 : Int), Sum.inl (n1 : Int), Sum.inr kd1]) (s9 _ _ h26) upd_same (Evl.sz_lt (by omega)), ?_⟩
        refine ⟨_, _, _, _, _, rfl, upd_same, ti6.put ⟨n0, n1, kd1, rfl, h01, h1N, hkw⟩ hx1 hx2, by have := length_putK kv2 [Sum.inl (n0 : Int), Sum.inl (n1 : Int), Sum.inr kd1] (V.int (x1 : Int)); omega, fun b o e h => ?_⟩
        rw [upd_ne h]
        exact s9 _ _ (kp6 b o e h)
      · rintro σ H6 ⟨v7, v8, v9, v10, kv2, rfl, h26, ti6, hl6, kp6⟩
        exact ⟨v7, v8, v9, v10, kv2, rfl, h26, ti6, by omega, fun b o e h => kp6 b o (s5 _ _ e) h⟩
    rintro σ H5 ⟨v7, v8, v9, v10, kv2, rfl, h25, ti5, hl5, kp5⟩
    have S5 : Src H5 sa ca := by
      obtain ⟨cs, l, m, tt, S4⟩ := S4
      exact ⟨cs, l, m, tt, ⟨kp5 _ _ S4.ds n2s.symm, kp5 _ _ S4.dc n2c.symm, S4.nn, S4.len, S4.l0, S4.m0, S4.m1, S4.t0⟩⟩
    have kp05 : Kp sa ca H H5 := fun b o e h1 h2 => kp5 b o (kp04 b o e h1 h2) (ne_of_none e h20)
    have hwd5 := kp5 _ _ hwd4 (ne_of hwd4 h24 (by intro z; cases z))
    have hb5 := kp5 _ _ hb4 (ne_of hb4 h24 (by intro z; cases z))
    have hld5 := kp5 _ _ hld4 (ne_of hld4 h24 (by intro z; cases z))
    have ho5 := kp5 _ _ ho4 (ne_of ho4 h24 (by intro z; cases z))
    have hna5 := kp5 _ _ hna4 (ne_of hna4 h24 (by intro z; cases z))
    have odN : ∀ x ∈ od, x < N := fun x hx => List.mem_range.mp (po.mem_iff.mp hx)
    -- colours
    refine ⟨fun σ H6 => ∃ bc cl2, σ = [some (.ref sa), some (.ref wd), some (.ref ld), some (.ref o), some (.ref na), some (.ref se), some (.ref t2), v7, v8, v9, v10, some (.ref bc), none, none, none] ∧ H bc = none ∧ H6 bc = some (.lst (List.map V.str cl2)) ∧ cl2.length = N ∧ (∀ x ∈ cl2, isWordB x = true) ∧ Same H5 H6, ?_, ?_⟩
    · refine ⟨_, rfl, o, rfl, ⟨_, SqL.of ho5⟩, fun D hD => ?_⟩
      refine lc_list (xs := natV od) (fun i H6 => ∃ cl2, H6 D = some (.lst (List.map V.str cl2)) ∧ cl2.length = i ∧ (∀ x ∈ cl2, isWordB x = true) ∧ Same H5 H6) ⟨[], upd_same, rfl, (fun x hx => (List.not_mem_nil hx).elim), same_new hD⟩ (fun i H6 _ ⟨_, _, _, _, h⟩ => SqL.of (h _ _ ho5)) ?_ ?_
      · rintro i x H6 hi ⟨cl2, hD6, hcl2, hcw2, s6⟩
        have hil := (List.getElem?_eq_some_iff.mp hi).1
        rw [List.length_map] at hil
        rw [List.getElem?_map] at hi
        obtain ⟨y0, hy0, rfl⟩ := Option.map_eq_some_iff.mp hi
        have hyN := odN y0 (List.mem_of_getElem? hy0)
        obtain ⟨cy, hcy⟩ : ∃ cy, cl[y0]? = some cy := ⟨_, List.getElem?_eq_getElem (by omega)⟩
        refine ⟨rfl, tyes ?_⟩
        refine ⟨_, rfl, wd, _, rfl, dg_colours (s6 _ _ hwd5), _, rfl, b, _, _, V.str cy, rfl, rfl, SqL.of (s6 _ _ hb5), atI_nat (by rw [List.getElem?_map, hcy]; rfl), ?_⟩
        refine ⟨_, hD6, Evl.sz_lt (by rw [List.length_map]; omega), cl2 ++ [cy], by rw [upd_same, List.map_append]; rfl, by simp [hcl2], ?_, ?_⟩
        · intro x hx
          rcases List.mem_append.mp hx with z | z
          · exact hcw2 x z
          · rw [List.mem_singleton] at z
            subst z
            exact hcw _ (List.mem_of_getElem? hcy)
        · intro b o e
          rw [upd_ne (ne_of_none e hD)]
          exact s6 b o e
      · rintro H6 ⟨cl2, hD6, hcl2, hcw2, s6⟩
        rw [List.length_map] at hcl2
        exact ⟨D, cl2, rfl, kp05.free S5 hD, hD6, by omega, hcw2, s6⟩
    rintro σ H6 ⟨bc, cl2, rfl, hbc0, hbc, hcl2, hcw2, s6⟩
    have S6 := S5.same s6
    have kp06 := kp05.trans (Kp.same s6)
    obtain ⟨nbs', nbc'⟩ := S.ne hbc0
    -- the answer
    intro p hp
    have sp := same_new (o := .dK []) hp
    have hp0 : H p = none := kp06.free S6 hp
    obtain ⟨nps, npc⟩ := S.ne hp0
    refine ⟨_, rfl, _, rfl, _, rfl, upd_same, worldD na bc t2, rfl, (by show 3 ≤ 15; decide), ?_⟩
    rw [merge_wd]
    have hna6 := s6 _ _ hna5
    have h26 := s6 _ _ h25
    have npn : p ≠ na := fun e => by subst e; rw [hna6] at hp; cases hp
    have npb : p ≠ bc := fun e => by subst e; rw [hbc] at hp; cases hp
    have np2 : p ≠ t2 := fun e => by subst e; rw [h26] at hp; cases hp
    have ud : ∀ b o, H6 b = some o → (upd (upd H6 p (.dK [])) p (.dK (worldD na bc t2))) b = some o := fun b o e => by
      rw [upd_ne (ne_of_none e hp), upd_ne (ne_of_none e hp)]
      exact e
    have hpp : (upd (upd H6 p (.dK [])) p (.dK (worldD na bc t2))) p = some (.dK (worldD na bc t2)) := upd_same
    have s7 : Same H6 (upd (upd H6 p (.dK [])) p (.dK (worldD na bc t2))) := ud
    generalize upd (upd H6 p (.dK [])) p (.dK (worldD na bc t2)) = H7 at *
    refine ⟨_, rfl, o, rfl, ⟨_, SqL.of (s7 _ _ (s6 _ _ ho5))⟩, fun D hD => ?_⟩
    have S7 := S6.same s7
    have kp07 := kp06.trans (Kp.same s7)
    have hD0 : H D = none := kp07.free S7 hD
    refine lc_list (xs := natV od) (fun i H8 => ∃ led', H8 D = some (.lst (natV led')) ∧ led'.length = i ∧ (∀ x ∈ led', x ∈ led) ∧ Same H7 H8) ⟨[], upd_same, rfl, (fun x hx => (List.not_mem_nil hx).elim), same_new hD⟩ (fun i H8 _ ⟨_, _, _, _, h⟩ => SqL.of (h _ _ (s7 _ _ (s6 _ _ ho5)))) ?_ ?_
    · rintro i x H8 hi ⟨led', hD8, hll, hlm, s8⟩
      have hil := (List.getElem?_eq_some_iff.mp hi).1
      rw [List.length_map] at hil
      rw [List.getElem?_map] at hi
      obtain ⟨y0, hy0, rfl⟩ := Option.map_eq_some_iff.mp hi
      have hyN := odN y0 (List.mem_of_getElem? hy0)
      obtain ⟨ly, hly⟩ : ∃ ly, led[y0]? = some ly := ⟨_, List.getElem?_eq_getElem (by omega)⟩
      refine ⟨rfl, tyes ?_⟩
      refine ⟨_, rfl, _, rfl, ld, _, _, V.int (ly : Int), rfl, rfl, SqL.of (s8 _ _ (s7 _ _ (s6 _ _ hld5))), atI_nat (by rw [List.getElem?_map, hly]; rfl), ?_⟩
      refine ⟨_, hD8, Evl.sz_lt (by rw [List.length_map]; omega), led' ++ [ly], by unfold natV; rw [upd_same, List.map_append]; rfl, by simp [hll], ?_, ?_⟩
      · intro x hx
        rcases List.mem_append.mp hx with z | z
        · exact hlm x z
        · rw [List.mem_singleton] at z
          subst z
          exact List.mem_of_getElem? hly
      · intro b o e
        rw [upd_ne (ne_of_none e hD)]
        exact s8 b o e
    · rintro H8 ⟨led', hD8, hll, hlm, s8⟩
      rw [List.length_map] at hll
      refine ⟨(by show 2 ≤ sizeLine; decide), fun r hr => ?_⟩
      have s9 := s8.trans (same_new (o := .tup [.ref p, .ref D]) hr)
      have kp09 := kp07.trans (Kp.same s9)
      refine k r p na bc t2 D nm cl2 kv2 led' _ hp0 hna0 hbc0 h20 hD0 upd_same ⟨s9 _ _ hpp, s9 _ _ (s7 _ _ hna6), s9 _ _ (s7 _ _ hbc), s9 _ _ (s7 _ _ h26), ⟨nps, npc⟩, ⟨nns, nnc⟩, ⟨nbs', nbc'⟩, ⟨n2s, n2c⟩, ?_, ?_, hcw2, by omega, by omega⟩ (by omega) (by rw [hnl]; exact ti5) hl5 (same_new hr _ _ hD8) (by omega) hlm (S7.same s9) kp09
      · refine pn.nodup_iff.mpr (List.Sublist.nodup (List.Sublist.map nameN ?_) nameN_nd)
        exact List.range_sublist.mpr hn2
      · intro x hx
        obtain ⟨y, hy, rfl⟩ := List.mem_map.mp (pn.mem_iff.mp hx)
        exact nameN_w y (by have := List.mem_range.mp hy; omega)
end
end Nm
set_option maxRecDepth 100000
set_option maxHeartbeats 4000000
namespace Nm
open PySem L2
theorem Ties.mono {n m m' : Nat} {kvs : List (List Key × V)} (h : Ties n m kvs) (e : m ≤ m') : Ties n m' kvs := ⟨h.key, fun kv hm => by
  obtain ⟨x, a, b, c⟩ := h.val kv hm
  exact ⟨x, a, b, by omega⟩, h.nd⟩
def SeatsOk (kvS : List (List Key × V)) (led : List Nat) (ok : Nat → Nat → Prop) : Prop := ∀ p u, ok p u → ∃ idx : Nat, led[idx]? = some p ∧ valV kvS [Sum.inl (p : Int), Sum.inl (u : Int)] = some (V.int (idx : Int))
theorem SeatsOk.put {kvS : List (List Key × V)} {led : List Nat} {ok ok' : Nat → Nat → Prop} (h : SeatsOk kvS led ok) {i j : Nat} (e : ∀ p u, ok' p u → ok p u ∨ (p = i ∧ u = j)) :
    SeatsOk (putK kvS [Sum.inl (i : Int), Sum.inl (j : Int)] (V.int (led.length : Int))) (led ++ [i]) ok' := by
  intro p u hp
  rw [valV_put]
  by_cases hk : ([Sum.inl (p : Int), Sum.inl (u : Int)] : List Key) = [Sum.inl (i : Int), Sum.inl (j : Int)]
  · rw [if_pos hk]
    have hpi : p = i := by
      have := Sum.inl.inj (List.cons.inj hk).1
      omega
    exact ⟨led.length, by rw [hpi]; simp, rfl⟩
  · rw [if_neg hk]
    rcases e p u hp with z | ⟨z1, z2⟩
    · obtain ⟨idx, h1, h2⟩ := h p u z
      exact ⟨idx, by rw [List.getElem?_append_left (List.getElem?_eq_some_iff.mp h1).1]; exact h1, h2⟩
    · subst z1 z2
      exact absurd rfl hk
section
variable {κ : Type} [DecidableEq κ]
theorem mem_of_val : ∀ {kvs : List (κ × V)} {k : κ} {v : V}, valV kvs k = some v → (k, v) ∈ kvs
  | [], _, _, h => by cases h
  | kv :: r, k, v, h => by
    by_cases e : kv.1 = k
    · rw [valV_pos e] at h
      cases h
      subst e
      exact List.mem_cons_self
    · rw [valV_neg e] at h
      exact List.mem_cons_of_mem _ (mem_of_val h)
end
theorem two_sorted {ns : List Int} {u1 u2 N : Nat} (pms : ns.Perm [(u1 : Int), (u2 : Int)]) (srt : ns.Pairwise (· ≤ ·)) (hne : u1 ≠ u2) (h1 : u1 < N) (h2 : u2 < N) : ∃ n0 n1 : Nat, ns = [(n0 : Int), (n1 : Int)] ∧ n0 < n1 ∧ n1 < N := by
  have hl2 : ns.length = 2 := pms.length_eq
  match ns, hl2 with
  | [z0, z1], _ =>
    have hle : z0 ≤ z1 := by simpa using srt
    have h0 := pms.mem_iff.mp (show z0 ∈ [z0, z1] by simp)
    have h1 := pms.mem_iff.mp (show z1 ∈ [z0, z1] by simp)
    have h2 := pms.mem_iff.mpr (show (u1 : Int) ∈ [(u1 : Int), (u2 : Int)] by simp)
    have h3 := pms.mem_iff.mpr (show (u2 : Int) ∈ [(u1 : Int), (u2 : Int)] by simp)
    simp at h0 h1 h2 h3
    refine ⟨z0.toNat, z1.toNat, ?_, by omega, by omega⟩
    rw [Int.toNat_of_nonneg (by omega), Int.toNat_of_nonneg (by omega)]
section
variable {P : Program} {w : World} {K : PySem.W.Frag} {mg : Str → Option Value} {base : Heap}
def spPick0 : Sp := fun vs H Q _ => ∃ (s : Addr) (n : Int), vs = [.ref s, .int n] ∧ n < 2 ∧ Q (.int 0) H
/-- pick, of 0 too -/
def spPickZ : Sp := fun vs H Q E => spPick vs H Q E ∨ spPick0 vs H Q E
theorem ok_pickZ {f : Addr} {fd : FuncData} (F : Fun K "_law_pick" "_law_pick" sPick f fd) (T : TxtA mg) : FnOk P w K mg base CX0 1 f fd ["_law_source", "_law_many"] spPickZ := by
  have h0 : FnOk P w K mg base CX0 1 f fd ["_law_source", "_law_many"] spPick0 := by
    refine F.ok scPick (fun vs H Q E h => ?_) (fun cdv A outer s H vs Q E hr h => ?_)
    · obtain ⟨p, n, rfl, _⟩ := h
      rfl
    · obtain ⟨sa, n, rfl, n1, k⟩ := h
      have hu := hu_of hr
      refine ⟨_, pss_cons (ps_if (pt_cmpR op_lt (pv 1) pe_int (nomark _)) (pss_one (ps_ret pe_int)) pss_nil)
        (pss_cons (ps_set (i := 2) scPick.nd rfl (Or.inl rfl) (pe_dget hu (pv 0) pe_str (fun _ _ => rfl)))
        (Evl.pss_cut (ps_while PassesOwn.never (PW.pt (pw_and (pt_cmpR op_lt (pe_dget hu (pv 0) pe_str (fun _ _ => rfl)) pe_int (nomark _)) (pw_and1 (pt_cmpR op_gt (pe_callB call_len_seq (by rfl) T.len PySem.boot_len (pa_cons (pv 2) pa_nil)) pe_int (nomark _)))))
          (pss_one (ps_dput hu (pv 0) pe_str (pe_bm0 PySem.F.plainAttrs_list PySem.F.slot_list_pop PySem.F.type_list_pop mt_pop (pv 2)) rfl)))
        (pss_cons (ps_set (i := 3) scPick.nd rfl (Or.inl rfl) (pe_dget hu (pv 0) pe_str (fun _ _ => rfl)))
        (pss_cons (ps_if (pt_cmpR op_gt (pv 3) pe_int (nomark _))
          (pss_cons (ps_dput hu (pv 0) pe_str (pe_op op_fdiv (pv 3) (pv 1)) rfl) (pss_one (ps_ret (pe_op op_mod (pe_callTy call_int1 (by rfl) T.int (by decide +kernel) (pa_cons (pv 3) pa_nil)) (pv 1))))) pss_nil)
        (pss_cons (ps_dput hu (pv 0) pe_str (pe_op op_add (pe_dget hu (pv 0) pe_str (fun _ _ => rfl)) pe_int) rfl)
        (pss_cons (ps_set (i := 4) scPick.nd rfl (Or.inl rfl) (pe_dget hu (pv 0) pe_str (fun _ _ => rfl)))
        (pss_cons (ps_set (i := 5) scPick.nd rfl (Or.inl rfl) (pe_op op_mod (pe_callTy call_int1 (by rfl) T.int (by decide +kernel) (pa_cons (pe_op op_add (pe_dget hu (pv 0) pe_str (fun _ _ => rfl)) (pe_op op_mul (pv 4) pe_int)) pa_nil)) pe_int))
        (pss_cons (ps_set (i := 5) scPick.nd rfl (Or.inl rfl) (pe_op op_mod (pe_callTy call_int1 (by rfl) T.int (by decide +kernel) (pa_cons (pe_op op_add (pe_op op_mul (pv 5) (pv 5)) (pe_op op_mul (pv 4) pe_int)) pa_nil)) pe_int))
        (pss_one (ps_ret (pe_op op_mod (pe_callTy call_int1 (by rfl) T.int (by decide +kernel) (pa_cons (pe_op op_fdiv (pv 5) pe_int) pa_nil)) (pv 1)))))))))))), ?_⟩
      refine ⟨_, rfl, _, _, rfl, rfl, _, rfl, ?_⟩
      have : decide (n < 2) = true := decide_eq_true n1
      show (if decide (n < 2) = true then _ else _)
      rw [if_pos this]
      exact k
  have h1 := ok_pick (P := P) (w := w) (base := base) F T
  exact ⟨fun vs H Q E h => h.elim (h1.len vs H Q E) (h0.len vs H Q E), fun A outer s H args us vs Q E hr he hb hv h => h.elim (h1.run A outer s H args us vs Q E hr he hb hv) (h0.run A outer s H args us vs Q E hr he hb hv)⟩
/-! ### _law_over -/
def spOver : Sp := fun vs H Q _ => ∃ (s c wd a b t nu : Addr) (nm cl : List Str) (kvs : List (List Key × V)) (ns : List Nat), vs = [.ref s, .ref wd, .ref nu] ∧ Src H s c ∧ WorldOk H s c wd a b t nm cl kvs ∧ Ties nm.length 2 kvs ∧ kvs.length ≤ 300 ∧ nm.length ≤ 10 ∧ H nu = some (.lst (natV ns)) ∧ nu ≠ c ∧ nm.length ≤ ns.length ∧ (∀ x ∈ ns, x ≤ 5) ∧
  (∀ ps, PartsRel nm.length kvs ps → ∃ p ∈ ps, ∃ x, ns[p]? = some x ∧ 1 ≤ x) ∧
  ∀ (r wd' a' b' t' ld' : Addr) (nm' cl' : List Str) (kvs' : List (List Key × V)) (led' : List Nat) (H' : Hp), H wd' = none → H a' = none → H b' = none → H t' = none → H ld' = none → H' r = some (.tup [.ref wd', .ref ld']) → WorldOk H' s c wd' a' b' t' nm' cl' kvs' → nm'.length ≤ 50 → Ties nm'.length 4000 kvs' → kvs'.length ≤ 4000 →
    H' ld' = some (.lst (natV led')) → led'.length = nm'.length → (∀ x ∈ led', x < nm.length) → Src H' s c → Kp s c H H' → Q (.ref r) H'
abbrev nOver : List Str := ["_law_source", "_law_world", "_law_numbers", "_law_parts_here", "_law_led", "_law_seats", "_law_ties", "_law_p", "_law_part", "_law_u", "_law_one", "_law_other", "_law_kind", "_law_many", "_law_unit", "_law_turn", "_law_spot", "_law_key", "_law_colours"]
theorem scOver : FnScope nOver ["_law_source", "_law_world", "_law_numbers"] (defScope sOver) := ⟨rfl, rfl, rfl, by decide +kernel, rfl, by decide +kernel, by decide +kernel⟩
abbrev stO (sa wd nu pa ld se t2 : Addr) (v7 v8 v9 v10 v11 v12 v13 v14 v15 v16 v17 v18 : Option V) : L2.St := [some (.ref sa), some (.ref wd), some (.ref nu), some (.ref pa), some (.ref ld), some (.ref se), some (.ref t2), v7, v8, v9, v10, v11, v12, v13, v14, v15, v16, v17, v18]
theorem ok_over {f : Addr} {fd : FuncData} (F : Fun K "_law_over" "_law_over" sOver f fd) (T : TxtD mg) (Gz : Def P w K mg base "_law_pick" ["_law_source", "_law_many"] 1 spPickZ) (Gq : Def P w K mg base "_law_parts" ["_law_world"] 1 spParts)
    (Gs : Def P w K mg base "_law_seated" ["_law_source", "_law_world", "_law_led"] 3 spSeated) : FnOk P w K mg base CX0 4 f fd ["_law_source", "_law_world", "_law_numbers"] spOver := by
  obtain ⟨fp, fdp, Gp, mp, kp, bp⟩ := Gz.ex
  obtain ⟨fq, fdq, Gq, mq, kq, bq⟩ := Gq.ex
  obtain ⟨fs, fds, Gs, ms, ks, bs⟩ := Gs.ex
  refine F.ok scOver (fun vs H Q E h => ?_) (fun cdv A outer s H vs Q E hr h => ?_)
  · obtain ⟨_, _, _, _, _, _, _, _, _, _, _, rfl, _⟩ := h
    rfl
  · obtain ⟨sa, ca, wd, a, b, t, nu, nm, cl, kvs, ns, rfl, S, W, ti, hkl, hn10, hnu, nnc, hnsl, hns10, hone, k⟩ := h
    have hu := hu_of hr
    have hr1 := hr.mono (by decide : 1 ≤ 3)
    refine ⟨_, Evl.pss_cut (ps_asg (pe_tup (pa_cons (pe_call Gq hr1 (by rfl) mq kq bq .nil pass0 (pa_cons (pv 1) pa_nil)) (pa_cons (pe_lst pa_nil) (pa_cons pe_dnewT (pa_cons pe_dnewT pa_nil))))) (pg_tup rfl (pgs_cons (pg_name (i := 3) scOver.nd rfl (.inl rfl)) (pgs_cons (pg_name (i := 4) scOver.nd rfl (.inl rfl)) (pgs_cons (pg_name (i := 5) scOver.nd rfl (.inl rfl)) (pgs_cons (pg_name (i := 6) scOver.nd rfl (.inl rfl)) pgs_nil))))))
      (Evl.pss_cut (ps_for PassesOwn.never rfl (pi_enum (by rfl) T.enumerate (pa_cons (pv 3) pa_nil)) (pg_tup rfl (pgs_cons (pg_name (i := 7) scOver.nd rfl (.inl rfl)) (pgs_cons (pg_name (i := 8) scOver.nd rfl (.inl rfl)) pgs_nil)))
        (pss_one (ps_for PassesOwn.never rfl (pi_range1 (by rfl) T.range (pa_cons (pe_ix ix_list (pv 2) (pv 8) (fun _ _ => rfl)) pa_nil)) (pg_name (i := 9) scOver.nd rfl (Or.inl rfl))
          (pss_cons (ps_dput hu (pv 5) (pe_tup (pa_cons (pv 7) (pa_cons (pv 9) pa_nil))) (pe_callB call_len_seq (by rfl) T.len PySem.boot_len (pa_cons (pv 4) pa_nil)) rfl)
          (pss_one (ps_expr (pe_bm PySem.F.plainAttrs_list PySem.F.slot_list_append PySem.F.type_list_append mt_append (pv 4) (pa_cons (pv 7) pa_nil))))))))
      (Evl.pss_cut (ps_for PassesOwn.never rfl (pi_list (pe_callB cr_sortedR (by rfl) T.sorted (by decide +kernel) (pa_cons (pe_callTy (call_list_dT rfl) (by rfl) T.list (by decide +kernel) (pa_cons (pe_dget hu (pv 1) pe_str (fun _ _ => rfl)) pa_nil)) pa_nil)))
          (pg_tup rfl (pgs_cons (pg_name (i := 10) scOver.nd rfl (.inl rfl)) (pgs_cons (pg_name (i := 11) scOver.nd rfl (.inl rfl)) (pgs_cons (pg_name (i := 12) scOver.nd rfl (.inl rfl)) pgs_nil))))
        (pss_cons (ps_set (i := 13) scOver.nd rfl (Or.inl rfl) (pe_ix ix_list (pv 2) (pe_ix ix_list (pv 3) (pv 10) (fun _ _ => rfl)) (fun _ _ => rfl)))
        (pss_one (ps_for PassesOwn.never rfl (pi_range1 (by rfl) T.range (pa_cons (pe_dget hu (pe_dget hu (pv 1) pe_str (fun _ _ => rfl)) (pe_tup (pa_cons (pv 10) (pa_cons (pv 11) (pa_cons (pv 12) pa_nil)))) (fun _ _ => rfl)) pa_nil)) (pg_name (i := 14) scOver.nd rfl (Or.inl rfl))
          (Evl.pss_cut (ps_set (i := 15) scOver.nd rfl (Or.inl rfl) (pe_call Gp hr1 (by rfl) mp kp bp .nil pass0 (pa_cons (pv 0) (pa_cons (pv 13) pa_nil))))
          (pss_one (ps_for PassesOwn.never rfl (pi_range1 (by rfl) T.range (pa_cons (pv 13) pa_nil)) (pg_name (i := 9) scOver.nd rfl (Or.inl rfl))
            (pss_cons (ps_set (i := 16) scOver.nd rfl (Or.inl rfl) (pe_callB cr_sorted (by rfl) T.sorted (by decide +kernel) (pa_cons (pe_lst (pa_cons (pe_dget hu (pv 5) (pe_tup (pa_cons (pv 10) (pa_cons (pv 9) pa_nil))) (fun _ _ => rfl)) (pa_cons (pe_dget hu (pv 5) (pe_tup (pa_cons (pv 11) (pa_cons (pe_op op_mod (pe_callTy call_int1 (by rfl) T.int (by decide +kernel) (pa_cons (pe_op op_add (pv 9) (pv 15)) pa_nil)) (pv 13)) pa_nil))) (fun _ _ => rfl)) pa_nil))) pa_nil)))
            (pss_cons (ps_set (i := 17) scOver.nd rfl (Or.inl rfl) (pe_tup (pa_cons (pe_ix ix_list (pv 16) pe_int (fun _ _ => rfl)) (pa_cons (pe_ix ix_list (pv 16) pe_int (fun _ _ => rfl)) (pa_cons (pv 12) pa_nil)))))
            (pss_one (ps_dput hu (pv 6) (pv 17) (pe_op op_add (pe_dget2 hu (pv 6) (pv 17) pe_int ⟨rfl, rfl, rfl, rfl⟩) pe_int) rfl)))))))))))
      (Evl.pss_cut (ps_setLc (i := 18) (own := [("_law_p", 7)]) (g := gName 7) (tt := tYes) (te := tOp (rIxL K) (tDGet (tVar 1) (tC (.str "colours"))) (tVar 7)) rfl scOver.nd rfl rfl (sw_true rfl rfl rfl (by decide +kernel)) (pi_list (pv 4))
          (blkOk_by (N := nOver) (sc := defScope sOver) (by decide +kernel)) (fun _ _ _ _ _ => pg_name (i := 7) scOver.nd rfl (Or.inl rfl)) (fun _ _ _ _ _ => pts_nil)
          (fun _ _ _ _ _ => by exact pe_ix ix_list (pe_dget hu (pv 1) pe_str (fun _ _ => rfl)) (pv 7) (fun _ _ => rfl)))
      (pss_one (ps_ret (pe_call Gs hr (by rfl) ms ks bs .nil pass0 (pa_cons (pv 0) (pa_cons (pe_disp (pps_cons pe_str (pv 4) (pps_cons pe_str (pv 18) (pps_cons pe_str (pv 6) pps_nil))) (by rfl) (by rfl) (fun z => by cases z) (by decide)) (pa_cons (pv 4) pa_nil))))))))), ?_⟩
    generalize hn : nm.length = n at *
    refine ⟨fun σ H2 => ∃ pa ps ld se t2, σ = stO sa wd nu pa ld se t2 none none none none none none none none none none none none ∧ (H pa = none ∧ H ld = none ∧ H se = none ∧ H t2 = none ∧ pa ≠ ld ∧ se ≠ t2) ∧ H2 pa = some (.lst (natV ps)) ∧ ps.length = n ∧ (∀ x ∈ ps, x < n) ∧
        (∀ (i j : Nat) (kd : Str) (v : V), ([Sum.inl (i : Int), Sum.inl (j : Int), Sum.inr kd], v) ∈ kvs → ps[i]? = ps[j]?) ∧ PartsRel n kvs ps ∧ H2 ld = some (.lst []) ∧ H2 se = some (.dT []) ∧ H2 t2 = some (.dT []) ∧ Same H H2, ?_, ?_⟩
    · refine ⟨_, rfl, wd, a, b, t, _, 2, kvs, rfl, W.d, W.hn, W.ht, by rw [List.length_map]; omega, by omega, by rw [List.length_map, hn]; exact ti, fun pa ps H1 hpa0 hpa hpl hpn hpe hpr s1 => ?_⟩
      rw [List.length_map, hn] at hpl hpn hpr
      refine ⟨(by show 0 ≤ sizeLine; decide), fun ld hld => ?_⟩
      intro se hse t2 ht2
      refine ⟨(by show 4 ≤ sizeLine; decide), fun tp htp => ?_⟩
      obtain ⟨n1, hse1⟩ := nx hse
      obtain ⟨n2, ht2'⟩ := nx ht2
      obtain ⟨n3, ht21⟩ := nx ht2'
      have a1 := same_new (o := .lst []) hld
      have a2 := same_new (o := .dT []) hse
      have a3 := same_new (o := .dT []) ht2
      have a4 := same_new (o := .tup [V.ref pa, V.ref ld, V.ref se, V.ref t2]) htp
      refine ⟨tp, _, rfl, SqT.of upd_same, rfl, _, _, rfl, _, _, rfl, _, _, rfl, _, _, rfl, rfl, ?_⟩
      exact ⟨pa, ps, ld, se, t2, rfl, ⟨hpa0, s1.free hld, s1.free hse1, s1.free ht21, ne_of_none hpa hld, n2.symm⟩, a4 _ _ (a3 _ _ (a2 _ _ (a1 _ _ hpa))), hpl, hpn, hpe, hpr, a4 _ _ (a3 _ _ (a2 _ _ upd_same)), a4 _ _ (a3 _ _ upd_same), a4 _ _ upd_same, (((s1.trans a1).trans a2).trans a3).trans a4⟩
    rintro σ H2 ⟨pa, ps, ld, se, t2, rfl, ⟨hpa0, hld0, hse0, ht20, npl, nst⟩, hpa, hpl, hpn, hpe, hpr, hld, hse, ht2, s2⟩
    have W2 := W.same s2
    have S2 := S.same s2
    have hnu2 := s2 _ _ hnu
    obtain ⟨nls, nlc⟩ := S.ne hld0
    obtain ⟨nes, nec⟩ := S.ne hse0
    obtain ⟨n2s, n2c⟩ := S.ne ht20
    obtain ⟨nps, npc⟩ := S.ne hpa0
    have nnl : nu ≠ ld := fun e => by subst e; rw [hld0] at hnu; cases hnu
    have nne : nu ≠ se := ne_of hnu2 hse (by intro z; cases z)
    have npe : pa ≠ se := ne_of hpa hse (by intro z; cases z)
    have nle : ld ≠ se := ne_of hld hse (by intro z; cases z)
    -- seats
    refine ⟨fun σ H3 => ∃ v7 v8 v9 led kvS, σ = stO sa wd nu pa ld se t2 v7 v8 v9 none none none none none none none none none ∧ H3 ld = some (.lst (natV led)) ∧ H3 se = some (.dT kvS) ∧ (∀ x ∈ led, x < n) ∧ led.length ≤ 50 ∧ 1 ≤ led.length ∧
        SeatsOk kvS led (fun p u => ∃ q c, ps[p]? = some q ∧ ns[q]? = some c ∧ u < c) ∧ (∀ b o, H2 b = some o → b ≠ ld → b ≠ se → H3 b = some o), ?_, ?_⟩
    · refine ⟨_, rfl, pa, _, rfl, SqL.of hpa, ?_⟩
      refine for_it (walk_enum (xs := natV ps)) (fun i σ H3 => ∃ v7 v8 v9 led kvS, σ = stO sa wd nu pa ld se t2 v7 v8 v9 none none none none none none none none none ∧ H3 ld = some (.lst (natV led)) ∧ H3 se = some (.dT kvS) ∧ (∀ x ∈ led, x < n) ∧ led.length ≤ 5 * i ∧ kvS.length ≤ led.length ∧
          SeatsOk kvS led (fun p u => p < i ∧ ∃ q c, ps[p]? = some q ∧ ns[q]? = some c ∧ u < c) ∧ (∀ b o, H2 b = some o → b ≠ ld → b ≠ se → H3 b = some o))
        ⟨none, none, none, [], [], rfl, hld, hse, (fun x hx => (List.not_mem_nil hx).elim), by simp, Nat.le_refl _, fun p u h => by omega, fun b o e _ _ => e⟩ (fun i σ H3 _ ⟨_, _, _, _, _, _, _, _, _, _, _, _, h⟩ => SqL.of (h _ _ hpa npl npe)) ?_ ?_
      · rintro i x σ H3 H4 hi ⟨v7, v8, v9, led, kvS, rfl, hld3, hse3, hln, hll, hkS, hS, fr3⟩ ⟨T, x1, y1, rfl, hT, rfl, e1, e2⟩
        rw [List.length_map] at hi
        have e2 : (natV ps)[i]? = some y1 := e2
        rw [List.getElem?_map] at e2
        obtain ⟨q, hq, rfl⟩ := Option.map_eq_some_iff.mp e2
        cases e1
        have hqn := hpn q (List.mem_of_getElem? hq)
        obtain ⟨c, hc⟩ : ∃ c, ns[q]? = some c := ⟨_, List.getElem?_eq_getElem (by omega)⟩
        have hc10 := hns10 c (List.mem_of_getElem? hc)
        have sT := same_new (o := .tup [V.int (i : Nat), V.int (q : Int)]) hT
        have nTl : T ≠ ld := fun e => by subst e; rw [hld3] at hT; cases hT
        have nTe : T ≠ se := fun e => by subst e; rw [hse3] at hT; cases hT
        refine ⟨T, _, rfl, SqT.of upd_same, rfl, _, _, rfl, _, _, rfl, rfl, ?_⟩
        refine ⟨_, rfl, _, rfl, nu, _, _, V.int (c : Int), rfl, rfl, SqL.of (sT _ _ (fr3 _ _ hnu2 nnl nne)), atI_nat (by rw [List.getElem?_map, hc]; rfl), _, rfl, by omega, by omega, ?_⟩
        refine for_range (lo := 0) (n := (c : Int).toNat) (fun j σ H5 => ∃ v9 led kvS, σ = stO sa wd nu pa ld se t2 (some (.int (i : Nat))) (some (.int (q : Int))) v9 none none none none none none none none none ∧ H5 ld = some (.lst (natV led)) ∧ H5 se = some (.dT kvS) ∧ (∀ x ∈ led, x < n) ∧ led.length ≤ 5 * i + j ∧ kvS.length ≤ led.length ∧
            SeatsOk kvS led (fun p u => (p < i ∧ ∃ q c, ps[p]? = some q ∧ ns[q]? = some c ∧ u < c) ∨ (p = i ∧ u < j)) ∧ (∀ b o, H2 b = some o → b ≠ ld → b ≠ se → H5 b = some o))
          ⟨v9, led, kvS, rfl, sT _ _ hld3, sT _ _ hse3, hln, by omega, hkS, fun p u h => hS p u (h.resolve_right (by omega)), fun b o e h1 h2 => sT _ _ (fr3 b o e h1 h2)⟩ ?_ ?_
        · rintro j σ H5 hj ⟨v9, led, kvS, rfl, hld5, hse5, hln, hll, hkS, hS, fr5⟩
          have hj' : j < c := by omega
          refine ⟨_, rfl, ld, _, rfl, .inl (SqL.of hld5), _, rfl, _, rfl, _, rfl, (by show 2 ≤ sizeLine; decide), fun u hu => ?_⟩
          have su := same_new (o := .tup [V.int (i : Nat), V.int (0 + (j : Int))]) hu
          refine ⟨se, _, rfl, DPut.t (k := [Sum.inl ((i : Nat) : Int), Sum.inl (0 + (j : Int))]) (su _ _ hse5) upd_same (Evl.sz_lt (by omega)), ?_⟩
          have nul : u ≠ ld := fun e => by subst e; rw [hld5] at hu; cases hu
          have hld6 : (upd (upd H5 u (.tup [V.int (i : Nat), V.int (0 + (j : Int))])) se (.dT (putK kvS [Sum.inl ((i : Nat) : Int), Sum.inl (0 + (j : Int))] (V.int ((natV led).length : Int))))) ld = some (.lst (natV led)) := by rw [upd_ne nle]; exact su _ _ hld5
          refine ⟨_, rfl, .inl ⟨rfl, _, SqL.of hld6⟩, _, rfl, ld, _, _, rfl, rfl, hld6, Evl.sz_lt (by rw [List.length_map]; omega), ?_⟩
          refine ⟨_, led ++ [i], _, rfl, by unfold natV; rw [upd_same, List.map_append]; rfl, by rw [upd_ne nle.symm, upd_same], ?_, by simp; omega, ?_, ?_, ?_⟩
          · intro x hx
            rcases List.mem_append.mp hx with z | z
            · exact hln x z
            · rw [List.mem_singleton] at z
              omega
          · have := length_putK kvS [Sum.inl ((i : Nat) : Int), Sum.inl (0 + (j : Int))] (V.int ((natV led).length : Int))
            simp only [List.length_append, List.length_singleton]
            omega
          · rw [Int.zero_add, List.length_map]
            exact hS.put fun p u h => by
              rcases h with h | ⟨h1, h2⟩
              · exact .inl (.inl h)
              · by_cases e : u = j
                · exact .inr ⟨h1, e⟩
                · exact .inl (.inr ⟨h1, by omega⟩)
          · intro b o e h1 h2
            rw [upd_ne h1, upd_ne h2]
            exact su _ _ (fr5 b o e h1 h2)
        · rintro σ H5 ⟨v9, led, kvS, rfl, hld5, hse5, hln, hll, hkS, hS, fr5⟩
          refine ⟨_, _, v9, led, kvS, rfl, hld5, hse5, hln, by omega, hkS, fun p u h => hS p u ?_, fr5⟩
          obtain ⟨h1, q', c', h2, h3, h4⟩ := h
          by_cases e : p = i
          · subst e
            rw [hq] at h2
            cases h2
            rw [hc] at h3
            cases h3
            exact .inr ⟨rfl, by omega⟩
          · exact .inl ⟨by omega, q', c', h2, h3, h4⟩
      · rintro σ H3 ⟨v7, v8, v9, led, kvS, rfl, hld3, hse3, hln, hll, hkS, hS, fr3⟩
        rw [List.length_map] at hll hS
        have hS' : SeatsOk kvS led (fun p u => ∃ q c, ps[p]? = some q ∧ ns[q]? = some c ∧ u < c) := fun p u h => hS p u ⟨by obtain ⟨q, c, h1, _⟩ := h; exact (List.getElem?_eq_some_iff.mp h1).1, h⟩
        refine ⟨v7, v8, v9, led, kvS, rfl, hld3, hse3, hln, by omega, ?_, hS', fr3⟩
        obtain ⟨p, hp, x, hx, hx1⟩ := hone ps hpr
        obtain ⟨idx, hidx⟩ := List.getElem?_of_mem hp
        obtain ⟨z, hz, _⟩ := hS' idx 0 ⟨p, x, hidx, hx, by omega⟩
        have := (List.getElem?_eq_some_iff.mp hz).1
        omega
    rintro σ H3 ⟨v7, v8, v9, led, kvS, rfl, hld3, hse3, hln, hl100, hl1, hS, fr3⟩
    have S3 : Src H3 sa ca := by
      obtain ⟨cs, l, m, tt, S2⟩ := S2
      exact ⟨cs, l, m, tt, ⟨fr3 _ _ S2.ds nls.symm nes.symm, fr3 _ _ S2.dc nlc.symm nec.symm, S2.nn, S2.len, S2.l0, S2.m0, S2.m1, S2.t0⟩⟩
    have fr03 : ∀ b o, H b = some o → H3 b = some o := fun b o e => fr3 _ _ (s2 _ _ e) (ne_of_none e hld0) (ne_of_none e hse0)
    have W3 := W.same fr03
    have hnu3 := fr03 _ _ hnu
    have hpa3 := fr3 _ _ hpa npl npe
    have nt2l : t2 ≠ ld := (ne_of hld ht2 (by intro z; cases z)).symm
    have ht23 := fr3 _ _ ht2 nt2l nst.symm
    have npt2 : pa ≠ t2 := ne_of hpa ht2 (by intro z; cases z)
    have nut2 : nu ≠ t2 := ne_of hnu2 ht2 (by intro z; cases z)
    have ntt2 : t ≠ t2 := ne_of_none W.ht ht20
    have nus : nu ≠ sa := by
      obtain ⟨cs, l, m, tt, S0⟩ := S
      exact ne_of hnu S0.ds (by intro z; cases z)
    generalize hNN : led.length = N at *
    -- ties
    refine ⟨fun σ H6 => ∃ v9 v10 v11 v12 v13 v14 v15 v16 v17 kv2, σ = stO sa wd nu pa ld se t2 v7 v8 v9 v10 v11 v12 v13 v14 v15 v16 v17 none ∧ H6 t2 = some (.dT kv2) ∧ Ties N 4000 kv2 ∧ kv2.length ≤ 4000 ∧ Src H6 sa ca ∧ Kp3 sa ca t2 H3 H6, ?_, ?_⟩
    · refine ⟨_, rfl, wd, _, rfl, dg_ties W3.d, t, kvs, rfl, .inl W3.ht, fun l bs hl hk => ?_⟩
      obtain ⟨kl, hbl⟩ := keyL_of hk
      have kl2 := kl.same (same_new (o := .lst (bs.map V.ref)) hl)
      obtain ⟨so1, so2⟩ := sort_ties kl2 ti
      refine ⟨l, _, _, rfl, SqL.of upd_same, so1, so2, fun ys p pm hp => ?_⟩
      have s5 := (same_new (o := .lst (bs.map V.ref)) hl).trans (same_new (o := .lst ys) hp)
      have kly : KeyL (upd (upd H3 l (.lst (bs.map V.ref))) p (.lst ys)) kvs ys := fun y hy => (kl.same s5) y (pm.subset hy)
      have hpp : (upd (upd H3 l (.lst (bs.map V.ref))) p (.lst ys)) p = some (.lst ys) := upd_same
      have hyl : ys.length ≤ 300 := by rw [pm.length_eq, List.length_map]; omega
      have hp3 : H3 p = none := (same_new hl).free hp
      have np2 : p ≠ t2 := fun e => by subst e; rw [ht23] at hp3; cases hp3
      obtain ⟨nps', npc'⟩ := S3.ne hp3
      have S5 := S3.same s5
      generalize upd (upd H3 l (.lst (bs.map V.ref))) p (.lst ys) = H5 at *
      refine ⟨p, rfl, ⟨_, SqL.of hpp⟩, ?_⟩
      refine for_list (xs := ys) (fun i σ H6 => ∃ v9 v10 v11 v12 v13 v14 v15 v16 v17 kv2, σ = stO sa wd nu pa ld se t2 v7 v8 v9 v10 v11 v12 v13 v14 v15 v16 v17 none ∧ H6 t2 = some (.dT kv2) ∧ Ties N (10 * i) kv2 ∧ kv2.length ≤ 10 * i ∧ Src H6 sa ca ∧ Kp3 sa ca t2 H5 H6)
        ⟨v9, none, none, none, none, none, none, none, none, [], rfl, s5 _ _ ht23, Ties.nil N _, Nat.zero_le _, S5, Kp3.refl H5⟩ (fun i σ H6 _ ⟨_, _, _, _, _, _, _, _, _, _, _, _, _, _, _, h⟩ => SqL.of (h _ _ hpp nps' npc' np2)) ?_ ?_
      · rintro i y σ H6 hi ⟨v9, v10, v11, v12, v13, v14, v15, v16, v17, kv2, rfl, h26, ti6, hl6, S6, kp6⟩
        have hil := (List.getElem?_eq_some_iff.mp hi).1
        obtain ⟨b1, i1, j1, x1, kd1, rfl, hb1, hmem, hij, hjn, hkw, hx1, hx2⟩ := kly.tie ti (List.mem_of_getElem? hi)
        have stay : ∀ b o, H3 b = some o → b ≠ sa → b ≠ ca → b ≠ t2 → H6 b = some o := fun b o e h1 h2 h3 => kp6 b o (s5 _ _ e) h1 h2 h3
        have hb6 : H6 b1 = some (.tup [.int (i1 : Int), .int (j1 : Int), .str kd1]) := by
          obtain ⟨cs, l', m, tt, S5'⟩ := S5
          exact kp6 _ _ hb1 (ne_of hb1 S5'.ds (by intro z; cases z)) (ne_of hb1 S5'.dc (by intro z; cases z)) (ne_of hb1 (s5 _ _ ht23) (by intro z; cases z))
        obtain ⟨q, hq⟩ : ∃ q, ps[i1]? = some q := ⟨_, List.getElem?_eq_getElem (by omega)⟩
        have hq2 : ps[j1]? = some q := by rw [← hpe i1 j1 kd1 _ hmem]; exact hq
        have hqn := hpn q (List.mem_of_getElem? hq)
        obtain ⟨c, hc⟩ : ∃ c, ns[q]? = some c := ⟨_, List.getElem?_eq_getElem (by omega)⟩
        have hc10 := hns10 c (List.mem_of_getElem? hc)
        refine ⟨b1, _, rfl, SqT.of hb6, rfl, _, _, rfl, _, _, rfl, _, _, rfl, rfl, ?_⟩
        refine ⟨_, rfl, _, rfl, _, rfl, pa, _, _, V.int (q : Int), rfl, rfl, SqL.of (stay _ _ hpa3 nps npc npt2), atI_nat (by rw [List.getElem?_map, hq]; rfl), nu, _, _, V.int (c : Int), rfl, rfl, SqL.of (stay _ _ hnu3 nus nnc nut2), atI_nat (by rw [List.getElem?_map, hc]; rfl), ?_⟩
        have hwd6 := stay _ _ W3.d W3.ds.1 W3.ds.2 (ne_of W3.d ht23 (by intro z; cases z))
        have ht6 := stay _ _ W3.ht W3.ts.1 W3.ts.2 ntt2
        refine ⟨_, rfl, wd, _, rfl, dg_ties hwd6, _, rfl, _, rfl, _, rfl, (by show 3 ≤ sizeLine; decide), fun q1 hq1 => ?_⟩
        have s7 := same_new (o := .tup [V.int (i1 : Int), V.int (j1 : Int), V.str kd1]) hq1
        refine ⟨t, V.int (x1 : Int), rfl, (by rw [← val_of_mem ti.nd hmem]; exact DGet.t (k := [Sum.inl (i1 : Int), Sum.inl (j1 : Int), Sum.inr kd1]) (s7 _ _ ht6) upd_same), _, rfl, by omega, by omega, ?_⟩
        refine for_range (lo := 0) (n := (x1 : Int).toNat) (fun un σ H7 => ∃ v9 v14 v15 v16 v17 kv2, σ = stO sa wd nu pa ld se t2 v7 v8 v9 (some (.int (i1 : Int))) (some (.int (j1 : Int))) (some (.str kd1)) (some (.int (c : Int))) v14 v15 v16 v17 none ∧ H7 t2 = some (.dT kv2) ∧ Ties N (10 * i + 5 * un) kv2 ∧ kv2.length ≤ 10 * i + 5 * un ∧ Src H7 sa ca ∧ Kp3 sa ca t2 H5 H7)
          ⟨v9, v14, v15, v16, v17, kv2, rfl, s7 _ _ h26, ti6.mono (by omega), by omega, S6.same s7, kp6.kp (Kp.same s7)⟩ ?_ ?_
        · rintro un σ H7 hun ⟨v9, v14, v15, v16, v17, kv2, rfl, h27, ti7, hl7, S7, kp7⟩
          have hun' : un < x1 := by omega
          refine ⟨fun σ H8 => ∃ tu : Nat, σ = stO sa wd nu pa ld se t2 v7 v8 v9 (some (.int (i1 : Int))) (some (.int (j1 : Int))) (some (.str kd1)) (some (.int (c : Int))) (some (.int (0 + (un : Int)))) (some (.int (tu : Int))) v16 v17 none ∧ (1 ≤ c → tu < c) ∧ H8 t2 = some (.dT kv2) ∧ Src H8 sa ca ∧ Kp3 sa ca t2 H5 H8, ?_, ?_⟩
          · refine ⟨_, rfl, _, rfl, ?_⟩
            by_cases hc0 : 1 ≤ c
            · refine .inl ⟨sa, ca, _, rfl, S7, by omega, by omega, fun kk H8 k0 k1 S8 kp8 => ?_⟩
              refine ⟨kk.toNat, ?_, fun _ => by omega, kp8 _ _ h27 n2s n2c, S8, kp7.kp kp8⟩
              rw [Int.toNat_of_nonneg k0]
              rfl
            · exact .inr ⟨sa, _, rfl, by omega, 0, rfl, fun h => absurd h hc0, h27, S7, kp7⟩
          rintro σ H8 ⟨tu, rfl, htu, h28, S8, kp8⟩
          refine ⟨_, rfl, _, rfl, by omega, by omega, ?_⟩
          refine for_range (lo := 0) (n := (c : Int).toNat) (fun wu σ H9 => ∃ v9 v16 v17 kv2, σ = stO sa wd nu pa ld se t2 v7 v8 v9 (some (.int (i1 : Int))) (some (.int (j1 : Int))) (some (.str kd1)) (some (.int (c : Int))) (some (.int (0 + (un : Int)))) (some (.int (tu : Int))) v16 v17 none ∧ H9 t2 = some (.dT kv2) ∧ Ties N (10 * i + 5 * un + wu) kv2 ∧ kv2.length ≤ 10 * i + 5 * un + wu ∧ Src H9 sa ca ∧ Kp3 sa ca t2 H5 H9)
            ⟨v9, v16, v17, kv2, rfl, h28, ti7, hl7, S8, kp8⟩ ?_ ?_
          · rintro wu σ H9 hwu ⟨v9, v16, v17, kv2, rfl, h29, ti9, hl9, S9, kp9⟩
            have hwc : wu < c := by omega
            have stay9 : ∀ b o, H3 b = some o → b ≠ sa → b ≠ ca → b ≠ t2 → H9 b = some o := fun b o e h1 h2 h3 => kp9 b o (s5 _ _ e) h1 h2 h3
            have hse9 := stay9 _ _ hse3 nes nec nst
            obtain ⟨u1, hu1, hv1⟩ := hS i1 wu ⟨q, c, hq, hc, hwc⟩
            have hmod : ∃ z : Nat, (0 + (wu : Int) + (tu : Int)) % (c : Int) = (z : Int) ∧ z < c := by
              have h1 := Int.emod_nonneg (0 + (wu : Int) + (tu : Int)) (show (c : Int) ≠ 0 by omega)
              have h2 := Int.emod_lt_of_pos (0 + (wu : Int) + (tu : Int)) (show (0 : Int) < c by omega)
              exact ⟨((0 + (wu : Int) + (tu : Int)) % (c : Int)).toNat, by rw [Int.toNat_of_nonneg h1], by omega⟩
            obtain ⟨z, hz, hzc⟩ := hmod
            obtain ⟨u2, hu2, hv2⟩ := hS j1 z ⟨q, c, hq2, hc, hzc⟩
            have hu1N := (List.getElem?_eq_some_iff.mp hu1).1
            have hu2N := (List.getElem?_eq_some_iff.mp hu2).1
            have hne : u1 ≠ u2 := fun e => by subst e; rw [hu1] at hu2; have := Option.some.inj hu2; omega
            refine ⟨_, rfl, _, rfl, _, rfl, (by show 2 ≤ sizeLine; decide), fun q2 hq2' => ?_⟩
            have s10 := same_new (o := .tup [V.int (i1 : Int), V.int (0 + (wu : Int))]) hq2'
            refine ⟨se, V.int (u1 : Int), rfl, (by rw [← hv1]; refine DGet.t (k := [Sum.inl (i1 : Int), Sum.inl (wu : Int)]) (s10 _ _ hse9) ?_; rw [upd_same, Int.zero_add]; rfl), ?_⟩
            refine ⟨_, rfl, _, rfl, _, rfl, _, rfl, _, _, rfl, rfl, .inl ⟨_, rfl, _, rfl, _, _, rfl, rfl, by show (0 : Int) < c; omega, (by show 2 ≤ sizeLine; decide), fun q3 hq3 => ?_⟩⟩
            have s11 := s10.trans (same_new (o := .tup [V.int (j1 : Int), V.int ((0 + (wu : Int) + (tu : Int)) % (c : Int))]) hq3)
            refine ⟨se, V.int (u2 : Int), rfl, (by rw [← hv2]; refine DGet.t (k := [Sum.inl (j1 : Int), Sum.inl (z : Int)]) (s11 _ _ hse9) ?_; rw [upd_same]; show some (HO.tup [V.int (j1 : Int), V.int ((0 + (wu : Int) + (tu : Int)) % (c : Int))]) = _; rw [hz]; rfl), (by show 2 ≤ sizeLine; decide), fun l1 hl1 => ?_⟩
            refine ⟨l1, [(u1 : Int), (u2 : Int)], rfl, SqL.of upd_same, (by show 2 < 64; decide), fun ns' sp pms srt hsp => ?_⟩
            obtain ⟨n0, n1, rfl, h01, h1N⟩ := two_sorted pms srt hne (by omega : u1 < N) (by omega)
            have s12 := (s11.trans (same_new (o := .lst ([(u1 : Int), (u2 : Int)].map V.int)) hl1)).trans (same_new (o := .lst ([(n0 : Int), (n1 : Int)].map V.int)) hsp)
            refine ⟨_, rfl, sp, _, 0, V.int (n0 : Int), rfl, rfl, SqL.of upd_same, atI_nat (j := 0) rfl, _, rfl, sp, _, 1, V.int (n1 : Int), rfl, rfl, SqL.of upd_same, atI_nat (j := 1) rfl, _, rfl, (by show 3 ≤ sizeLine; decide), fun kt hkt => ?_⟩
            have s13 := s12.trans (same_new (o := .tup [V.int (n0 : Int), V.int (n1 : Int), V.str kd1]) hkt)
            have h213 := s13 _ _ h29
            refine ⟨_, rfl, t2, rfl, .inr ⟨kv2, .inl h213⟩, _, rfl, valV kv2 [Sum.inl (n0 : Int), Sum.inl (n1 : Int), Sum.inr kd1], DGet.t (k := [Sum.inl (n0 : Int), Sum.inl (n1 : Int), Sum.inr kd1]) h213 upd_same, ?_⟩
            obtain ⟨x, hx, hxm⟩ : ∃ x : Nat, (valV kv2 [Sum.inl (n0 : Int), Sum.inl (n1 : Int), Sum.inr kd1]).getD (V.int 0) = V.int (x : Int) ∧ x ≤ 10 * i + 5 * un + wu := by
              cases e : valV kv2 [Sum.inl (n0 : Int), Sum.inl (n1 : Int), Sum.inr kd1] with
              | none => exact ⟨0, rfl, Nat.zero_le _⟩
              | some v =>
                obtain ⟨x, h1, _, h3⟩ := ti9.val _ (mem_of_val e)
                exact ⟨x, h1, h3⟩
            rw [hx]
            refine ⟨_, _, rfl, rfl, _, rfl, _, rfl, t2, _, rfl, DPut.t (k := [Sum.inl (n0 : Int), Sum.inl (n1 : Int), Sum.inr kd1]) h213 upd_same (Evl.sz_lt (by omega)), ?_⟩
            refine ⟨_, _, _, putK kv2 [Sum.inl (n0 : Int), Sum.inl (n1 : Int), Sum.inr kd1] (V.int ((x + 1 : Nat) : Int)), rfl, upd_same, (ti9.mono (by omega)).put ⟨n0, n1, kd1, rfl, h01, h1N, hkw⟩ (by omega) (by omega), by have := length_putK kv2 [Sum.inl (n0 : Int), Sum.inl (n1 : Int), Sum.inr kd1] (V.int ((x + 1 : Nat) : Int)); omega, (S9.same s13).upd n2s n2c, (kp9.kp (Kp.same s13)).put⟩
          · rintro σ H9 ⟨v9, v16, v17, kv2, rfl, h29, ti9, hl9, S9, kp9⟩
            exact ⟨v9, _, _, v16, v17, kv2, rfl, h29, ti9.mono (by omega), by omega, S9, kp9⟩
        · rintro σ H7 ⟨v9, v14, v15, v16, v17, kv2, rfl, h27, ti7, hl7, S7, kp7⟩
          exact ⟨v9, _, _, _, _, v14, v15, v16, v17, kv2, rfl, h27, ti7.mono (by omega), by omega, S7, kp7⟩
      · rintro σ H6 ⟨v9, v10, v11, v12, v13, v14, v15, v16, v17, kv2, rfl, h26, ti6, hl6, S6, kp6⟩
        exact ⟨v9, v10, v11, v12, v13, v14, v15, v16, v17, kv2, rfl, h26, ti6.mono (by omega), by omega, S6, fun b o e h1 h2 h3 => kp6 b o (s5 _ _ e) h1 h2 h3⟩
    rintro σ H6 ⟨v9, v10, v11, v12, v13, v14, v15, v16, v17, kv2, rfl, h26, ti6, hl6, S6, kp6⟩
    have st6 : ∀ b o, H3 b = some o → b ≠ sa → b ≠ ca → b ≠ t2 → H6 b = some o := kp6
    have nlt2 : ld ≠ t2 := nt2l.symm
    have hld6 := kp6 _ _ hld3 nls nlc nlt2
    have W6d := kp6 _ _ W3.d W3.ds.1 W3.ds.2 (ne_of W3.d ht23 (by intro z; cases z))
    have W6c := kp6 _ _ W3.hc W3.bs.1 W3.bs.2 (ne_of W3.hc ht23 (by intro z; cases z))
    have kp06 : Kp sa ca H H6 := fun b o e h1 h2 => kp6 b o (fr03 b o e) h1 h2 (ne_of_none e ht20)
    -- colours
    refine ⟨fun σ H7 => ∃ bc cl2, σ = stO sa wd nu pa ld se t2 v7 v8 v9 v10 v11 v12 v13 v14 v15 v16 v17 (some (.ref bc)) ∧ H6 bc = none ∧ H7 bc = some (.lst (List.map V.str cl2)) ∧ cl2.length = N ∧ (∀ x ∈ cl2, isWordB x = true) ∧ Same H6 H7, ?_, ?_⟩
    · refine ⟨_, rfl, ld, rfl, ⟨_, SqL.of hld6⟩, fun D hD => ?_⟩
      refine lc_list (xs := natV led) (fun i H7 => ∃ cl2, H7 D = some (.lst (List.map V.str cl2)) ∧ cl2.length = i ∧ (∀ x ∈ cl2, isWordB x = true) ∧ Same H6 H7) ⟨[], upd_same, rfl, (fun x hx => (List.not_mem_nil hx).elim), same_new hD⟩ (fun i H7 _ ⟨_, _, _, _, h⟩ => SqL.of (h _ _ hld6)) ?_ ?_
      · rintro i x H7 hi ⟨cl2, hD7, hcl2, hcw2, s7⟩
        have hil := (List.getElem?_eq_some_iff.mp hi).1
        rw [List.length_map] at hil
        rw [List.getElem?_map] at hi
        obtain ⟨y0, hy0, rfl⟩ := Option.map_eq_some_iff.mp hi
        have hyN := hln y0 (List.mem_of_getElem? hy0)
        have hcn := W.cn
        obtain ⟨cy, hcy⟩ : ∃ cy, cl[y0]? = some cy := ⟨_, List.getElem?_eq_getElem (by omega)⟩
        refine ⟨rfl, tyes ?_⟩
        refine ⟨_, rfl, wd, _, rfl, dg_colours (s7 _ _ W6d), _, rfl, b, _, _, V.str cy, rfl, rfl, SqL.of (s7 _ _ W6c), atI_nat (by rw [List.getElem?_map, hcy]; rfl), ?_⟩
        refine ⟨_, hD7, Evl.sz_lt (by rw [List.length_map]; omega), cl2 ++ [cy], by rw [upd_same, List.map_append]; rfl, by simp [hcl2], ?_, ?_⟩
        · intro x hx
          rcases List.mem_append.mp hx with z | z
          · exact hcw2 x z
          · rw [List.mem_singleton] at z
            subst z
            exact W.cw _ (List.mem_of_getElem? hcy)
        · intro b o e
          rw [upd_ne (ne_of_none e hD)]
          exact s7 b o e
      · rintro H7 ⟨cl2, hD7, hcl2, hcw2, s7⟩
        rw [List.length_map] at hcl2
        exact ⟨D, cl2, rfl, hD, hD7, by omega, hcw2, s7⟩
    rintro σ H7 ⟨bc, cl2, rfl, hbc6, hbc, hcl2, hcw2, s7⟩
    have S7 := S6.same s7
    have hbc0 : H bc = none := kp06.free S6 hbc6
    obtain ⟨nbs, nbc⟩ := S.ne hbc0
    refine ⟨_, rfl, ?_⟩
    intro p hp
    have sp := same_new (o := .dK []) hp
    obtain ⟨nps', npc'⟩ := S7.ne hp
    refine ⟨_, rfl, _, rfl, _, rfl, upd_same, worldD ld bc t2, rfl, (by show 3 ≤ 15; decide), ?_⟩
    rw [merge_wd]
    have s8 : Same H7 (upd (upd H7 p (.dK [])) p (.dK (worldD ld bc t2))) := fun b o e => by
      rw [upd_ne (ne_of_none e hp), upd_ne (ne_of_none e hp)]
      exact e
    have hpp : (upd (upd H7 p (.dK [])) p (.dK (worldD ld bc t2))) p = some (.dK (worldD ld bc t2)) := upd_same
    have kp08 : Kp sa ca H (upd (upd H7 p (.dK [])) p (.dK (worldD ld bc t2))) := (kp06.trans (Kp.same s7)).trans (Kp.same s8)
    generalize upd (upd H7 p (.dK [])) p (.dK (worldD ld bc t2)) = H8 at *
    have S8 := S7.same s8
    refine ⟨_, rfl, sa, ca, p, ld, bc, t2, ld, cl2, 4000, kv2, led, rfl, S8, hpp, nps', s8 _ _ hbc, nbc, s8 _ _ (s7 _ _ h26), s8 _ _ (s7 _ _ hld6), nlc, by omega, hcw2, by omega, by omega, hl6, by rw [hNN]; exact ti6, ?_⟩
    intro r wd' a' b' t' ld' nm' cl' kvs' led' H' z1 z2 z3 z4 z5 hr' W' hl' ti' hk' hld' hll' hlm S' kp'
    refine k r wd' a' b' t' ld' nm' cl' kvs' led' H' (kp08.free S8 z1) (kp08.free S8 z2) (kp08.free S8 z3) (kp08.free S8 z4) (kp08.free S8 z5) hr' W' (by omega) ti' hk' hld' (by omega) (fun x hx => hln x (hlm x hx)) S' (kp08.trans kp')
end
end Nm
set_option maxRecDepth 100000
set_option maxHeartbeats 4000000
namespace Nm
open PySem PySem.Spec PyProof.Rows L2
/-- len(set(xs)) of ints, equal ones among them -/
def tLenSetJ (K : PySem.W.Frag) (ta : TE) : TE := fun σ H Q => ta σ H fun x H1 => ∃ (l : Addr) (ns : List Int), x = .ref l ∧ SqL K H1 l (ns.map V.int) ∧ ns.length ≤ 4000 ∧ Q (.int ((firstMet (fun i => ns.getD i 0) ns.length).length : Nat)) H1
theorem pe_lenSetJ {X : Cx} {a : PySem.Expr} {ta : TE} {p p2 q pos : Pos} (hg : Gl X "len") (hm : X.mg "len" = none) (hg2 : Gl X "set") (hm2 : X.mg "set" = none) (ha : PE X a ta) (hc : X.calm = true := by rfl)
    (na : starEach [a] X.env = (false, eval a X.env) :: starEach [] X.env := by rfl) : PE X (.Call (.Name "len" p) [.Call (.Name "set" p2) [a] [] q] [] pos) (tLenSetJ X.K ta) := by
  refine ⟨fun pins s σ H Q I h => ?_⟩
  refine Call_ (ld_blt I hg hm boot_len ?_)
  refine callWith_builtin1 (args_cons ?_ rfl) rfl rfl
  refine Call_ (ld_blt I hg2 hm2 boot_set ?_)
  refine callWith_type1 (args_cons (thn (ha.run pins s σ H _ I h) fun v s1 ⟨x, H1, I1, r1, q1⟩ => args_nil ?_) na) na rfl
  obtain ⟨l, ns, rfl, hq, hl, q1⟩ := q1
  cases r1
  obtain ⟨its, r, pl, hz⟩ := I1.list hq
  have hlen : its.toArray.size = ns.length := by rw [List.size_toArray, ← r.length, List.length_map]
  refine call_set_list (I1.ok.hd hc) pl.isList (by simpa using RZ.intsAre_vals r) (by rw [hlen]; unfold scanBound; omega) fun h' tk hS hk => ?_
  refine args_nil ?_
  rw [hlen] at hS
  have hle := firstMet_length_le (fun i => ns.getD i 0) ns.length
  obtain ⟨o, es, ep, t, ho, hex, hd, _, _, _, hf, hn⟩ := hS
  have I2 : Inv X pins σ H1 { s1 with heap := h', toks := tk } := I1.kept fun b o e => hk b o (Heap.lt_size e) e
  exact call_len_set ho hex hd hf (by rw [hn] <;> omega) ⟨.int ((firstMet (fun i => ns.getD i 0) ns.length).length : Nat), H1, I2.tok _, ⟨_, by rw [hn]⟩, q1⟩
end Nm
set_option maxRecDepth 100000
set_option maxHeartbeats 4000000
namespace Nm
open PySem L2
structure TxtE (mg : Str → Option Value) : Prop extends TxtD mg where
  max : mg "max" = none
  min : mg "min" = none
  set : mg "set" = none
  sum : mg "sum" = none
theorem natV_int (l : List Nat) : natV l = (l.map fun (i : Nat) => (i : Int)).map V.int := by
  unfold natV
  rw [List.map_map]
  rfl
theorem sum_zero : ∀ {l : List Nat}, (∀ x ∈ l, x = 0) → (l.map fun (i : Nat) => (i : Int)).sum = 0
  | [], _ => rfl
  | x :: l, h => by
    rw [List.map_cons, List.sum_cons, sum_zero fun y hy => h y (List.mem_cons_of_mem _ hy), h x List.mem_cons_self]
    rfl
section
variable {P : Program} {w : World} {K : PySem.W.Frag} {mg : Str → Option Value} {base : Heap}
/-! ### _law_copied_over -/
def spCopied : Sp := fun vs H Q _ => ∃ (s c wd a b t : Addr) (nm cl : List Str) (kvs : List (List Key × V)), vs = [.ref s, .ref wd] ∧ Src H s c ∧ WorldOk H s c wd a b t nm cl kvs ∧ Ties nm.length 2 kvs ∧ kvs.length ≤ 300 ∧ nm.length ≤ 5 ∧
  ∀ (r wd' a' b' t' ld' : Addr) (nm' cl' : List Str) (kvs' : List (List Key × V)) (led' : List Nat) (H' : Hp), H wd' = none → H a' = none → H b' = none → H t' = none → H ld' = none → H' r = some (.tup [.ref wd', .ref ld']) → WorldOk H' s c wd' a' b' t' nm' cl' kvs' → nm'.length ≤ 50 → Ties nm'.length 4000 kvs' → kvs'.length ≤ 4000 →
    H' ld' = some (.lst (natV led')) → led'.length = nm'.length → (∀ x ∈ led', x < nm.length) → Src H' s c → Kp s c H H' → Q (.ref r) H'
abbrev nCop : List Str := ["_law_source", "_law_world", "_law_most", "_law_parts_here", "_law_numbers", "_law_name", "_law_part"]
theorem scCop : FnScope nCop ["_law_source", "_law_world"] (defScope sCopiedOver) := ⟨rfl, rfl, rfl, by decide +kernel, rfl, by decide +kernel, by decide +kernel⟩
theorem ok_copied {f : Addr} {fd : FuncData} (F : Fun K "_law_copied_over" "_law_copied_over" sCopiedOver f fd) (T : TxtE mg) (Gp : Def P w K mg base "_law_pick" ["_law_source", "_law_many"] 1 spPick) (Gq : Def P w K mg base "_law_parts" ["_law_world"] 1 spParts)
    (Go : Def P w K mg base "_law_over" ["_law_source", "_law_world", "_law_numbers"] 4 spOver) : FnOk P w K mg base CX0 5 f fd ["_law_source", "_law_world"] spCopied := by
  obtain ⟨fp, fdp, Gp, mp, kp, bp⟩ := Gp.ex
  obtain ⟨fq, fdq, Gq, mq, kq, bq⟩ := Gq.ex
  obtain ⟨fo, fdo, Go, mo, ko, bo⟩ := Go.ex
  refine F.ok scCop (fun vs H Q E h => ?_) (fun cdv A outer s H vs Q E hr h => ?_)
  · obtain ⟨_, _, _, _, _, _, _, _, _, rfl, _⟩ := h
    rfl
  · obtain ⟨sa, ca, wd, a, b, t, nm, cl, kvs, rfl, S, W, ti, hkl, hn5, k⟩ := h
    have hu := hu_of hr
    have hr1 := hr.mono (by decide : 1 ≤ 4)
    refine ⟨_, Evl.pss_cut (ps_asg (pe_tup (pa_cons (pe_callB (call_max2 rfl) (by rfl) T.max (by decide +kernel) (pa_cons pe_int (pa_cons (pe_op op_fdiv pe_int (pe_callB call_len_seq (by rfl) T.len PySem.boot_len (pa_cons (pe_dget hu (pv 1) pe_str (fun _ _ => rfl)) pa_nil))) pa_nil))) (pa_cons (pe_call Gq hr1 (by rfl) mq kq bq .nil pass0 (pa_cons (pv 1) pa_nil)) pa_nil))) (pg_tup rfl (pgs_cons (pg_name (i := 2) scCop.nd rfl (.inr rfl)) (pgs_cons (pg_name (i := 3) scCop.nd rfl (.inl rfl)) pgs_nil))))
      (Evl.pss_cut (ps_set (i := 4) scCop.nd rfl (Or.inr rfl) (pe_op op_rep (pe_lst (pa_cons (pe_op op_add pe_int (pe_call Gp hr1 (by rfl) mp kp bp .nil pass0 (pa_cons (pv 0) (pa_cons (pe_callB (call_min2 rfl) (by rfl) T.min (by decide +kernel) (pa_cons pe_int (pa_cons (pv 2) pa_nil))) pa_nil)))) pa_nil)) (pe_callB call_len_seq (by rfl) T.len PySem.boot_len (pa_cons (pv 3) pa_nil))))
      (Evl.pss_cut (ps_if (PW.pt (pw_or (pt_cmpR op_eq (pe_call Gp hr1 (by rfl) mp kp bp .nil pass0 (pa_cons (pv 0) (pa_cons pe_int pa_nil))) pe_int (nomark _)) (pw_or1 (PW.pt (pw_and (pt_cmpR op_gt (pe_lenSetJ (by rfl) T.len (by rfl) T.set (pv 3)) pe_int (nomark _)) (pw_and1 (pt_cmpR op_eq (pe_call Gp hr1 (by rfl) mp kp bp .nil pass0 (pa_cons (pv 0) (pa_cons pe_int pa_nil))) pe_int (nomark _)))))))) 
          (Evl.pss_cut (ps_set (i := 4) scCop.nd rfl (Or.inr rfl) (pe_lc (own := [("_law_name", 5)]) (g := gName 5) (tt := tYes) rfl scCop.nd (pi_list (pv 3))
            (blkOk_by (N := nCop) (sc := defScope sCopiedOver) (by decide +kernel)) (fun _ _ _ _ _ => pg_name (i := 5) scCop.nd rfl (Or.inl rfl)) (fun _ _ _ _ _ => pts_nil)
            (fun _ _ _ _ _ => by exact pe_call Gp hr1 (by rfl) mp kp bp .nil pass0 (pa_cons (pv 0) (pa_cons (pe_op op_add (pe_callB (call_min2 rfl) (by rfl) T.min (by decide +kernel) (pa_cons pe_int (pa_cons (pv 2) pa_nil))) pe_int) pa_nil)))))
          (pss_one (ps_if (pt_cmpR op_eq (pe_callB (cr_sum rfl) (by rfl) T.sum (by decide +kernel) (pa_cons (pe_lc (own := [("_law_part", 6)]) (g := gName 6) (tt := tYes) (te := tOp (rIxL K) (tVar 4) (tVar 6)) rfl scCop.nd (pi_list (pv 3))
              (blkOk_by (N := nCop) (sc := defScope sCopiedOver) (by decide +kernel)) (fun _ _ _ _ _ => pg_name (i := 6) scCop.nd rfl (Or.inl rfl)) (fun _ _ _ _ _ => pts_nil)
              (fun _ _ _ _ _ => by exact pe_ix ix_list (pv 4) (pv 6) (fun _ _ => rfl))) pa_nil)) pe_int (nomark _))
            (pss_one (ps_asg pe_int (pg_sub (pv 4) (pe_ix ix_list (pv 3) pe_int (fun _ _ => rfl)) set_list))) pss_nil))) pss_nil)
      (pss_one (ps_ret (pe_call Go hr (by rfl) mo ko bo .nil pass0 (pa_cons (pv 0) (pa_cons (pv 1) (pa_cons (pv 4) pa_nil)))))))), ?_⟩
    generalize hn : nm.length = n at *
    have hn1 : 1 ≤ n := by rw [← hn]; exact W.n1
    -- most, parts
    refine ⟨fun σ H1 => ∃ mo pa ps, σ = [some (.ref sa), some (.ref wd), some (.int mo), some (.ref pa), none, none, none] ∧ 1 ≤ mo ∧ H pa = none ∧ H1 pa = some (.lst (natV ps)) ∧ ps.length = n ∧ (∀ x ∈ ps, x < n) ∧ PartsRel n kvs ps ∧ Same H H1, ?_, ?_⟩
    · refine ⟨_, rfl, wd, _, rfl, dg_names W.d, a, _, rfl, .inl (SqL.of W.hn), _, _, rfl, rfl, ⟨by show (0 : Int) < ((List.map V.str nm).length : Int); rw [List.length_map]; omega, by show ((List.map V.str nm).length : Int) < _; rw [List.length_map]; omega⟩, _, _, rfl, ?_⟩
      refine ⟨_, rfl, wd, a, b, t, _, 2, kvs, rfl, W.d, W.hn, W.ht, by rw [List.length_map]; omega, by omega, by rw [List.length_map, hn]; exact ti, fun pa ps H1 hpa0 hpa hpl hpn hpe hpr s1 => ?_⟩
      rw [List.length_map, hn] at hpl hpn hpr
      refine ⟨(by show 2 ≤ sizeLine; decide), fun tp htp => ?_⟩
      have a4 := same_new (o := .tup [V.int (if (20 : Int) / ((List.map V.str nm).length : Int) > 1 then (20 : Int) / ((List.map V.str nm).length : Int) else 1), V.ref pa]) htp
      refine ⟨tp, _, rfl, SqT.of upd_same, rfl, _, _, rfl, _, _, rfl, rfl, ?_⟩
      exact ⟨_, pa, ps, rfl, by split <;> omega, hpa0, a4 _ _ hpa, hpl, hpn, hpr, s1.trans a4⟩
    rintro σ H1 ⟨mo, pa, ps, rfl, hmo, hpa0, hpa, hpl, hpn, hpr, s1⟩
    have S1 := S.same s1
    obtain ⟨nps, npc⟩ := S.ne hpa0
    -- numbers
    refine ⟨fun σ H2 => ∃ nu ns, σ = [some (.ref sa), some (.ref wd), some (.int mo), some (.ref pa), some (.ref nu), none, none] ∧ H nu = none ∧ H2 nu = some (.lst (natV ns)) ∧ ns.length = n ∧ (∀ x ∈ ns, 1 ≤ x ∧ x ≤ 5) ∧ Src H2 sa ca ∧ Kp sa ca H1 H2, ?_, ?_⟩
    · refine ⟨_, rfl, _, rfl, _, _, rfl, sa, ca, _, rfl, S1, by show 1 ≤ (if mo < 4 then mo else 4); split <;> omega, by show (if mo < 4 then mo else 4) < _; split <;> omega, fun kk H2 k0 k1 S2 kp2 => ⟨_, _, rfl, rfl, (by show 1 ≤ sizeLine; decide), fun l hl => ?_⟩⟩
      have hk4 : kk < 4 := by
        have : kk < (if mo < 4 then mo else 4) := k1
        split at this <;> omega
      have hpa2 := kp2 _ _ hpa nps npc
      have sl := same_new (o := .lst [V.int (1 + kk)]) hl
      refine ⟨_, rfl, pa, _, rfl, .inl (SqL.of (sl _ _ hpa2)), l, _, _, rfl, rfl, upd_same, by rw [List.length_map]; omega, by rw [List.length_map]; omega, ?_, fun p hp => ?_⟩
      · rw [List.length_map]
        exact Evl.sz_of (by simp; omega)
      · have sp := sl.trans (same_new (o := .lst (List.replicate (((natV ps).length : Int)).toNat [V.int (1 + kk)]).flatten) hp)
        refine ⟨p, List.replicate n (1 + kk).toNat, rfl, s1.free (kp2.free S2 (sl.free hp)), ?_, by simp, ?_, S2.same sp, kp2.trans (Kp.same sp)⟩
        · rw [upd_same, List.length_map, hpl, Int.toNat_natCast, List.flatten_replicate_singleton]
          unfold natV
          rw [List.map_replicate, Int.toNat_of_nonneg (by omega)]
        · intro x hx
          have := List.eq_of_mem_replicate hx
          omega
    rintro σ H2 ⟨nu, ns, rfl, hnu0, hnu, hnl, hn110, S2, kp2⟩
    have hpa2 := kp2 _ _ hpa nps npc
    have kp02 : Kp sa ca H H2 := (Kp.same s1).trans kp2
    obtain ⟨nns, nnc⟩ := S.ne hnu0
    refine ⟨fun σ H3 => ∃ nu ns, σ = [some (.ref sa), some (.ref wd), some (.int mo), some (.ref pa), some (.ref nu), none, none] ∧ H nu = none ∧ H3 nu = some (.lst (natV ns)) ∧ ns.length = n ∧ (∀ x ∈ ns, x ≤ 5) ∧ (∃ p ∈ ps, ∃ x, ns[p]? = some x ∧ 1 ≤ x) ∧ Src H3 sa ca ∧ Kp sa ca H H3, ?_, ?_⟩
    · have keep : ∀ H3, Src H3 sa ca → Kp sa ca H2 H3 → ∃ nu' ns', [some (V.ref sa), some (.ref wd), some (.int mo), some (.ref pa), some (.ref nu), none, none] = [some (V.ref sa), some (.ref wd), some (.int mo), some (.ref pa), some (.ref nu'), none, none] ∧ H nu' = none ∧ H3 nu' = some (.lst (natV ns')) ∧ ns'.length = n ∧ (∀ x ∈ ns', x ≤ 5) ∧ (∃ p ∈ ps, ∃ x, ns'[p]? = some x ∧ 1 ≤ x) ∧ Src H3 sa ca ∧ Kp sa ca H H3 := fun H3 S3 kp3 => by
        refine ⟨nu, ns, rfl, hnu0, kp3 _ _ hnu nns nnc, hnl, fun x hx => (hn110 x hx).2, ?_, S3, kp02.trans kp3⟩
        obtain ⟨p0, hp0⟩ : ∃ p0, ps[0]? = some p0 := ⟨_, List.getElem?_eq_getElem (by omega)⟩
        have hpn0 := hpn p0 (List.mem_of_getElem? hp0)
        obtain ⟨x0, hx0⟩ : ∃ x0, ns[p0]? = some x0 := ⟨_, List.getElem?_eq_getElem (by omega)⟩
        exact ⟨p0, List.mem_of_getElem? hp0, x0, hx0, (hn110 x0 (List.mem_of_getElem? hx0)).1⟩
      refine ⟨_, rfl, sa, ca, 3, rfl, S2, by decide, by decide, fun k3 HX _ _ SX kpX => ⟨rfl, _, rfl, ?_⟩⟩
      have hpaX := kpX _ _ hpa2 nps npc
      have kp0X := kp02.trans kpX
      refine ite2 (fun _ => iteT ?_) (fun _ => ?_)
      · refine ⟨fun σ H4 => ∃ nu ns, σ = [some (.ref sa), some (.ref wd), some (.int mo), some (.ref pa), some (.ref nu), none, none] ∧ H nu = none ∧ H4 nu = some (.lst (natV ns)) ∧ ns.length = n ∧ (∀ x ∈ ns, x ≤ 5) ∧ Src H4 sa ca ∧ Kp sa ca HX H4, ?_, ?_⟩
        · refine ⟨_, rfl, pa, rfl, ⟨_, SqL.of hpaX⟩, fun D hD => ?_⟩
          have hD0 : H D = none := kp0X.free SX hD
          obtain ⟨nDs, nDc⟩ := S.ne hD0
          refine lc_list (xs := natV ps) (fun i H4 => ∃ ns, H4 D = some (.lst (natV ns)) ∧ ns.length = i ∧ (∀ x ∈ ns, x ≤ 5) ∧ Src H4 sa ca ∧ Kp sa ca HX H4) ⟨[], upd_same, rfl, (fun x hx => (List.not_mem_nil hx).elim), SX.new hD, (Kp.refl HX).off hD⟩ (fun i H4 _ ⟨_, _, _, _, _, h⟩ => SqL.of (h _ _ hpaX nps npc)) ?_ ?_
          · rintro i x H4 hi ⟨ns, hD4, hnl, hn10, S4, kp4⟩
            have hil := (List.getElem?_eq_some_iff.mp hi).1
            rw [List.length_map] at hil
            refine ⟨rfl, tyes ?_⟩
            refine ⟨_, rfl, _, rfl, _, _, rfl, _, _, rfl, rfl, sa, ca, _, rfl, S4, by show 1 ≤ (if mo < 4 then mo else 4) + 1; split <;> omega, by show (if mo < 4 then mo else 4) + 1 < _; split <;> omega, fun kk H5 k0 k1 S5 kp5 => ?_⟩
            have hk10 : kk ≤ 5 := by
              have : kk < (if mo < 4 then mo else 4) + 1 := k1
              split at this <;> omega
            refine ⟨_, kp5 _ _ hD4 nDs nDc, Evl.sz_lt (by rw [List.length_map]; omega), ns ++ [kk.toNat], ?_, by simp [hnl], ?_, S5.upd nDs nDc, (kp4.trans kp5).off hD⟩
            · unfold natV
              rw [upd_same, List.map_append]
              show some (HO.lst (natV ns ++ [V.int kk])) = some (HO.lst (natV ns ++ [V.int (kk.toNat : Int)]))
              rw [Int.toNat_of_nonneg k0]
            · intro x hx
              rcases List.mem_append.mp hx with z | z
              · exact hn10 x z
              · rw [List.mem_singleton] at z
                omega
          · rintro H4 ⟨ns, hD4, hnl, hn10, S4, kp4⟩
            rw [List.length_map] at hnl
            exact ⟨D, ns, rfl, hD0, hD4, by omega, hn10, S4, kp4⟩
        rintro σ H4 ⟨nu, ns, rfl, hnu0, hnu, hnl, hn10, S4, kp4⟩
        obtain ⟨nns, nnc⟩ := S.ne hnu0
        have hpa4 := kp4 _ _ hpaX nps npc
        have kp04 := kp0X.trans kp4
        refine ⟨_, rfl, pa, rfl, ⟨_, SqL.of hpa4⟩, fun D hD => ?_⟩
        refine lc_list (xs := natV ps) (fun i H5 => H5 D = some (.lst (natV ((ps.map fun p => (ns[p]?).getD 0).take i))) ∧ Same H4 H5) ⟨upd_same, same_new hD⟩ (fun i H5 _ h => SqL.of (h.2 _ _ hpa4)) ?_ ?_
        · rintro i x H5 hi ⟨hD5, s5⟩
          have hil := (List.getElem?_eq_some_iff.mp hi).1
          rw [List.length_map] at hil
          rw [List.getElem?_map] at hi
          obtain ⟨p0, hp0, rfl⟩ := Option.map_eq_some_iff.mp hi
          have hpn0 := hpn p0 (List.mem_of_getElem? hp0)
          obtain ⟨x0, hx0⟩ : ∃ x0, ns[p0]? = some x0 := ⟨_, List.getElem?_eq_getElem (by omega)⟩
          refine ⟨rfl, tyes ?_⟩
          refine ⟨_, rfl, _, rfl, nu, _, _, V.int (x0 : Int), rfl, rfl, SqL.of (s5 _ _ hnu), atI_nat (by rw [List.getElem?_map, hx0]; rfl), ?_⟩
          refine ⟨_, hD5, Evl.sz_lt (by rw [List.length_map, List.length_take, List.length_map]; omega), ?_, fun b o e => ?_⟩
          · have e : (ps.map fun p => (ns[p]?).getD 0)[i]? = some x0 := by rw [List.getElem?_map, hp0]; simp [hx0]
            rw [upd_same, List.take_add_one, e]
            unfold natV
            rw [List.map_append]
            rfl
          · rw [upd_ne (ne_of_none e hD)]
            exact s5 b o e
        · rintro H5 ⟨hD5, s5⟩
          rw [List.length_map, List.take_of_length_le (by simp), natV_int] at hD5
          have S5 := S4.same s5
          have kp05 := kp04.trans (Kp.same s5)
          refine ⟨D, _, rfl, SqL.of hD5, rfl, _, rfl, ?_⟩
          refine ite2 (fun h => ?_) (fun h => ?_)
          · obtain ⟨p0, hp0⟩ : ∃ p0, ps[0]? = some p0 := ⟨_, List.getElem?_eq_getElem (by omega)⟩
            have hpn0 := hpn p0 (List.mem_of_getElem? hp0)
            have hix : ixN (natV ns).length (p0 : Int) = some p0 := by
              have h1 := ixN_seq (n := (natV ns).length) (i := (p0 : Int)) (j := p0)
              unfold ixN
              rw [List.length_map]
              simp
              omega
            refine ⟨_, rfl, _, rfl, pa, _, 0, V.int (p0 : Int), rfl, rfl, SqL.of (s5 _ _ hpa4), atI_nat (j := 0) (by rw [List.getElem?_map, hp0]; rfl), nu, _, _, p0, rfl, rfl, s5 _ _ hnu, hix, ?_⟩
            refine ⟨nu, ns.set p0 1, rfl, hnu0, ?_, by simp [hnl], ?_, ⟨p0, List.mem_of_getElem? hp0, 1, ?_, by decide⟩, S5.upd nns nnc, kp05.off hnu0⟩
            · rw [upd_same]
              unfold natV
              rw [List.map_set]
              rfl
            · intro x hx
              rcases List.mem_or_eq_of_mem_set hx with z | z
              · exact hn10 x z
              · omega
            · rw [List.getElem?_set_self (by omega)]
          · refine ⟨nu, ns, rfl, hnu0, s5 _ _ hnu, hnl, hn10, ?_, S5, kp05⟩
            have hne : ¬ V.int (((ps.map fun p => (ns[p]?).getD 0).map fun (i : Nat) => (i : Int)).sum) = V.int 0 := of_decide_eq_false (Bool.eq_false_iff.mpr h)
            apply Classical.byContradiction
            intro hno
            apply hne
            rw [sum_zero]
            intro x hx
            obtain ⟨p, hp, rfl⟩ := List.mem_map.mp hx
            obtain ⟨x0, hx0⟩ : ∃ x0, ns[p]? = some x0 := ⟨_, List.getElem?_eq_getElem (by have := hpn p hp; omega)⟩
            rw [hx0]
            show x0 = 0
            apply Classical.byContradiction
            intro hx0'
            exact hno ⟨p, hp, x0, hx0, by omega⟩
      · refine ⟨_, rfl, pa, _, rfl, SqL.of (by rw [hpaX, natV_int]), by rw [List.length_map]; omega, _, _, rfl, rfl, _, rfl, ?_⟩
        refine ite2 (fun _ => ?_) (fun _ => iteF (keep HX SX kpX))
        refine ⟨_, rfl, sa, ca, 2, rfl, SX, by decide, by decide, fun k2 HY _ _ SY kpY => ⟨rfl, _, rfl, ?_⟩⟩
        refine ite2 (fun _ => ?_) (fun _ => keep HY SY (kpX.trans kpY))
        have hpaY := kpY _ _ hpaX nps npc
        have kp0Y := kp0X.trans kpY
        refine ⟨fun σ H4 => ∃ nu ns, σ = [some (.ref sa), some (.ref wd), some (.int mo), some (.ref pa), some (.ref nu), none, none] ∧ H nu = none ∧ H4 nu = some (.lst (natV ns)) ∧ ns.length = n ∧ (∀ x ∈ ns, x ≤ 5) ∧ Src H4 sa ca ∧ Kp sa ca HY H4, ?_, ?_⟩
        · refine ⟨_, rfl, pa, rfl, ⟨_, SqL.of hpaY⟩, fun D hD => ?_⟩
          have hD0 : H D = none := kp0Y.free SY hD
          obtain ⟨nDs, nDc⟩ := S.ne hD0
          refine lc_list (xs := natV ps) (fun i H4 => ∃ ns, H4 D = some (.lst (natV ns)) ∧ ns.length = i ∧ (∀ x ∈ ns, x ≤ 5) ∧ Src H4 sa ca ∧ Kp sa ca HY H4) ⟨[], upd_same, rfl, (fun x hx => (List.not_mem_nil hx).elim), SY.new hD, (Kp.refl HY).off hD⟩ (fun i H4 _ ⟨_, _, _, _, _, h⟩ => SqL.of (h _ _ hpaY nps npc)) ?_ ?_
          · rintro i x H4 hi ⟨ns, hD4, hnl, hn10, S4, kp4⟩
            have hil := (List.getElem?_eq_some_iff.mp hi).1
            rw [List.length_map] at hil
            refine ⟨rfl, tyes ?_⟩
            refine ⟨_, rfl, _, rfl, _, _, rfl, _, _, rfl, rfl, sa, ca, _, rfl, S4, by show 1 ≤ (if mo < 4 then mo else 4) + 1; split <;> omega, by show (if mo < 4 then mo else 4) + 1 < _; split <;> omega, fun kk H5 k0 k1 S5 kp5 => ?_⟩
            have hk10 : kk ≤ 5 := by
              have : kk < (if mo < 4 then mo else 4) + 1 := k1
              split at this <;> omega
            refine ⟨_, kp5 _ _ hD4 nDs nDc, Evl.sz_lt (by rw [List.length_map]; omega), ns ++ [kk.toNat], ?_, by simp [hnl], ?_, S5.upd nDs nDc, (kp4.trans kp5).off hD⟩
            · unfold natV
              rw [upd_same, List.map_append]
              show some (HO.lst (natV ns ++ [V.int kk])) = some (HO.lst (natV ns ++ [V.int (kk.toNat : Int)]))
              rw [Int.toNat_of_nonneg k0]
            · intro x hx
              rcases List.mem_append.mp hx with z | z
              · exact hn10 x z
              · rw [List.mem_singleton] at z
                omega
          · rintro H4 ⟨ns, hD4, hnl, hn10, S4, kp4⟩
            rw [List.length_map] at hnl
            exact ⟨D, ns, rfl, hD0, hD4, by omega, hn10, S4, kp4⟩
        rintro σ H4 ⟨nu, ns, rfl, hnu0, hnu, hnl, hn10, S4, kp4⟩
        obtain ⟨nns, nnc⟩ := S.ne hnu0
        have hpa4 := kp4 _ _ hpaY nps npc
        have kp04 := kp0Y.trans kp4
        refine ⟨_, rfl, pa, rfl, ⟨_, SqL.of hpa4⟩, fun D hD => ?_⟩
        refine lc_list (xs := natV ps) (fun i H5 => H5 D = some (.lst (natV ((ps.map fun p => (ns[p]?).getD 0).take i))) ∧ Same H4 H5) ⟨upd_same, same_new hD⟩ (fun i H5 _ h => SqL.of (h.2 _ _ hpa4)) ?_ ?_
        · rintro i x H5 hi ⟨hD5, s5⟩
          have hil := (List.getElem?_eq_some_iff.mp hi).1
          rw [List.length_map] at hil
          rw [List.getElem?_map] at hi
          obtain ⟨p0, hp0, rfl⟩ := Option.map_eq_some_iff.mp hi
          have hpn0 := hpn p0 (List.mem_of_getElem? hp0)
          obtain ⟨x0, hx0⟩ : ∃ x0, ns[p0]? = some x0 := ⟨_, List.getElem?_eq_getElem (by omega)⟩
          refine ⟨rfl, tyes ?_⟩
          refine ⟨_, rfl, _, rfl, nu, _, _, V.int (x0 : Int), rfl, rfl, SqL.of (s5 _ _ hnu), atI_nat (by rw [List.getElem?_map, hx0]; rfl), ?_⟩
          refine ⟨_, hD5, Evl.sz_lt (by rw [List.length_map, List.length_take, List.length_map]; omega), ?_, fun b o e => ?_⟩
          · have e : (ps.map fun p => (ns[p]?).getD 0)[i]? = some x0 := by rw [List.getElem?_map, hp0]; simp [hx0]
            rw [upd_same, List.take_add_one, e]
            unfold natV
            rw [List.map_append]
            rfl
          · rw [upd_ne (ne_of_none e hD)]
            exact s5 b o e
        · rintro H5 ⟨hD5, s5⟩
          rw [List.length_map, List.take_of_length_le (by simp), natV_int] at hD5
          have S5 := S4.same s5
          have kp05 := kp04.trans (Kp.same s5)
          refine ⟨D, _, rfl, SqL.of hD5, rfl, _, rfl, ?_⟩
          refine ite2 (fun h => ?_) (fun h => ?_)
          · obtain ⟨p0, hp0⟩ : ∃ p0, ps[0]? = some p0 := ⟨_, List.getElem?_eq_getElem (by omega)⟩
            have hpn0 := hpn p0 (List.mem_of_getElem? hp0)
            have hix : ixN (natV ns).length (p0 : Int) = some p0 := by
              have h1 := ixN_seq (n := (natV ns).length) (i := (p0 : Int)) (j := p0)
              unfold ixN
              rw [List.length_map]
              simp
              omega
            refine ⟨_, rfl, _, rfl, pa, _, 0, V.int (p0 : Int), rfl, rfl, SqL.of (s5 _ _ hpa4), atI_nat (j := 0) (by rw [List.getElem?_map, hp0]; rfl), nu, _, _, p0, rfl, rfl, s5 _ _ hnu, hix, ?_⟩
            refine ⟨nu, ns.set p0 1, rfl, hnu0, ?_, by simp [hnl], ?_, ⟨p0, List.mem_of_getElem? hp0, 1, ?_, by decide⟩, S5.upd nns nnc, kp05.off hnu0⟩
            · rw [upd_same]
              unfold natV
              rw [List.map_set]
              rfl
            · intro x hx
              rcases List.mem_or_eq_of_mem_set hx with z | z
              · exact hn10 x z
              · omega
            · rw [List.getElem?_set_self (by omega)]
          · refine ⟨nu, ns, rfl, hnu0, s5 _ _ hnu, hnl, hn10, ?_, S5, kp05⟩
            have hne : ¬ V.int (((ps.map fun p => (ns[p]?).getD 0).map fun (i : Nat) => (i : Int)).sum) = V.int 0 := of_decide_eq_false (Bool.eq_false_iff.mpr h)
            apply Classical.byContradiction
            intro hno
            apply hne
            rw [sum_zero]
            intro x hx
            obtain ⟨p, hp, rfl⟩ := List.mem_map.mp hx
            obtain ⟨x0, hx0⟩ : ∃ x0, ns[p]? = some x0 := ⟨_, List.getElem?_eq_getElem (by have := hpn p hp; omega)⟩
            rw [hx0]
            show x0 = 0
            apply Classical.byContradiction
            intro hx0'
            exact hno ⟨p, hp, x0, hx0, by omega⟩
    rintro σ H3 ⟨nu, ns, rfl, hnu0, hnu, hnl, hn10, hex, S3, kp3⟩
    obtain ⟨nns, nnc⟩ := S.ne hnu0
    refine ⟨_, rfl, _, rfl, _, rfl, sa, ca, wd, a, b, t, nu, nm, cl, kvs, ns, rfl, S3, W.kp kp3, by rw [hn]; exact ti, hkl, by omega, hnu, nnc, by omega, hn10, ?_, ?_⟩
    · intro qs hq
      rw [hn] at hq
      rw [hq.one hpr]
      exact hex
    · intro r wd' a' b' t' ld' nm' cl' kvs' led' H' z1 z2 z3 z4 z5 hr' W' hl' ti' hk' hld' hll' hlm S' kp'
      rw [hn] at hlm
      exact k r wd' a' b' t' ld' nm' cl' kvs' led' H' (kp3.free S3 z1) (kp3.free S3 z2) (kp3.free S3 z3) (kp3.free S3 z4) (kp3.free S3 z5) hr' W' hl' ti' hk' hld' hll' hlm S' (kp3.trans kp')
end
end Nm
set_option maxRecDepth 100000
set_option maxHeartbeats 4000000
namespace Nm
open PySem L2
def keyOf : V → Key
  | .int i => Sum.inl i
  | .str x => Sum.inr x
  | _ => Sum.inl 0
theorem keyOf_kV (k : Key) : keyOf (kV k) = k := by cases k <;> rfl
theorem perm_key {ys : List V} {l : List Key} (h : ys.Perm (l.map kV)) : ∃ zs : List Key, ys = zs.map kV ∧ zs.Perm l := by
  refine ⟨ys.map keyOf, ?_, ?_⟩
  · rw [List.map_map]
    conv => lhs; rw [← List.map_id ys]
    refine List.map_congr_left fun v hv => ?_
    obtain ⟨x, _, rfl⟩ := List.mem_map.mp (h.subset hv)
    show kV x = kV (keyOf (kV x))
    rw [keyOf_kV]
  · have := h.map keyOf
    rw [List.map_map] at this
    have e : l.map (keyOf ∘ kV) = l := by
      conv => rhs; rw [← List.map_id l]
      exact List.map_congr_left fun x _ => keyOf_kV x
    rw [e] at this
    exact this
/-- the pairs of a dict told by keys -/
def byKeys (kvs : List (Key × V)) (ks : List Key) : List (Key × V) := ks.map fun k => (k, (valV kvs k).getD .non)
theorem byKeys_self {kvs : List (Key × V)} (nd : (kvs.map (·.1)).Nodup) : byKeys kvs (kvs.map (·.1)) = kvs := by
  unfold byKeys
  rw [List.map_map]
  conv => rhs; rw [← List.map_id kvs]
  refine List.map_congr_left fun kv hm => ?_
  show (kv.1, (valV kvs kv.1).getD .non) = kv
  rw [val_of_mem nd (v := kv.2) hm]
  rfl
theorem byKeys_perm {kvs : List (Key × V)} {ks : List Key} (nd : (kvs.map (·.1)).Nodup) (h : ks.Perm (kvs.map (·.1))) : (byKeys kvs ks).Perm kvs := by
  have := h.map fun k => (k, (valV kvs k).getD .non)
  rw [show (kvs.map (·.1)).map (fun k => (k, (valV kvs k).getD .non)) = kvs from byKeys_self nd] at this
  exact this
structure TxtF (mg : Str → Option Value) : Prop extends TxtE mg where
  zip : mg "zip" = none
section
variable {P : Program} {w : World} {K : PySem.W.Frag} {mg : Str → Option Value} {base : Heap}
/-! ### _law_any_dict -/
def spAnyDict : Sp := fun vs H Q _ => ∃ (s c d : Addr) (kvs : List (Key × V)), vs = [.ref s, .ref d] ∧ Src H s c ∧ H d = some (.dK kvs) ∧ d ≠ s ∧ (kvs.map (·.1)).Nodup ∧ kvs.length ≤ 1000 ∧
  ∀ (p : Addr) (kvs' : List (Key × V)) (H' : Hp), H p = none → kvs'.Perm kvs → H' p = some (.dK kvs') → Src H' s c → Kp s c H H' → Q (.ref p) H'
abbrev nAD : List Str := ["_law_source", "_law_told", "_law_key"]
theorem scAD : FnScope nAD ["_law_source", "_law_told"] (defScope sAnyDict) := ⟨rfl, rfl, rfl, by decide +kernel, rfl, by decide +kernel, by decide +kernel⟩
theorem ok_anyDict {f : Addr} {fd : FuncData} (F : Fun K "_law_any_dict" "_law_any_dict" sAnyDict f fd) (T : TxtF mg) (Ga : Def P w K mg base "_law_any_order" ["_law_source", "_law_items"] 2 (spAny K)) : FnOk P w K mg base CX0 3 f fd ["_law_source", "_law_told"] spAnyDict := by
  obtain ⟨fa, fda, Ga, ma, ka, ba⟩ := Ga.ex
  refine F.ok scAD (fun vs H Q E h => ?_) (fun cdv A outer s H vs Q E hr h => ?_)
  · obtain ⟨_, _, _, _, rfl, _⟩ := h
    rfl
  · obtain ⟨sa, ca, d, kvs, rfl, S, hd, nds, nd, hl, k⟩ := h
    have hu := hu_of hr
    refine ⟨_, pss_one (ps_ret (pe_callTy (call_dictP rfl) (by rfl) T.dict (by decide +kernel) (pa_cons (pe_lc (own := [("_law_key", 2)]) (g := gName 2) (tt := tYes) rfl scAD.nd (pi_list (pe_call Ga hr (by rfl) ma ka ba .nil pass0 (pa_cons (pv 0) (pa_cons (pe_callTy (call_list_dK rfl) (by rfl) T.list (by decide +kernel) (pa_cons (pv 1) pa_nil)) pa_nil))))
          (blkOk_by (N := nAD) (sc := defScope sAnyDict) (by decide +kernel)) (fun _ _ _ _ _ => pg_name (i := 2) scAD.nd rfl (Or.inl rfl)) (fun _ _ _ _ _ => pts_nil)
          (fun _ _ _ _ _ => pe_tup (pa_cons (pv 2) (pa_cons (pe_dget hu (pv 1) (pv 2) (fun _ _ => rfl)) pa_nil)))) pa_nil))), ?_⟩
    have ndc : d ≠ ca := by
      obtain ⟨cs, l, m, tt, S0⟩ := S
      exact ne_of hd S0.dc (by intro z; cases z)
    refine ⟨_, rfl, _, rfl, d, kvs, rfl, hd, fun q hq => ?_⟩
    refine ⟨sa, ca, q, _, rfl, S.new hq, SqL.of upd_same, by rw [List.length_map]; exact (by omega), fun p ys H1 hp pm hpl S1 kp1 => ?_⟩
    rw [show (kvs.map fun kv => kV kv.1) = (kvs.map (·.1)).map kV by rw [List.map_map]; rfl] at pm
    obtain ⟨ks, rfl, pk⟩ := perm_key pm
    have kp01 : Kp sa ca H H1 := (Kp.same (same_new hq)).trans kp1
    have hd1 := kp01 _ _ hd nds ndc
    have hkl : ks.length ≤ 1000 := by rw [pk.length_eq, List.length_map]; exact hl
    refine ⟨p, rfl, ⟨_, SqL.of hpl⟩, fun D hD => ?_⟩
    refine lc_list (xs := ks.map kV) (fun i H2 => ∃ ps : List Addr, H2 D = some (.lst (ps.map V.ref)) ∧ ps.length = i ∧ Paired (fun p kv => H2 p = some (.tup [kV kv.1, kv.2])) ps ((byKeys kvs ks).take i) ∧ Same H1 H2) ⟨[], upd_same, rfl, .nil, same_new hD⟩ (fun i H2 _ ⟨_, _, _, _, h⟩ => SqL.of (h _ _ hpl)) ?_ ?_
    · rintro i x H2 hi ⟨ps, hD2, hpsl, pr, s2⟩
      have hil := (List.getElem?_eq_some_iff.mp hi).1
      rw [List.length_map] at hil
      rw [List.getElem?_map] at hi
      obtain ⟨k0, hk0, rfl⟩ := Option.map_eq_some_iff.mp hi
      obtain ⟨kv0, hm0, e0⟩ := List.mem_map.mp (pk.mem_iff.mp (List.mem_of_getElem? hk0))
      have hv0 : valV kvs k0 = some kv0.2 := by rw [← e0]; exact val_of_mem nd hm0
      refine ⟨rfl, tyes ?_⟩
      refine ⟨_, rfl, _, rfl, _, rfl, d, kv0.2, rfl, (by rw [← hv0]; exact DGet.k (s2 _ _ hd1)), (by show 2 ≤ sizeLine; decide), fun u hu => ?_⟩
      have su := same_new (o := .tup [kV k0, kv0.2]) hu
      have nDu : u ≠ D := fun e => by subst e; rw [hD2] at hu; cases hu
      refine ⟨_, su _ _ hD2, Evl.sz_lt (by rw [List.length_map]; omega), ps ++ [u], by rw [upd_same, List.map_append]; rfl, by simp [hpsl], ?_, fun b o e => ?_⟩
      · have e : (byKeys kvs ks)[i]? = some (k0, kv0.2) := by unfold byKeys; rw [List.getElem?_map, hk0]; simp [hv0]
        rw [List.take_add_one, e]
        refine paired_snoc (Paired.mapP pr fun p kv h => ?_) ?_
        · rw [upd_ne (ne_of h hD2 (by intro z; cases z))]
          exact su _ _ h
        · rw [upd_ne nDu]
          exact upd_same
      · rw [upd_ne (ne_of_none e hD)]
        exact su _ _ (s2 b o e)
    · rintro H2 ⟨ps, hD2, hpsl, pr, s2⟩
      rw [List.length_map, List.take_of_length_le (by unfold byKeys; simp)] at pr
      refine ⟨D, ps, byKeys kvs ks, rfl, SqL.of hD2, Paired.mapP pr fun p kv h => SqT.of h, fun r hr => ?_⟩
      have pb := byKeys_perm nd pk
      refine k r (byKeys kvs ks) _ (kp01.free S1 (s2.free hr)) pb ?_ ((S1.same s2).new hr) ((kp01.trans (Kp.same s2)).trans (Kp.same (same_new hr)))
      rw [upd_same, merge_nd (acc := []) (by simpa using (pb.map (·.1)).nodup_iff.mpr nd)]
      rfl
/-! ### _law_dict -/
/-- each name of nm' to the name that its number leads to -/
def leadKV (nm' nm : List Str) (led : List Nat) : List (Key × V) := (nm'.zip led).map fun p => (Sum.inr p.1, V.str ((nm[p.2]?).getD ""))
theorem lead_keys {nm' nm : List Str} {led : List Nat} (h : led.length = nm'.length) : (leadKV nm' nm led).map (·.1) = nm'.map Sum.inr := by
  unfold leadKV
  rw [List.map_map]
  have : nm' = (nm'.zip led).map (·.1) := by rw [List.map_fst_zip (by omega)]
  conv => rhs; rw [this]
  rw [List.map_map]
  rfl
theorem lead_nd {nm' nm : List Str} {led : List Nat} (h : led.length = nm'.length) (nd : nm'.Nodup) : ((leadKV nm' nm led).map (·.1)).Nodup := by
  rw [lead_keys h]
  exact List.Pairwise.map _ (fun a b hab e => hab (Sum.inr.inj e)) nd
def spDict : Sp := fun vs H Q _ => ∃ (s c wo ao bo to ww aw bw tw ld : Addr) (nm' nm : List Str) (led : List Nat), vs = [.ref s, .ref wo, .ref ww, .ref ld] ∧ Src H s c ∧ H wo = some (.dK (worldD ao bo to)) ∧ H ao = some (.lst (nm'.map V.str)) ∧ H ww = some (.dK (worldD aw bw tw)) ∧ H aw = some (.lst (nm.map V.str)) ∧ H ld = some (.lst (natV led)) ∧
  led.length = nm'.length ∧ (∀ x ∈ led, x < nm.length) ∧ nm'.Nodup ∧ nm'.length ≤ 100 ∧
  ∀ (p : Addr) (kvs' : List (Key × V)) (H' : Hp), H p = none → kvs'.Perm (leadKV nm' nm led) → H' p = some (.dK kvs') → Src H' s c → Kp s c H H' → Q (.ref p) H'
abbrev nDc : List Str := ["_law_source", "_law_over_here", "_law_web", "_law_led", "_law_name", "_law_p"]
theorem scDc : FnScope nDc ["_law_source", "_law_over_here", "_law_web", "_law_led"] (defScope sDict) := ⟨rfl, rfl, rfl, by decide +kernel, rfl, by decide +kernel, by decide +kernel⟩
theorem ok_dict {f : Addr} {fd : FuncData} (F : Fun K "_law_dict" "_law_dict" sDict f fd) (T : TxtF mg) (Gd : Def P w K mg base "_law_any_dict" ["_law_source", "_law_told"] 3 spAnyDict) : FnOk P w K mg base CX0 4 f fd ["_law_source", "_law_over_here", "_law_web", "_law_led"] spDict := by
  obtain ⟨fa, fda, Ga, ma, ka, ba⟩ := Gd.ex
  refine F.ok scDc (fun vs H Q E h => ?_) (fun cdv A outer s H vs Q E hr h => ?_)
  · obtain ⟨_, _, _, _, _, _, _, _, _, _, _, _, _, _, rfl, _⟩ := h
    rfl
  · obtain ⟨sa, ca, wo, ao, bo, to, ww, aw, bw, tw, ld, nm', nm, led, rfl, S, hwo, hao, hww, haw, hld, hll, hln, nd, hl100, k⟩ := h
    have hu := hu_of hr
    refine ⟨_, pss_one (ps_ret (pe_call Ga hr (by rfl) ma ka ba .nil pass0 (pa_cons (pv 0) (pa_cons (pe_callTy (call_dictP rfl) (by rfl) T.dict (by decide +kernel) (pa_cons (pe_lc (own := [("_law_name", 4), ("_law_p", 5)]) (g := gTup K 2 (gCons (gName 4) (gCons (gName 5) gNil))) (tt := tYes) (te := tTup (tCons (tVar 4) (tCons (tOp (rIxL K) (tDGet (tVar 2) (tC (.str "names"))) (tVar 5)) tNil))) rfl scDc.nd (pi_zip (by rfl) T.zip (pa_cons (pe_dget hu (pv 1) pe_str (fun _ _ => rfl)) (pa_cons (pv 3) pa_nil)))
          (blkOk_by (N := nDc) (sc := defScope sDict) (by decide +kernel)) (fun _ _ _ _ _ => pg_tup rfl (pgs_cons (pg_name (i := 4) scDc.nd rfl (Or.inl rfl)) (pgs_cons (pg_name (i := 5) scDc.nd rfl (Or.inl rfl)) pgs_nil))) (fun _ _ _ _ _ => pts_nil)
          (fun _ _ _ _ _ => by exact pe_tup (pa_cons (pv 4) (pa_cons (pe_ix ix_list (pe_dget hu (pv 2) pe_str (fun _ _ => rfl)) (pv 5) (fun _ _ => rfl)) pa_nil)))) pa_nil)) pa_nil)))), ?_⟩
    refine ⟨_, rfl, _, rfl, wo, _, rfl, dg_names hwo, _, rfl, ao, ld, _, _, rfl, SqL.of hao, SqL.of hld, fun D hD => ?_⟩
    refine lc_it (walk_zip (xs := nm'.map V.str) (ys := natV led) (n := nm'.length) (by rw [List.length_map, List.length_map]; omega)) (fun i H2 => ∃ ps : List Addr, H2 D = some (.lst (ps.map V.ref)) ∧ ps.length = i ∧ Paired (fun p kv => H2 p = some (.tup [kV kv.1, kv.2])) ps ((leadKV nm' nm led).take i) ∧ Same H H2) ⟨[], upd_same, rfl, .nil, same_new hD⟩ (fun i H2 _ ⟨_, _, _, _, h⟩ => ⟨SqL.of (h _ _ hao), SqL.of (h _ _ hld)⟩) ?_ ?_
    · rintro i x H2 H3 hi ⟨ps, hD2, hpsl, pr, s2⟩ ⟨T, x1, y1, rfl, hT, rfl, e1, e2⟩
      have e1 : (nm'.map V.str)[i]? = some x1 := e1
      have e2 : (natV led)[i]? = some y1 := e2
      rw [List.getElem?_map] at e1 e2
      obtain ⟨x0, hx0, rfl⟩ := Option.map_eq_some_iff.mp e1
      obtain ⟨y0, hy0, rfl⟩ := Option.map_eq_some_iff.mp e2
      have hyn := hln y0 (List.mem_of_getElem? hy0)
      obtain ⟨z0, hz0⟩ : ∃ z0, nm[y0]? = some z0 := ⟨_, List.getElem?_eq_getElem hyn⟩
      have sT := same_new (o := .tup [V.str x0, V.int (y0 : Int)]) hT
      refine ⟨T, _, rfl, SqT.of upd_same, rfl, _, _, rfl, _, _, rfl, rfl, rfl, tyes ?_⟩
      refine ⟨_, rfl, _, rfl, ww, _, rfl, dg_names (sT _ _ (s2 _ _ hww)), _, rfl, aw, _, _, V.str z0, rfl, rfl, SqL.of (sT _ _ (s2 _ _ haw)), atI_nat (by rw [List.getElem?_map, hz0]; rfl), (by show 2 ≤ sizeLine; decide), fun u hu => ?_⟩
      have su := sT.trans (same_new (o := .tup [V.str x0, V.str z0]) hu)
      have nDu : u ≠ D := fun e => by subst e; rw [sT _ _ hD2] at hu; cases hu
      refine ⟨_, su _ _ hD2, Evl.sz_lt (by rw [List.length_map]; omega), ps ++ [u], by rw [upd_same, List.map_append]; rfl, by simp [hpsl], ?_, fun b o e => ?_⟩
      · have e : (leadKV nm' nm led)[i]? = some (Sum.inr x0, V.str z0) := by
          unfold leadKV
          have hz : (nm'.zip led)[i]? = some (x0, y0) := by rw [List.getElem?_zip_eq_some]; exact ⟨hx0, hy0⟩
          rw [List.getElem?_map, hz]
          simp [hz0]
        rw [List.take_add_one, e]
        refine paired_snoc (Paired.mapP pr fun p kv h => ?_) ?_
        · rw [upd_ne (ne_of h hD2 (by intro z; cases z))]
          exact su _ _ h
        · rw [upd_ne nDu]
          exact upd_same
      · rw [upd_ne (ne_of_none e hD)]
        exact su _ _ (s2 b o e)
    · rintro H2 ⟨ps, hD2, hpsl, pr, s2⟩
      have hlk : (leadKV nm' nm led).length = nm'.length := by unfold leadKV; simp; omega
      rw [List.take_of_length_le (by omega)] at pr
      refine ⟨D, ps, leadKV nm' nm led, rfl, SqL.of hD2, Paired.mapP pr fun p kv h => SqT.of h, fun r hr => ?_⟩
      have lnd := lead_nd (nm := nm) hll nd
      have s3 := s2.trans (same_new (o := .dK (mergeK [] (leadKV nm' nm led))) hr)
      have S3 := S.same s3
      refine ⟨sa, ca, r, leadKV nm' nm led, rfl, S3, ?_, (S.ne (s2.free hr)).1, lnd, by omega, fun p kvs' H' hp pm hp' S' kp' => ?_⟩
      · rw [upd_same, merge_nd (acc := []) (by simpa using lnd)]
        rfl
      · exact k p kvs' H' (s3.free hp) pm hp' S' ((Kp.same s3).trans kp')
end
end Nm
set_option maxRecDepth 100000
set_option maxHeartbeats 4000000
namespace Nm
open PySem L2
/-- the places below i that are led to q -/
def posU (led : List Nat) (i q : Nat) : List Nat := (List.range i).filter fun w => decide (led[w]? = some q)
theorem posU_yes {led : List Nat} {i q : Nat} (h : led[i]? = some q) : posU led (i + 1) q = posU led i q ++ [i] := by
  unfold posU
  rw [List.range_succ, List.filter_append]
  simp [h]
theorem posU_no {led : List Nat} {i q q' : Nat} (h : led[i]? = some q') (hn : q ≠ q') : posU led (i + 1) q = posU led i q := by
  unfold posU
  rw [List.range_succ, List.filter_append]
  simp [h]
  exact fun e => hn e.symm
theorem posU_len (led : List Nat) (i q : Nat) : (posU led i q).length ≤ i := by
  unfold posU
  have := List.length_filter_le (fun w => decide (led[w]? = some q)) (List.range i)
  rw [List.length_range] at this
  exact this
theorem posU_lt {led : List Nat} {i q w : Nat} (h : w ∈ posU led i q) : w < i := List.mem_range.mp (List.mem_filter.mp h).1
structure TxtG (mg : Str → Option Value) : Prop extends TxtF mg where
  isinstance : mg "isinstance" = none
  all : mg "all" = none
  bool : mg "bool" = none
  letters : ∃ t, mg "LETTERS" = some (.str "abcdefghijklmnopqrstuvwxyz" t)
  digits : ∃ t, mg "DIGITS" = some (.str "0123456789" t)
section
variable {P : Program} {w : World} {K : PySem.W.Frag} {mg : Str → Option Value} {base : Heap}
/-! ### _law_above -/
def spAbove : Sp := fun vs H Q _ => ∃ (ld : Addr) (led : List Nat) (n : Nat), vs = [.ref ld, .int (n : Int)] ∧ H ld = some (.lst (natV led)) ∧ led.length ≤ 1000 ∧ n ≤ 1000 ∧ (∀ x ∈ led, x < n) ∧
  ∀ (f : Addr) (as : List Addr) (H' : Hp), H f = none → H' f = some (.lst (as.map V.ref)) → as.length = n → (∀ q a, as[q]? = some a → H a = none ∧ H' a = some (.lst (natV (posU led led.length q)))) → Same H H' → Q (.ref f) H'
abbrev nAb : List Str := ["_law_led", "_law_many", "_law_p", "_law_found", "_law_w"]
theorem scAb : FnScope nAb ["_law_led", "_law_many"] (defScope sAbove) := ⟨rfl, rfl, rfl, by decide +kernel, rfl, by decide +kernel, by decide +kernel⟩
theorem ok_above {f : Addr} {fd : FuncData} (F : Fun K "_law_above" "_law_above" sAbove f fd) (T : TxtF mg) : FnOk P w K mg base CX0 1 f fd ["_law_led", "_law_many"] spAbove := by
  refine F.ok scAb (fun vs H Q E h => ?_) (fun cdv A outer s H vs Q E hr h => ?_)
  · obtain ⟨_, _, _, rfl, _⟩ := h
    rfl
  · obtain ⟨ld, led, n, rfl, hld, hl, hn, hln, k⟩ := h
    refine ⟨_, Evl.pss_cut (ps_setLc (i := 3) (own := [("_law_p", 2)]) (g := gName 2) (tt := tYes) rfl scAb.nd rfl rfl (sw_true rfl rfl rfl (by decide +kernel)) (pi_range1 (by rfl) T.range (pa_cons (pv 1) pa_nil))
        (blkOk_by (N := nAb) (sc := defScope sAbove) (by decide +kernel)) (fun _ _ _ _ _ => pg_name (i := 2) scAb.nd rfl (Or.inl rfl)) (fun _ _ _ _ _ => pts_nil) (fun _ _ _ _ _ => pe_lst pa_nil))
      (pss_cons (ps_for PassesOwn.never rfl (pi_enum (by rfl) T.enumerate (pa_cons (pv 0) pa_nil)) (pg_tup rfl (pgs_cons (pg_name (i := 4) scAb.nd rfl (.inl rfl)) (pgs_cons (pg_name (i := 2) scAb.nd rfl (.inl rfl)) pgs_nil)))
        (pss_one (ps_expr (pe_bm PySem.F.plainAttrs_list PySem.F.slot_list_append PySem.F.type_list_append mt_append (pe_ix ix_list (pv 3) (pv 2) (fun _ _ => rfl)) (pa_cons (pv 4) pa_nil)))))
      (pss_one (ps_ret (pv 3)))), ?_⟩
    refine ⟨fun σ H1 => ∃ f as, σ = [some (.ref ld), some (.int (n : Int)), none, some (.ref f), none] ∧ H f = none ∧ H1 f = some (.lst (List.map V.ref as)) ∧ as.length = n ∧ as.Nodup ∧ f ∉ as ∧ (∀ a ∈ as, H a = none ∧ H1 a = some (.lst [])) ∧ Same H H1, ?_, ?_⟩
    · refine ⟨_, rfl, _, rfl, by omega, by omega, fun D hD => ?_⟩
      refine lc_range (lo := 0) (n := (n : Int).toNat) (fun i H1 => ∃ as, H1 D = some (.lst (List.map V.ref as)) ∧ as.length = i ∧ as.Nodup ∧ D ∉ as ∧ (∀ a ∈ as, H a = none ∧ H1 a = some (.lst [])) ∧ Same H H1) ⟨[], upd_same, rfl, List.nodup_nil, by simp, (fun a ha => (List.not_mem_nil ha).elim), same_new hD⟩ ?_ ?_
      · rintro i H1 hi ⟨as, hD1, hal, hand, hDa, hae, s1⟩
        refine ⟨rfl, tyes ?_⟩
        refine ⟨(by show 0 ≤ sizeLine; decide), fun u hu => ?_⟩
        have su := same_new (o := .lst []) hu
        have nDu : u ≠ D := fun e => by subst e; rw [hD1] at hu; cases hu
        have hua : u ∉ as := fun hm => by have := (hae u hm).2; rw [hu] at this; cases this
        refine ⟨_, su _ _ hD1, Evl.sz_lt (by rw [List.length_map]; omega), as ++ [u], by rw [upd_same, List.map_append]; rfl, by simp [hal], ?_, ?_, ?_, fun b o e => ?_⟩
        · rw [List.nodup_append]
          refine ⟨hand, by simp, fun a ha b hb e => ?_⟩
          rw [List.mem_singleton] at hb
          subst hb e
          exact hua ha
        · simp [hDa]
          exact fun e => nDu e.symm
        · intro a ha
          rcases List.mem_append.mp ha with z | z
          · have na : a ≠ D := fun e => by subst e; exact hDa z
            exact ⟨(hae a z).1, by rw [upd_ne na]; exact su _ _ (hae a z).2⟩
          · rw [List.mem_singleton] at z
            subst z
            exact ⟨s1.free hu, by rw [upd_ne nDu]; exact upd_same⟩
        · rw [upd_ne (ne_of_none e hD)]
          exact su _ _ (s1 b o e)
      · rintro H1 ⟨as, hD1, hal, hand, hDa, hae, s1⟩
        exact ⟨D, as, rfl, hD, hD1, by omega, hand, hDa, hae, s1⟩
    rintro σ H1 ⟨f, as, rfl, hf0, hf, hal, hand, hfa, hae, s1⟩
    refine ⟨_, rfl, ld, _, rfl, SqL.of (s1 _ _ hld), ?_⟩
    refine for_it (walk_enum (xs := natV led)) (fun i σ H2 => ∃ v2 v4, σ = [some (.ref ld), some (.int (n : Int)), v2, some (.ref f), v4] ∧ H2 f = some (.lst (List.map V.ref as)) ∧ (∀ q a, as[q]? = some a → H2 a = some (.lst (natV (posU led i q)))) ∧ Same H H2)
      ⟨none, none, rfl, hf, fun q a ha => (hae a (List.mem_of_getElem? ha)).2, s1⟩ (fun i σ H2 _ ⟨_, _, _, _, _, h⟩ => SqL.of (h _ _ hld)) ?_ ?_
    · rintro i x σ H2 H3 hi ⟨v2, v4, rfl, hf2, hq2, s2⟩ ⟨T', x1, y1, rfl, hT, rfl, e1, e2⟩
      rw [List.length_map] at hi
      have e2 : (natV led)[i]? = some y1 := e2
      rw [List.getElem?_map] at e2
      obtain ⟨q, hq, rfl⟩ := Option.map_eq_some_iff.mp e2
      cases e1
      have hqn := hln q (List.mem_of_getElem? hq)
      obtain ⟨a, ha⟩ : ∃ a, as[q]? = some a := ⟨_, List.getElem?_eq_getElem (by omega)⟩
      have haf : a ≠ f := fun e => by subst e; exact hfa (List.mem_of_getElem? ha)
      have sT := same_new (o := .tup [V.int (i : Nat), V.int (q : Int)]) hT
      have ha3 := sT _ _ (hq2 q a ha)
      refine ⟨T', _, rfl, SqT.of upd_same, rfl, _, _, rfl, _, _, rfl, rfl, ?_⟩
      refine ⟨_, rfl, _, rfl, f, _, _, V.ref a, rfl, rfl, SqL.of (sT _ _ hf2), atI_nat (by rw [List.getElem?_map, ha]; rfl), .inl ⟨rfl, _, SqL.of ha3⟩, _, rfl, a, _, _, rfl, rfl, ha3, Evl.sz_lt (by rw [List.length_map]; have := posU_len led i q; omega), ?_⟩
      refine ⟨_, _, rfl, by rw [upd_ne haf.symm]; exact sT _ _ hf2, fun q' a' ha' => ?_, fun b o e => ?_⟩
      · by_cases e : q' = q
        · subst e
          rw [ha] at ha'
          cases ha'
          rw [upd_same, posU_yes hq]
          unfold natV
          rw [List.map_append]
          rfl
        · have naa : a' ≠ a := fun z => by
            subst z
            have h1 := (List.getElem?_eq_some_iff.mp ha').1
            have h2 := (List.getElem?_eq_some_iff.mp ha).1
            exact e ((List.getElem?_inj h1 hand).mp (by rw [ha, ha']))
          rw [upd_ne naa, posU_no hq e]
          exact sT _ _ (hq2 q' a' ha')
      · rw [upd_ne (ne_of_none e (hae a (List.mem_of_getElem? ha)).1)]
        exact sT _ _ (s2 b o e)
    · rintro σ H2 ⟨v2, v4, rfl, hf2, hq2, s2⟩
      rw [List.length_map] at hq2
      exact ⟨_, rfl, k f as H2 hf0 hf2 hal (fun q a ha => ⟨(hae a (List.mem_of_getElem? ha)).1, hq2 q a ha⟩) s2⟩
/-! ### is_word, is_number -/
def spWord : Sp := fun vs H Q _ => ∃ z : Str, vs = [.str z] ∧ isWordB z = true ∧ ∀ H', Same H H' → Q (.bl true) H'
abbrev nWord : List Str := ["value", "letters", "letter"]
theorem scWord : FnScope nWord ["value"] (defScope sIsWord) := ⟨rfl, rfl, rfl, by decide +kernel, rfl, by decide +kernel, by decide +kernel⟩
theorem ok_word {f : Addr} {fd : FuncData} (F : Fun K "is_word" "is_word" sIsWord f fd) (T : TxtG mg) : FnOk P w K mg base CX0 1 f fd ["value"] spWord := by
  obtain ⟨tl, Tl⟩ := T.letters
  obtain ⟨td, Td⟩ := T.digits
  refine F.ok scWord (fun vs H Q E h => ?_) (fun cdv A outer s H vs Q E hr h => ?_)
  · obtain ⟨_, rfl, _⟩ := h
    rfl
  · obtain ⟨z, rfl, hz, k⟩ := h
    refine ⟨_, pss_cons (ps_if (pt_not (pt_val (pe_callB call_isi (by rfl) T.isinstance (by decide +kernel) (pa_cons (pv 0) (pa_cons (pe_bltn (v := .ty "str") (by rfl) T.str (by decide +kernel) rfl) pa_nil))))) (pss_one (ps_ret pe_bl)) pss_nil)
      (pss_cons (ps_set (i := 1) scWord.nd rfl (Or.inl rfl) (pe_bm PySem.F.plainAttrs_str PySem.F.slot_str_rstrip PySem.F.type_str_rstrip mt_rstripChars (pv 0) (pa_cons (pe_glob (v := .str "0123456789") (by rfl) Td ⟨_, rfl⟩) pa_nil)))
      (pss_cons (ps_if (PW.pt (pw_or (pt_not (pt_chain op_le op_le pe_int (pe_callB call_len_str (by rfl) T.len PySem.boot_len (pa_cons (pv 1) pa_nil)) pe_int)) (pw_or1 (pt_cmpR op_gt (pe_op op_sub (pe_callB call_len_str (by rfl) T.len PySem.boot_len (pa_cons (pv 0) pa_nil)) (pe_callB call_len_str (by rfl) T.len PySem.boot_len (pa_cons (pv 1) pa_nil))) pe_int (nomark _))))) (pss_one (ps_ret pe_bl)) pss_nil)
      (pss_one (ps_ret (pe_callB (cr_all rfl) (by rfl) T.all (by decide +kernel) (pa_cons (pe_lc (own := [("letter", 2)]) (g := gName 2) (tt := tYes) rfl scWord.nd (pi_str (pv 1))
          (blkOk_by (N := nWord) (sc := defScope sIsWord) (by decide +kernel)) (fun _ _ _ _ _ => pg_name (i := 2) scWord.nd rfl (Or.inl rfl)) (fun _ _ _ _ _ => pts_nil)
          (fun _ _ _ _ _ => pe_cmpR op_in_sign (pv 2) (pe_glob (v := .str "abcdefghijklmnopqrstuvwxyz") (by rfl) Tl ⟨_, rfl⟩) (by rfl))) pa_nil)))))), ?_⟩
    unfold isWordB at hz
    simp only [Bool.and_eq_true, decide_eq_true_eq, List.all_eq_true] at hz
    obtain ⟨⟨⟨⟨h100, h1⟩, h8⟩, h4⟩, hall⟩ := hz
    refine ⟨_, rfl, _, _, _, _, true, rfl, ClsV.ty "str", TyX.base (TyOf.str z), kit_ty (by decide +kernel), _, rfl, iteF ?_⟩
    refine ⟨_, rfl, ?_, _, _, rfl, rfl, Evl.sz_of (by omega), ?_⟩
    · rfl
    refine ⟨_, rfl, _, rfl, Evl.sz_of (show (letB z).length ≤ 100000 by omega), _, _, rfl, rfl, _, rfl, ?_⟩
    have c1 : decide ((1 : Int) ≤ ((letB z).length : Int)) = true := decide_eq_true (by omega)
    have c2 : decide (((letB z).length : Int) ≤ 8) = true := decide_eq_true (by omega)
    have c3 : decide ((4 : Int) < (z.length : Int) - ((letB z).length : Int)) = false := decide_eq_false (by omega)
    show (if decide ((1 : Int) ≤ ((letB z).length : Int)) = true then _ else _)
    rw [if_pos c1]
    refine ⟨_, _, rfl, rfl, _, rfl, ?_⟩
    show (if (!decide (((letB z).length : Int) ≤ 8)) = true then _ else _)
    rw [c2]
    refine iteF ?_
    refine ⟨_, rfl, _, rfl, Evl.sz_of (by omega), _, rfl, _, rfl, Evl.sz_of (show (letB z).length ≤ 100000 by omega), _, _, rfl, rfl, _, _, rfl, rfl, _, rfl, ?_⟩
    show (if decide ((4 : Int) < (z.length : Int) - ((letB z).length : Int)) = true then _ else _)
    rw [c3]
    refine iteF ?_
    refine ⟨_, rfl, letB z, rfl, fun D hD => ?_⟩
    refine lc_it walk_str (fun i H1 => ∃ bs : List Bool, H1 D = some (.lst (bs.map V.bl)) ∧ bs.length = i ∧ (∀ b ∈ bs, b = true) ∧ Same H H1) ⟨[], upd_same, rfl, (fun b hb => (List.not_mem_nil hb).elim), same_new hD⟩ (fun _ _ _ _ => trivial) ?_ ?_
    · rintro i x H1 H2 hi ⟨bs, hD1, hbl, hbt, s1⟩ ⟨rfl, c, hc, rfl⟩
      have hi8 : i < 8 := by
        have : (letB z).cps.size = (letB z).length := rfl
        omega
      have hcm : c ∈ (letB z).cps.toList := by
        rw [← Array.getElem?_toList] at hc
        exact List.mem_of_getElem? hc
      have hin : decide (c ∈ ("abcdefghijklmnopqrstuvwxyz" : Str).cps.toList) = true := decide_eq_true (hall c hcm)
      refine ⟨rfl, tyes ?_⟩
      refine ⟨_, rfl, c, _, rfl, rfl, _, hD1, Evl.sz_lt (by rw [List.length_map]; omega), bs ++ [true], ?_, by simp [hbl], ?_, fun b o e => ?_⟩
      · rw [upd_same, List.map_append, hin]
        rfl
      · intro b hb
        rcases List.mem_append.mp hb with q | q
        · exact hbt b q
        · exact List.mem_singleton.mp q
      · rw [upd_ne (ne_of_none e hD)]
        exact s1 b o e
    · rintro H1 ⟨bs, hD1, hbl, hbt, s1⟩
      refine ⟨D, bs, rfl, SqL.of hD1, ?_⟩
      have : bs.all id = true := List.all_eq_true.mpr fun b hb => hbt b hb
      rw [this]
      exact k H1 s1
def spInteger : Sp := fun vs H Q _ => ∃ i : Int, vs = [.int i] ∧ Q (.bl true) H
theorem scInteger : FnScope ["value"] ["value"] (defScope sIsInteger) := ⟨rfl, rfl, rfl, by decide +kernel, rfl, by decide +kernel, by decide +kernel⟩
theorem ok_integer {f : Addr} {fd : FuncData} (F : Fun K "is_integer" "is_integer" sIsInteger f fd) (T : TxtG mg) : FnOk P w K mg base CX0 1 f fd ["value"] spInteger := by
  refine F.ok scInteger (fun vs H Q E h => ?_) (fun cdv A outer s H vs Q E hr h => ?_)
  · obtain ⟨_, rfl, _⟩ := h
    rfl
  · obtain ⟨i, rfl, k⟩ := h
    refine ⟨_, pss_one (ps_ret (pe_and (pe_callB call_isi (by rfl) T.isinstance (by decide +kernel) (pa_cons (pv 0) (pa_cons (pe_bltn (v := .ty "int") (by rfl) T.int (by decide +kernel) rfl) pa_nil)))
      (pe_one (pe_not (pe_callB call_isi (by rfl) T.isinstance (by decide +kernel) (pa_cons (pv 0) (pa_cons (pe_bltn (v := .ty "bool") (by rfl) T.bool (by decide +kernel) rfl) pa_nil))))))), ?_⟩
    refine ⟨_, rfl, _, _, _, _, true, rfl, ClsV.ty "int", TyX.base (TyOf.int i), kit_ty (by decide +kernel), _, rfl, iteT ?_⟩
    exact ⟨_, rfl, _, _, _, _, false, rfl, ClsV.ty "bool", TyX.base (TyOf.int i), kit_ty (by decide +kernel), _, rfl, k⟩
def spNumber : Sp := fun vs H Q _ => ∃ i l : Int, vs = [.int i, .int l] ∧ Q (.bl (decide (l ≤ i))) H
theorem scNumber : FnScope ["value", "least"] ["value", "least"] (defScope sIsNumber) := ⟨rfl, rfl, rfl, by decide +kernel, rfl, by decide +kernel, by decide +kernel⟩
theorem ok_number {f : Addr} {fd : FuncData} (F : Fun K "is_number" "is_number" sIsNumber f fd) (Gi : Def P w K mg base "is_integer" ["value"] 1 spInteger) : FnOk P w K mg base CX0 2 f fd ["value", "least"] spNumber := by
  obtain ⟨fi, fdi, Gi, mi, ki, bi⟩ := Gi.ex
  refine F.ok scNumber (fun vs H Q E h => ?_) (fun cdv A outer s H vs Q E hr h => ?_)
  · obtain ⟨_, _, rfl, _⟩ := h
    rfl
  · obtain ⟨i, l, rfl, k⟩ := h
    refine ⟨_, pss_one (ps_ret (pe_and (pe_call Gi hr (by rfl) mi ki bi .nil pass0 (pa_cons (pv 0) pa_nil)) (pe_one (pe_cmpR op_ge (pv 0) (pv 1) (nomark _))))), ?_⟩
    refine ⟨_, rfl, i, rfl, _, rfl, iteT ?_⟩
    exact ⟨_, rfl, _, rfl, _, _, rfl, rfl, k⟩
end
end Nm
set_option maxRecDepth 100000
set_option maxHeartbeats 4000000
namespace Nm
open PySem L2
/-- a list of pairs (name, colour) stands at p -/
def PlacesAt (H : Hp) (p : Addr) (nm cl : List Str) : Prop := ∃ ts : List Addr, H p = some (.lst (ts.map V.ref)) ∧ ts.length = nm.length ∧ ∀ (i : Nat) (t : Addr), ts[i]? = some t → ∃ x y, nm[i]? = some x ∧ cl[i]? = some y ∧ H t = some (.tup [.str x, .str y])
section
variable {P : Program} {w : World} {K : PySem.W.Frag} {mg : Str → Option Value} {base : Heap}
/-! ### need_word -/
def spNeedW : Sp := fun vs H Q _ => ∃ x : Str, vs = [.str x] ∧ isWordB x = true ∧ ∀ H', Same H H' → Q .non H'
abbrev nNW : List Str := ["value"]
theorem scNW : FnScope nNW ["value"] (defScope sNeedWord) := ⟨rfl, rfl, rfl, by decide +kernel, rfl, by decide +kernel, by decide +kernel⟩
theorem ok_needW {f : Addr} {fd : FuncData} (F : Fun K "need_word" "need_word" sNeedWord f fd) (_T : TxtG mg) (Gw : Def P w K mg base "is_word" ["value"] 1 spWord) : FnOk P w K mg base CX0 2 f fd ["value"] spNeedW := by
  obtain ⟨fw, fdw, Gw, mw, kw, bw⟩ := Gw.ex
  refine F.ok scNW (fun vs H Q E h => ?_) (fun cdv A outer s H vs Q E hr h => ?_)
  · obtain ⟨_, rfl, _⟩ := h
    rfl
  · obtain ⟨x, rfl, hx, k⟩ := h
    refine ⟨_, pss_one (ps_if (pt_not (pt_val (pe_call Gw hr (by rfl) mw kw bw .nil pass0 (pa_cons (pv 0) pa_nil)))) (pss_one ps_never) pss_nil), ?_⟩
    refine ⟨_, rfl, x, rfl, hx, fun H2 s2 => ⟨_, rfl, iteF ?_⟩⟩
    exact k H2 s2
/-! ### need_once -/
def spOnce : Sp := fun vs H Q _ => ∃ (p : Addr) (nm : List Str), vs = [.ref p] ∧ H p = some (.lst (nm.map V.str)) ∧ nm.length ≤ 1000 ∧ nm.Nodup ∧ ∀ H', Same H H' → Q .non H'
abbrev nNO : List Str := ["names", "told", "name"]
theorem scNO : FnScope nNO ["names"] (defScope sNeedOnce) := ⟨rfl, rfl, rfl, by decide +kernel, rfl, by decide +kernel, by decide +kernel⟩
theorem ok_once {f : Addr} {fd : FuncData} (F : Fun K "need_once" "need_once" sNeedOnce f fd) (T : TxtG mg) : FnOk P w K mg base CX0 1 f fd ["names"] spOnce := by
  refine F.ok scNO (fun vs H Q E h => ?_) (fun cdv A outer s H vs Q E hr h => ?_)
  · obtain ⟨_, _, rfl, _⟩ := h
    rfl
  · obtain ⟨p, nm, rfl, hp, h1000, nd, k⟩ := h
    refine ⟨_, pss_cons (ps_set (i := 1) scNO.nd rfl (Or.inl rfl) (pe_callTy0 cr_set0K (by rfl) T.set (by decide +kernel)))
      (pss_one (ps_for PassesOwn.never rfl (pi_list (pv 0)) (pg_name (i := 2) scNO.nd rfl (.inl rfl))
        (pss_cons (ps_if (pt_cmpR or_sinK (pv 2) (pv 1) (by rfl)) (pss_one ps_never) pss_nil)
        (pss_one (ps_expr (pe_saddK (pv 1) (pa_cons (pv 2) pa_nil))))))), ?_⟩
    refine ⟨rfl, fun se hse => ?_⟩
    have s2 := same_new (o := SetK P w se (fun _ => false) 0) hse
    refine ⟨_, rfl, p, rfl, ⟨_, SqL.of (s2 _ _ hp)⟩, ?_⟩
    refine for_list (xs := nm.map V.str) (fun i σ H2 => ∃ v2 S n, σ = [some (.ref p), some (.ref se), v2] ∧ H2 se = some (SetK P w se S n) ∧ n ≤ i ∧ (∀ k, S k = true → ∃ x ∈ nm.take i, k = Sum.inr x) ∧ Same H H2)
      ⟨none, fun _ => false, 0, rfl, upd_same, Nat.le_refl _, (fun k h => by cases h), s2⟩ (fun i σ H2 _ ⟨_, _, _, _, _, _, _, h⟩ => SqL.of (h _ _ hp)) ?_ ?_
    · rintro i v σ H2 hi ⟨v2, S, n, rfl, hS, hn, hSk, s3⟩
      have hil := (List.getElem?_eq_some_iff.mp hi).1
      rw [List.length_map] at hil
      rw [List.getElem?_map] at hi
      obtain ⟨x, hx, rfl⟩ := Option.map_eq_some_iff.mp hi
      have hxS : S (Sum.inr x) = false := by
        cases e : S (Sum.inr x) with
        | false => rfl
        | true =>
          obtain ⟨x', hx', e'⟩ := hSk _ e
          cases e'
          obtain ⟨j, hj⟩ := List.getElem?_of_mem hx'
          rw [List.getElem?_take] at hj
          split at hj
          · rename_i hji
            have h1 := (List.getElem?_eq_some_iff.mp hj).1
            have h2 := (List.getElem?_eq_some_iff.mp hx).1
            have : j = i := (List.getElem?_inj h1 nd).mp (hj.trans hx.symm)
            omega
          · cases hj
      refine ⟨_, rfl, _, rfl, Sum.inr x, se, S, n, rfl, rfl, hS, _, rfl, ?_⟩
      show (if (if false = true then !S (Sum.inr x) else S (Sum.inr x)) = true then _ else _)
      rw [hxS]
      refine iteF ?_
      refine ⟨_, rfl, ⟨se, S, n, rfl, hS⟩, _, rfl, se, Sum.inr x, S, n, rfl, rfl, hS, by unfold scanBound; omega, ?_⟩
      refine ⟨_, _, _, rfl, upd_same, ?_, ?_, fun b o e => ?_⟩
      · split <;> omega
      · intro k' hk'
        rw [List.take_add_one, hx]
        by_cases e : k' = Sum.inr x
        · exact ⟨x, by simp, e⟩
        · have : S k' = true := by simpa [e] using hk'
          obtain ⟨x', h1, h2⟩ := hSk k' this
          exact ⟨x', List.mem_append_left _ h1, h2⟩
      · rw [upd_ne (ne_of_none e hse)]
        exact s3 b o e
    · rintro σ H2 ⟨v2, S, n, rfl, hS, hn, hSk, s3⟩
      exact k H2 s3
/-! ### need_places -/
def spNeedP : Sp := fun vs H Q _ => ∃ (p : Addr) (nm cl : List Str), vs = [.ref p] ∧ PlacesAt H p nm cl ∧ 1 ≤ nm.length ∧ nm.length ≤ 1000 ∧ nm.Nodup ∧ (∀ x ∈ nm, isWordB x = true) ∧ (∀ x ∈ cl, isWordB x = true) ∧ ∀ H', Same H H' → Q .non H'
abbrev nNP : List Str := ["places", "name", "colour", "_"]
theorem scNP : FnScope nNP ["places"] (defScope sNeedPlaces) := ⟨rfl, rfl, rfl, by decide +kernel, rfl, by decide +kernel, by decide +kernel⟩
theorem ok_needP {f : Addr} {fd : FuncData} (F : Fun K "need_places" "need_places" sNeedPlaces f fd) (T : TxtG mg) (Gw : Def P w K mg base "need_word" ["value"] 2 spNeedW) (Go : Def P w K mg base "need_once" ["names"] 1 spOnce) : FnOk P w K mg base CX0 3 f fd ["places"] spNeedP := by
  obtain ⟨fw, fdw, Gw, mw, kw, bw⟩ := Gw.ex
  obtain ⟨fo, fdo, Go, mo, ko, bo⟩ := Go.ex
  refine F.ok scNP (fun vs H Q E h => ?_) (fun cdv A outer s H vs Q E hr h => ?_)
  · obtain ⟨_, _, _, rfl, _⟩ := h
    rfl
  · obtain ⟨p, nm, cl, rfl, ⟨ts, hp, htl, hts⟩, h1, h1000, nd, hnw, hcw, k⟩ := h
    have hr1 := hr.mono (by decide : 1 ≤ 2)
    refine ⟨_, pss_cons (ps_if (pt_cmpR op_eq (pe_callB call_len_seq (by rfl) T.len PySem.boot_len (pa_cons (pv 0) pa_nil)) pe_int (nomark _)) (pss_one ps_never) pss_nil)
      (pss_cons (ps_for PassesOwn.never rfl (pi_list (pv 0)) (pg_tup rfl (pgs_cons (pg_name (i := 1) scNP.nd rfl (.inl rfl)) (pgs_cons (pg_name (i := 2) scNP.nd rfl (.inl rfl)) pgs_nil)))
        (pss_cons (ps_expr (pe_call Gw hr (by rfl) mw kw bw .nil pass0 (pa_cons (pv 1) pa_nil)))
        (pss_one (ps_expr (pe_call Gw hr (by rfl) mw kw bw .nil pass0 (pa_cons (pv 2) pa_nil))))))
      (pss_one (ps_expr (pe_call Go hr1 (by rfl) mo ko bo .nil pass0 (pa_cons (pe_lc (own := [("name", 1), ("_", 3)]) (g := gTup K 2 (gCons (gName 1) (gCons (gName 3) gNil))) (tt := tYes) (te := tVar 1) rfl scNP.nd (pi_list (pv 0)) (blkOk_by (N := nNP) (sc := defScope sNeedPlaces) (by decide +kernel))
          (fun _ _ _ _ _ => pg_tup rfl (pgs_cons (pg_name (i := 1) scNP.nd rfl (Or.inl rfl)) (pgs_cons (pg_name (i := 3) scNP.nd rfl (Or.inl rfl)) pgs_nil))) (fun _ _ _ _ _ => pts_nil) (fun _ _ _ _ _ => pv 1)) pa_nil))))), ?_⟩
    refine ⟨_, rfl, p, _, rfl, .inl (SqL.of hp), rfl, _, rfl, ?_⟩
    refine ite2 (fun h => ?_) (fun _ => ?_)
    · have h := of_decide_eq_true h
      injection h with h
      rw [List.length_map] at h
      omega
    refine ⟨_, rfl, p, rfl, ⟨_, SqL.of hp⟩, ?_⟩
    refine for_list (xs := ts.map V.ref) (fun i σ H1 => ∃ v1 v2, σ = [some (.ref p), v1, v2, none] ∧ Same H H1) ⟨none, none, rfl, Same.refl H⟩ (fun i σ H1 _ ⟨_, _, _, h⟩ => SqL.of (h _ _ hp)) ?_ ?_
    · rintro i v σ H1 hi ⟨v1, v2, rfl, s1⟩
      rw [List.getElem?_map] at hi
      obtain ⟨t, ht, rfl⟩ := Option.map_eq_some_iff.mp hi
      obtain ⟨x, y, hx, hy, htt⟩ := hts i t ht
      refine ⟨t, _, rfl, SqT.of (s1 _ _ htt), rfl, _, _, rfl, _, _, rfl, rfl, ?_⟩
      refine ⟨_, rfl, x, rfl, hnw x (List.mem_of_getElem? hx), fun H2 s2 => ?_⟩
      refine ⟨_, rfl, y, rfl, hcw y (List.mem_of_getElem? hy), fun H3 s3 => ?_⟩
      exact ⟨_, _, rfl, (s1.trans s2).trans s3⟩
    rintro σ H1 ⟨v1, v2, rfl, s1⟩
    refine ⟨_, rfl, p, rfl, ⟨_, SqL.of (s1 _ _ hp)⟩, fun D hD => ?_⟩
    have hp1 := s1 _ _ hp
    refine lc_list (xs := ts.map V.ref) (fun i H4 => H4 D = some (.lst ((nm.take i).map V.str)) ∧ Same H1 H4) ⟨upd_same, same_new hD⟩ (fun i H4 _ h => SqL.of (h.2 _ _ hp1)) ?_ ?_
    · rintro i x H4 hx ⟨hD4, s4⟩
      have hi := (List.getElem?_eq_some_iff.mp hx).1
      rw [List.length_map] at hi
      rw [List.getElem?_map] at hx
      obtain ⟨t, ht, rfl⟩ := Option.map_eq_some_iff.mp hx
      obtain ⟨x, y, hx, hy, htt'⟩ := hts i t ht
      refine ⟨t, _, rfl, SqT.of (s4 _ _ (s1 _ _ htt')), rfl, _, _, rfl, _, _, rfl, rfl, rfl, tyes ?_⟩
      refine ⟨_, rfl, _, hD4, Evl.sz_lt (by rw [List.length_map, List.length_take]; omega), ?_, fun b o e => ?_⟩
      · rw [upd_same, List.take_add_one, hx, List.map_append]
        rfl
      · rw [upd_ne (ne_of_none e hD)]
        exact s4 b o e
    · rintro H4 ⟨hD4, s4⟩
      rw [List.length_map, htl, List.take_of_length_le (Nat.le_refl _)] at hD4
      exact ⟨D, nm, rfl, hD4, h1000, nd, fun H5 s5 => k H5 ((s1.trans s4).trans s5)⟩
end
end Nm
set_option maxRecDepth 100000
set_option maxHeartbeats 4000000
/-! min and max of two texts -/
namespace Nm
open PySem PySem.Spec PyProof.Rows L2
section
variable {prog : Program} {w : World} {A : Around} {E : Value → Shared → Prop} {s : Shared}
def two (a b : Value) : Array Value := #[a, b]
theorem two_at {a b : Value} {i : Nat} {v : Value} (h : (two a b)[i]? = some v) : (i = 0 ∧ v = a) ∨ (i = 1 ∧ v = b) := by
  match i, h with
  | 0, h => left; simpa [two, eq_comm] using h
  | 1, h => right; simpa [two, eq_comm] using h
  | i + 2, h => simp [two] at h
def strAt (x y : Str) (i : Nat) : Str := if i = 0 then x else y
theorem two_str {x y : Str} {t u : Tok} {i : Nat} {v : Value} (h : (two (.str x t) (.str y u))[i]? = some v) : ∃ t', v = .str (strAt x y i) t' := by
  rcases two_at h with ⟨rfl, rfl⟩ | ⟨rfl, rfl⟩
  · exact ⟨t, rfl⟩
  · exact ⟨u, rfl⟩
theorem min_two_strs {x y : Str} {t u : Tok} {Q : Value → Shared → Prop} (hh : A.handled = none)
    (h : ∀ h' tk, (∀ c o, s.heap.get? c = some o → h'.get? c = some o) → Q (if y.cps.toList < x.cps.toList then .str y u else .str x t) { s with heap := h', toks := tk }) :
    wpAny (model prog w) A (call (.builtin "min") [.str x t, .str y u]) Q E s := by
  have hT : (s.heap.push { cls := .type "tuple", data := .seq #[.str x t, .str y u] }).IsTuple s.heap.objs.size (two (.str x t) (.str y u)) := ⟨_, Heap.get?_push_size _ rfl, rfl, 0, rfl⟩
  refine call_min_two (wpAny_pyIter_tuple hT ?_)
  have hsz : (s.heap.push { cls := .type "tuple", data := .seq #[.str x t, .str y u] }).objs.size = s.heap.objs.size + 1 := Heap.size_push ..
  refine ⟨_, [_, s.heap.objs.size], [_], _, _, _, fun i j => decide ((strAt x y i).cps.toList < (strAt x y j).cps.toList), rfl, Walks.tuple (A := A.in1) hh _ s.heap.objs.size (by rw [hsz]; exact Nat.ne_of_lt (Nat.lt_succ_self _)) (two (.str x t) (.str y u)),
    ⟨⟨_, Heap.get?_push_size _ rfl, rfl, rfl⟩, hT.push _⟩, fun c hc => ?_, by simp [two], ?_, fun v h' tk hP hk => ?_⟩
  · show c < ((s.heap.push _).push _).objs.size
    rw [Heap.size_push, hsz]
    rcases List.mem_cons.mp hc with rfl | hc
    · rw [hsz]; exact Nat.lt_succ_self _
    · rcases List.mem_cons.mp hc with rfl | hc
      · exact Nat.lt_succ_of_lt (Nat.lt_succ_self _)
      · cases hc
  · intro i j vi vj s' Q' E' hi hj hq
    obtain ⟨t1, rfl⟩ := two_str hi
    obtain ⟨t2, rfl⟩ := two_str hj
    exact lt_str (t := t1) (u := t2) hq
  · have hold : ∀ c o, s.heap.get? c = some o → h'.get? c = some o := fun c o e => by
      refine hk c o (fun hm => ?_) (Heap.get?_push_of_some _ (Heap.get?_push_of_some _ e))
      rcases List.mem_cons.mp hm with e1 | hm
      · have := Heap.lt_size e; rw [e1, hsz] at this; exact Nat.lt_irrefl _ (Nat.lt_of_succ_lt this)
      · cases hm
    have := h h' tk hold
    have hv : v = if y.cps.toList < x.cps.toList then Value.str y u else Value.str x t := by
      have hP' : (two (.str x t) (.str y u))[argBest (fun i j => decide ((strAt x y i).cps.toList < (strAt x y j).cps.toList)) 1]? = some v := hP
      by_cases hba : y.cps.toList < x.cps.toList
      · have e : argBest (fun i j => decide ((strAt x y i).cps.toList < (strAt x y j).cps.toList)) 1 = 1 := by simp [argBest, strAt, hba]
        rw [e] at hP'
        rw [if_pos hba]
        simpa [two] using hP'.symm
      · have e : argBest (fun i j => decide ((strAt x y i).cps.toList < (strAt x y j).cps.toList)) 1 = 0 := by simp [argBest, strAt, hba]
        rw [e] at hP'
        rw [if_neg hba]
        simpa [two] using hP'.symm
    rw [hv]; exact this
theorem max_two_strs {x y : Str} {t u : Tok} {Q : Value → Shared → Prop} (hh : A.handled = none)
    (h : ∀ h' tk, (∀ c o, s.heap.get? c = some o → h'.get? c = some o) → Q (if x.cps.toList < y.cps.toList then .str y u else .str x t) { s with heap := h', toks := tk }) :
    wpAny (model prog w) A (call (.builtin "max") [.str x t, .str y u]) Q E s := by
  have hT : (s.heap.push { cls := .type "tuple", data := .seq #[.str x t, .str y u] }).IsTuple s.heap.objs.size (two (.str x t) (.str y u)) := ⟨_, Heap.get?_push_size _ rfl, rfl, 0, rfl⟩
  refine call_max_two (wpAny_pyIter_tuple hT ?_)
  have hsz : (s.heap.push { cls := .type "tuple", data := .seq #[.str x t, .str y u] }).objs.size = s.heap.objs.size + 1 := Heap.size_push ..
  refine ⟨_, [_, s.heap.objs.size], [_], _, _, _, fun i j => decide ((strAt x y j).cps.toList < (strAt x y i).cps.toList), rfl, Walks.tuple (A := A.in1) hh _ s.heap.objs.size (by rw [hsz]; exact Nat.ne_of_lt (Nat.lt_succ_self _)) (two (.str x t) (.str y u)),
    ⟨⟨_, Heap.get?_push_size _ rfl, rfl, rfl⟩, hT.push _⟩, fun c hc => ?_, by simp [two], ?_, fun v h' tk hP hk => ?_⟩
  · show c < ((s.heap.push _).push _).objs.size
    rw [Heap.size_push, hsz]
    rcases List.mem_cons.mp hc with rfl | hc
    · rw [hsz]; exact Nat.lt_succ_self _
    · rcases List.mem_cons.mp hc with rfl | hc
      · exact Nat.lt_succ_of_lt (Nat.lt_succ_self _)
      · cases hc
  · intro i j vi vj s' Q' E' hi hj hq
    obtain ⟨t1, rfl⟩ := two_str hi
    obtain ⟨t2, rfl⟩ := two_str hj
    exact PySem.P.gt_str (t := t1) (u := t2) hq
  · have hold : ∀ c o, s.heap.get? c = some o → h'.get? c = some o := fun c o e => by
      refine hk c o (fun hm => ?_) (Heap.get?_push_of_some _ (Heap.get?_push_of_some _ e))
      rcases List.mem_cons.mp hm with e1 | hm
      · have := Heap.lt_size e; rw [e1, hsz] at this; exact Nat.lt_irrefl _ (Nat.lt_of_succ_lt this)
      · cases hm
    have := h h' tk hold
    have hv : v = if x.cps.toList < y.cps.toList then Value.str y u else Value.str x t := by
      have hP' : (two (.str x t) (.str y u))[argBest (fun i j => decide ((strAt x y j).cps.toList < (strAt x y i).cps.toList)) 1]? = some v := hP
      by_cases hba : x.cps.toList < y.cps.toList
      · have e : argBest (fun i j => decide ((strAt x y j).cps.toList < (strAt x y i).cps.toList)) 1 = 1 := by simp [argBest, strAt, hba]
        rw [e] at hP'
        rw [if_pos hba]
        simpa [two] using hP'.symm
      · have e : argBest (fun i j => decide ((strAt x y j).cps.toList < (strAt x y i).cps.toList)) 1 = 0 := by simp [argBest, strAt, hba]
        rw [e] at hP'
        rw [if_neg hba]
        simpa [two] using hP'.symm
    rw [hv]; exact this
end
def minS (x y : Str) : Str := if y.cps.toList < x.cps.toList then y else x
def maxS (x y : Str) : Str := if x.cps.toList < y.cps.toList then y else x
section
variable {X : Cx}
theorem call_min2S (hc : X.calm = true) : CallR X (.builtin "min") (fun xs H Q => ∃ x y, xs = [.str x, .str y] ∧ Q (.str (minS x y)) H) := by
  intro pins s σ H xs us Q I r h
  obtain ⟨x, y, rfl, q⟩ := h
  obtain ⟨u, w', rfl, ⟨t, rfl⟩, ⟨t', rfl⟩⟩ := vals2 r
  refine min_two_strs (I.ok.hd hc) fun h' tk k => ⟨_, H, I.kept k, ?_, q⟩
  unfold minS
  by_cases hj : y.cps.toList < x.cps.toList
  · rw [if_pos hj, if_pos hj]; exact ⟨_, rfl⟩
  · rw [if_neg hj, if_neg hj]; exact ⟨_, rfl⟩
theorem call_max2S (hc : X.calm = true) : CallR X (.builtin "max") (fun xs H Q => ∃ x y, xs = [.str x, .str y] ∧ Q (.str (maxS x y)) H) := by
  intro pins s σ H xs us Q I r h
  obtain ⟨x, y, rfl, q⟩ := h
  obtain ⟨u, w', rfl, ⟨t, rfl⟩, ⟨t', rfl⟩⟩ := vals2 r
  refine max_two_strs (I.ok.hd hc) fun h' tk k => ⟨_, H, I.kept k, ?_, q⟩
  unfold maxS
  by_cases hj : x.cps.toList < y.cps.toList
  · rw [if_pos hj, if_pos hj]; exact ⟨_, rfl⟩
  · rw [if_neg hj, if_neg hj]; exact ⟨_, rfl⟩
end
end Nm
set_option maxRecDepth 100000
set_option maxHeartbeats 4000000
namespace Nm
open PySem L2
theorem val_ex : ∀ {kvs : List (Key × V)} {k : Key}, k ∈ kvs.map (·.1) → ∃ v, valV kvs k = some v
  | kv :: r, k, h => by
    by_cases e : kv.1 = k
    · exact ⟨_, valV_pos e⟩
    · rw [valV_neg e]
      rw [List.map_cons] at h
      rcases List.mem_cons.mp h with z | z
      · exact absurd z.symm e
      · exact val_ex z
/-- a tie as it is told -/
structure TieV where
  x : Str
  y : Str
  kd : Str
  w : Int
def TieV.tup (t : TieV) : List V := [.str t.x, .str t.y, .str t.kd, .int t.w]
structure TieV.Ok (t : TieV) (nm : List Str) : Prop where
  hx : t.x ∈ nm
  hy : t.y ∈ nm
  ne : t.x ≠ t.y
  kw : isWordB t.kd = true
  w1 : 1 ≤ t.w
/-- the spot of a tie -/
def TieV.spot (t : TieV) : List Key := [Sum.inr (minS t.x t.y), Sum.inr (maxS t.x t.y), Sum.inr t.kd]
section
variable {P : Program} {w : World} {K : PySem.W.Frag} {mg : Str → Option Value} {base : Heap}
/-! ### tie_spot -/
def spSpot : Sp := fun vs H Q _ => ∃ (t d : Addr) (tv : TieV) (nm : List Str) (kvs : List (Key × V)), vs = [.ref t, .ref d] ∧ H t = some (.tup tv.tup) ∧ H d = some (.dK kvs) ∧ kvs.map (·.1) = nm.map Sum.inr ∧ tv.Ok nm ∧
  ∀ (r : Addr) (H' : Hp), H r = none → H' r = some (.tup (tv.spot.map kV)) → Same H H' → Q (.ref r) H'
abbrev nSp : List Str := ["tie", "names", "one", "other", "kind", "width"]
theorem scSp : FnScope nSp ["tie", "names"] (defScope sTieSpot) := ⟨rfl, rfl, rfl, by decide +kernel, rfl, by decide +kernel, by decide +kernel⟩
structure TxtH (mg : Str → Option Value) : Prop extends TxtG mg where
  tuple : mg "tuple" = none
theorem ok_spot {f : Addr} {fd : FuncData} (F : Fun K "tie_spot" "tie_spot" sTieSpot f fd) (T : TxtH mg) (Gw : Def P w K mg base "is_word" ["value"] 1 spWord) (Gn : Def P w K mg base "is_number" ["value", "least"] 2 spNumber) : FnOk P w K mg base CX0 3 f fd ["tie", "names"] spSpot := by
  obtain ⟨fw, fdw, Gw, mw, kw, bw⟩ := Gw.ex
  obtain ⟨fn, fdn, Gn, mn, kn, bn⟩ := Gn.ex
  refine F.ok scSp (fun vs H Q E h => ?_) (fun cdv A outer s H vs Q E hr h => ?_)
  · obtain ⟨_, _, _, _, _, rfl, _⟩ := h
    rfl
  · obtain ⟨t, d, tv, nm, kvs, rfl, ht, hd, hk, ok, k⟩ := h
    have hu := hu_of hr
    refine ⟨_, pss_cons (ps_if (PW.pt (pw_or (pt_not (pt_val (pe_callB call_isi (by rfl) T.isinstance (by decide +kernel) (pa_cons (pv 0) (pa_cons (pe_bltn (v := .ty "tuple") (by rfl) T.tuple (by decide +kernel) rfl) pa_nil))))) (pw_or1 (pt_cmpR op_ne (pe_callB call_len_seq (by rfl) T.len PySem.boot_len (pa_cons (pv 0) pa_nil)) pe_int (nomark _))))) (pss_one (ps_ret pe_non)) pss_nil)
      (pss_cons (ps_asg (pv 0) (pg_tup rfl (pgs_cons (pg_name (i := 2) scSp.nd rfl (.inl rfl)) (pgs_cons (pg_name (i := 3) scSp.nd rfl (.inl rfl)) (pgs_cons (pg_name (i := 4) scSp.nd rfl (.inl rfl)) (pgs_cons (pg_name (i := 5) scSp.nd rfl (.inl rfl)) pgs_nil))))))
      (pss_cons (ps_if (PW.pt (pw_or (pt_not (pt_val (pe_callB call_isi (by rfl) T.isinstance (by decide +kernel) (pa_cons (pv 2) (pa_cons (pe_bltn (v := .ty "str") (by rfl) T.str (by decide +kernel) rfl) pa_nil))))) (pw_or (pt_not (pt_val (pe_callB call_isi (by rfl) T.isinstance (by decide +kernel) (pa_cons (pv 3) (pa_cons (pe_bltn (v := .ty "str") (by rfl) T.str (by decide +kernel) rfl) pa_nil))))) (pw_or1 (pt_cmpR op_eq (pv 2) (pv 3) (nomark _)))))) (pss_one (ps_ret pe_non)) pss_nil)
      (pss_cons (ps_if (PW.pt (pw_or (pt_cmp (pc_dnotin hu (pv 2) (pv 1))) (pw_or1 (pt_cmp (pc_dnotin hu (pv 3) (pv 1)))))) (pss_one (ps_ret pe_non)) pss_nil)
      (pss_cons (ps_if (PW.pt (pw_or (pt_not (pt_val (pe_call Gw (hr.mono (by decide)) (by rfl) mw kw bw .nil pass0 (pa_cons (pv 4) pa_nil)))) (pw_or1 (pt_not (pt_val (pe_call Gn hr (by rfl) mn kn bn .nil pass0 (pa_cons (pv 5) (pa_cons pe_int pa_nil)))))))) (pss_one (ps_ret pe_non)) pss_nil)
      (pss_one (ps_ret (pe_tup (pa_cons (pe_callB (call_min2S rfl) (by rfl) T.min (by decide +kernel) (pa_cons (pv 2) (pa_cons (pv 3) pa_nil))) (pa_cons (pe_callB (call_max2S rfl) (by rfl) T.max (by decide +kernel) (pa_cons (pv 2) (pa_cons (pv 3) pa_nil))) (pa_cons (pv 4) pa_nil)))))))))), ?_⟩
    refine ⟨_, rfl, _, _, _, _, true, rfl, ClsV.ty "tuple", TyX.base (TyOf.tup ht), kit_ty (by decide +kernel), _, rfl, iteF ?_⟩
    refine ⟨_, rfl, t, _, rfl, .inr (SqT.of ht), rfl, _, rfl, iteF ?_⟩
    refine ⟨_, rfl, t, _, rfl, SqT.of ht, rfl, _, _, rfl, _, _, rfl, _, _, rfl, _, _, rfl, rfl, ?_⟩
    refine ⟨_, rfl, _, _, _, _, true, rfl, ClsV.ty "str", TyX.base (TyOf.str _), kit_ty (by decide +kernel), _, rfl, iteF ?_⟩
    refine ⟨_, rfl, _, _, _, _, true, rfl, ClsV.ty "str", TyX.base (TyOf.str _), kit_ty (by decide +kernel), _, rfl, iteF ?_⟩
    have hne : decide (V.str tv.x = V.str tv.y) = false := decide_eq_false (fun e => ok.ne (by injection e))
    refine ⟨_, rfl, _, rfl, rfl, _, rfl, ?_⟩
    rw [hne]
    refine iteF ?_
    have there : ∀ z, z ∈ nm → ∃ v, valV kvs (Sum.inr z) = some v := fun z hz => val_ex (by rw [hk]; exact List.mem_map.mpr ⟨z, hz, rfl⟩)
    obtain ⟨vx, hvx⟩ := there tv.x ok.hx
    obtain ⟨vy, hvy⟩ := there tv.y ok.hy
    refine ⟨_, rfl, _, rfl, d, some vx, rfl, (by rw [← hvx]; exact DGet.k (k := Sum.inr tv.x) hd), _, rfl, iteF ?_⟩
    refine ⟨_, rfl, _, rfl, d, some vy, rfl, (by rw [← hvy]; exact DGet.k (k := Sum.inr tv.y) hd), _, rfl, iteF ?_⟩
    refine ⟨_, rfl, tv.kd, rfl, ok.kw, fun H1 s1 => ⟨_, rfl, iteF ?_⟩⟩
    have hw1 : decide ((1 : Int) ≤ tv.w) = true := decide_eq_true ok.w1
    refine ⟨_, rfl, tv.w, 1, rfl, _, rfl, ?_⟩
    rw [hw1]
    refine iteF ?_
    refine ⟨_, rfl, _, rfl, _, _, rfl, _, rfl, _, rfl, _, _, rfl, _, rfl, (by show 3 ≤ sizeLine; decide), fun r hr => ?_⟩
    exact k r _ (s1.free hr) upd_same (s1.trans (same_new hr))
end
end Nm
set_option maxRecDepth 100000
set_option maxHeartbeats 4000000
/-! name = {k: v for ..}, the name a local -/
namespace Nm
open PySem PySem.Spec PyProof.Rows L2
section
variable {X : Cx}
theorem ps_setDc {n : Nat} {z : Str} {zp : Pos} {ke ve tg iter : PySem.Expr} {ifs : List PySem.Expr} {scp : Scope} {own : List (Str × Nat)} {pos spos : Pos} {wi : TI} {g : TG} {tt : TT} {tk tv : TE}
    (calm : X.calm = true) (nd : X.N.Nodup) (at_ : X.N[n]? = some z) (loc : X.env.scope.names.lookup z = some .local)
    (sw : swapsWith (.DictComp ke ve [⟨tg, iter, ifs, 0⟩] scp pos) (some (.Name z zp)) spos.line X.env = pure true) (wlk : PI X tg iter wi) (blk : BlkOk X.N X.env.scope scp own)
    (tgt : ∀ (s : Shared) (H : Hp) (C : Addr) (cs : List (Str × Addr)) (fp : List Addr), PG (X.blk s H scp (compEnvC scp cs C X.env) fp) tg g)
    (tst : ∀ (s : Shared) (H : Hp) (C : Addr) (cs : List (Str × Addr)) (fp : List Addr), PTs (X.blk s H scp (compEnvC scp cs C X.env) fp) ifs tt)
    (key : ∀ (s : Shared) (H : Hp) (C : Addr) (cs : List (Str × Addr)) (fp : List Addr), PE (X.blk s H scp (compEnvC scp cs C X.env) fp) ke tk)
    (val : ∀ (s : Shared) (H : Hp) (C : Addr) (cs : List (Str × Addr)) (fp : List Addr), PE (X.blk s H scp (compEnvC scp cs C X.env) fp) ve tv)
    (fold : ∀ x, foldedSetIterable iter X.env x = pure x := by intro _; rfl) :
    PS X (.Assign [.Name z zp] (.DictComp ke ve [⟨tg, iter, ifs, 0⟩] scp pos) spos) (tAsg (tDc wi g tt tk tv (own.map (·.2))) (gName n)) := by
  refine ⟨fun pins s σ H D I hyp => ?_⟩
  rw [exec_Assign_Name_used _ _ _ _ sw]
  refine wpAny_bind (wpAny_standAt (wpAny_bind ?_))
  show wpAny _ X.A (do let _ ← comprehension (.DictComp ke ve [⟨tg, iter, ifs, 0⟩] scp pos) scp X.env (firstIterPos [⟨tg, iter, ifs, 0⟩] pos) newDict false (eval iter X.env) (some (assign (.Name z zp) X.env))) _ _ s
  have hyp' : tDc wi g tt tk tv (own.map (·.2)) σ H (fun x H1 => gName n x σ H1 D.nx) := hyp
  have core := dc_core (pos := pos) (pos' := firstIterPos [⟨tg, iter, ifs, 0⟩] pos) (use := some (assign (.Name z zp) X.env)) (Qf := fun _ s' => SP X pins D .next s') calm nd I wlk blk tgt tst key val fold hyp' fun L C s' m H' I' q hn f => ?_
  · exact wpAny_bind (thn core fun _ s' hq => wpAny_pure (wpAny_pure hq))
  show wpAny _ _ (assign (.Name z zp) X.env (.ref L)) _ _ _
  refine wpAny_assign_Name (store_ok2 (v := V.ref L) I' nd at_ (.inl loc) rfl (fun s2 I2 ⟨a, sb, ha⟩ => ?_) (.inr loc))
  have ⟨f0, f1, f2, f3, f4, f5⟩ := f
  have haC : C ≠ a := ha.elim (fun e => e ▸ f1) (fun e w => f4 z a e w.symm)
  exact ⟨m, hn.sameBut sb haC, fun h3 sb3 => ⟨_, H', I2.turned (t' := s2.toks) (fun b o hb e => (sb3.2 b hb).trans e) f0 f1 f3 f4 f5, q⟩⟩
theorem sw_dict {ke ve : PySem.Expr} {gs : List Comprehension} {scp : Scope} {pos zp : Pos} {z : Str} {l : Nat} {env : Env} (hk : env.scope.kind = .function) (loc : env.scope.names.lookup z = some .local) (hl : (zp.line == pos.line) = true)
    (ha : (scp.names.any fun (n, k) => n == z && (k == .local || k == .cell)) = false) : swapsWith (.DictComp ke ve gs scp pos) (some (.Name z zp)) l env = pure true := by
  have kz : env.kindOf z = some .local := loc
  have hb : env.blockKind = .function := by
    unfold Env.blockKind
    rw [hk]
    rfl
  unfold swapsWith
  simp only [hb, kz, ha, Expr.pos, hl]
  rfl
end
end Nm
set_option maxRecDepth 100000
set_option maxHeartbeats 4000000
namespace Nm
open PySem L2
/-- a dict comprehension over any walk: P by the turn and the heap, the new dict at D within -/
theorem dc_walk {J : It} {n : Nat} {G : Hp → Prop} {Y : Nat → Hp → V → Hp → Prop} (wk : Walk J n G Y) {g : TG} {tt : TT} {tk tv : TE} {vs : List Nat} {σ : L2.St} {H1 : Hp} {D : Addr} {Qd : Hp → Prop} (Pv : Nat → Hp → Prop) (h0 : Pv 0 (upd H1 D (.dK [])))
    (hG : ∀ i H, i ≤ n → Pv i H → G H)
    (hs : ∀ i x H H', i < n → Pv i H → Y i H x H' → g x (wipe σ vs) H' fun σ2 H2 => wipe σ2 vs = wipe σ vs ∧ tt σ2 H2 fun b H3 =>
      if b = true then tk σ2 H3 fun y H4 => tv σ2 H4 fun z H5 => ∃ kvs k, y = kV k ∧ H5 D = some (.dK kvs) ∧ kvs.length < sizeLine ∧ Pv (i + 1) (upd H5 D (.dK (putK kvs k z))) else Pv (i + 1) H3)
    (hd : ∀ H, Pv n H → Qd H) :
    ∃ W : Nat → Nat → Hp → Prop, (∃ m, W 0 m (upd H1 D (.dK []))) ∧ ∀ i m H, W i m H →
      (J.stop i H ∧ Qd H) ∨ (J.go i H ∧ ∃ Nx : Hp → Prop, (∀ H', Nx H' → ∃ m', m' < m ∧ W (i + 1) m' H') ∧ ∀ x H', J.yld i H x H' → g x (wipe σ vs) H' fun σ2 H2 => wipe σ2 vs = wipe σ vs ∧ tt σ2 H2 fun b H3 =>
        if b = true then tk σ2 H3 fun y H4 => tv σ2 H4 fun z H5 => ∃ kvs k, y = kV k ∧ H5 D = some (.dK kvs) ∧ kvs.length < sizeLine ∧ Nx (upd H5 D (.dK (putK kvs k z))) else Nx H3) := by
  refine ⟨fun i m H => m + i = n ∧ Pv i H, ⟨n, by omega, h0⟩, fun i m H ⟨e, p⟩ => ?_⟩
  have q := hG i H (by omega) p
  cases m with
  | zero =>
    obtain rfl : i = n := by omega
    exact .inl ⟨wk.stops H q, hd H p⟩
  | succ m => exact .inr ⟨wk.goes i H (by omega) q, Pv (i + 1), fun H' p' => ⟨m, by omega, by omega, p'⟩, fun x H' y => hs i x H H' (by omega) p (wk.yields i H x H' (by omega) q y)⟩
/-- names and their places -/
def numKV (nm : List Str) (i : Nat) : List (Key × V) := (nm.zipIdx.take i).map fun p => (Sum.inr p.1, V.int (p.2 : Int))
theorem num_step {nm : List Str} {i : Nat} {x : Str} (h : nm[i]? = some x) : numKV nm (i + 1) = numKV nm i ++ [(Sum.inr x, V.int (i : Int))] := by
  unfold numKV
  have e : nm.zipIdx[i]? = some (x, i) := by simp [h]
  rw [List.take_add_one, e, List.map_append]
  rfl
theorem num_keys (nm : List Str) (i : Nat) : (numKV nm i).map (·.1) = (nm.take i).map Sum.inr := by
  unfold numKV
  rw [List.map_map]
  have : nm.take i = (nm.zipIdx.take i).map (·.1) := by rw [List.map_take]; simp
  rw [this, List.map_map]
  rfl
theorem num_nd {nm : List Str} (nd : nm.Nodup) (i : Nat) : ((numKV nm i).map (·.1)).Nodup := by
  rw [num_keys]
  exact List.Pairwise.map _ (fun a b hab e => hab (Sum.inr.inj e)) ((List.take_sublist i nm).nodup nd)
theorem num_new {nm : List Str} (nd : nm.Nodup) {i : Nat} {x : Str} (h : nm[i]? = some x) : valV (numKV nm i) (Sum.inr x) = none := by
  refine val_none_of fun hm => ?_
  rw [num_keys] at hm
  obtain ⟨y, hy, e⟩ := List.mem_map.mp hm
  cases e
  obtain ⟨j, hj⟩ := List.getElem?_of_mem hy
  rw [List.getElem?_take] at hj
  split at hj
  · rename_i hji
    have h1 := (List.getElem?_eq_some_iff.mp hj).1
    have : j = i := (List.getElem?_inj h1 nd).mp (hj.trans h.symm)
    omega
  · cases hj
theorem num_at {nm : List Str} (nd : nm.Nodup) {i : Nat} {x : Str} (h : nm[i]? = some x) : valV (numKV nm nm.length) (Sum.inr x) = some (V.int (i : Int)) := by
  refine val_of_mem (num_nd nd _) ?_
  unfold numKV
  rw [List.take_of_length_le (by simp)]
  refine List.mem_map.mpr ⟨(x, i), ?_, rfl⟩
  rw [List.mem_zipIdx_iff_getElem?]
  exact h
/-- the row of a tie: its places, the lesser first, its kind, its width -/
structure RowV where
  i : Nat
  j : Nat
  kd : Str
  w : Int
def RowV.key (r : RowV) : Int × List Key := ((r.i : Int), [Sum.inl (r.j : Int), Sum.inr r.kd, Sum.inl r.w])
def RowV.tup (r : RowV) : List V := [.int (r.i : Int), .int (r.j : Int), .str r.kd, .int r.w]
/-- r is the row of t -/
def RowOf (nm : List Str) (t : TieV) (r : RowV) : Prop := ∃ a b, nm[a]? = some t.x ∧ nm[b]? = some t.y ∧ r.i = min a b ∧ r.j = max a b ∧ r.kd = t.kd ∧ r.w = t.w
/-- a list of ties stands at p -/
def TiesAt (H : Hp) (p : Addr) (tl : List TieV) : Prop := ∃ ts : List Addr, H p = some (.lst (ts.map V.ref)) ∧ Paired (fun t tv => H t = some (.tup (TieV.tup tv))) ts tl
/-- the ordered ties: a list of tuples by rows in order -/
def OrdAt (H : Hp) (p : Addr) (nm : List Str) (rs : List RowV) : Prop := ∃ ts : List Addr, H p = some (.lst (ts.map V.ref)) ∧ Paired (fun t (r : RowV) => ∃ x y, nm[r.i]? = some x ∧ nm[r.j]? = some y ∧ H t = some (.tup [.str x, .str y, .str r.kd, .int r.w])) ts rs
def rowBack (H : Hp) : V → RowV
  | .ref b => (match H b with
    | some (.tup [.int i, .int j, .str kd, .int w]) => ⟨i.toNat, j.toNat, kd, w⟩
    | _ => ⟨0, 0, "", 0⟩)
  | _ => ⟨0, 0, "", 0⟩
theorem rowBack_of {H : Hp} {b : Addr} {r : RowV} (h : H b = some (.tup r.tup)) : rowBack H (.ref b) = r := by
  show (match H b with
    | some (.tup [.int i, .int j, .str kd, .int w]) => (⟨i.toNat, j.toNat, kd, w⟩ : RowV)
    | _ => ⟨0, 0, "", 0⟩) = r
  rw [h]
  cases r
  rfl
theorem rows_back {H : Hp} : ∀ {us : List Addr} {rw : List RowV}, Paired (fun u (r : RowV) => H u = some (.tup r.tup)) us rw → (us.map V.ref).map (rowBack H) = rw
  | _, _, .nil => rfl
  | _, _, .cons h t => by
    rw [List.map_cons, List.map_cons, rows_back t, rowBack_of h]
theorem paired_get {α β : Type} {F : α → β → Prop} : ∀ {l : List α} {m : List β} {i : Nat} {a : α}, Paired F l m → l[i]? = some a → ∃ b, m[i]? = some b ∧ F a b
  | _, _, _, _, .nil, h => by simp at h
  | _, _, 0, _, .cons r _, h => by
    simp at h
    subst h
    exact ⟨_, rfl, r⟩
  | _, _, i + 1, _, .cons _ t, h => by
    simp at h
    obtain ⟨b, h1, h2⟩ := paired_get t h
    exact ⟨b, by simpa using h1, h2⟩
theorem paired_mem {α β : Type} {F : α → β → Prop} {l : List α} {m : List β} {a : α} (h : Paired F l m) (hm : a ∈ l) : ∃ b ∈ m, F a b := by
  obtain ⟨i, hi⟩ := List.getElem?_of_mem hm
  obtain ⟨b, h1, h2⟩ := paired_get h hi
  exact ⟨b, List.mem_of_getElem? h1, h2⟩
theorem paired_back {α β : Type} {F : α → β → Prop} : ∀ {l : List α} {m : List β} {b : β}, Paired F l m → b ∈ m → ∃ a ∈ l, F a b
  | _, _, _, .nil, h => (List.not_mem_nil h).elim
  | _, _, b, .cons (a := a) r t, h => by
    rcases List.mem_cons.mp h with e | e
    · subst e
      exact ⟨a, List.mem_cons_self, r⟩
    · obtain ⟨a', h1, h2⟩ := paired_back t e
      exact ⟨a', List.mem_cons_of_mem _ h1, h2⟩
section
variable {P : Program} {w : World} {K : PySem.W.Frag} {mg : Str → Option Value} {base : Heap}
/-! ### ordered_ties -/
def spOrd : Sp := fun vs H Q _ => ∃ (p q : Addr) (nm : List Str) (tl : List TieV), vs = [.ref p, .ref q] ∧ TiesAt H p tl ∧ H q = some (.lst (nm.map V.str)) ∧ nm.Nodup ∧ nm.length ≤ 1000 ∧ tl.length ≤ 20000 ∧ (∀ t ∈ tl, t.Ok nm) ∧
  ∀ (r : Addr) (rs rw : List RowV) (H' : Hp), H r = none → Paired (RowOf nm) tl rw → rs.Perm rw → rs.Pairwise (fun x y => lexK (rowK y.key) (rowK x.key) = false) → OrdAt H' r nm rs → Same H H' → Q (.ref r) H'
abbrev nOrd : List Str := ["ties", "names", "numbers", "rows", "one", "other", "kind", "width", "first", "last", "at", "name"]
theorem scOrd : FnScope nOrd ["ties", "names"] (defScope sOrderedTies) := ⟨rfl, rfl, rfl, by decide +kernel, rfl, by decide +kernel, by decide +kernel⟩
theorem ok_ord {f : Addr} {fd : FuncData} (F : Fun K "ordered_ties" "ordered_ties" sOrderedTies f fd) (T : TxtH mg) : FnOk P w K mg base CX0 1 f fd ["ties", "names"] spOrd := by
  refine F.ok scOrd (fun vs H Q E h => ?_) (fun cdv A outer s H vs Q E hr h => ?_)
  · obtain ⟨_, _, _, _, rfl, _⟩ := h
    rfl
  · obtain ⟨p, q, nm, tl, rfl, ⟨ts, hp, hts⟩, hq, nd, hn, htl, hok, k⟩ := h
    have hu := hu_of hr
    refine ⟨_, Evl.pss_cut (ps_setDc (n := 2) (own := [("at", 10), ("name", 11)]) (g := gTup K 2 (gCons (gName 10) (gCons (gName 11) gNil))) (tt := tYes) rfl scOrd.nd rfl rfl (sw_dict rfl rfl rfl (by decide +kernel)) (pi_enum (by rfl) T.enumerate (pa_cons (pv 1) pa_nil))
        (blkOk_by (N := nOrd) (sc := defScope sOrderedTies) (by decide +kernel)) (fun _ _ _ _ _ => pg_tup rfl (pgs_cons (pg_name (i := 10) scOrd.nd rfl (Or.inl rfl)) (pgs_cons (pg_name (i := 11) scOrd.nd rfl (Or.inl rfl)) pgs_nil))) (fun _ _ _ _ _ => pts_nil) (fun _ _ _ _ _ => pv 11) (fun _ _ _ _ _ => pv 10))
      (pss_cons (ps_set (i := 3) scOrd.nd rfl (Or.inl rfl) (pe_lst pa_nil))
      (Evl.pss_cut (ps_for PassesOwn.never rfl (pi_list (pv 0)) (pg_tup rfl (pgs_cons (pg_name (i := 4) scOrd.nd rfl (.inl rfl)) (pgs_cons (pg_name (i := 5) scOrd.nd rfl (.inl rfl)) (pgs_cons (pg_name (i := 6) scOrd.nd rfl (.inl rfl)) (pgs_cons (pg_name (i := 7) scOrd.nd rfl (.inl rfl)) pgs_nil)))))
        (pss_cons (ps_set (i := 8) scOrd.nd rfl (Or.inl rfl) (pe_callB (call_min2 rfl) (by rfl) T.min (by decide +kernel) (pa_cons (pe_dget hu (pv 2) (pv 4) (fun _ _ => rfl)) (pa_cons (pe_dget hu (pv 2) (pv 5) (fun _ _ => rfl)) pa_nil))))
        (pss_cons (ps_set (i := 9) scOrd.nd rfl (Or.inl rfl) (pe_callB (call_max2 rfl) (by rfl) T.max (by decide +kernel) (pa_cons (pe_dget hu (pv 2) (pv 4) (fun _ _ => rfl)) (pa_cons (pe_dget hu (pv 2) (pv 5) (fun _ _ => rfl)) pa_nil))))
        (pss_one (ps_expr (pe_bm PySem.F.plainAttrs_list PySem.F.slot_list_append PySem.F.type_list_append mt_append (pv 3) (pa_cons (pe_tup (pa_cons (pv 8) (pa_cons (pv 9) (pa_cons (pv 6) (pa_cons (pv 7) pa_nil))))) pa_nil)))))))
      (pss_one (ps_ret (pe_lc (own := [("first", 8), ("last", 9), ("kind", 6), ("width", 7)]) (g := gTup K 4 (gCons (gName 8) (gCons (gName 9) (gCons (gName 6) (gCons (gName 7) gNil))))) (tt := tYes) (te := tTup (tCons (tOp (rIxL K) (tVar 1) (tVar 8)) (tCons (tOp (rIxL K) (tVar 1) (tVar 9)) (tCons (tVar 6) (tCons (tVar 7) tNil))))) rfl scOrd.nd (pi_list (pe_callB cr_sortedO (by rfl) T.sorted (by decide +kernel) (pa_cons (pv 3) pa_nil)))
          (blkOk_by (N := nOrd) (sc := defScope sOrderedTies) (by decide +kernel)) (fun _ _ _ _ _ => pg_tup rfl (pgs_cons (pg_name (i := 8) scOrd.nd rfl (Or.inl rfl)) (pgs_cons (pg_name (i := 9) scOrd.nd rfl (Or.inl rfl)) (pgs_cons (pg_name (i := 6) scOrd.nd rfl (Or.inl rfl)) (pgs_cons (pg_name (i := 7) scOrd.nd rfl (Or.inl rfl)) pgs_nil))))) (fun _ _ _ _ _ => pts_nil)
          (fun _ _ _ _ _ => by exact pe_tup (pa_cons (pe_ix ix_list (pv 1) (pv 8) (fun _ _ => rfl)) (pa_cons (pe_ix ix_list (pv 1) (pv 9) (fun _ _ => rfl)) (pa_cons (pv 6) (pa_cons (pv 7) pa_nil)))))))))), ?_⟩
    -- numbers
    refine ⟨fun σ H1 => ∃ nu, σ = [some (.ref p), some (.ref q), some (.ref nu), none, none, none, none, none, none, none, none, none] ∧ H1 nu = some (.dK (numKV nm nm.length)) ∧ Same H H1, ?_, ?_⟩
    · refine ⟨_, rfl, q, _, rfl, SqL.of hq, fun D hD => ?_⟩
      refine dc_walk (walk_enum (xs := nm.map V.str)) (fun i H1 => H1 D = some (.dK (numKV nm i)) ∧ Same H H1) ⟨upd_same, same_new hD⟩ (fun i H1 _ h => SqL.of (h.2 _ _ hq)) ?_ ?_
      · rintro i x H1 H2 hi ⟨hD1, s1⟩ ⟨T', x1, y1, rfl, hT, rfl, e1, e2⟩
        rw [List.length_map] at hi
        have e2 : (nm.map V.str)[i]? = some y1 := e2
        rw [List.getElem?_map] at e2
        obtain ⟨z, hz, rfl⟩ := Option.map_eq_some_iff.mp e2
        cases e1
        have sT := same_new (o := .tup [V.int (i : Nat), V.str z]) hT
        refine ⟨T', _, rfl, SqT.of upd_same, rfl, _, _, rfl, _, _, rfl, rfl, rfl, tyes ?_⟩
        refine ⟨_, rfl, _, rfl, _, Sum.inr z, rfl, sT _ _ hD1, Evl.sz_lt (by unfold numKV; simp; omega), ?_, fun b o e => ?_⟩
        · rw [upd_same, putK_new _ (num_new nd hz), num_step hz]
        · rw [upd_ne (ne_of_none e hD)]
          exact sT _ _ (s1 b o e)
      · rintro H1 ⟨hD1, s1⟩
        rw [List.length_map] at hD1
        exact ⟨D, rfl, hD1, s1⟩
    rintro σ H1 ⟨nu, rfl, hnu, s1⟩
    refine ⟨(by show 0 ≤ sizeLine; decide), fun ro hro => ?_⟩
    have s2 := s1.trans (same_new (o := .lst []) hro)
    have hnu2 := same_new (o := .lst []) hro _ _ hnu
    have hro2 : (upd H1 ro (.lst [])) ro = some (.lst (List.map V.ref [])) := upd_same
    have hro0 : H ro = none := s1.free hro
    generalize upd H1 ro (.lst []) = H2 at *
    have nnr : nu ≠ ro := ne_of hnu2 hro2 (by intro z; cases z)
    -- rows
    refine ⟨fun σ H3 => ∃ v4 v5 v6 v7 v8 v9 us rw, σ = [some (.ref p), some (.ref q), some (.ref nu), some (.ref ro), v4, v5, v6, v7, v8, v9, none, none] ∧ H3 ro = some (.lst (List.map V.ref us)) ∧ us.length = tl.length ∧ Paired (fun u (r : RowV) => H3 u = some (.tup r.tup)) us rw ∧ Paired (RowOf nm) tl rw ∧ Same H H3, ?_, ?_⟩
    · refine ⟨_, rfl, p, rfl, ⟨_, SqL.of (s2 _ _ hp)⟩, ?_⟩
      have htl2 : ts.length = tl.length := Paired.length hts
      refine for_list (xs := ts.map V.ref) (fun i σ H3 => ∃ v4 v5 v6 v7 v8 v9 us rw, σ = [some (.ref p), some (.ref q), some (.ref nu), some (.ref ro), v4, v5, v6, v7, v8, v9, none, none] ∧ H3 ro = some (.lst (List.map V.ref us)) ∧ us.length = i ∧ Paired (fun u (r : RowV) => H3 u = some (.tup r.tup)) us rw ∧ Paired (RowOf nm) (tl.take i) rw ∧ H3 nu = some (.dK (numKV nm nm.length)) ∧ Same H H3)
        ⟨none, none, none, none, none, none, [], [], rfl, hro2, rfl, .nil, .nil, hnu2, s2⟩ (fun i σ H3 _ ⟨_, _, _, _, _, _, _, _, _, _, _, _, _, _, h⟩ => SqL.of (h _ _ hp)) ?_ ?_
      · rintro i v σ H3 hi ⟨v4, v5, v6, v7, v8, v9, us, rw', rfl, hro3, hul, pu, pr, hnu3, s3⟩
        have hil := (List.getElem?_eq_some_iff.mp hi).1
        rw [List.length_map] at hil
        rw [List.getElem?_map] at hi
        obtain ⟨t, ht, rfl⟩ := Option.map_eq_some_iff.mp hi
        obtain ⟨tv, htv, htt⟩ := paired_get hts ht
        have ok := hok tv (List.mem_of_getElem? htv)
        obtain ⟨a, ha⟩ := List.getElem?_of_mem ok.hx
        obtain ⟨b, hb⟩ := List.getElem?_of_mem ok.hy
        have da : DGet H3 nu (V.str tv.x) (some (V.int (a : Int))) := by rw [← num_at nd ha]; exact DGet.k (k := Sum.inr tv.x) hnu3
        have db : DGet H3 nu (V.str tv.y) (some (V.int (b : Int))) := by rw [← num_at nd hb]; exact DGet.k (k := Sum.inr tv.y) hnu3
        refine ⟨t, _, rfl, SqT.of (s3 _ _ htt), rfl, _, _, rfl, _, _, rfl, _, _, rfl, _, _, rfl, rfl, ?_⟩
        refine ⟨_, rfl, _, rfl, nu, _, rfl, da, _, rfl, _, rfl, nu, _, rfl, db, _, _, rfl, ?_⟩
        refine ⟨_, rfl, _, rfl, nu, _, rfl, da, _, rfl, _, rfl, nu, _, rfl, db, _, _, rfl, ?_⟩
        refine ⟨_, rfl, .inl ⟨rfl, _, SqL.of hro3⟩, _, rfl, _, rfl, _, rfl, _, rfl, (by show 4 ≤ sizeLine; decide), fun u hu => ?_⟩
        have e1 : (if (b : Int) < (a : Int) then (b : Int) else (a : Int)) = ((min a b : Nat) : Int) := by split <;> omega
        have e2 : (if (b : Int) > (a : Int) then (b : Int) else (a : Int)) = ((max a b : Nat) : Int) := by split <;> omega
        rw [e1, e2]
        have su := same_new (o := .tup [V.int ((min a b : Nat) : Int), V.int ((max a b : Nat) : Int), V.str tv.kd, V.int tv.w]) hu
        have nur : u ≠ ro := fun e => by subst e; rw [hro3] at hu; cases hu
        refine ⟨ro, _, _, rfl, rfl, su _ _ hro3, Evl.sz_lt (by rw [List.length_map]; omega), ?_⟩
        refine ⟨_, _, _, _, _, _, us ++ [u], rw' ++ [⟨min a b, max a b, tv.kd, tv.w⟩], rfl, by rw [upd_same, List.map_append]; rfl, by simp [hul], ?_, ?_, by rw [upd_ne nnr]; exact su _ _ hnu3, fun b' o e => ?_⟩
        · refine paired_snoc (Paired.mapP pu fun u' r h => ?_) ?_
          · rw [upd_ne (ne_of h hro3 (by intro z; cases z))]
            exact su _ _ h
          · rw [upd_ne nur]
            exact upd_same
        · rw [List.take_add_one, htv]
          exact paired_snoc pr ⟨a, b, ha, hb, rfl, rfl, rfl, rfl⟩
        · rw [upd_ne (ne_of_none e hro0)]
          exact su _ _ (s3 b' o e)
      · rintro σ H3 ⟨v4, v5, v6, v7, v8, v9, us, rw', rfl, hro3, hul, pu, pr, hnu3, s3⟩
        rw [List.length_map] at hul pr
        rw [htl2, List.take_of_length_le (Nat.le_refl _)] at pr
        exact ⟨v4, v5, v6, v7, v8, v9, us, rw', rfl, hro3, by omega, pu, pr, s3⟩
    rintro σ H3 ⟨v4, v5, v6, v7, v8, v9, us, rw', rfl, hro3, hul, pu, pr, s3⟩
    have inr' : ∀ r ∈ rw', r.i < nm.length ∧ r.j < nm.length := fun r hr' => by
      obtain ⟨tv, _, a, b, ha, hb, e1, e2, _⟩ := paired_back pr hr'
      have h1 := (List.getElem?_eq_some_iff.mp ha).1
      have h2 := (List.getElem?_eq_some_iff.mp hb).1
      omega
    have isr : ∀ y ∈ us.map V.ref, ∃ u r, y = V.ref u ∧ H3 u = some (.tup (RowV.tup r)) ∧ r ∈ rw' ∧ rowBack H3 y = r := fun y hy => by
      obtain ⟨u, hu', rfl⟩ := List.mem_map.mp hy
      obtain ⟨r, hr', hur⟩ := paired_mem pu hu'
      exact ⟨u, r, rfl, hur, hr', rowBack_of hur⟩
    refine ⟨_, rfl, ro, us.map V.ref, fun v => (rowBack H3 v).key, rfl, SqL.of hro3, fun y hy => ?_, fun y hy z hz => .int (.str (.int .nil)), fun ys pp srt pm hpp => ?_⟩
    · obtain ⟨u, r, rfl, hur, _, e⟩ := isr y hy
      refine ⟨u, rfl, ?_⟩
      show H3 u = some (.tup ((rowK (rowBack H3 (V.ref u)).key).map kV))
      rw [e]
      exact hur
    have s4 := same_new (o := .lst ys) hpp
    have hq4 := s4 _ _ (s3 _ _ hq)
    have hyl : ys.length = tl.length := by rw [pm.length_eq, List.length_map]; exact hul
    refine ⟨pp, rfl, ⟨_, SqL.of upd_same⟩, fun D hD => ?_⟩
    have hD0 : H D = none := s3.free (s4.free hD)
    refine lc_list (xs := ys) (fun i H5 => ∃ os : List Addr, H5 D = some (.lst (os.map V.ref)) ∧ os.length = i ∧ Paired (fun t (r : RowV) => ∃ x y, nm[r.i]? = some x ∧ nm[r.j]? = some y ∧ H5 t = some (.tup [.str x, .str y, .str r.kd, .int r.w])) os ((ys.map (rowBack H3)).take i) ∧ Same (upd H3 pp (.lst ys)) H5)
      ⟨[], upd_same, rfl, .nil, same_new hD⟩ (fun i H5 _ ⟨_, _, _, _, h⟩ => SqL.of (h _ _ upd_same)) ?_ ?_
    · rintro i y H5 hi ⟨os, hD5, hol, po, s5⟩
      have hil := (List.getElem?_eq_some_iff.mp hi).1
      obtain ⟨u, r, rfl, hur, hrm, e⟩ := isr y (pm.subset (List.mem_of_getElem? hi))
      obtain ⟨hi1, hj1⟩ := inr' r hrm
      obtain ⟨x1, hx1⟩ : ∃ x1, nm[r.i]? = some x1 := ⟨_, List.getElem?_eq_getElem hi1⟩
      obtain ⟨y1, hy1⟩ : ∃ y1, nm[r.j]? = some y1 := ⟨_, List.getElem?_eq_getElem hj1⟩
      refine ⟨u, _, rfl, SqT.of (s5 _ _ (s4 _ _ hur)), rfl, _, _, rfl, _, _, rfl, _, _, rfl, _, _, rfl, rfl, rfl, tyes ?_⟩
      refine ⟨_, rfl, _, rfl, q, _, _, V.str x1, rfl, rfl, SqL.of (s5 _ _ hq4), atI_nat (by rw [List.getElem?_map, hx1]; rfl), _, rfl, _, rfl, q, _, _, V.str y1, rfl, rfl, SqL.of (s5 _ _ hq4), atI_nat (by rw [List.getElem?_map, hy1]; rfl), _, rfl, _, rfl, (by show 4 ≤ sizeLine; decide), fun o ho => ?_⟩
      have so := same_new (o := .tup [V.str x1, V.str y1, V.str r.kd, V.int r.w]) ho
      have noD : o ≠ D := fun e => by subst e; rw [hD5] at ho; cases ho
      refine ⟨_, so _ _ hD5, Evl.sz_lt (by rw [List.length_map]; omega), os ++ [o], by rw [upd_same, List.map_append]; rfl, by simp [hol], ?_, fun b' o' e' => ?_⟩
      · have e3 : (ys.map (rowBack H3))[i]? = some r := by rw [List.getElem?_map, hi, ← e]; rfl
        rw [List.take_add_one, e3]
        refine paired_snoc (Paired.mapP po fun t' r' ⟨x', y', h1, h2, h3⟩ => ⟨x', y', h1, h2, ?_⟩) ⟨x1, y1, hx1, hy1, by rw [upd_ne noD]; exact upd_same⟩
        rw [upd_ne (ne_of h3 hD5 (by intro z; cases z))]
        exact so _ _ h3
      · rw [upd_ne (ne_of_none e' hD)]
        exact so _ _ (s5 b' o' e')
    · rintro H5 ⟨os, hD5, hol, po, s5⟩
      rw [List.take_of_length_le (by simp)] at po
      refine k D (ys.map (rowBack H3)) rw' H5 hD0 pr ?_ ?_ ⟨os, hD5, po⟩ ((s3.trans s4).trans s5)
      · rw [← rows_back pu]
        exact pm.map _
      · exact List.pairwise_map.mpr srt
end
end Nm
set_option maxRecDepth 100000
set_option maxHeartbeats 4000000
namespace Nm
open PySem L2
/-- what of the class is asked -/
structure TxtW (K : PySem.W.Frag) (mg : Str → Option Value) (C : Addr) : Prop extends TxtH mg where
  cl : Cls K C
  nCo : NoAttr K C "_colour_of"
  nNa : NoAttr K C "_names"
  nTi : NoAttr K C "_ties"
  nWi : NoAttr K C "_width_of"
/-- a web stands at p, the list of its names at q -/
def WebAt (C : Addr) (H : Hp) (p q : Addr) (nm : List Str) : Prop := ∃ dx fs, H p = some (.ins C dx fs) ∧ fs.lookup ("_names" : Str) = some (.ref q) ∧ fs.lookup ("places" : Str) = none ∧ H q = some (.lst (nm.map V.str))
/-- all but what stands at p is kept -/
def But (p : Addr) (H H' : Hp) : Prop := ∀ b o, H b = some o → b ≠ p → H' b = some o
theorem But.of {p : Addr} {H H' : Hp} (h : Same H H') : But p H H' := fun b o e _ => h b o e
theorem But.trans {p : Addr} {H H1 H2 : Hp} (a : But p H H1) (b : But p H1 H2) : But p H H2 := fun c o e n => b c o (a c o e n) n
theorem But.upd {p : Addr} {H : Hp} {o : HO} : But p H (upd H p o) := fun b u e n => by
  rw [upd_ne n]
  exact e
theorem nm_new {nm : List Str} (nd : nm.Nodup) {i : Nat} {x : Str} {kvs : List (Key × V)} (h : nm[i]? = some x) (hk : kvs.map (·.1) = (nm.take i).map Sum.inr) : valV kvs (Sum.inr x) = none := by
  refine val_none_of fun hm => ?_
  rw [hk, ← num_keys] at hm
  have z := num_new nd h
  obtain ⟨v, e⟩ := val_ex hm
  rw [z] at e
  cases e
theorem PlacesAt.but {H H' : Hp} {p pl : Addr} {nm cl : List Str} {C dx : Addr} {fs : List (Str × V)} (h : PlacesAt H pl nm cl) (hp : H p = some (.ins C dx fs)) (b : But p H H') : PlacesAt H' pl nm cl := by
  obtain ⟨ts, h1, h2, h3⟩ := h
  refine ⟨ts, b _ _ h1 (ne_of h1 hp (by intro z; cases z)), h2, fun i t ht => ?_⟩
  obtain ⟨x, y, hx, hy, e⟩ := h3 i t ht
  exact ⟨x, y, hx, hy, b _ _ e (ne_of e hp (by intro z; cases z))⟩
theorem TiesAt.but {H H' : Hp} {p q : Addr} {tl : List TieV} {C dx : Addr} {fs : List (Str × V)} (h : TiesAt H q tl) (hp : H p = some (.ins C dx fs)) (b : But p H H') : TiesAt H' q tl := by
  obtain ⟨ts, h1, h2⟩ := h
  exact ⟨ts, b _ _ h1 (ne_of h1 hp (by intro z; cases z)), Paired.mapP h2 fun t v e => b _ _ e (ne_of e hp (by intro z; cases z))⟩
section
variable {P : Program} {w : World} {K : PySem.W.Frag} {mg : Str → Option Value} {base : Heap}
/-! ### need_ties: what is asked of it -/
def spNeedT : Sp := fun vs H Q _ => ∃ (p d : Addr) (tl : List TieV) (nm : List Str) (kvs : List (Key × V)), vs = [.ref p, .ref d] ∧ TiesAt H p tl ∧ H d = some (.dK kvs) ∧ kvs.map (·.1) = nm.map Sum.inr ∧ (∀ t ∈ tl, t.Ok nm) ∧ (tl.map TieV.spot).Nodup ∧ tl.length ≤ 4000 ∧
  ∀ H', Same H H' → Q .non H'
/-! ### Web.__init__ -/
def spWebI (C : Addr) : Sp := fun vs H Q _ => ∃ (p dx pl tt : Addr) (nm cl : List Str) (tl : List TieV), vs = [.ref p, .ref pl, .ref tt] ∧ H p = some (.ins C dx []) ∧ PlacesAt H pl nm cl ∧ TiesAt H tt tl ∧ 1 ≤ nm.length ∧ nm.length ≤ 1000 ∧ nm.Nodup ∧ (∀ x ∈ nm, isWordB x = true) ∧ (∀ x ∈ cl, isWordB x = true) ∧
  (∀ t ∈ tl, t.Ok nm) ∧ (tl.map TieV.spot).Nodup ∧ tl.length ≤ 4000 ∧ ∀ (q : Addr) (H' : Hp), H q = none → WebAt C H' p q nm → But p H H' → Q .non H'
abbrev nWI : List Str := ["self", "places", "ties", "one", "other", "kind", "width", "name", "colour", "_"]
theorem scWI : FnScope nWI ["self", "places", "ties"] (defScope sWebInit) := ⟨rfl, rfl, rfl, by decide +kernel, rfl, by decide +kernel, by decide +kernel⟩
theorem ok_webI {f C : Addr} {fd : FuncData} (F : Fun K "__init__" "Web.__init__" sWebInit f fd) (T : TxtW K mg C) (Gp : Def P w K mg base "need_places" ["places"] 3 spNeedP) (Gt : Def P w K mg base "need_ties" ["ties", "names"] 4 spNeedT) (Go : Def P w K mg base "ordered_ties" ["ties", "names"] 1 spOrd) :
    FnOk P w K mg base CX0 5 f fd ["self", "places", "ties"] (spWebI C) := by
  obtain ⟨fp, fdp, Gp, mp, kp, bp⟩ := Gp.ex
  obtain ⟨ft, fdt, Gt, mt, kt, bt⟩ := Gt.ex
  obtain ⟨fo, fdo, Go, mo, ko, bo⟩ := Go.ex
  refine F.ok scWI (fun vs H Q E h => ?_) (fun cdv A outer s H vs Q E hr h => ?_)
  · obtain ⟨_, _, _, _, _, _, _, rfl, _⟩ := h
    rfl
  · obtain ⟨p, dx, pl, tt, nm, cl, tl, rfl, hp, hpl, htt, h1, hn, nd, hnw, hcw, hok, hsp, htl, k⟩ := h
    have hu := hu_of hr
    have hr1 := hr.mono (by decide : 1 ≤ 4)
    have hr2 := hr.mono (by decide : 3 ≤ 4)
    refine ⟨_, pss_cons (ps_expr (pe_call Gp hr2 (by rfl) mp kp bp .nil pass0 (pa_cons (pv 1) pa_nil)))
      (Evl.pss_cut (ps_fld (pv 0) (pe_dc (own := [("name", 7), ("colour", 8)]) (g := gTup K 2 (gCons (gName 7) (gCons (gName 8) gNil))) (tt := tYes) rfl scWI.nd (pi_list (pv 1)) (blkOk_by (N := nWI) (sc := defScope sWebInit) (by decide +kernel))
          (fun _ _ _ _ _ => pg_tup rfl (pgs_cons (pg_name (i := 7) scWI.nd rfl (Or.inl rfl)) (pgs_cons (pg_name (i := 8) scWI.nd rfl (Or.inl rfl)) pgs_nil))) (fun _ _ _ _ _ => pts_nil) (fun _ _ _ _ _ => pv 7) (fun _ _ _ _ _ => pv 8)) rfl)
      (pss_cons (ps_expr (pe_call Gt hr (by rfl) mt kt bt .nil pass0 (pa_cons (pv 2) (pa_cons (pe_fld (pv 0) rfl) pa_nil))))
      (Evl.pss_cut (ps_fld (pv 0) (pe_lc (own := [("name", 7), ("_", 9)]) (g := gTup K 2 (gCons (gName 7) (gCons (gName 9) gNil))) (tt := tYes) (te := tVar 7) rfl scWI.nd (pi_list (pv 1)) (blkOk_by (N := nWI) (sc := defScope sWebInit) (by decide +kernel))
          (fun _ _ _ _ _ => pg_tup rfl (pgs_cons (pg_name (i := 7) scWI.nd rfl (Or.inl rfl)) (pgs_cons (pg_name (i := 9) scWI.nd rfl (Or.inl rfl)) pgs_nil))) (fun _ _ _ _ _ => pts_nil) (fun _ _ _ _ _ => pv 7)) rfl)
      (pss_cons (ps_fld (pv 0) (pe_call Go hr1 (by rfl) mo ko bo .nil pass0 (pa_cons (pv 2) (pa_cons (pe_fld (pv 0) rfl) pa_nil))) rfl)
      (pss_cons (ps_fld (pv 0) pe_dnewT rfl)
      (pss_one (ps_for PassesOwn.never rfl (pi_list (pe_fld (pv 0) rfl)) (pg_tup rfl (pgs_cons (pg_name (i := 3) scWI.nd rfl (.inl rfl)) (pgs_cons (pg_name (i := 4) scWI.nd rfl (.inl rfl)) (pgs_cons (pg_name (i := 5) scWI.nd rfl (.inl rfl)) (pgs_cons (pg_name (i := 6) scWI.nd rfl (.inl rfl)) pgs_nil)))))
        (pss_cons (ps_dput hu (pe_fld (pv 0) rfl) (pe_tup (pa_cons (pv 3) (pa_cons (pv 4) (pa_cons (pv 5) pa_nil)))) (pv 6) rfl)
        (pss_one (ps_dput hu (pe_fld (pv 0) rfl) (pe_tup (pa_cons (pv 4) (pa_cons (pv 3) (pa_cons (pv 5) pa_nil)))) (pv 6) rfl)))))))))), ?_⟩
    refine ⟨_, rfl, pl, nm, cl, rfl, hpl, h1, hn, nd, hnw, hcw, fun H1 s1 => ?_⟩
    have hp1 := s1 _ _ hp
    have b1 : But p H H1 := But.of s1
    -- the colours
    refine ⟨fun σ H2 => ∃ dc kvs, σ = [some (.ref p), some (.ref pl), some (.ref tt), none, none, none, none, none, none, none] ∧ H2 p = some (.ins C dx (putF "_colour_of" (.ref dc) [])) ∧ H2 dc = some (.dK kvs) ∧ kvs.map (·.1) = nm.map Sum.inr ∧ But p H H2, ?_, ?_⟩
    · obtain ⟨ts, hpl1, hlen, hts⟩ := hpl.but hp b1
      refine ⟨_, rfl, pl, rfl, ⟨_, SqL.of hpl1⟩, fun D hD => ?_⟩
      refine dc_walk (walk_list (xs := ts.map V.ref)) (fun i H2 => (∃ kvs, H2 D = some (.dK kvs) ∧ kvs.map (·.1) = (nm.take i).map Sum.inr) ∧ Same H1 H2) ⟨⟨[], upd_same, rfl⟩, same_new hD⟩ (fun i H2 _ h => SqL.of (h.2 _ _ hpl1)) ?_ ?_
      · rintro i x H2 H3 hi ⟨⟨kvs, hD2, hk⟩, s2⟩ ⟨rfl, hx⟩
        rw [List.length_map] at hi
        rw [List.getElem?_map] at hx
        obtain ⟨t, ht, rfl⟩ := Option.map_eq_some_iff.mp hx
        obtain ⟨x, y, hx, hy, htt'⟩ := hts i t ht
        refine ⟨t, _, rfl, SqT.of (s2 _ _ htt'), rfl, _, _, rfl, _, _, rfl, rfl, rfl, tyes ?_⟩
        have hkl : kvs.length = (nm.take i).length := by
          have := congrArg List.length hk
          simpa using this
        refine ⟨_, rfl, _, rfl, _, Sum.inr x, rfl, hD2, Evl.sz_lt (by rw [hkl, List.length_take]; omega), ⟨_, upd_same, ?_⟩, fun b o e => ?_⟩
        · rw [putK_new _ (nm_new nd hx hk), List.map_append, hk, List.take_add_one, hx]
          simp
        · rw [upd_ne (ne_of_none e hD)]
          exact s2 b o e
      · rintro H2 ⟨⟨kvs, hD2, hk⟩, s2⟩
        rw [List.length_map, hlen, List.take_of_length_le (Nat.le_refl _)] at hk
        have hp2 := s2 _ _ hp1
        have npD : D ≠ p := ne_of hD2 hp2 (by intro z; cases z)
        refine ⟨_, rfl, p, C, dx, _, rfl, hp2, T.cl, T.nCo, (by show 0 < 1000; decide), D, kvs, rfl, upd_same, by rw [upd_ne npD]; exact hD2, hk, ?_⟩
        exact (b1.trans (But.of s2)).trans But.upd
    rintro σ H2 ⟨dc, kvs, rfl, hp2, hdc2, hk, b2⟩
    -- need_ties
    refine ⟨_, rfl, _, rfl, p, C, dx, _, _, rfl, hp2, T.cl, T.nCo, (by rw [lookup_putF, if_pos rfl]), tt, dc, tl, nm, kvs, rfl, htt.but hp b2, hdc2, hk, hok, hsp, htl, fun H3 s3 => ?_⟩
    have hp3 := s3 _ _ hp2
    have b3 := b2.trans (But.of s3)
    -- the names
    refine ⟨fun σ H4 => ∃ q fs, σ = [some (.ref p), some (.ref pl), some (.ref tt), none, none, none, none, none, none, none] ∧ H4 p = some (.ins C dx fs) ∧ fs.length ≤ 2 ∧ fs.lookup ("_names" : Str) = some (.ref q) ∧ fs.lookup ("places" : Str) = none ∧ H q = none ∧ H4 q = some (.lst (nm.map V.str)) ∧ But p H H4, ?_, ?_⟩
    · obtain ⟨ts, hpl3, hlen, hts⟩ := hpl.but hp b3
      refine ⟨_, rfl, pl, rfl, ⟨_, SqL.of hpl3⟩, fun D hD => ?_⟩
      refine lc_list (xs := ts.map V.ref) (fun i H4 => H4 D = some (.lst ((nm.take i).map V.str)) ∧ Same H3 H4) ⟨upd_same, same_new hD⟩ (fun i H4 _ h => SqL.of (h.2 _ _ hpl3)) ?_ ?_
      · rintro i x H4 hx ⟨hD4, s4⟩
        have hi := (List.getElem?_eq_some_iff.mp hx).1
        rw [List.length_map] at hi
        rw [List.getElem?_map] at hx
        obtain ⟨t, ht, rfl⟩ := Option.map_eq_some_iff.mp hx
        obtain ⟨x, y, hx, hy, htt'⟩ := hts i t ht
        refine ⟨t, _, rfl, SqT.of (s4 _ _ htt'), rfl, _, _, rfl, _, _, rfl, rfl, rfl, tyes ?_⟩
        refine ⟨_, rfl, _, hD4, Evl.sz_lt (by rw [List.length_map, List.length_take]; omega), ?_, fun b o e => ?_⟩
        · rw [upd_same, List.take_add_one, hx, List.map_append]
          rfl
        · rw [upd_ne (ne_of_none e hD)]
          exact s4 b o e
      · rintro H4 ⟨hD4, s4⟩
        rw [List.length_map, hlen, List.take_of_length_le (Nat.le_refl _)] at hD4
        have hp4 := s4 _ _ hp3
        have npD : D ≠ p := ne_of hD4 hp4 (by intro z; cases z)
        have hD0 : H D = none := by
          cases e : H D with
          | none => rfl
          | some o =>
            have := b3 D o e npD
            rw [hD] at this
            cases this
        refine ⟨_, rfl, p, C, dx, _, rfl, hp4, T.cl, T.nNa, Nat.lt_of_le_of_lt (length_putF _ _ _) (by show 1 < 1000; decide), D, _, rfl, upd_same, Nat.le_trans (length_putF _ _ _) (Nat.succ_le_succ (length_putF _ _ _)), by rw [lookup_putF, if_pos rfl], ?_, hD0, by rw [upd_ne npD]; exact hD4, ?_⟩
        · rw [lookup_putF, if_neg (by decide +kernel), lookup_putF, if_neg (by decide +kernel)]
          rfl
        · exact (b3.trans (But.of s4)).trans But.upd
    rintro σ H4 ⟨q, fs, rfl, hp4, hfl, hfn, hfp, hq0, hq4, b4⟩
    -- the ties in order
    refine ⟨_, rfl, _, rfl, p, C, dx, _, _, rfl, hp4, T.cl, T.nNa, hfn, tt, q, nm, tl, rfl, htt.but hp b4, hq4, nd, hn, (by omega), hok, fun r rs rw' H5 hr0 pr pm _ ho s5 => ?_⟩
    have hp5 := s5 _ _ hp4
    have b5 := b4.trans (But.of s5)
    refine ⟨_, rfl, p, C, dx, _, rfl, hp5, T.cl, T.nTi, (by omega), ?_⟩
    have hrl : rs.length = tl.length := by rw [pm.length_eq, ← Paired.length pr]
    obtain ⟨os, hos, hpr⟩ := ho
    have nrp : r ≠ p := ne_of hos hp5 (by intro z; cases z)
    have nqp : q ≠ p := ne_of hq4 hp4 (by intro z; cases z)
    generalize hfs2 : putF "_ties" (V.ref r) fs = fs2
    have hfl2 : fs2.length ≤ 3 := by have := length_putF "_ties" (V.ref r) fs; rw [hfs2] at this; omega
    have hfn2 : fs2.lookup ("_names" : Str) = some (.ref q) := by rw [← hfs2, lookup_putF, if_neg (by decide +kernel)]; exact hfn
    have hfp2 : fs2.lookup ("places" : Str) = none := by rw [← hfs2, lookup_putF, if_neg (by decide +kernel)]; exact hfp
    have hft2 : fs2.lookup ("_ties" : Str) = some (.ref r) := by rw [← hfs2, lookup_putF, if_pos rfl]
    have b6 : But p H5 (upd H5 p (.ins C dx fs2)) := But.upd
    have hp6 : (upd H5 p (.ins C dx fs2)) p = some (.ins C dx fs2) := upd_same
    generalize upd H5 p (.ins C dx fs2) = H6 at *
    -- the widths
    intro wd hwd
    have s7 := same_new (o := .dT []) hwd
    have hwd7 : (upd H6 wd (.dT [])) wd = some (.dT []) := upd_same
    generalize upd H6 wd (.dT []) = H7 at *
    have hp7 := s7 _ _ hp6
    refine ⟨_, rfl, p, C, dx, _, rfl, hp7, T.cl, T.nWi, (by omega), ?_⟩
    generalize hfs3 : putF "_width_of" (V.ref wd) fs2 = fs3
    have hfn3 : fs3.lookup ("_names" : Str) = some (.ref q) := by rw [← hfs3, lookup_putF, if_neg (by decide +kernel)]; exact hfn2
    have hfp3 : fs3.lookup ("places" : Str) = none := by rw [← hfs3, lookup_putF, if_neg (by decide +kernel)]; exact hfp2
    have hft3 : fs3.lookup ("_ties" : Str) = some (.ref r) := by rw [← hfs3, lookup_putF, if_neg (by decide +kernel)]; exact hft2
    have hfw3 : fs3.lookup ("_width_of" : Str) = some (.ref wd) := by rw [← hfs3, lookup_putF, if_pos rfl]
    have nwp : wd ≠ p := ne_of hwd7 hp7 (by intro z; cases z)
    have b8 : But p H7 (upd H7 p (.ins C dx fs3)) := But.upd
    have hp8 : (upd H7 p (.ins C dx fs3)) p = some (.ins C dx fs3) := upd_same
    generalize upd H7 p (.ins C dx fs3) = H8 at *
    have bb : But p H H8 := ((b5.trans b6).trans (But.of s7)).trans b8
    have b58 : But p H5 H8 := (b6.trans (But.of s7)).trans b8
    have hwd8 := b8 _ _ hwd7 nwp
    have hr8 := b58 _ _ hos nrp
    have hq8 := b58 _ _ (s5 _ _ hq4) nqp
    have hw0 : H wd = none := by
      cases e : H wd with
      | none => rfl
      | some o =>
        have := (b5.trans b6) wd o e nwp
        rw [hwd] at this
        cases this
    have nrw : r ≠ wd := ne_of hr8 hwd8 (by intro z; cases z)
    have nqw : q ≠ wd := ne_of hq8 hwd8 (by intro z; cases z)
    have hpr8 : Paired (fun t (r : RowV) => ∃ x y, H8 t = some (.tup [.str x, .str y, .str r.kd, .int r.w])) os rs := Paired.mapP hpr fun t r ⟨x, y, _, _, h⟩ => ⟨x, y, b58 _ _ h (ne_of h hp5 (by intro z; cases z))⟩
    refine ⟨_, rfl, p, C, dx, _, _, rfl, hp8, T.cl, T.nTi, hft3, r, rfl, ⟨_, SqL.of hr8⟩, ?_⟩
    refine for_list (xs := os.map V.ref) (fun i σ H9 => ∃ v3 v4 v5 v6 kvs, σ = [some (.ref p), some (.ref pl), some (.ref tt), v3, v4, v5, v6, none, none, none] ∧ H9 wd = some (.dT kvs) ∧ kvs.length ≤ 2 * i ∧ But wd H8 H9) ⟨none, none, none, none, [], rfl, hwd8, Nat.le_refl _, fun b o e _ => e⟩ (fun i σ H9 _ ⟨_, _, _, _, _, _, _, _, h⟩ => SqL.of (h _ _ hr8 nrw)) ?_ ?_
    · rintro i v σ H9 hi ⟨v3, v4, v5, v6, kv, rfl, hwd9, hkl, b9⟩
      have hil := (List.getElem?_eq_some_iff.mp hi).1
      rw [List.length_map, Paired.length hpr, hrl] at hil
      rw [List.getElem?_map] at hi
      obtain ⟨t, ht, rfl⟩ := Option.map_eq_some_iff.mp hi
      obtain ⟨rv, _, x, y, htt8⟩ := paired_get hpr8 ht
      have nt : t ≠ wd := ne_of htt8 hwd8 (by intro z; cases z)
      have hp9 := b9 _ _ hp8 nwp.symm
      refine ⟨t, _, rfl, SqT.of (b9 _ _ htt8 nt), rfl, _, _, rfl, _, _, rfl, _, _, rfl, _, _, rfl, rfl, ?_⟩
      refine ⟨_, rfl, _, rfl, p, C, dx, _, _, rfl, hp9, T.cl, T.nWi, hfw3, _, rfl, _, rfl, _, rfl, (by show 3 ≤ sizeLine; decide), fun u hu' => ?_⟩
      have su := same_new (o := .tup [V.str x, V.str y, V.str rv.kd]) hu'
      have hu1 : (upd H9 u (.tup [V.str x, V.str y, V.str rv.kd])) u = some (.tup (List.map kV [Sum.inr x, Sum.inr y, Sum.inr rv.kd])) := upd_same
      generalize upd H9 u (.tup [V.str x, V.str y, V.str rv.kd]) = H10 at *
      refine ⟨wd, _, rfl, DPut.t (su _ _ hwd9) hu1 (Evl.sz_lt (by omega)), ?_⟩
      have l1 := length_putK kv [Sum.inr x, Sum.inr y, Sum.inr rv.kd] (V.int rv.w)
      generalize putK kv [Sum.inr x, Sum.inr y, Sum.inr rv.kd] (V.int rv.w) = kv1 at *
      have b11 : But wd H9 (upd H10 wd (.dT kv1)) := (But.of su).trans But.upd
      have hwd11 : (upd H10 wd (.dT kv1)) wd = some (.dT kv1) := upd_same
      generalize upd H10 wd (.dT kv1) = H11 at *
      refine ⟨_, rfl, _, rfl, p, C, dx, _, _, rfl, b11 _ _ hp9 nwp.symm, T.cl, T.nWi, hfw3, _, rfl, _, rfl, _, rfl, (by show 3 ≤ sizeLine; decide), fun u2 hu2 => ?_⟩
      have su2 := same_new (o := .tup [V.str y, V.str x, V.str rv.kd]) hu2
      have hu3 : (upd H11 u2 (.tup [V.str y, V.str x, V.str rv.kd])) u2 = some (.tup (List.map kV [Sum.inr y, Sum.inr x, Sum.inr rv.kd])) := upd_same
      generalize upd H11 u2 (.tup [V.str y, V.str x, V.str rv.kd]) = H12 at *
      refine ⟨wd, _, rfl, DPut.t (su2 _ _ hwd11) hu3 (Evl.sz_lt (by omega)), ?_⟩
      have l2 := length_putK kv1 [Sum.inr y, Sum.inr x, Sum.inr rv.kd] (V.int rv.w)
      exact ⟨_, _, _, _, _, rfl, upd_same, (by omega), ((b9.trans b11).trans (But.of su2)).trans But.upd⟩
    · rintro σ H9 ⟨v3, v4, v5, v6, kv, rfl, hwd9, hkl, b9⟩
      refine k q H9 hq0 ⟨dx, fs3, b9 _ _ hp8 nwp.symm, hfn3, hfp3, b9 _ _ hq8 nqw⟩ fun b o e hb => ?_
      exact b9 _ _ (bb b o e hb) (ne_of_none e hw0)
end
end Nm
set_option maxRecDepth 100000
set_option maxHeartbeats 4000000
namespace Nm
open PySem L2
/-- a method and its promise -/
structure MethD (P : Program) (w : World) (K : PySem.W.Frag) (mg : Str → Option Value) (base : Heap) (C : Addr) (m : Str) (ps : List Str) (k : Nat) (sp : Sp) : Prop where
  ex : ∃ f fd, FnOk P w K mg base CX0 k f fd ps sp ∧ Meth K C m f ∧ Binds K fd ps []
theorem WebAt.same {C : Addr} {H H' : Hp} {p q : Addr} {nm : List Str} (h : WebAt C H p q nm) (s : Same H H') : WebAt C H' p q nm := by
  obtain ⟨dx, fs, h1, h2, h3, h4⟩ := h
  exact ⟨dx, fs, s _ _ h1, h2, h3, s _ _ h4⟩
/-- the places over y -/
def overL (nm' : List Str) (g : Str → Str) (y : Str) : List Str := nm'.filter fun x => decide (g x = y)
theorem overL_yes {nm' : List Str} {g : Str → Str} {y x : Str} {i : Nat} (h : nm'[i]? = some x) (e : g x = y) : overL (nm'.take (i + 1)) g y = overL (nm'.take i) g y ++ [x] := by
  unfold overL
  rw [List.take_add_one, h, List.filter_append]
  simp [e]
theorem overL_no {nm' : List Str} {g : Str → Str} {y x : Str} {i : Nat} (h : nm'[i]? = some x) (e : ¬ g x = y) : overL (nm'.take (i + 1)) g y = overL (nm'.take i) g y := by
  unfold overL
  rw [List.take_add_one, h, List.filter_append]
  simp [e]
theorem overL_len (nm' : List Str) (g : Str → Str) (y : Str) : (overL nm' g y).length ≤ nm'.length := List.length_filter_le _ _
/-- names and the lists over them -/
def poKV (nm : List Str) (as : List Addr) : List (Key × V) := (nm.zip as).map fun p => (Sum.inr p.1, V.ref p.2)
theorem po_keys {nm : List Str} {as : List Addr} (h : as.length = nm.length) : (poKV nm as).map (·.1) = nm.map Sum.inr := by
  unfold poKV
  rw [List.map_map]
  have : nm = (nm.zip as).map (·.1) := by rw [List.map_fst_zip (by omega)]
  conv => rhs; rw [this]
  rw [List.map_map]
  rfl
theorem po_nd {nm : List Str} {as : List Addr} (h : as.length = nm.length) (nd : nm.Nodup) : ((poKV nm as).map (·.1)).Nodup := by
  rw [po_keys h]
  exact List.Pairwise.map _ (fun a b hab e => hab (Sum.inr.inj e)) nd
theorem po_at {nm : List Str} {as : List Addr} (h : as.length = nm.length) (nd : nm.Nodup) {q : Nat} {y : Str} {a : Addr} (hy : nm[q]? = some y) (ha : as[q]? = some a) : valV (poKV nm as) (Sum.inr y) = some (V.ref a) := by
  refine val_of_mem (po_nd h nd) ?_
  unfold poKV
  refine List.mem_map.mpr ⟨(y, a), ?_, rfl⟩
  refine List.mem_of_getElem? (i := q) ?_
  rw [List.getElem?_zip_eq_some]
  exact ⟨hy, ha⟩
section
variable {P : Program} {w : World} {K : PySem.W.Frag} {mg : Str → Option Value} {base : Heap}
/-! ### Web.places -/
def spPlaces (C : Addr) : Sp := fun vs H Q _ => ∃ (p q : Addr) (nm : List Str), vs = [.ref p] ∧ WebAt C H p q nm ∧ nm.length ≤ 1000 ∧ ∀ (r : Addr) (H' : Hp), H r = none → H' r = some (.lst (nm.map V.str)) → Same H H' → Q (.ref r) H'
theorem scPl : FnScope ["self"] ["self"] (defScope sWebPlaces) := ⟨rfl, rfl, rfl, by decide +kernel, rfl, by decide +kernel, by decide +kernel⟩
theorem ok_places {f C : Addr} {fd : FuncData} (F : Fun K "places" "Web.places" sWebPlaces f fd) (T : TxtW K mg C) : FnOk P w K mg base CX0 1 f fd ["self"] (spPlaces C) := by
  refine F.ok scPl (fun vs H Q E h => ?_) (fun cdv A outer s H vs Q E hr h => ?_)
  · obtain ⟨_, _, _, rfl, _⟩ := h
    rfl
  · obtain ⟨p, q, nm, rfl, ⟨dx, fs, hp, hfn, _, hq⟩, hn, k⟩ := h
    refine ⟨_, pss_one (ps_ret (pe_callTy call_list_of (by rfl) T.list (by decide +kernel) (pa_cons (pe_fld (pv 0) rfl) pa_nil))), ?_⟩
    refine ⟨_, rfl, p, C, dx, _, _, rfl, hp, T.cl, T.nNa, hfn, ?_⟩
    exact ⟨q, _, rfl, .inl (SqL.of hq), fun r hr0 => k r _ hr0 upd_same (same_new hr0)⟩
/-! ### places_over -/
def spPO (C : Addr) : Sp := fun vs H Q _ => ∃ (ov qo we qw fo : Addr) (nm' nm : List Str) (fkv : List (Key × V)) (g : Str → Str), vs = [.ref ov, .ref we, .ref fo] ∧ WebAt C H ov qo nm' ∧ WebAt C H we qw nm ∧ H fo = some (.dK fkv) ∧ nm'.length ≤ 1000 ∧ nm.length ≤ 1000 ∧ nm.Nodup ∧
  (∀ x ∈ nm', valV fkv (Sum.inr x) = some (V.str (g x)) ∧ g x ∈ nm) ∧
  ∀ (D : Addr) (as : List Addr) (H' : Hp), H D = none → H' D = some (.dK (poKV nm as)) → as.length = nm.length → (∀ (q : Nat) (a : Addr) (y : Str), as[q]? = some a → nm[q]? = some y → H a = none ∧ H' a = some (.lst ((overL nm' g y).map V.str))) → Same H H' → Q (.ref D) H'
abbrev nPO : List Str := ["over", "web", "folding", "found", "name", "place"]
theorem scPO : FnScope nPO ["over", "web", "folding"] (defScope sPlacesOver) := ⟨rfl, rfl, rfl, by decide +kernel, rfl, by decide +kernel, by decide +kernel⟩
theorem ok_placesOver {f C : Addr} {fd : FuncData} (F : Fun K "places_over" "places_over" sPlacesOver f fd) (T : TxtW K mg C) (Gm : MethD P w K mg base C "places" ["self"] 1 (spPlaces C)) : FnOk P w K mg base CX0 2 f fd ["over", "web", "folding"] (spPO C) := by
  obtain ⟨fm, fdm, Gm, mm, bm⟩ := Gm.ex
  refine F.ok scPO (fun vs H Q E h => ?_) (fun cdv A outer s H vs Q E hr h => ?_)
  · obtain ⟨_, _, _, _, _, _, _, _, _, rfl, _⟩ := h
    rfl
  · obtain ⟨ov, qo, we, qw, fo, nm', nm, fkv, g, rfl, hov, hwe, hfo, hn', hn, nd, hg, k⟩ := h
    have hu := hu_of hr
    refine ⟨_, Evl.pss_cut (ps_setDc (n := 3) (own := [("place", 5)]) (g := gName 5) (tt := tYes) rfl scPO.nd rfl rfl (sw_dict rfl rfl rfl (by decide +kernel)) (pi_list (pe_meth0 (pv 1) T.cl mm Gm hr bm .nil pass0))
        (blkOk_by (N := nPO) (sc := defScope sPlacesOver) (by decide +kernel)) (fun _ _ _ _ _ => pg_name (i := 5) scPO.nd rfl (Or.inl rfl)) (fun _ _ _ _ _ => pts_nil) (fun _ _ _ _ _ => pv 5) (fun _ _ _ _ _ => pe_lst pa_nil))
      (pss_cons (ps_for PassesOwn.never rfl (pi_list (pe_meth0 (pv 0) T.cl mm Gm hr bm .nil pass0)) (pg_name (i := 4) scPO.nd rfl (.inl rfl))
        (pss_one (ps_expr (pe_bm PySem.F.plainAttrs_list PySem.F.slot_list_append PySem.F.type_list_append mt_append (pe_dget hu (pv 3) (pe_dget hu (pv 2) (pv 4) (fun _ _ => rfl)) (fun _ _ => rfl)) (pa_cons (pv 4) pa_nil)))))
      (pss_one (ps_ret (pv 3)))), ?_⟩
    refine ⟨fun σ H1 => ∃ D as, σ = [some (.ref ov), some (.ref we), some (.ref fo), some (.ref D), none, none] ∧ H D = none ∧ H1 D = some (.dK (poKV nm as)) ∧ as.length = nm.length ∧ as.Nodup ∧ (∀ a ∈ as, H a = none ∧ H1 a = some (.lst [])) ∧ Same H H1, ?_, ?_⟩
    · obtain ⟨dw, fw, hw1, hw2, hw3, hw4⟩ := id hwe
      refine ⟨_, rfl, we, dw, fw, rfl, hw1, hw3, we, qw, nm, rfl, hwe, hn, fun r H1 hr0 hr1 s1 => ?_⟩
      refine ⟨r, rfl, ⟨_, SqL.of hr1⟩, fun D hD => ?_⟩
      have hD0 := s1.free hD
      refine dc_walk (walk_list (xs := nm.map V.str)) (fun i H2 => ∃ as, H2 D = some (.dK (poKV (nm.take i) as)) ∧ as.length = (nm.take i).length ∧ as.Nodup ∧ (∀ a ∈ as, H a = none ∧ H2 a = some (.lst [])) ∧ Same H1 H2) ⟨[], upd_same, rfl, List.nodup_nil, (fun a ha => (List.not_mem_nil ha).elim), same_new hD⟩ (fun i H2 _ ⟨_, _, _, _, _, h⟩ => SqL.of (h _ _ hr1)) ?_ ?_
      · rintro i x H2 H3 hi ⟨as, hD2, hal, hand, hae, s2⟩ ⟨rfl, hx⟩
        rw [List.length_map] at hi
        rw [List.getElem?_map] at hx
        obtain ⟨y, hy, rfl⟩ := Option.map_eq_some_iff.mp hx
        refine ⟨rfl, tyes ?_⟩
        refine ⟨_, rfl, (by show 0 ≤ sizeLine; decide), fun u hu' => ?_⟩
        have su := same_new (o := .lst []) hu'
        have nuD : u ≠ D := fun e => by subst e; rw [hD2] at hu'; cases hu'
        have hua : u ∉ as := fun hm => by have := (hae u hm).2; rw [hu'] at this; cases this
        have hnew : valV (poKV (nm.take i) as) (Sum.inr y) = none := nm_new nd hy (po_keys hal)
        have hkl : (poKV (nm.take i) as).length ≤ i := by
          unfold poKV
          rw [List.length_map, List.length_zip, List.length_take]
          omega
        refine ⟨_, Sum.inr y, rfl, su _ _ hD2, Evl.sz_lt (by omega), as ++ [u], ?_, ?_, ?_, ?_, fun b o e => ?_⟩
        · rw [upd_same, putK_new _ hnew, List.take_add_one, hy]
          unfold poKV
          rw [Option.toList_some, List.zip_append hal.symm, List.map_append]
          rfl
        · rw [List.take_add_one, hy]
          simp [hal]
        · rw [List.nodup_append]
          refine ⟨hand, by simp, fun a ha b hb e => ?_⟩
          rw [List.mem_singleton] at hb
          subst hb e
          exact hua ha
        · intro a ha
          rcases List.mem_append.mp ha with z | z
          · have na : a ≠ D := ne_of (hae a z).2 hD2 (by intro z; cases z)
            exact ⟨(hae a z).1, by rw [upd_ne na]; exact su _ _ (hae a z).2⟩
          · rw [List.mem_singleton] at z
            subst z
            exact ⟨(s1.trans s2).free hu', by rw [upd_ne nuD]; exact upd_same⟩
        · rw [upd_ne (ne_of_none e hD)]
          exact su _ _ (s2 b o e)
      · rintro H2 ⟨as, hD2, hal, hand, hae, s2⟩
        rw [List.length_map, List.take_of_length_le (Nat.le_refl _)] at hD2 hal
        exact ⟨D, as, rfl, hD0, hD2, hal, hand, hae, s1.trans s2⟩
    rintro σ H1 ⟨D, as, rfl, hD0, hD1, hal, hand, hae, s1⟩
    obtain ⟨dw, fw, hw1, hw2, hw3, hw4⟩ := hov.same s1
    refine ⟨_, rfl, ov, dw, fw, rfl, hw1, hw3, ov, qo, nm', rfl, hov.same s1, hn', fun r H2 hr0 hr2 s2 => ?_⟩
    refine ⟨r, rfl, ⟨_, SqL.of hr2⟩, ?_⟩
    have hr00 := s1.free hr0
    have s12 := s1.trans s2
    have hra : ∀ a ∈ as, r ≠ a := fun a ha e => by subst e; rw [(hae r ha).2] at hr0; cases hr0
    refine for_list (xs := nm'.map V.str) (fun i σ H3 => ∃ v4, σ = [some (.ref ov), some (.ref we), some (.ref fo), some (.ref D), v4, none] ∧ H3 D = some (.dK (poKV nm as)) ∧ H3 r = some (.lst (nm'.map V.str)) ∧ (∀ (q : Nat) (a : Addr) (y : Str), as[q]? = some a → nm[q]? = some y → H3 a = some (.lst ((overL (nm'.take i) g y).map V.str))) ∧ Same H H3)
      ⟨none, rfl, s2 _ _ hD1, hr2, fun q a y ha _ => s2 _ _ (hae a (List.mem_of_getElem? ha)).2, s12⟩ (fun i σ H3 _ ⟨_, _, _, h, _, _⟩ => SqL.of h) ?_ ?_
    · rintro i v σ H3 hi ⟨v4, rfl, hD3, hr3, hq3, s3⟩
      have hil := (List.getElem?_eq_some_iff.mp hi).1
      rw [List.length_map] at hil
      rw [List.getElem?_map] at hi
      obtain ⟨x, hx, rfl⟩ := Option.map_eq_some_iff.mp hi
      obtain ⟨hg1, hg2⟩ := hg x (List.mem_of_getElem? hx)
      obtain ⟨q, hq⟩ := List.getElem?_of_mem hg2
      have hql := (List.getElem?_eq_some_iff.mp hq).1
      obtain ⟨a, ha⟩ : ∃ a, as[q]? = some a := ⟨_, List.getElem?_eq_getElem (by omega)⟩
      have ha3 := hq3 q a _ ha hq
      have d1 : DGet H3 fo (V.str x) (some (V.str (g x))) := by rw [← hg1]; exact DGet.k (k := Sum.inr x) (s3 _ _ hfo)
      have d2 : DGet H3 D (V.str (g x)) (some (V.ref a)) := by rw [← po_at hal nd hq ha]; exact DGet.k (k := Sum.inr (g x)) hD3
      refine ⟨_, rfl, _, rfl, _, rfl, fo, _, rfl, d1, D, _, rfl, d2, .inl ⟨rfl, _, SqL.of ha3⟩, _, rfl, a, _, _, rfl, rfl, ha3, Evl.sz_lt (by rw [List.length_map]; have := overL_len (nm'.take i) g (g x); rw [List.length_take] at this; omega), ?_⟩
      have naD : a ≠ D := ne_of ha3 hD3 (by intro z; cases z)
      refine ⟨_, rfl, by rw [upd_ne naD.symm]; exact hD3, by rw [upd_ne (hra a (List.mem_of_getElem? ha))]; exact hr3, fun q' a' y' ha' hy' => ?_, fun b o e => ?_⟩
      · by_cases e : q' = q
        · subst e
          rw [ha] at ha'
          cases ha'
          rw [hq] at hy'
          cases hy'
          rw [upd_same, overL_yes hx rfl, List.map_append]
          rfl
        · have naa : a' ≠ a := fun z => by
            subst z
            have h1 := (List.getElem?_eq_some_iff.mp ha').1
            exact e ((List.getElem?_inj h1 hand).mp (by rw [ha, ha']))
          have nyy : ¬ g x = y' := fun z => by
            subst z
            have h1 := (List.getElem?_eq_some_iff.mp hy').1
            exact e ((List.getElem?_inj h1 nd).mp (by rw [hq, hy']))
          rw [upd_ne naa, overL_no hx nyy]
          exact hq3 q' a' y' ha' hy'
      · rw [upd_ne (ne_of_none e (hae a (List.mem_of_getElem? ha)).1)]
        exact s3 b o e
    · rintro σ H3 ⟨v4, rfl, hD3, hr3, hq3, s3⟩
      rw [List.length_map, List.take_of_length_le (Nat.le_refl _)] at hq3
      exact ⟨_, rfl, k D as H3 hD0 hD3 hal (fun q a y ha hy => ⟨(hae a (List.mem_of_getElem? ha)).1, hq3 q a y ha hy⟩) s3⟩
end
end Nm
set_option maxRecDepth 100000
set_option maxHeartbeats 4000000
namespace Nm
open PySem L2
/-- e, and what it gives stands still from here on -/
def tStill (t : TE) : TE := fun σ H Q => t σ H fun x H1 => ∃ d u, x = .ref d ∧ H1 d = some u ∧ Mut (some u) ∧ ∀ od, Q x (upd H1 d (.frz od u))
theorem pe_still {X : Cx} {e : PySem.Expr} {t : TE} (h : PE X e t) : PE X e (tStill t) := by
  refine ⟨fun pins s σ H Q I hw => ?_⟩
  refine thn (h.run pins s σ H _ I hw) fun v s1 ⟨x, H1, I1, r, d, u, _, hd, mu, q⟩ => ?_
  obtain ⟨od, I2⟩ := I1.lock hd mu
  exact ⟨x, _, I2, r, q od⟩
theorem po_get {nm : List Str} {as : List Addr} {i : Nat} {k : Key} {x : V} (h : (poKV nm as)[i]? = some (k, x)) : ∃ y a, nm[i]? = some y ∧ as[i]? = some a ∧ x = V.ref a := by
  unfold poKV at h
  rw [List.getElem?_map] at h
  obtain ⟨⟨y, a⟩, e1, e2⟩ := Option.map_eq_some_iff.mp h
  rw [List.getElem?_zip_eq_some] at e1
  cases e2
  exact ⟨y, a, e1.1, e1.2, rfl⟩
theorem po_len {nm : List Str} {as : List Addr} (h : as.length = nm.length) : (poKV nm as).length = nm.length := by
  unfold poKV
  rw [List.length_map, List.length_zip]
  omega
end Nm
set_option maxRecDepth 100000
set_option maxHeartbeats 4000000
/-! own __len__; the fields of an exception that is being made; defs that let exceptions out; kept; BadNumber.__init__ -/
namespace Nm
open PySem PySem.Spec PyProof.Rows L2
section
variable {X : Cx}
/-- len(o), o an instance whose class has its own __len__ -/
def rLenOwn (C : Addr) (sp : Sp) (E : XK) : List V → Hp → VK → Prop := fun xs H Q => ∃ (a dx : Addr) (fs : List (Str × V)), xs = [.ref a] ∧ H a = some (.ins C dx fs) ∧ sp [.ref a] H (fun v H1 => ∃ n : Nat, v = .int n ∧ n ≤ 1000000 ∧ Q (.int n) H1) E
theorem call_lenOwn {k : Nat} {f C : Addr} {fd : FuncData} {ps : List Str} {sp : Sp} {CX : CXT} {E : XK} (F : FnOk X.prog X.w X.K X.mg X.base CX k f fd ps sp) (M : Meth X.K C "__len__" f) (hr : Room (k + 1) X.A) (hb : Binds X.K fd ps []) (hx : Passes CX X E) :
    CallR X (.builtin "len") (rLenOwn C sp E) := by
  intro pins s σ H xs us Q I r h
  obtain ⟨a, dx, fs, rfl, ha, h⟩ := h
  obtain ⟨u, rfl, ru⟩ := vals1 r
  obtain rfl : u = Value.ref a := ru
  obtain ⟨mA, O, _⟩ := ins_get I.hok ha
  obtain ⟨od, J, _⟩ := O.look
  obtain ⟨m, fr⟩ := I.fr
  refine PySem.W.len_K fr I.ok.mod.kin J M.at_ M.fn ?_
  have hl : ([Value.ref a] : List Value).length = ps.length := by rw [← r.length]; exact F.len _ _ _ _ h
  have b := hb s [.ref a] I.kIn (by rw [List.append_nil]; exact hl)
  rw [List.append_nil] at b
  refine wpAny_call (codeAny_mono (F.run X.A.in1 X.stack s H ⟨[.ref a], []⟩ [.ref a] [.ref a] _ E hr.in1 I.env0.in1 b r h) fun r s' hq => ?_)
  cases r with
  | error e => exact hx pins σ H s e s' I hq
  | ok fl =>
    cases fl with
    | ret u =>
      obtain ⟨v, H', I', rv, n, rfl, hn, q⟩ := I.after hq
      obtain ⟨t, rfl⟩ := (show ∃ t, u = Value.int (n : Int) t from rv)
      exact ⟨⟨by omega, by omega⟩, .int n, H', I'.tok _, ⟨_, rfl⟩, q⟩
    | next => exact False.elim hq
    | brk => exact False.elim hq
    | cont => exact False.elim hq
/-- o.f, o an exception that is being made -/
def tExoF (K : PySem.W.Frag) (f : Str) (te : TE) : TE := fun σ H Q => te σ H fun x H1 => ∃ (a C dx : Addr) (fs : List (Str × V)) (v : V), x = .ref a ∧ XfC K C ∧ PySem.W.findIn K (.ref C) f = some none ∧ H1 a = some (exo a C (some dx)) ∧ H1 dx = some (exd dx fs) ∧ fs.lookup f = some v ∧ Q v H1
theorem pe_exoF {e : Expr} {te : TE} {f : Str} {pos : Pos} (he : PE X e te) (hb : attributeBase e f X.env (eval e X.env) = eval e X.env := by rfl) : PE X (.Attribute e f pos) (tExoF X.K f te) := by
  refine ⟨fun pins s σ H Q I h => ?_⟩
  refine attr_of hb (thn (he.run pins s σ H _ I h) fun u s1 hh => ?_)
  obtain ⟨x, H1, I1, rx, a, C, dx, fs, v, ex, T, hno, ha, hd, hl, q⟩ := hh
  subst ex
  obtain rfl : u = Value.ref a := rx
  obtain ⟨t1, ho⟩ := exo_at I1.hok ha
  obtain ⟨mA, hns, hr⟩ := exd_at I1.hok hd
  obtain ⟨od, hod, hlk⟩ := lookIn_ns hns
  obtain ⟨w', hw, rw'⟩ := RelO.some_of (v := v) (o := mA f) (by rw [← hl]; exact hr f)
  have J : PySem.W.InstAt s1.heap a _ C (some od) := ⟨ho, rfl, rfl, hod⟩
  exact HandSPX.exc_get I1.kIn J T.ga T.gg T.exC (PySem.W.findObj_own T.hdC hno rfl (by rw [hlk, hw])) (handed_of rw') ⟨v, H1, I1.tok _, rw', q⟩
/-- a body that is never reached -/
theorem pss_no {b : List Stmt} : PSs X b (fun _ _ _ => False) := ⟨fun _ _ _ _ _ _ h => h.elim⟩
end
section
variable {P : Program} {w : World} {K : PySem.W.Frag} {mg : Str → Option Value} {base : Heap}
/-- a def that may let exceptions out -/
theorem okX {x qual : Str} {st : Stmt} {f : Addr} {fd : FuncData} {N ps : List Str} {k : Nat} {sp : Sp} (F : Fun K x qual st f fd) (S : FnScope N ps (defScope st)) (len : ∀ vs H Q E, sp vs H Q E → vs.length = ps.length)
    (hbody : ∀ (cdv : Value) (A : Around) (outer : List Env) (s : Shared) (H : Hp) (vs : List V) (Q : VK) (E : XK), Room k (A.deeper (envOfC qual (defScope st) s.heap.objs.size f cdv)) → sp vs H Q E →
      ∃ t, PSs (cxOf (L2.CX P w) P w K mg base N qual (defScope st) f cdv A outer s H E) (defBody st) t ∧ t { nx := fun _ H' => Q .non H', rt := Q } (start N vs) H) : FnOk P w K mg base (L2.CX P w) (k + 1) f fd ps sp := by
  obtain ⟨oc, od, kV, doc, pm, an, cdv, ct, osl, rfl, lk, hcd⟩ := F.ex
  exact fn_of lk hcd S len fun A outer s H vs Q E hr hsp => hbody cdv A outer s H vs Q E hr hsp
/-! ### kept, of a number or a text -/
def spKept : Sp := fun vs H Q _ => ∃ x : V, vs = [x] ∧ ((∃ i, x = .int i) ∨ ∃ z, x = .str z) ∧ Q x H
abbrev nKe : List Str := ["value", "part", "key"]
theorem scKe : FnScope ["value"] ["value"] (defScope sKept) := ⟨rfl, rfl, rfl, by decide +kernel, rfl, by decide +kernel, by decide +kernel⟩
theorem ok_kept {f : Addr} {fd : FuncData} (F : Fun K "kept" "kept" sKept f fd) (T : TxtH mg) : FnOk P w K mg base CX0 1 f fd ["value"] spKept := by
  refine F.ok scKe (fun vs H Q E h => ?_) (fun cdv A outer s H vs Q E hr h => ?_)
  · obtain ⟨_, rfl, _⟩ := h
    rfl
  · obtain ⟨x, rfl, hx, k⟩ := h
    refine ⟨_, pss_cons (ps_if (pt_val (pe_callB call_isi (by rfl) T.isinstance (by decide +kernel) (pa_cons (pv 0) (pa_cons (pe_bltn (v := .ty "list") (by rfl) T.list (by decide +kernel) rfl) pa_nil)))) pss_no pss_nil)
      (pss_cons (ps_if (pt_val (pe_callB call_isi (by rfl) T.isinstance (by decide +kernel) (pa_cons (pv 0) (pa_cons (pe_bltn (v := .ty "tuple") (by rfl) T.tuple (by decide +kernel) rfl) pa_nil)))) pss_no pss_nil)
      (pss_cons (ps_if (pt_val (pe_callB call_isi (by rfl) T.isinstance (by decide +kernel) (pa_cons (pv 0) (pa_cons (pe_bltn (v := .ty "dict") (by rfl) T.dict (by decide +kernel) rfl) pa_nil)))) pss_no pss_nil)
      (pss_one (ps_ret (pv 0))))), ?_⟩
    rcases hx with ⟨i, rfl⟩ | ⟨z, rfl⟩
    · refine ⟨_, rfl, _, _, _, _, false, rfl, ClsV.ty "list", TyX.base (TyOf.int i), kit_ty (by decide +kernel), _, rfl, iteF ?_⟩
      refine ⟨_, rfl, _, _, _, _, false, rfl, ClsV.ty "tuple", TyX.base (TyOf.int i), kit_ty (by decide +kernel), _, rfl, iteF ?_⟩
      refine ⟨_, rfl, _, _, _, _, false, rfl, ClsV.ty "dict", TyX.base (TyOf.int i), kit_ty (by decide +kernel), _, rfl, iteF ?_⟩
      exact ⟨_, rfl, k⟩
    · refine ⟨_, rfl, _, _, _, _, false, rfl, ClsV.ty "list", TyX.base (TyOf.str z), kit_ty (by decide +kernel), _, rfl, iteF ?_⟩
      refine ⟨_, rfl, _, _, _, _, false, rfl, ClsV.ty "tuple", TyX.base (TyOf.str z), kit_ty (by decide +kernel), _, rfl, iteF ?_⟩
      refine ⟨_, rfl, _, _, _, _, false, rfl, ClsV.ty "dict", TyX.base (TyOf.str z), kit_ty (by decide +kernel), _, rfl, iteF ?_⟩
      exact ⟨_, rfl, k⟩
end
end Nm
set_option maxRecDepth 100000
set_option maxHeartbeats 4000000
/-! for i, x in enumerate(a tuple) -/
namespace Nm
open PySem PySem.Spec PyProof.Rows L2
open PySem.AutoSeq1 (wpAny_loadPart')
/-- the call of the type -/
theorem en_new (l : Addr) (xs : Array Value) (n : Nat) (dd : Option Addr) (sl : Array (Option Value)) :
    Meets (Builtin.«enumerate.__new__» ⟨[.type "enumerate", .ref l], []⟩) (fun _ R s => s.heap.get? l = some { cls := .type "tuple", dict := dd, data := .seq xs n, slots := sl } ∧
      R (.ok (.ret (.ref (s.heap.push { cls := .type "tuple_iterator", data := .fields #[.ref l, .int 0 0] }).objs.size)))
        { s with heap := (s.heap.push { cls := .type "tuple_iterator", data := .fields #[.ref l, .int 0 0] }).push { cls := .type "enumerate", data := .fields #[.none, .bool false, .ref s.heap.objs.size, rawInt 0, .none, .none] } }) :=
  .of_wp fun prog w A R s h => by
    obtain ⟨hp, g, d, tk, os⟩ := s; obtain ⟨ht0, h⟩ := h
    have hsub := sub_enumerate
    have hT : Heap.IsTuple (Shared.heap ⟨hp, g, d, tk, os⟩) l xs := ⟨_, ht0, rfl, n, rfl⟩
    wp_walk using wpAny_loadPart' ht0
    refine wpAny_stack_any fun st => wpAny_pure ?_
    split
    · rename_i c _ _ _ _ _
      cases (c == Value.type "enumerate")
      · wp_walk using wpAny_loadPart' ht0, wpAny_pyIter_tuple hT
        exact ⟨_, rfl, h⟩
      · wp_walk using wpAny_loadPart' ht0, wpAny_pyIter_tuple hT
        exact ⟨_, rfl, h⟩
    · wp_walk using wpAny_loadPart' ht0, wpAny_pyIter_tuple hT
      exact ⟨_, rfl, h⟩
section
variable {prog : Program} {w : World} {A : Around} {E : Value → Shared → Prop} {s : Shared}
theorem en_call {l : Addr} {xs : Array Value} {Q : Value → Shared → Prop} (hT : s.heap.IsTuple l xs)
    (h : ∀ h', IsEnum h' (s.heap.objs.size + 1) s.heap.objs.size 0 .none → h'.IsTupleIter s.heap.objs.size l 0 → h'.objs.size = s.heap.objs.size + 2 →
      (∀ b o, s.heap.get? b = some o → h'.get? b = some o) → Q (.ref (s.heap.objs.size + 1)) { s with heap := h' }) : wpAny (model prog w) A (call (.type "enumerate") [.ref l]) Q E s := by
  obtain ⟨⟨c, dd, dt, sl⟩, hl, hc, n, hd⟩ := hT
  replace hc : c = .type "tuple" := hc
  replace hd : dt = .seq xs n := hd
  subst hc hd
  refine callType_new F.called_enumerate (by decide) (F.typeCall_enumerate_1 _) (F.newCall_enumerate_1 _) (fun obj => F.args_object_init_2 obj _) F.entry_enumerate_new (en_new l xs n dd sl) ⟨hl, ?_⟩
  have hz : (s.heap.push { cls := .type "tuple_iterator", data := .fields #[.ref l, .int 0 0] }).objs.size = s.heap.objs.size + 1 := Heap.size_push ..
  show _ ∧ _
  rw [hz]
  have he : IsEnum ((s.heap.push { cls := .type "tuple_iterator", data := .fields #[.ref l, .int 0 0] }).push
      { cls := .type "enumerate", data := .fields #[.none, .bool false, .ref s.heap.objs.size, rawInt 0, .none, .none] }) (s.heap.objs.size + 1) s.heap.objs.size 0 .none := by
    have := Heap.get?_push_size (s.heap.push { cls := .type "tuple_iterator", data := .fields #[.ref l, .int 0 0] })
      (o := { cls := .type "enumerate", data := .fields #[.none, .bool false, .ref s.heap.objs.size, rawInt 0, .none, .none] }) rfl
    rw [hz] at this; exact this
  exact ⟨⟨_, he, rfl⟩, h _ he ⟨_, Heap.get?_push_of_some _ (Heap.get?_push_size _ rfl), rfl, rfl⟩ (by rw [Heap.size_push, hz]) fun b o x => Heap.get?_push_of_some _ (Heap.get?_push_of_some _ x)⟩
/-- one turn -/
theorem en_next {e it l : Addr} {i : Nat} {xs : Array Value} {x old : Value} {Q : Value → Shared → Prop} (he : IsEnum s.heap e it i old) (hit : s.heap.IsTupleIter it l i) (hl : s.heap.IsTuple l xs) (hx : xs[i]? = some x) (hne : e ≠ it)
    (hQ : ∀ h', IsEnumOut h' e it ((i : Int) + 1) x s.heap.objs.size → h'.IsTupleIter it l (i + 1) → h'.get? s.heap.objs.size = some { cls := .type "tuple", data := .seq #[.int i s.toks, x] } → h'.objs.size = s.heap.objs.size + 1 →
      (∀ b o, b ≠ e → b ≠ it → s.heap.get? b = some o → h'.get? b = some o) → Q (.ref s.heap.objs.size) { s with heap := h', toks := s.toks + 1 }) :
    wpAny (model prog w) A (Builtin.«enumerate.__next__» ⟨[.ref e], []⟩) (fun fin s' => ∃ v, fin = .done (.ret v) ∧ Q v s') E s := by
  obtain ⟨hp, g, d, tk, os⟩ := s
  show wpAny _ _ (field (.ref e) 2 >>= _) _ _ _
  refine wpAny_bind (wpAny_field he rfl (x := .ref it) rfl (wpAny_bind (RZ.nextOf_tuple_item hit hl hx fun h₁ hit₁ hs₁ => ?_)))
  replace hs₁ : Heap.SameBut it hp h₁ := hs₁
  have he₁ : IsEnum h₁ e it i old := (hs₁.2 e hne).trans he
  show wpAny _ _ (field (.ref e) 3 >>= _) _ _ ⟨h₁, g, d, tk, os⟩
  refine wpAny_bind (wpAny_field he₁ rfl (x := rawInt i) rfl ?_)
  show wpAny _ _ (field (.ref e) 4 >>= _) _ _ ⟨h₁, g, d, tk, os⟩
  refine wpAny_bind (wpAny_field he₁ rfl (x := .none) rfl ?_)
  show wpAny _ _ (mkInt i >>= _) _ _ ⟨h₁, g, d, tk, os⟩
  refine wpAny_bind (wpAny_mkInt ?_)
  show wpAny _ _ (setField (.ref e) 3 (rawInt ((i : Int) + 1)) >>= _) _ _ ⟨h₁, g, d, tk + 1, os⟩
  refine wpAny_bind (wpAny_setField_rec he₁ (by simp) fun h₂ he₂ hs₂ => ?_)
  replace hs₂ : Heap.SameBut e h₁ h₂ := hs₂
  replace he₂ : IsEnum h₂ e it ((i : Int) + 1) old := he₂
  show wpAny _ _ (setField (.ref e) 4 .none >>= _) _ _ ⟨h₂, g, d, tk + 1, os⟩
  refine wpAny_bind (wpAny_setField_rec he₂ (by simp) fun h₃ he₃ hs₃ => ?_)
  replace hs₃ : Heap.SameBut e h₂ h₃ := hs₃
  replace he₃ : IsEnum h₃ e it ((i : Int) + 1) old := he₃
  show wpAny _ _ (newTuple [.int i tk, x] >>= _) _ _ ⟨h₃, g, d, tk + 1, os⟩
  refine wpAny_bind (wpAny_newTuple ?_)
  have he₄ : IsEnum (h₃.push { cls := .type "tuple", data := .seq #[.int i tk, x] }) e it ((i : Int) + 1) old := Heap.get?_push_of_some _ he₃
  generalize hh₄ : h₃.push { cls := .type "tuple", data := .seq #[.int i tk, x] } = h₄ at he₄
  have hsz : h₃.objs.size = hp.objs.size := by rw [hs₃.1, hs₂.1, hs₁.1]
  have hel : e < hp.objs.size := Heap.lt_size he
  have ht₄ : h₄.get? hp.objs.size = some { cls := .type "tuple", data := .seq #[.int i tk, x] } := by rw [← hh₄, ← hsz]; exact Heap.get?_push_size _ rfl
  have hz₄ : h₄.objs.size = hp.objs.size + 1 := by rw [← hh₄, Heap.size_push, hsz]
  have hk₄ : ∀ b o, b ≠ e → b ≠ it → hp.get? b = some o → h₄.get? b = some o := fun b o hbe hbi hb => by
    rw [← hh₄]; exact Heap.get?_push_of_some _ (hs₃.extBut b o hbe (hs₂.extBut b o hbe (hs₁.extBut b o hbi hb)))
  have hit₄ : h₄.IsTupleIter it l (i + 1) := by
    rw [← hh₄]; obtain ⟨o, ho, r⟩ := (hit₁.extBut hs₂.extBut (Ne.symm hne)).extBut hs₃.extBut (Ne.symm hne); exact ⟨o, Heap.get?_push_of_some _ ho, r⟩
  show wpAny _ _ (Builtin.SmallTypes.ownedTupleIsFree (.ref e) >>= _) _ _ ⟨h₄, g, d, tk + 1, os⟩
  rw [hsz]
  clear hh₄ he₃ hs₃ he₂ hs₂ he₁ hs₁ hit₁ hsz h₃ h₂ h₁
  refine wpAny_bind ?_
  unfold Builtin.SmallTypes.ownedTupleIsFree
  refine wpAny_bind (wpAny_field he₄ rfl (x := .none) rfl (wpAny_pure ?_))
  simp only [if_true]
  refine wpAny_bind (wpAny_rule ?_)
  refine wpAny_bind (wpAny_field he₄ rfl (x := old) rfl ?_)
  refine wpAny_bind (wpAny_setField_rec he₄ (by simp) fun h₅ he₅ hs₅ => ?_)
  replace hs₅ : Heap.SameBut e h₄ h₅ := hs₅
  replace he₅ : IsEnum h₅ e it ((i : Int) + 1) x := he₅
  show wpAny _ _ (Builtin.SmallTypes.ownedTupleHandOut (.ref e) (.ref hp.objs.size) >>= _) _ _ ⟨h₅, g, d, tk + 1, os⟩
  refine wpAny_bind ?_
  unfold Builtin.SmallTypes.ownedTupleHandOut
  refine wpAny_bind (wpAny_setField_rec he₅ (by simp) fun h₆ he₆ hs₆ => ?_)
  replace hs₆ : Heap.SameBut e h₅ h₆ := hs₆
  replace he₆ : IsEnumOut h₆ e it ((i : Int) + 1) x hp.objs.size := he₆
  refine wpAny_setField_rec he₆ (by simp) fun h₇ he₇ hs₇ => ?_
  replace hs₇ : Heap.SameBut e h₆ h₇ := hs₇
  replace he₇ : IsEnumOut h₇ e it ((i : Int) + 1) x hp.objs.size := he₇
  refine wpAny_bind (wpAny_letGo (wpAny_pure ⟨_, rfl, hQ h₇ he₇ ?_ ?_ ?_ ?_⟩))
  · exact ((hit₄.extBut hs₅.extBut (Ne.symm hne)).extBut hs₆.extBut (Ne.symm hne)).extBut hs₇.extBut (Ne.symm hne)
  · exact hs₇.extBut _ _ (Nat.ne_of_gt hel) (hs₆.extBut _ _ (Nat.ne_of_gt hel) (hs₅.extBut _ _ (Nat.ne_of_gt hel) ht₄))
  · rw [hs₇.1, hs₆.1, hs₅.1, hz₄]
  · exact fun b o hbe hbi hb => hs₇.extBut b o hbe (hs₆.extBut b o hbe (hs₅.extBut b o hbe (hk₄ b o hbe hbi hb)))
theorem en_item {e it l : Addr} {i : Nat} {xs : Array Value} {x old : Value} {Q : Option Value → Shared → Prop} (he : IsEnum s.heap e it i old) (hit : s.heap.IsTupleIter it l i) (hl : s.heap.IsTuple l xs) (hx : xs[i]? = some x) (hne : e ≠ it)
    (hQ : ∀ h', IsEnumOut h' e it ((i : Int) + 1) x s.heap.objs.size → h'.IsTupleIter it l (i + 1) → h'.get? s.heap.objs.size = some { cls := .type "tuple", data := .seq #[.int i s.toks, x] } → h'.objs.size = s.heap.objs.size + 1 →
      (∀ b o, b ≠ e → b ≠ it → s.heap.get? b = some o → h'.get? b = some o) → Q (some (.ref s.heap.objs.size)) { s with heap := h', toks := s.toks + 1 }) : wpAny (model prog w) A (pyNext (.ref e)) Q E s := by
  have hT : s.TypeIs (.ref e) "enumerate" := ⟨_, he, rfl⟩
  unfold pyNext
  exact wpAny_bind (wpAny_attempt (wpAny_callSpecial?_slot (name := Str.ofString "__next__") hT F.slot_enumerate_next (wpAny_call_entry F.slot_enumerate_next hT F.entry_enumerate_next
    (en_next he hit hl hx hne fun h' a b c d k => wpAny_pure (hQ h' a b c d k)) (F.args_enumerate_next_1 _))))
theorem en_end {e it l : Addr} {i : Nat} {xs : Array Value} {old : Value} {Q : Option Value → Shared → Prop} (hh : A.handled = none) (he : IsEnum s.heap e it i old) (hit : s.heap.IsTupleIter it l i) (hl : s.heap.IsTuple l xs) (hx : xs[i]? = none)
    (hQ : ∀ h', Heap.ExtBut it s.heap h' → Q none { s with heap := h' }) : wpAny (model prog w) A (pyNext (.ref e)) Q E s := by
  have hT : s.TypeIs (.ref e) "enumerate" := ⟨_, he, rfl⟩
  unfold pyNext
  refine wpAny_bind (wpAny_attempt (wpAny_callSpecial?_slot (name := Str.ofString "__next__") hT F.slot_enumerate_next (wpAny_call_entry F.slot_enumerate_next hT F.entry_enumerate_next ?_ (F.args_enumerate_next_1 _))))
  show wpAny _ _ (field (.ref e) 2 >>= _) _ _ _
  refine wpAny_bind (wpAny_field he rfl (x := .ref it) rfl (wpAny_bind (RZ.nextOf_tuple_end hh hit hl hx fun h' x he' hx' => ?_)))
  obtain ⟨o, ho, hc⟩ := hx'
  exact wpAny_bind (wpAny_isInstance (T := "StopIteration") (b := true) ⟨o, ho, hc⟩ isSubtype_stop (wpAny_pure (hQ _ he')))
end
/-- the tuple at a, each item in a new pair with its number -/
def ItT (K : PySem.W.Frag) (a : Addr) : It :=
  ⟨fun i H => ∃ (xs : List V) (x : V), SqT K H a xs ∧ xs[i]? = some x, fun i H v H' => ∃ T x, v = .ref T ∧ H T = none ∧ H' = upd H T (.tup [.int (i : Nat), x]) ∧ ∀ xs, SqT K H a xs → xs[i]? = some x, fun i H => ∃ xs : List V, SqT K H a xs ∧ xs.length ≤ i⟩
theorem turn_enT {P : Program} {w : World} {K : PySem.W.Frag} {elts : List Expr} {kk : Nat} {tpos : Pos} (a e it : Addr) :
    Turn P w K (.Tuple elts kk tpos) (ItT K a) [e, it] e (fun i h => (∃ old, IsEnum h e it ((i : Nat) : Int) old) ∧ h.IsTupleIter it a i ∧ e ≠ it) where
  mem := by simp
  obj := fun i h st b hb => by
    obtain ⟨⟨old, he⟩, ⟨o, ho, hc, hd⟩, _⟩ := st
    have e' : b = e ∨ b = it := by simpa using hb
    rcases e' with z | z
    · rw [z]; exact ⟨_, he, fun v q => nomatch q⟩
    · rw [z]; exact ⟨o, ho, fun v q => by rw [hd] at q; cases q⟩
  keep := fun i h h' st k => by
    obtain ⟨⟨old, he⟩, ⟨o, ho, r⟩, hne⟩ := st
    exact ⟨⟨old, k e (by simp) _ he⟩, ⟨o, k it (by simp) o ho, r⟩, hne⟩
  item := by
    intro X hP hw hK hc i pins s σ H E I hf st hg
    subst hP hw hK
    obtain ⟨⟨old, he⟩, hit, hne⟩ := st
    obtain ⟨xs, x, hq, hx⟩ := hg
    obtain ⟨its, rv, p, hz⟩ := I.tuple hq
    obtain ⟨u, hu, ru⟩ := rv.get hx
    have hel : e < s.heap.objs.size := Heap.lt_size he
    have hil : it < s.heap.objs.size := by obtain ⟨_, q, _⟩ := hit; exact Heap.lt_size q
    refine en_item (l := a) (xs := its.toArray) he hit p (x := u) (by simpa using hu) hne fun h' ho hit' hT hsz hk => ?_
    refine ⟨_, rfl, wpAny_letOwnedTupleGo_enum (s := { s with heap := h', toks := s.toks + 1 }) ho fun h'' he' sb => ?_⟩
    have hT2 : h''.get? s.heap.objs.size = some { cls := .type "tuple", data := .seq #[.int i s.toks, u] } := (sb.2 _ (Nat.ne_of_gt hel)).trans hT
    have new : ObjOk X.prog X.w (upd H s.heap.objs.size (.tup [.int (i : Nat), x])) h'' s.heap.objs.size (.tup [.int (i : Nat), x]) :=
      ⟨by show 2 ≤ sizeLine; decide, [.int i s.toks, u], .cons ⟨_, rfl⟩ (.cons ru .nil), ⟨_, hT2, rfl, _, rfl⟩⟩
    have I1 : Inv X pins σ (upd H s.heap.objs.size (.tup [.int (i : Nat), x])) { s with heap := h'', toks := s.toks + 1 } :=
      I.turnedNew (ch := [e, it]) (fun b ob hb q => (sb.2 b (fun z => hb (by simp [z]))).trans (hk b ob (fun z => hb (by simp [z])) (fun z => hb (by simp [z])) q)) hf (Nat.le_refl _) new
    have hit'' : h''.IsTupleIter it a (i + 1) := by
      obtain ⟨o, ho2, r⟩ := hit'
      exact ⟨o, (sb.2 it (Ne.symm hne)).trans ho2, r⟩
    refine ⟨.ref s.heap.objs.size, _, I1, rfl, ⟨_, x, rfl, I.hok.fresh (Nat.le_refl _), rfl, fun ys hy => by rw [I.tuple_inj hy hq]; exact hx⟩, ⟨⟨u, ?_⟩, hit'', hne⟩, fun b hb => ?_⟩
    · have e1 : ((i + 1 : Nat) : Int) = (i : Int) + 1 := by omega
      rw [e1]; exact he'
    · have hb' : b < s.heap.objs.size := by
        have e' : b = e ∨ b = it := by simpa using hb
        rcases e' with z | z <;> rw [z] <;> assumption
      rw [upd_ne (Nat.ne_of_lt hb')]
      exact (hf b hb).1
  done := by
    intro X hP hw hK hc i pins s σ H E I hf st hg
    subst hP hw hK
    obtain ⟨⟨old, he⟩, hit, hne⟩ := st
    obtain ⟨xs, hq, hx⟩ := hg
    obtain ⟨its, rv, p, hz⟩ := I.tuple hq
    obtain ⟨f0, f1, f2, f3, f4, f5⟩ := hf it (by simp)
    have hl := rv.length
    exact en_end (l := a) (xs := its.toArray) (I.ok.hd hc) he hit p (by simp; omega) fun h' eb => ⟨rfl, I.turned (t' := s.toks) (fun b o hb q => eb b o hb q) f0 f1 f3 f4 f5⟩
  self := fun A i s Q E st h => let ⟨⟨_, he⟩, _⟩ := st; wpAny_pyIter_enum he h
/-- enumerate(xs), xs a list or a tuple -/
def iEnumA (K : PySem.W.Frag) (ta : TA) : TI := fun σ H R => ta σ H fun vs H1 => ∃ a xs, vs = [.ref a] ∧ ((SqL K H1 a xs ∧ R (Ite K a) H1) ∨ (SqT K H1 a xs ∧ R (ItT K a) H1))
theorem pi_enumA {X : Cx} {e : Expr} {ta : TA} {p pos tpos : Pos} {elts : List Expr} {kk : Nat} (hg : Gl X "enumerate") (hm : X.mg "enumerate" = none) (ha : PA X [e] ta) (hs : starEach [e] X.env = [(false, eval e X.env)] := by rfl) :
    PI X (.Tuple elts kk tpos) (.Call (.Name "enumerate" p) [e] [] pos) (iEnumA X.K ta) := by
  refine ⟨fun pins s σ H R I h => ?_⟩
  refine Call_ (ld_blt I hg hm boot_enumerate (PyProof.Rows.callWith_type1 (thn (ha.run pos pins s σ H _ I h) fun us s1 ⟨vs, H1, I1, r1, q1⟩ => ?_) hs rfl))
  obtain ⟨a, xs, ex, q⟩ := q1
  subst ex
  obtain ⟨u, rfl, ru⟩ := vals1 r1
  obtain rfl : u = Value.ref a := ru
  have bnd : ∀ b ∈ [s1.heap.objs.size + 1, s1.heap.objs.size], s1.heap.objs.size ≤ b := fun b hb => by
    have e' : b = s1.heap.objs.size + 1 ∨ b = s1.heap.objs.size := by simpa using hb
    omega
  rcases q with ⟨hq, q⟩ | ⟨hq, q⟩
  · obtain ⟨its, rv, p', hz⟩ := I1.list hq
    refine call_enumerate_list p'.isList fun h' he hit hsz hk => wpAny_pyIter_enum he ?_
    have I2 : Inv X pins σ H1 { s1 with heap := h' } := I1.kept (t' := s1.toks) hk
    exact ⟨s1.heap.objs.size + 1, [s1.heap.objs.size + 1, s1.heap.objs.size], _, _, H1, rfl, I2, turn_enum a (s1.heap.objs.size + 1) s1.heap.objs.size, ⟨⟨.none, he⟩, hit, Nat.succ_ne_self _⟩, fun b hb => I1.fpOk (bnd b hb) (I1.hok.fresh (bnd b hb)), q⟩
  · obtain ⟨its, rv, p', hz⟩ := I1.tuple hq
    refine en_call (l := a) (xs := its.toArray) p' fun h' he hit hsz hk => wpAny_pyIter_enum he ?_
    have I2 : Inv X pins σ H1 { s1 with heap := h' } := I1.kept (t' := s1.toks) hk
    exact ⟨s1.heap.objs.size + 1, [s1.heap.objs.size + 1, s1.heap.objs.size], _, _, H1, rfl, I2, turn_enT a (s1.heap.objs.size + 1) s1.heap.objs.size, ⟨⟨.none, he⟩, hit, Nat.succ_ne_self _⟩, fun b hb => I1.fpOk (bnd b hb) (I1.hok.fresh (bnd b hb)), q⟩
theorem walk_enT {K : PySem.W.Frag} {a : Addr} {xs : List V} : Walk (ItT K a) xs.length (fun H => SqT K H a xs) (YPair (fun i => some (.int (i : Nat))) (fun i => xs[i]?)) := by
  refine ⟨fun i _ hi q => ⟨xs, xs[i], q, by simp [hi]⟩, fun _ q => ⟨xs, q, Nat.le_refl _⟩, fun i H v H' _ q y => ?_⟩
  obtain ⟨T, x, h1, h2, h3, h4⟩ := y
  exact ⟨T, .int (i : Nat), x, h1, h2, h3, rfl, h4 xs q⟩
end Nm
set_option maxRecDepth 100000
set_option maxHeartbeats 4000000
/-! BadNumber.__init__, is_number of anything, Web.__len__, need_numbers -/
namespace Nm
open PySem PySem.Spec PyProof.Rows L2
section
variable {P : Program} {w : World} {K : PySem.W.Frag} {mg : Str → Option Value} {base : Heap}
/-! ### BadNumber.__init__ -/
def spBadI (C : Addr) : Sp := fun vs H Q _ => ∃ (a : Addr) (n : Nat), vs = [.ref a, .int (n : Int)] ∧ n ≤ 100000 ∧ H a = some (exo a C none) ∧ ∀ d : Addr, H d = none → d ≠ a → Q .non (upd (upd H d (exd d [("number", .int (n : Int))])) a (exo a C (some d)))
theorem ssBad : SupS "self" "number" (defScope sBadNumberInit) := ⟨rfl, rfl, rfl, by decide, rfl, rfl, by decide +kernel, by decide +kernel, rfl, rfl⟩
theorem num_text {n : Nat} (h : n ≤ 100000) : ((toString (n : Int) : String) : Str).length ≤ 10 := by
  have e := PySem.int_text_length_le10 (a := (n : Int)) (k := 9) (by decide) (by rw [Int.natAbs_natCast]; omega)
  rw [PySem.ofString_length]
  exact e
theorem num_log {n : Nat} (h : n ≤ 100000) : ((n : Int)).natAbs.log2 < 1920 := by
  rw [Int.natAbs_natCast]
  by_cases z : n = 0
  · subst z
    decide
  · exact (Nat.log2_lt z).mpr (Nat.lt_of_le_of_lt h (by decide +kernel))
theorem ok_badI {C f cda cc : Addr} {fd : FuncData} (F : SupF P K C f cda cc fd "BadNumber.__init__" sBadNumberInit "self") (X0 : XfC K C) (nN : PySem.W.findIn K (.ref C) "number" = some none) (hms : mg "super" = none)
    (Gk : Def P w K mg base "kept" ["value"] 1 spKept) : FnOk P w K mg base CX0 2 f fd ["self", "number"] (spBadI C) := by
  obtain ⟨fk, fdk, Gk, mk, kk, bk⟩ := Gk.ex
  refine sup_def (k := 1) F ssBad hms rfl (fun vs H Q E h => ?_) (fun A outer s H vs Q E hr h => ?_)
  · obtain ⟨_, _, rfl, _⟩ := h
    rfl
  · obtain ⟨a, n, rfl, hn, ha, k⟩ := h
    refine ⟨a, _, _, ps_ost (pv 0) (pe_call Gk hr (by rfl) mk kk bk .nil pass0 (pa_cons (pv 1) pa_nil)), pa_cons (pe_joined (PJ.cons pe_str (PJ.cons (pe_fmtR (pe_exoF (pv 0))) PJ.nil))) pa_nil, ?_⟩
    refine ⟨_, rfl, _, rfl, .inl ⟨_, rfl⟩, _, rfl, a, C, rfl, F.oex, nN, .inl ⟨ha, fun d hd hda => ⟨rfl, d, upd_same, fun R hR => ?_⟩⟩⟩
    have hd2 : (upd (upd H d (exd d [("number", .int (n : Int))])) a (exo a C (some d))) d = some (exd d [("number", .int (n : Int))]) := by
      rw [upd_ne hda]
      exact upd_same
    refine ⟨_, rfl, (by decide +kernel), _, rfl, a, C, d, _, _, rfl, X0, nN, upd_same, hd2, rfl, .inr ⟨(n : Int), rfl, num_log hn, _, rfl, ?_, ?_⟩⟩
    · have := num_text hn
      rw [strLen_append, strLen_append, sizeLine_eq]
      have e1 : Str.empty.length = 0 := rfl
      have e2 : ("a wrong number, length or place in a list: " : Str).length = 43 := by decide +kernel
      omega
    · exact hR _ _ (by show (1 : Nat) ≤ 1000; decide) upd_same (k d hd hda)
/-! ### is_number of anything -/
inductive NumX (H : Hp) : V → Prop where
  | int (i : Int) : NumX H (.int i)
  | bl (b : Bool) : NumX H (.bl b)
  | non : NumX H .non
  | str (z : Str) : NumX H (.str z)
  | lst {a : Addr} {ys : List V} (e : H a = some (.lst ys)) : NumX H (.ref a)
  | tup {a : Addr} {ys : List V} (e : H a = some (.tup ys)) : NumX H (.ref a)
theorem NumX.ext {H H' : Hp} {x : V} (h : NumX H x) (s : Same H H') : NumX H' x := by
  cases h with
  | int i => exact .int i
  | bl b => exact .bl b
  | non => exact .non
  | str z => exact .str z
  | lst e => exact .lst (s _ _ e)
  | tup e => exact .tup (s _ _ e)
def numOk : V → Bool
  | .int i => decide (0 ≤ i)
  | _ => false
def isIntV : V → Bool
  | .int _ => true
  | _ => false
def spInt : Sp := fun vs H Q _ => ∃ x : V, vs = [x] ∧ NumX H x ∧ Q (.bl (isIntV x)) H
theorem ok_int {f : Addr} {fd : FuncData} (F : Fun K "is_integer" "is_integer" sIsInteger f fd) (T : TxtG mg) : FnOk P w K mg base CX0 1 f fd ["value"] spInt := by
  refine F.ok scInteger (fun vs H Q E h => ?_) (fun cdv A outer s H vs Q E hr h => ?_)
  · obtain ⟨_, rfl, _⟩ := h
    rfl
  · obtain ⟨x, rfl, hx, k⟩ := h
    refine ⟨_, pss_one (ps_ret (pe_and (pe_callB call_isi (by rfl) T.isinstance (by decide +kernel) (pa_cons (pv 0) (pa_cons (pe_bltn (v := .ty "int") (by rfl) T.int (by decide +kernel) rfl) pa_nil)))
      (pe_one (pe_not (pe_callB call_isi (by rfl) T.isinstance (by decide +kernel) (pa_cons (pv 0) (pa_cons (pe_bltn (v := .ty "bool") (by rfl) T.bool (by decide +kernel) rfl) pa_nil))))))), ?_⟩
    cases hx with
    | int i =>
      refine ⟨_, rfl, _, _, _, _, true, rfl, ClsV.ty "int", TyX.base (TyOf.int i), kit_ty (by decide +kernel), _, rfl, iteT ?_⟩
      exact ⟨_, rfl, _, _, _, _, false, rfl, ClsV.ty "bool", TyX.base (TyOf.int i), kit_ty (by decide +kernel), _, rfl, k⟩
    | bl b =>
      refine ⟨_, rfl, _, _, _, _, true, rfl, ClsV.ty "int", TyX.base (TyOf.bl b), kit_ty (by decide +kernel), _, rfl, iteT ?_⟩
      exact ⟨_, rfl, _, _, _, _, true, rfl, ClsV.ty "bool", TyX.base (TyOf.bl b), kit_ty (by decide +kernel), _, rfl, k⟩
    | non => exact ⟨_, rfl, _, _, _, _, false, rfl, ClsV.ty "int", TyX.base TyOf.non, kit_ty (by decide +kernel), _, rfl, iteF k⟩
    | str z => exact ⟨_, rfl, _, _, _, _, false, rfl, ClsV.ty "int", TyX.base (TyOf.str z), kit_ty (by decide +kernel), _, rfl, iteF k⟩
    | lst e => exact ⟨_, rfl, _, _, _, _, false, rfl, ClsV.ty "int", TyX.base (TyOf.lst e), kit_ty (by decide +kernel), _, rfl, iteF k⟩
    | tup e => exact ⟨_, rfl, _, _, _, _, false, rfl, ClsV.ty "int", TyX.base (TyOf.tup e), kit_ty (by decide +kernel), _, rfl, iteF k⟩
def spNum : Sp := fun vs H Q _ => ∃ x : V, vs = [x, .int 0] ∧ NumX H x ∧ Q (.bl (numOk x)) H
theorem ok_num {f : Addr} {fd : FuncData} (F : Fun K "is_number" "is_number" sIsNumber f fd) (Gi : Def P w K mg base "is_integer" ["value"] 1 spInt) : FnOk P w K mg base CX0 2 f fd ["value", "least"] spNum := by
  obtain ⟨fi, fdi, Gi, mi, ki, bi⟩ := Gi.ex
  refine F.ok scNumber (fun vs H Q E h => ?_) (fun cdv A outer s H vs Q E hr h => ?_)
  · obtain ⟨_, rfl, _⟩ := h
    rfl
  · obtain ⟨x, rfl, hx, k⟩ := h
    refine ⟨_, pss_one (ps_ret (pe_and (pe_call Gi hr (by rfl) mi ki bi .nil pass0 (pa_cons (pv 0) pa_nil)) (pe_one (pe_cmpR op_ge (pv 0) (pv 1) (nomark _))))), ?_⟩
    cases hx with
    | int i => exact ⟨_, rfl, _, rfl, .int i, _, rfl, iteT ⟨_, rfl, _, rfl, _, _, rfl, rfl, k⟩⟩
    | bl b => exact ⟨_, rfl, _, rfl, .bl b, _, rfl, iteF k⟩
    | non => exact ⟨_, rfl, _, rfl, .non, _, rfl, iteF k⟩
    | str z => exact ⟨_, rfl, _, rfl, .str z, _, rfl, iteF k⟩
    | lst e => exact ⟨_, rfl, _, rfl, .lst e, _, rfl, iteF k⟩
    | tup e => exact ⟨_, rfl, _, rfl, .tup e, _, rfl, iteF k⟩
/-! ### Web.__len__ -/
def spLen (C : Addr) : Sp := fun vs H Q _ => ∃ (p q : Addr) (nm : List Str), vs = [.ref p] ∧ WebAt C H p q nm ∧ nm.length ≤ 1000 ∧ Q (.int (nm.length : Nat)) H
theorem scLen : FnScope ["self"] ["self"] (defScope sWebLen) := ⟨rfl, rfl, rfl, by decide +kernel, rfl, by decide +kernel, by decide +kernel⟩
theorem ok_len {f C : Addr} {fd : FuncData} (F : Fun K "__len__" "Web.__len__" sWebLen f fd) (T : TxtW K mg C) : FnOk P w K mg base CX0 1 f fd ["self"] (spLen C) := by
  refine F.ok scLen (fun vs H Q E h => ?_) (fun cdv A outer s H vs Q E hr h => ?_)
  · obtain ⟨_, _, _, rfl, _⟩ := h
    rfl
  · obtain ⟨p, q, nm, rfl, ⟨dx, fs, hp, hfn, _, hq⟩, hn, k⟩ := h
    refine ⟨_, pss_one (ps_ret (pe_callB call_len_seq (by rfl) T.len PySem.boot_len (pa_cons (pe_fld (pv 0) rfl) pa_nil))), ?_⟩
    refine ⟨_, rfl, p, C, dx, _, _, rfl, hp, T.cl, T.nNa, hfn, ?_⟩
    refine ⟨q, _, rfl, .inl (SqL.of hq), ?_⟩
    rw [List.length_map]
    exact k
end
end Nm
set_option maxRecDepth 100000
set_option maxHeartbeats 4000000
/-! need_numbers -/
namespace Nm
open PySem PySem.Spec PyProof.Rows L2
/-- what the written part says of BadNumber, whose class stands at CB -/
structure TxtBN (P : Program) (w : World) (K : PySem.W.Frag) (mg : Str → Option Value) (base : Heap) (C CB : Addr) : Prop extends TxtW K mg C where
  mB : mg "BadNumber" = some (.ref CB)
  oex : OexC K CB
  xf : XfC K CB
  nNu : PySem.W.findIn K (.ref CB) "number" = some none
  ini : ∃ f fd, PySem.W.findIn K (.ref CB) "__init__" = some (some (.ref f)) ∧ PySem.W.typeIn K (.ref f) = some (.type "function") ∧ FnOk P w K mg base CX0 2 f fd ["self", "number"] (spBadI CB) ∧ Binds K fd ["self", "number"] []
  wl : ∃ f fd, Meth K C "__len__" f ∧ FnOk P w K mg base CX0 1 f fd ["self"] (spLen C) ∧ Binds K fd ["self"] []
/-- what is wrong in a list of numbers, if anything -/
def numsDue (xs : List V) (m : Nat) : Option Nat := match xs.findIdx? fun x => !numOk x with
  | some i => some i
  | none => if xs.length = m then none else some xs.length
theorem due_at {xs : List V} {m i : Nat} {x : V} (h : ∀ y ∈ xs.take i, numOk y = true) (hx : xs[i]? = some x) (hb : numOk x = false) : numsDue xs m = some i := by
  have e : xs.findIdx? (fun x => !numOk x) = some i := by
    rw [List.findIdx?_eq_some_iff_getElem]
    have hi := (List.getElem?_eq_some_iff.mp hx).1
    refine ⟨hi, ?_, fun j hj => ?_⟩
    · have := (List.getElem?_eq_some_iff.mp hx).2
      rw [this, hb]
      rfl
    · have hm : xs[j]'(by omega) ∈ xs.take i := by
        rw [List.mem_take_iff_getElem]
        exact ⟨j, by omega, rfl⟩
      rw [h _ hm]
      decide
  unfold numsDue
  rw [e]
theorem due_len {xs : List V} {m : Nat} (h : ∀ y ∈ xs, numOk y = true) : numsDue xs m = if xs.length = m then none else some xs.length := by
  have e : xs.findIdx? (fun x => !numOk x) = none := List.findIdx?_eq_none_iff.mpr fun x hx => by
    rw [h x hx]
    rfl
  unfold numsDue
  rw [e]
section
variable {P : Program} {w : World} {K : PySem.W.Frag} {mg : Str → Option Value} {base : Heap}
def spNeedN (K : PySem.W.Frag) (C CB : Addr) : Sp := fun vs H Q E => ∃ (we qw c : Addr) (nm : List Str) (xs : List V), vs = [.ref we, .ref c] ∧ WebAt C H we qw nm ∧ (SqL K H c xs ∨ SqT K H c xs) ∧ nm.length ≤ 1000 ∧ xs.length ≤ 1000 ∧ (∀ x ∈ xs, NumX H x) ∧
  (∀ H', Same H H' → numsDue xs nm.length = none → Q .non H') ∧ ∀ (n : Nat) (d : Addr) (H' : Hp), numsDue xs nm.length = some n → H d = none → H' d = some (.xd [("number", .int (n : Int))]) → Same H H' → E (.ref CB) (some d) H'
abbrev nNN : List Str := ["web", "colouring", "at", "number"]
theorem scNN : FnScope nNN ["web", "colouring"] (defScope sNeedNumbers) := ⟨rfl, rfl, rfl, by decide +kernel, rfl, by decide +kernel, by decide +kernel⟩
theorem sq_ext {c : Addr} {xs : List V} {H H' : Hp} (h : SqL K H c xs ∨ SqT K H c xs) (s : Same H H') : SqL K H' c xs ∨ SqT K H' c xs := h.imp (fun h => h.elim (fun h => .inl (h.elim (fun h => .inl (s _ _ h)) fun ⟨o, h⟩ => .inr ⟨o, s _ _ h⟩)) .inr) fun h => h.elim (fun h => .inl (h.elim (fun h => .inl (s _ _ h)) fun ⟨o, h⟩ => .inr ⟨o, s _ _ h⟩)) .inr
theorem sq_l {c : Addr} {xs : List V} {H H' : Hp} (s : Same H H') (h : SqL K H c xs) : SqL K H' c xs := h.elim (fun h => .inl (h.elim (fun h => .inl (s _ _ h)) fun ⟨o, h⟩ => .inr ⟨o, s _ _ h⟩)) .inr
theorem sq_t {c : Addr} {xs : List V} {H H' : Hp} (s : Same H H') (h : SqT K H c xs) : SqT K H' c xs := h.elim (fun h => .inl (h.elim (fun h => .inl (s _ _ h)) fun ⟨o, h⟩ => .inr ⟨o, s _ _ h⟩)) .inr
/-- what the making of the exception leaves -/
theorem made_bad {H1 : Hp} {a d CB : Addr} {fs : List (Str × V)} (h1 : H1 a = none) (h2 : upd H1 a (exo a CB none) d = none) (h3 : d ≠ a) {H2 : Hp} (e : H2 = upd (upd (upd H1 a (exo a CB none)) d (exd d fs)) a (exo a CB (some d))) : H1 d = none ∧ Same H1 (upd (del H2 a) d (.xd fs)) := by
  have hd : H1 d = none := by
    rw [upd_ne h3] at h2
    exact h2
  refine ⟨hd, fun b o hb => ?_⟩
  have n1 : b ≠ a := ne_of_none hb h1
  have n2 : b ≠ d := ne_of_none hb hd
  rw [upd_ne n2, del_ne n1, e, upd_ne n1, upd_ne n2, upd_ne n1]
  exact hb
theorem raise_bad {CB : Addr} {H H4 : Hp} {a : Addr} {n : Nat} {E : XK} (hn : n ≤ 100000) (ha : H4 a = none) (s : Same H H4) (ke : ∀ (d : Addr) (H' : Hp), H d = none → H' d = some (.xd [("number", .int (n : Int))]) → Same H H' → E (.ref CB) (some d) H') :
    spBadI CB (V.ref a :: ([V.int (n : Int)] ++ [])) (upd H4 a (exo a CB none)) (fun v H2 => v = .non ∧ ∃ (d : Addr) (fs : List (Str × V)), H2 a = some (exo a CB (some d)) ∧ H2 d = some (exd d fs) ∧ H4 d = none ∧ E (.ref CB) (some d) (upd (del H2 a) d (.xd fs))) (fun _ _ _ => False) := by
  refine ⟨a, n, rfl, hn, upd_same, fun d hd hda => ?_⟩
  obtain ⟨h1, h2⟩ := made_bad (fs := [("number", .int (n : Int))]) ha hd hda rfl
  exact ⟨rfl, d, _, upd_same, by rw [upd_ne hda]; exact upd_same, h1, ke d _ (s.free h1) upd_same fun b o e => h2 _ _ (s _ _ e)⟩
theorem ok_needN {f C CB : Addr} {fd : FuncData} (F : Fun K "need_numbers" "need_numbers" sNeedNumbers f fd) (T : TxtBN P w K mg base C CB) (Gn : Def P w K mg base "is_number" ["value", "least"] 2 spNum) :
    FnOk P w K mg base (L2.CX P w) 4 f fd ["web", "colouring"] (spNeedN K C CB) := by
  obtain ⟨fn, fdn, Gn, mn, kn, bn⟩ := Gn.ex
  obtain ⟨fi, fdi, iC, tI, Gi, bi⟩ := T.ini
  obtain ⟨fl, fdl, Ml, Gl', bl⟩ := T.wl
  refine okX (k := 3) F scNN (fun vs H Q E h => ?_) (fun cdv A outer s H vs Q E hr h => ?_)
  · obtain ⟨_, _, _, _, _, rfl, _⟩ := h
    rfl
  · obtain ⟨we, qw, c, nm, xs, rfl, hw, hc, hnl, hxl, hxs, kq, ke⟩ := h
    have tk := takes_of (X := cxOf (L2.CX P w) P w K mg base nNN "need_numbers" (defScope sNeedNumbers) f cdv A outer s H E) (E := E) rfl rfl rfl rfl
    refine ⟨_, pss_cons (ps_for (passes_of rfl) rfl (pi_enumA (by rfl) T.enumerate (pa_cons (pv 1) pa_nil)) (pg_tup rfl (pgs_cons (pg_name (i := 2) scNN.nd rfl (.inl rfl)) (pgs_cons (pg_name (i := 3) scNN.nd rfl (.inl rfl)) pgs_nil)))
        (pss_one (ps_if (pt_not (pt_val (pe_call Gn (hr.mono (by decide)) (by rfl) mn kn bn .nil pass0 (pa_cons (pv 3) (pa_cons pe_int pa_nil))))) (pss_one (ps_raise rfl tk (pmk_oex T.oex iC tI Gi (hr.mono (by decide)) bi .nil pass0 (by rfl) T.mB (pa_cons (pv 2) pa_nil)))) pss_nil)))
      (pss_one (ps_if (pt_cmpR op_ne (pe_callB call_len_seq (by rfl) T.len PySem.boot_len (pa_cons (pv 1) pa_nil)) (pe_callB (call_lenOwn Gl' Ml (hr.mono (by decide)) bl pass0) (by rfl) T.len PySem.boot_len (pa_cons (pv 0) pa_nil)) (nomark _))
        (pss_one (ps_raise rfl tk (pmk_oex T.oex iC tI Gi (hr.mono (by decide)) bi .nil pass0 (by rfl) T.mB (pa_cons (pe_callB call_len_seq (by rfl) T.len PySem.boot_len (pa_cons (pv 1) pa_nil)) pa_nil)))) pss_nil)), ?_⟩
    refine ⟨_, rfl, c, xs, rfl, ?_⟩
    have hc0 := hc
    rcases hc with hc | hc
    · refine .inl ⟨hc, ?_⟩
      refine for_it (walk_enum (xs := xs)) (fun i σ H2 => ∃ v2 v3, σ = [some (.ref we), some (.ref c), v2, v3] ∧ (∀ y ∈ xs.take i, numOk y = true) ∧ Same H H2) ⟨none, none, rfl, by simp, fun b o e => e⟩ (fun i σ H2 _ ⟨_, _, _, _, h⟩ => (sq_l h hc)) ?_ ?_
      · rintro i x σ H2 H3 hi ⟨v2, v3, rfl, hok, s2⟩ ⟨T', x1, y1, rfl, hT, rfl, e1, e2⟩
        cases e1
        have sT := same_new (o := .tup [V.int (i : Nat), y1]) hT
        have s3 : Same H (upd H2 T' (.tup [V.int (i : Nat), y1])) := fun b o e => sT _ _ (s2 b o e)
        refine ⟨T', _, rfl, SqT.of upd_same, rfl, _, _, rfl, _, _, rfl, rfl, ?_⟩
        generalize upd H2 T' (.tup [V.int (i : Nat), y1]) = H4 at *
        refine ⟨_, rfl, y1, rfl, (hxs y1 (List.mem_of_getElem? e2)).ext s3, ?_⟩
        cases hn : numOk y1 with
        | true =>
          refine ⟨_, rfl, iteF ⟨_, _, rfl, fun y hy => ?_, s3⟩⟩
          have e2 : xs[i]? = some y1 := e2
          rw [List.take_add_one, e2] at hy
          rcases List.mem_append.mp hy with z | z
          · exact hok y z
          · obtain rfl : y = y1 := by simpa using z
            exact hn
        | false =>
          exact ⟨_, rfl, iteT ⟨_, rfl, by show (1 : Nat) ≤ 1000; decide, fun a ha => raise_bad (by omega) ha s3 fun d H' h1 h2 h3 => ke i d H' (due_at hok e2 hn) h1 h2 h3⟩⟩
      · rintro σ H2 ⟨v2, v3, rfl, hok, s2⟩
        rw [List.take_length] at hok
        obtain ⟨dx, fs, hp, hfn, hpl, hq⟩ := hw
        refine ⟨_, rfl, c, xs, rfl, sq_ext hc0 s2, ?_⟩
        refine ⟨_, rfl, we, dx, fs, rfl, s2 _ _ hp, we, qw, nm, rfl, ⟨dx, fs, s2 _ _ hp, hfn, hpl, s2 _ _ hq⟩, hnl, nm.length, rfl, by omega, rfl, _, rfl, ?_⟩
        show (if (!decide (V.int ((xs.length : Nat) : Int) = V.int ((nm.length : Nat) : Int))) = true then _ else _)
        rw [dec_int]
        have hdue := due_len (m := nm.length) hok
        by_cases hl : xs.length = nm.length
        · rw [if_pos hl] at hdue
          rw [hl, beq_self_eq_true]
          exact iteF (kq _ s2 hdue)
        · rw [if_neg hl] at hdue
          have hb : (((xs.length : Nat) : Int) == ((nm.length : Nat) : Int)) = false := by
            rw [beq_eq_false_iff_ne]
            omega
          rw [hb]
          refine iteT ⟨_, rfl, c, xs, rfl, sq_ext hc0 s2, by show (1 : Nat) ≤ 1000; decide, fun a ha => raise_bad (by omega) ha s2 fun d H' h1 h2 h3 => ke _ d H' hdue h1 h2 h3⟩
    · refine .inr ⟨hc, ?_⟩
      refine for_it (walk_enT (xs := xs)) (fun i σ H2 => ∃ v2 v3, σ = [some (.ref we), some (.ref c), v2, v3] ∧ (∀ y ∈ xs.take i, numOk y = true) ∧ Same H H2) ⟨none, none, rfl, by simp, fun b o e => e⟩ (fun i σ H2 _ ⟨_, _, _, _, h⟩ => (sq_t h hc)) ?_ ?_
      · rintro i x σ H2 H3 hi ⟨v2, v3, rfl, hok, s2⟩ ⟨T', x1, y1, rfl, hT, rfl, e1, e2⟩
        cases e1
        have sT := same_new (o := .tup [V.int (i : Nat), y1]) hT
        have s3 : Same H (upd H2 T' (.tup [V.int (i : Nat), y1])) := fun b o e => sT _ _ (s2 b o e)
        refine ⟨T', _, rfl, SqT.of upd_same, rfl, _, _, rfl, _, _, rfl, rfl, ?_⟩
        generalize upd H2 T' (.tup [V.int (i : Nat), y1]) = H4 at *
        refine ⟨_, rfl, y1, rfl, (hxs y1 (List.mem_of_getElem? e2)).ext s3, ?_⟩
        cases hn : numOk y1 with
        | true =>
          refine ⟨_, rfl, iteF ⟨_, _, rfl, fun y hy => ?_, s3⟩⟩
          have e2 : xs[i]? = some y1 := e2
          rw [List.take_add_one, e2] at hy
          rcases List.mem_append.mp hy with z | z
          · exact hok y z
          · obtain rfl : y = y1 := by simpa using z
            exact hn
        | false =>
          exact ⟨_, rfl, iteT ⟨_, rfl, by show (1 : Nat) ≤ 1000; decide, fun a ha => raise_bad (by omega) ha s3 fun d H' h1 h2 h3 => ke i d H' (due_at hok e2 hn) h1 h2 h3⟩⟩
      · rintro σ H2 ⟨v2, v3, rfl, hok, s2⟩
        rw [List.take_length] at hok
        obtain ⟨dx, fs, hp, hfn, hpl, hq⟩ := hw
        refine ⟨_, rfl, c, xs, rfl, sq_ext hc0 s2, ?_⟩
        refine ⟨_, rfl, we, dx, fs, rfl, s2 _ _ hp, we, qw, nm, rfl, ⟨dx, fs, s2 _ _ hp, hfn, hpl, s2 _ _ hq⟩, hnl, nm.length, rfl, by omega, rfl, _, rfl, ?_⟩
        show (if (!decide (V.int ((xs.length : Nat) : Int) = V.int ((nm.length : Nat) : Int))) = true then _ else _)
        rw [dec_int]
        have hdue := due_len (m := nm.length) hok
        by_cases hl : xs.length = nm.length
        · rw [if_pos hl] at hdue
          rw [hl, beq_self_eq_true]
          exact iteF (kq _ s2 hdue)
        · rw [if_neg hl] at hdue
          have hb : (((xs.length : Nat) : Int) == ((nm.length : Nat) : Int)) = false := by
            rw [beq_eq_false_iff_ne]
            omega
          rw [hb]
          refine iteT ⟨_, rfl, c, xs, rfl, sq_ext hc0 s2, by show (1 : Nat) ≤ 1000; decide, fun a ha => raise_bad (by omega) ha s2 fun d H' h1 h2 h3 => ke _ d H' hdue h1 h2 h3⟩
end
end Nm
set_option maxRecDepth 100000
set_option maxHeartbeats 4000000
/-! dict(zip(a list, a list or a tuple)), of one length -/
namespace Nm
open PySem PySem.Spec PyProof.Rows L2
/-- at i an iterator over the list or tuple at l, k turns on -/
def It2 (h : Heap) (i l : Addr) (k : Nat) (ys : Array Value) : Prop := (h.IsListIter i l k ∧ h.IsList l ys) ∨ (h.IsTupleIter i l k ∧ h.IsTuple l ys)
theorem It2.there {h : Heap} {i l : Addr} {k : Nat} {ys : Array Value} (x : It2 h i l k ys) : (∃ o, h.get? i = some o) ∧ ∃ o, h.get? l = some o := by
  rcases x with ⟨⟨o, e, _⟩, ⟨u, f, _⟩⟩ | ⟨⟨o, e, _⟩, ⟨u, f, _⟩⟩ <;> exact ⟨⟨o, e⟩, ⟨u, f⟩⟩
theorem It2.goes {h h' : Heap} {i l : Addr} {k : Nat} {ys : Array Value} (x : It2 h i l k ys) (a : ∀ o, h.get? i = some o → h'.get? i = some o) (b : ∀ o, h.get? l = some o → h'.get? l = some o) : It2 h' i l k ys := by
  rcases x with ⟨⟨o, e, r⟩, ⟨u, f, q⟩⟩ | ⟨⟨o, e, r⟩, ⟨u, f, q⟩⟩
  · exact .inl ⟨⟨o, a o e, r⟩, ⟨u, b u f, q⟩⟩
  · exact .inr ⟨⟨o, a o e, r⟩, ⟨u, b u f, q⟩⟩
section
variable {P : Program} {w : World} {A : Around} {E : Value → Shared → Prop} {s : Shared} {z TI TO T i1 i2 l1 l2 : Addr} {xs ys : Array Value}
theorem it2_next {k : Nat} {y : Value} {Q : Value → Shared → Prop} (x : It2 s.heap i2 l2 k ys) (n : l2 ≠ i2) (hy : ys[k]? = some y) (hQ : ∀ h', It2 h' i2 l2 (k + 1) ys → Heap.SameBut i2 s.heap h' → Q y { s with heap := h' }) :
    wpAny (model P w) A (Builtin.SmallTypes.nextOf (.ref i2)) Q E s := by
  rcases x with ⟨a, b⟩ | ⟨a, b⟩
  · exact wpAny_nextOf_list_item a b hy fun h' c sb => hQ h' (.inl ⟨c, b.extBut sb.extBut n⟩) sb
  · exact RZ.nextOf_tuple_item a b hy fun h' c sb => hQ h' (.inr ⟨c, b.extBut sb.extBut n⟩) sb
/-- the first turn: the zip's own pair is handed out -/
theorem zm_first {k : Nat} {x y a b : Value} {Q : Value → Shared → Prop} (D : ZipApart z TI TO i1 i2 l1 l2) (hz : IsZip s.heap z TI TO .none) (hTI : IsPair s.heap TI (.ref i1) (.ref i2)) (hTO : IsPair s.heap TO a b)
    (g1 : s.heap.IsListIter i1 l1 k) (g2 : It2 s.heap i2 l2 k ys) (gl : s.heap.IsList l1 xs) (hx : xs[k]? = some x) (hy : ys[k]? = some y)
    (hQ : ∀ h', IsZip h' z TI TO (rawInt s.heap.objs.size) → IsPair h' TO x y → h'.IsListIter i1 l1 (k + 1) → It2 h' i2 l2 (k + 1) ys → IsPair h' s.heap.objs.size x y → h'.objs.size = s.heap.objs.size + 1 →
      (∀ c o, c ≠ z → c ≠ TO → c ≠ i1 → c ≠ i2 → s.heap.get? c = some o → h'.get? c = some o) → Q (.ref s.heap.objs.size) { s with heap := h' }) :
    wpAny (model P w) A (Builtin.«zip.__next__» ⟨[.ref z], []⟩) (fun fin s' => ∃ v, fin = .done (.ret v) ∧ Q v s') E s := by
  show wpAny _ _ (field (.ref z) 2 >>= _) _ _ _
  refine wpAny_bind (wpAny_field hz rfl (x := .bool false) rfl ?_)
  show wpAny _ _ (field (.ref z) 3 >>= _) _ _ _
  refine wpAny_bind (wpAny_field hz rfl (x := .ref TI) rfl (wpAny_bind (wpAny_seqItems hTI rfl ?_)))
  show wpAny _ _ (Builtin.SmallTypes.ownedTupleIsFree (.ref z) >>= _) _ _ _
  refine wpAny_bind ?_
  unfold Builtin.SmallTypes.ownedTupleIsFree
  refine wpAny_bind (wpAny_field hz rfl (x := .none) rfl (wpAny_pure ?_))
  simp only [if_true]
  refine wpAny_bind (wpAny_rule (wpAny_bind (wpAny_field hz rfl (x := .ref TO) rfl (wpAny_bind (wpAny_setField_rec hz (by simp) fun ha za sa => ?_)))))
  replace za : IsZip ha z TI TO .ellipsis := za
  refine wpAny_bind ?_
  simp only [List.zipIdx_cons, List.zipIdx_nil, List.forIn_cons, List.forIn_nil]
  refine wpAny_bind (wpAny_bind (wpAny_onRaise ?_))
  show wpAny _ _ (Builtin.SmallTypes.nextOf (.ref i1) >>= _) _ _ _
  refine wpAny_bind (wpAny_nextOf_list_item (g1.extBut sa.extBut D.i1z) (gl.extBut sa.extBut D.l1z) hx fun hb gb sb => wpAny_pure ?_)
  have tb : IsPair hb TO a b := sb.extBut _ _ D.TOi1 (sa.extBut _ _ D.TOz hTO)
  refine wpAny_bind (wpAny_seqItems tb rfl (wpAny_bind (wpAny_updateSeq_pair tb fun hc tc sc => ?_)))
  replace tc : IsPair hc TO x b := tc
  refine wpAny_bind (wpAny_letGo (wpAny_pure ?_))
  refine wpAny_bind (wpAny_bind (wpAny_onRaise ?_))
  show wpAny _ _ (Builtin.SmallTypes.nextOf (.ref i2) >>= _) _ _ _
  have g2c : It2 hc i2 l2 k ys := g2.goes (fun o e => sc.extBut _ _ D.TOi2.symm (sb.extBut _ _ D.i12.symm (sa.extBut _ _ D.i2z e))) fun o e => sc.extBut _ _ D.l2TO (sb.extBut _ _ D.l2i1 (sa.extBut _ _ D.l2z e))
  refine wpAny_bind (it2_next (s := { s with heap := hc }) g2c D.l2i2 hy fun hd gd sd => wpAny_pure ?_)
  have td : IsPair hd TO x b := sd.extBut _ _ D.TOi2 tc
  refine wpAny_bind (wpAny_seqItems td rfl (wpAny_bind (wpAny_updateSeq_pair td fun he te se => ?_)))
  replace te : IsPair he TO x y := te
  refine wpAny_bind (wpAny_letGo (wpAny_pure (wpAny_pure ?_)))
  refine wpAny_bind (wpAny_seqItems te rfl (wpAny_bind (wpAny_newTuple ?_)))
  have size : he.objs.size = s.heap.objs.size := by rw [se.1, sd.1, sc.1, sb.1, sa.1]
  have ze : IsZip he z TI TO .ellipsis := se.extBut _ _ D.TOz.symm (sd.extBut _ _ D.i2z.symm (sc.extBut _ _ D.TOz.symm (sb.extBut _ _ D.i1z.symm za)))
  have ke : ∀ c o, c ≠ z → c ≠ TO → c ≠ i1 → c ≠ i2 → s.heap.get? c = some o → he.get? c = some o := fun c o n1 n2 n3 n4 e => se.extBut _ _ n2 (sd.extBut _ _ n4 (sc.extBut _ _ n2 (sb.extBut _ _ n3 (sa.extBut _ _ n1 e))))
  have ge : he.IsListIter i1 l1 (k + 1) := ((gb.extBut sc.extBut D.TOi1.symm).extBut sd.extBut D.i12).extBut se.extBut D.TOi1.symm
  have g2e : It2 he i2 l2 (k + 1) ys := gd.goes (fun o e => se.extBut _ _ D.TOi2.symm e) fun o e => se.extBut _ _ D.l2TO e
  have zlt : z < he.objs.size := Heap.lt_size ze
  show wpAny _ _ (Builtin.SmallTypes.ownedTupleHandOut (.ref z) (.ref he.objs.size) >>= _) _ _ _
  refine wpAny_bind ?_
  unfold Builtin.SmallTypes.ownedTupleHandOut
  have zf : IsZip (he.push { cls := .type "tuple", data := .seq #[x, y] }) z TI TO .ellipsis := Heap.get?_push_of_some _ ze
  refine wpAny_bind (wpAny_setField_rec zf (by simp) fun hg zg sg => ?_)
  replace zg : IsZip hg z TI TO (rawInt he.objs.size) := zg
  refine wpAny_setField_rec zg (by simp) fun hi zi si => ?_
  replace zi : IsZip hi z TI TO (rawInt he.objs.size) := zi
  have up : ∀ c o, c ≠ z → he.get? c = some o → hi.get? c = some o := fun c o n e => si.extBut _ _ n (sg.extBut _ _ n (Heap.get?_push_of_some _ e))
  have Ti : IsPair hi he.objs.size x y := si.extBut _ _ (Nat.ne_of_gt zlt) (sg.extBut _ _ (Nat.ne_of_gt zlt) (Heap.get?_push_size _ rfl))
  have sz : hi.objs.size = he.objs.size + 1 := by rw [si.1, sg.1, Heap.size_push]
  rw [size] at zi Ti sz
  refine wpAny_pure ⟨_, rfl, ?_⟩
  show Q (.ref he.objs.size) _
  rw [size]
  exact hQ hi zi (up _ _ D.TOz te) (ge.at fun o e => up _ o D.i1z e) (g2e.goes (fun o e => up _ o D.i2z e) fun o e => up _ o D.l2z e) Ti sz fun c o n1 n2 n3 n4 e => up c o n1 (ke c o n1 n2 n3 n4 e)
/-- a later turn, the pair held elsewhere: a new one -/
theorem zm_later {k : Nat} {f : Bool} {oT : Obj} {x y : Value} {Q : Value → Shared → Prop} (D : ZipApart z TI TO i1 i2 l1 l2) (hz : IsZipHeld s.heap z TI TO T f) (hT : s.heap.get? T = some oT) (hTI : IsPair s.heap TI (.ref i1) (.ref i2))
    (g1 : s.heap.IsListIter i1 l1 k) (g2 : It2 s.heap i2 l2 k ys) (gl : s.heap.IsList l1 xs) (hx : xs[k]? = some x) (hy : ys[k]? = some y)
    (hQ : ∀ h', IsZipHeld h' z TI TO T true → h'.IsListIter i1 l1 (k + 1) → It2 h' i2 l2 (k + 1) ys → IsPair h' s.heap.objs.size x y → (∀ c o, c ≠ z → c ≠ i1 → c ≠ i2 → s.heap.get? c = some o → h'.get? c = some o) → Q (.ref s.heap.objs.size) { s with heap := h' }) :
    wpAny (model P w) A (Builtin.«zip.__next__» ⟨[.ref z], []⟩) (fun fin s' => ∃ v, fin = .done (.ret v) ∧ Q v s') E s := by
  show wpAny _ _ (field (.ref z) 2 >>= _) _ _ _
  refine wpAny_bind (wpAny_field hz rfl (x := .bool false) rfl ?_)
  show wpAny _ _ (field (.ref z) 3 >>= _) _ _ _
  refine wpAny_bind (wpAny_field hz rfl (x := .ref TI) rfl (wpAny_bind (wpAny_seqItems hTI rfl ?_)))
  show wpAny _ _ (Builtin.SmallTypes.ownedTupleIsFree (.ref z) >>= _) _ _ _
  refine wpAny_bind (wpAny_tupleHeld_zip hz hT fun ha za sa => ?_)
  simp only [Bool.false_eq_true, if_false]
  refine wpAny_bind ?_
  rw [← Array.forIn_toList]
  simp only [List.forIn_cons, List.forIn_nil]
  refine wpAny_bind (wpAny_bind (wpAny_holding ?_))
  show wpAny _ _ (Builtin.SmallTypes.nextOf (.ref i1) >>= _) _ _ _
  refine wpAny_bind (wpAny_nextOf_list_item (s := { s with heap := ha }) (g1.extBut sa.extBut D.i1z) (gl.extBut sa.extBut D.l1z) hx fun hb gb sb => wpAny_pure (wpAny_pure ?_))
  refine wpAny_bind (wpAny_bind (wpAny_holding ?_))
  show wpAny _ _ (Builtin.SmallTypes.nextOf (.ref i2) >>= _) _ _ _
  have g2b : It2 hb i2 l2 k ys := g2.goes (fun o e => sb.extBut _ _ D.i12.symm (sa.extBut _ _ D.i2z e)) fun o e => sb.extBut _ _ D.l2i1 (sa.extBut _ _ D.l2z e)
  refine wpAny_bind (it2_next (s := { s with heap := hb }) g2b D.l2i2 hy fun hc gc sc => wpAny_pure (wpAny_pure (wpAny_pure ?_)))
  show wpAny _ _ (newTuple [x, y] >>= _) _ _ _
  refine wpAny_bind (wpAny_newTuple ?_)
  have size : hc.objs.size = s.heap.objs.size := by rw [sc.1, sb.1, sa.1]
  have zc : IsZipHeld hc z TI TO T true := sc.extBut _ _ D.i2z.symm (sb.extBut _ _ D.i1z.symm za)
  have kc : ∀ c o, c ≠ z → c ≠ i1 → c ≠ i2 → s.heap.get? c = some o → hc.get? c = some o := fun c o n1 n2 n3 e => sc.extBut _ _ n3 (sb.extBut _ _ n2 (sa.extBut _ _ n1 e))
  have gc1 : hc.IsListIter i1 l1 (k + 1) := gb.extBut sc.extBut D.i12
  refine wpAny_pure ⟨_, rfl, ?_⟩
  show Q (.ref hc.objs.size) _
  have np : IsPair (hc.push { cls := .type "tuple", data := .seq #[x, y] }) hc.objs.size x y := Heap.get?_push_size _ rfl
  rw [size] at np ⊢
  exact hQ _ (Heap.get?_push_of_some _ zc) (gc1.at fun o e => Heap.get?_push_of_some _ e) (gc.goes (fun o e => Heap.get?_push_of_some _ e) fun o e => Heap.get?_push_of_some _ e) np fun c o n1 n2 n3 e => Heap.get?_push_of_some _ (kc c o n1 n2 n3 e)
/-- the end: the list has no more -/
theorem zm_end {k : Nat} {f : Bool} {oT : Obj} {Q : PySem.Fin → Shared → Prop} (hh : A.handled = none) (D : ZipApart z TI TO i1 i2 l1 l2) (hz : IsZipHeld s.heap z TI TO T f) (hT : s.heap.get? T = some oT) (hTI : IsPair s.heap TI (.ref i1) (.ref i2))
    (g1 : s.heap.IsListIter i1 l1 k) (gl : s.heap.IsList l1 xs) (hx : xs[k]? = none)
    (hE : ∀ h' e, (∀ c o, c ≠ z → c ≠ i1 → c ≠ i2 → s.heap.get? c = some o → h'.get? c = some o) → (∃ o, h'.get? e = some o ∧ o.cls = .type "StopIteration") → E (.ref e) { s with heap := h' }) :
    wpAny (model P w) A (Builtin.«zip.__next__» ⟨[.ref z], []⟩) Q E s := by
  show wpAny _ _ (field (.ref z) 2 >>= _) _ _ _
  refine wpAny_bind (wpAny_field hz rfl (x := .bool false) rfl ?_)
  show wpAny _ _ (field (.ref z) 3 >>= _) _ _ _
  refine wpAny_bind (wpAny_field hz rfl (x := .ref TI) rfl (wpAny_bind (wpAny_seqItems hTI rfl ?_)))
  show wpAny _ _ (Builtin.SmallTypes.ownedTupleIsFree (.ref z) >>= _) _ _ _
  refine wpAny_bind (wpAny_tupleHeld_zip hz hT fun ha za sa => ?_)
  simp only [Bool.false_eq_true, if_false]
  refine wpAny_bind ?_
  rw [← Array.forIn_toList]
  simp only [List.forIn_cons, List.forIn_nil]
  refine wpAny_bind (wpAny_bind (wpAny_holding ?_))
  show wpAny _ _ (Builtin.SmallTypes.nextOf (.ref i1) >>= _) _ _ _
  refine wpAny_bind (wpAny_nextOf_list_end (s := { s with heap := ha }) hh (g1.extBut sa.extBut D.i1z) (gl.extBut sa.extBut D.l1z) hx fun hb e sb st => ?_)
  exact hE hb e (fun c o n1 n2 _ q => sb _ _ n2 (sa.extBut _ _ n1 q)) st
/-- the five objects of zip(a list, a tuple) -/
def zmHeap (h : Heap) (l1 l2 : Addr) : Heap := ((((h.push { cls := .type "list_iterator", data := .fields #[.ref l1, .int 0 0] }).push { cls := .type "tuple_iterator", data := .fields #[.ref l2, .int 0 0] }).push
  { cls := .type "tuple", data := .seq #[.ref h.objs.size, .ref (h.objs.size + 1)] }).push { cls := .type "tuple", data := .seq #[.none, .none] }).push { cls := .type "zip", data := .fields #[.none, .bool false, .bool false, .ref (h.objs.size + 2), .ref (h.objs.size + 3)] }
theorem zm_new (l1 l2 : Addr) (xs ys : Array Value) :
    Meets (Builtin.«zip.__new__» ⟨[.type "zip", .ref l1, .ref l2], []⟩) (fun _ R s => s.heap.IsList l1 xs ∧ s.heap.IsTuple l2 ys ∧ R (.ok (.ret (.ref (s.heap.objs.size + 4)))) { s with heap := zmHeap s.heap l1 l2 }) :=
  .of_wp fun prog w A R s h => by
    obtain ⟨hp, g, d, tk, os⟩ := s
    obtain ⟨a1, a2, h⟩ := h
    have b1 : Heap.IsList (Shared.heap ⟨hp, g, d, tk, os⟩) l1 xs := a1
    have b2 : Heap.IsTuple (Shared.heap ⟨hp.push { cls := .type "list_iterator", data := .fields #[.ref l1, .int 0 0] }, g, d, tk, os⟩) l2 ys := Heap.IsTuple.push a2 _
    have hsub := sub_zip
    unfold zmHeap at h
    wp_walk using wpAny_pyIter_list b1, wpAny_pyIter_tuple b2
    refine ⟨_, rfl, ?_⟩
    simp only [Heap.size_push, Nat.add_assoc, Nat.reduceAdd]
    exact h
theorem zm_call {Q : Value → Shared → Prop} (gl : s.heap.IsList l1 xs) (g2 : s.heap.IsList l2 ys ∨ s.heap.IsTuple l2 ys)
    (h : ∀ h', IsZip h' (s.heap.objs.size + 4) (s.heap.objs.size + 2) (s.heap.objs.size + 3) .none → IsPair h' (s.heap.objs.size + 2) (.ref s.heap.objs.size) (.ref (s.heap.objs.size + 1)) → IsPair h' (s.heap.objs.size + 3) .none .none →
      h'.IsListIter s.heap.objs.size l1 0 → It2 h' (s.heap.objs.size + 1) l2 0 ys → h'.objs.size = s.heap.objs.size + 5 → (∀ c o, s.heap.get? c = some o → h'.get? c = some o) → Q (.ref (s.heap.objs.size + 4)) { s with heap := h' }) :
    wpAny (model P w) A (call (.type "zip") [.ref l1, .ref l2]) Q E s := by
  rcases g2 with g2 | g2
  · exact call_zip_2 gl g2 fun h' a b c d e f k => h h' a b c d (.inl ⟨e, g2.at fun o q => k _ o q⟩) f k
  · refine callType_new F.called_zip (by decide) (F.typeCall_zip_2 _ _) (F.newCall_zip_2 _ _) (fun obj => F.args_object_init_3 obj _ _) F.entry_zip_new (zm_new l1 l2 xs ys) ⟨gl, g2, ?_⟩
    have up : ∀ c o, s.heap.get? c = some o → (zmHeap s.heap l1 l2).get? c = some o := fun c o q => by
      unfold zmHeap
      exact Heap.get?_push_of_some _ (Heap.get?_push_of_some _ (Heap.get?_push_of_some _ (Heap.get?_push_of_some _ (Heap.get?_push_of_some _ q))))
    have p0 : (zmHeap s.heap l1 l2).get? s.heap.objs.size = some { cls := .type "list_iterator", data := .fields #[.ref l1, .int 0 0] } := by
      unfold zmHeap
      exact Heap.get?_push_of_some _ (Heap.get?_push_of_some _ (Heap.get?_push_of_some _ (Heap.get?_push_of_some _ (Heap.get?_push_size _ rfl))))
    have p1 : (zmHeap s.heap l1 l2).get? (s.heap.objs.size + 1) = some { cls := .type "tuple_iterator", data := .fields #[.ref l2, .int 0 0] } := by
      unfold zmHeap
      exact Heap.get?_push_of_some _ (Heap.get?_push_of_some _ (Heap.get?_push_of_some _ (Heap.get?_push_at (by simp only [Heap.size_push]) rfl)))
    have p2 : (zmHeap s.heap l1 l2).get? (s.heap.objs.size + 2) = some { cls := .type "tuple", data := .seq #[.ref s.heap.objs.size, .ref (s.heap.objs.size + 1)] } := by
      unfold zmHeap
      exact Heap.get?_push_of_some _ (Heap.get?_push_of_some _ (Heap.get?_push_at (by simp only [Heap.size_push]) rfl))
    have p3 : (zmHeap s.heap l1 l2).get? (s.heap.objs.size + 3) = some { cls := .type "tuple", data := .seq #[.none, .none] } := by
      unfold zmHeap
      exact Heap.get?_push_of_some _ (Heap.get?_push_at (by simp only [Heap.size_push]) rfl)
    have p4 : (zmHeap s.heap l1 l2).get? (s.heap.objs.size + 4) = some { cls := .type "zip", data := .fields #[.none, .bool false, .bool false, .ref (s.heap.objs.size + 2), .ref (s.heap.objs.size + 3)] } := by
      unfold zmHeap
      exact Heap.get?_push_at (by simp only [Heap.size_push]) rfl
    exact ⟨⟨_, p4, rfl⟩, h _ p4 p2 p3 ⟨_, p0, rfl, rfl⟩ (.inr ⟨⟨_, p1, rfl, rfl⟩, g2.at fun o q => up _ o q⟩) (by unfold zmHeap; simp only [Heap.size_push]) up⟩
/-- such a zip as dict's argument -/
theorem zm_arg (D : ZipApart z TI TO i1 i2 l1 l2) (same : xs.size = ys.size) (pos : 0 < xs.size) :
    PairArg P w "zip" z [z, TI, TO, i1, i2, l1, l2] [z, TO, i1, i2] xs.size (fun i k v => xs[i]? = some k ∧ ys[i]? = some v)
      (fun h => IsZip h z TI TO .none ∧ IsPair h TI (.ref i1) (.ref i2) ∧ (∃ a b, IsPair h TO a b) ∧ h.IsListIter i1 l1 0 ∧ It2 h i2 l2 0 ys ∧ h.IsList l1 xs) where
  type := fun s ok => ⟨_, ok.1, rfl⟩
  notDict := by decide
  keep := fun h h' ok up => by
    obtain ⟨a1, a2, ⟨a, b, a3⟩, a4, a5, a6⟩ := ok
    exact ⟨up _ _ a1, up _ _ a2, ⟨a, b, up _ _ a3⟩, a4.at fun o e => up _ o e, a5.goes (fun o e => up _ o e) fun o e => up _ o e, a6.at fun o e => up _ o e⟩
  there := fun h ok b hb => by
    obtain ⟨a1, a2, ⟨a, c, a3⟩, ⟨o1, a4, _⟩, a5, ⟨o3, a6, _⟩⟩ := ok
    obtain ⟨⟨o2, q2⟩, ⟨o4, q4⟩⟩ := a5.there
    simp only [List.mem_cons, List.not_mem_nil, or_false] at hb
    rcases hb with rfl | rfl | rfl | rfl | rfl | rfl | rfl
    · exact ⟨_, a1⟩
    · exact ⟨_, a2⟩
    · exact ⟨_, a3⟩
    · exact ⟨_, a4⟩
    · exact ⟨_, q2⟩
    · exact ⟨_, a6⟩
    · exact ⟨_, q4⟩
  sub := fun b hb => by
    simp only [List.mem_cons, List.not_mem_nil, or_false] at hb ⊢
    rcases hb with rfl | rfl | rfl | rfl <;> simp
  noKeys := fun A s Q E hA ok h => getAttrOr_miss_zip ok.1 rfl rfl rfl zip_no_keys (by decide +kernel) hA h
  iter := fun A s d Q E hA ok hd hdf h => by
    obtain ⟨a1, a2, ⟨a, b, a3⟩, a4, a5, a6⟩ := ok
    simp only [List.mem_cons, List.not_mem_nil, or_false, not_or] at hdf
    obtain ⟨dz, dTI, dTO, di1, di2, dl1, dl2⟩ := hdf
    refine wpAny_pyIter_zip a1 (h z [z, TO, i1, i2] (fun i h => IsPair h TI (.ref i1) (.ref i2) ∧ h.IsListIter i1 l1 i ∧ It2 h i2 l2 i ys ∧ h.IsList l1 xs ∧
      ((i = 0 ∧ IsZip h z TI TO .none ∧ ∃ a b, IsPair h TO a b) ∨ ∃ T f oT, IsZipHeld h z TI TO T f ∧ h.get? T = some oT ∧ T ≠ z ∧ T ≠ i1 ∧ T ≠ i2 ∧ T ≠ d)) s.heap s.toks ?_ ⟨a2, a4, a5, a6, .inl ⟨rfl, a1, a, b, a3⟩⟩ (fun _ _ e => e) fun b hb => .inl hb)
    exact {
      off := fun hm => by
        simp only [List.mem_cons, List.not_mem_nil, or_false] at hm
        rcases hm with e | e | e | e
        · exact dz e
        · exact dTO e
        · exact di1 e
        · exact di2 e
      frame := fun i h₁ h₂ st hk => by
        obtain ⟨b1, b2, b3, b4, b5⟩ := st
        refine ⟨hk _ _ (Ne.symm dTI) b1, b2.at fun o e => hk _ o (Ne.symm di1) e, b3.goes (fun o e => hk _ o (Ne.symm di2) e) fun o e => hk _ o (Ne.symm dl2) e, b4.at fun o e => hk _ o (Ne.symm dl1) e, ?_⟩
        rcases b5 with ⟨e0, c1, a, b, c2⟩ | ⟨T, f, oT, c1, c2, r1, r2, r3, r4⟩
        · exact .inl ⟨e0, hk _ _ (Ne.symm dz) c1, a, b, hk _ _ (Ne.symm dTO) c2⟩
        · exact .inr ⟨T, f, oT, hk _ _ (Ne.symm dz) c1, hk _ _ r4 c2, r1, r2, r3, r4⟩
      item := fun i s₁ Q₁ E₁ hi st hds hQ => by
        obtain ⟨b1, b2, b3, b4, b5⟩ := st
        have ex := Array.getElem?_eq_getElem hi
        have ey := Array.getElem?_eq_getElem (show i < ys.size by omega)
        have lt : ∀ {c o}, s₁.heap.get? c = some o → s₁.heap.objs.size ≠ c := fun e => Nat.ne_of_gt (Heap.lt_size e)
        have n1 : s₁.heap.objs.size ≠ i1 := let ⟨_, e, _⟩ := b2; lt e
        have n2 : s₁.heap.objs.size ≠ i2 := let ⟨⟨_, e⟩, _⟩ := b3.there; lt e
        rcases b5 with ⟨e0, c1, a, b, c2⟩ | ⟨T, f, oT, c1, c2, r1, r2, r3, r4⟩
        · have hTy : s₁.TypeIs (.ref z) "zip" := ⟨_, c1, rfl⟩
          unfold pyNext
          refine wpAny_bind (wpAny_attempt (wpAny_callSpecial?_slot (name := Str.ofString "__next__") hTy F.slot_zip_next (wpAny_call_entry F.slot_zip_next hTy F.entry_zip_next
            (zm_first D c1 b1 c2 b2 b3 b4 ex ey fun h' q1 q2 q3 q4 q5 q6 hk => wpAny_pure ?_) (F.args_zip_next_1 _))))
          exact hQ s₁.heap.objs.size _ _ h' s₁.toks ⟨ex, ey⟩ (.inl ⟨_, q5, rfl, _, rfl⟩)
            ⟨hk _ _ D.TIz D.TITO D.TIi1 D.TIi2 b1, q3, q4, b4.at fun o e => hk _ o D.l1z D.l1TO D.l1i1 D.l1i2 e, .inr ⟨s₁.heap.objs.size, false, _, q1, q5, lt c1, n1, n2, Nat.ne_of_gt hds⟩⟩
            fun c o hc e => hk c o (fun x => hc (by simp [x])) (fun x => hc (by simp [x])) (fun x => hc (by simp [x])) (fun x => hc (by simp [x])) e
        · have hTy : s₁.TypeIs (.ref z) "zip" := ⟨_, c1, rfl⟩
          unfold pyNext
          refine wpAny_bind (wpAny_attempt (wpAny_callSpecial?_slot (name := Str.ofString "__next__") hTy F.slot_zip_next (wpAny_call_entry F.slot_zip_next hTy F.entry_zip_next
            (zm_later D c1 c2 b1 b2 b3 b4 ex ey fun h' q1 q3 q4 q5 hk => wpAny_pure ?_) (F.args_zip_next_1 _))))
          exact hQ s₁.heap.objs.size _ _ h' s₁.toks ⟨ex, ey⟩ (.inl ⟨_, q5, rfl, _, rfl⟩)
            ⟨hk _ _ D.TIz D.TIi1 D.TIi2 b1, q3, q4, b4.at fun o e => hk _ o D.l1z D.l1i1 D.l1i2 e, .inr ⟨T, true, oT, q1, hk _ _ r1 r2 r3 c2, r1, r2, r3, r4⟩⟩
            fun c o hc e => hk c o (fun x => hc (by simp [x])) (fun x => hc (by simp [x])) (fun x => hc (by simp [x])) e
      done := fun s₁ Q₁ E₁ st hQ => by
        obtain ⟨b1, b2, b3, b4, b5⟩ := st
        rcases b5 with ⟨e0, _⟩ | ⟨T, f, oT, c1, c2, r1, r2, r3, r4⟩
        · omega
        · have hTy : s₁.TypeIs (.ref z) "zip" := ⟨_, c1, rfl⟩
          unfold pyNext
          refine wpAny_bind (wpAny_attempt (wpAny_callSpecial?_slot (name := Str.ofString "__next__") hTy F.slot_zip_next (wpAny_call_entry F.slot_zip_next hTy F.entry_zip_next
            (zm_end hA D c1 c2 b1 b2 b4 (Array.getElem?_eq_none (Nat.le_refl _)) fun h' e hk he => ?_) (F.args_zip_next_1 _))))
          obtain ⟨o, ho, hc⟩ := he
          exact wpAny_bind (wpAny_isInstance (T := "StopIteration") (b := true) ⟨o, ho, hc⟩ isSubtype_stop (wpAny_pure (hQ h' s₁.toks fun c o hc e => hk c o (fun x => hc (by simp [x])) (fun x => hc (by simp [x])) (fun x => hc (by simp [x])) e))) }
end
/-- dict(zip(xs, ys)), xs a list of texts or ints of which none comes twice, ys a list or a tuple as long -/
def tDictZip (K : PySem.W.Frag) (t : TA) : TE := fun σ H Q => t σ H fun vs H1 => ∃ (a b : Addr) (ks : List Key) (ys : List V), vs = [.ref a, .ref b] ∧ SqL K H1 a (ks.map kV) ∧ (SqL K H1 b ys ∨ SqT K H1 b ys) ∧ ks.length = ys.length ∧ ks ≠ [] ∧
  ∀ p : Addr, H1 p = none → Q (.ref p) (upd H1 p (.dK (mergeK [] (ks.zip ys))))
section
variable {X : Cx}
theorem zip_kv : ∀ {ks : List Key} {ys : List V} {us vs : List Value}, Vals (ks.map kV) us → Vals ys vs → KV (ks.zip ys) (ks.zip vs)
  | [], _, _, _, _, _ => by
    rw [List.zip_nil_left, List.zip_nil_left]
    exact .nil
  | k :: ks, [], _, _, _, .nil => by
    rw [List.zip_nil_right, List.zip_nil_right]
    exact .nil
  | k :: ks, y :: ys, us, v :: vs, r1, .cons q r2 => by
    rw [List.map_cons] at r1
    cases r1 with
    | cons r r1 => exact .cons ⟨rfl, q⟩ (zip_kv r1 r2)
theorem pe_dictZip {e e2 : Expr} {t : TA} {p p2 q pos : Pos} (hc : X.calm = true) (g1 : Gl X "dict") (m1 : X.mg "dict" = none) (g2 : Gl X "zip") (m2 : X.mg "zip" = none) (ha : PA X [e, e2] t)
    (n1 : starEach [e, e2] X.env = (false, eval e X.env) :: starEach [e2] X.env := by rfl) (n2 : (backTo q (starEach [e2] X.env)).any (·.1) = false := by rfl)
    (n3 : starEach [.Call (.Name "zip" p2) [e, e2] [] q] X.env = (false, eval (.Call (.Name "zip" p2) [e, e2] [] q) X.env) :: starEach [] X.env := by rfl) :
    PE X (.Call (.Name "dict" p) [.Call (.Name "zip" p2) [e, e2] [] q] [] pos) (tDictZip X.K t) := by
  refine ⟨fun pins s σ H Q I h => ?_⟩
  refine Call_ (ld_blt I g1 m1 (show bootBuiltins "dict" = some (.type "dict") by decide +kernel) (PyProof.Rows.callWith_type1 (PyProof.Rows.args_cons ?_ n3) n3 rfl))
  refine Call_ (ld_blt I g2 m2 PyProof.Rows.boot_zip (PyProof.Rows.callWith_type1 (thn (ha.run q pins s σ H _ I h) fun us s1 ⟨vs, H1, I1, r1, q1⟩ => ?_) n1 n2))
  obtain ⟨a, b, ks, ys, rfl, hqx, hqy, same, hne, k⟩ := q1
  obtain ⟨u, v, rfl, ru, rv⟩ := vals2 r1
  obtain rfl : u = Value.ref a := ru
  obtain rfl : v = Value.ref b := rv
  obtain ⟨its, rx, px, zx⟩ := I1.list hqx
  have two : ∃ its2 : List Value, Vals ys its2 ∧ (s1.heap.IsList b its2.toArray ∨ s1.heap.IsTuple b its2.toArray) ∧ b < s1.heap.objs.size := by
    rcases hqy with z | z
    · obtain ⟨its2, r, p2', _⟩ := I1.list z
      exact ⟨its2, r, .inl p2'.isList, p2'.lt⟩
    · obtain ⟨its2, r, p2', _⟩ := I1.tuple z
      exact ⟨its2, r, .inr p2', p2'.lt⟩
  obtain ⟨its2, ry, py, hb⟩ := two
  have e1 := rx.length
  have e2' := ry.length
  rw [List.length_map] at e1 zx
  have kpos : 0 < ks.length := List.length_pos_iff.mpr hne
  refine zm_call (l1 := a) (l2 := b) (xs := its.toArray) (ys := its2.toArray) px.isList py fun h1 z1 z2 z3 z4 z5 z6 kp => PyProof.Rows.args_nil ?_
  have D := PySem.W.ktu_apart s1.heap.objs.size a b px.lt hb
  have arg := zm_arg (P := X.prog) (w := X.w) (xs := its.toArray) (ys := its2.toArray) D (by simp only [List.size_toArray]; omega) (by simp only [List.size_toArray]; omega)
  have kv := zip_kv rx ry
  refine _root_.PySem.call_dict_pairs (s := { s1 with heap := h1 }) (knd := mixKind X.prog X.w) (kvs := ks.zip its2) arg (I1.ok.hd hc) ⟨z1, z2, ⟨_, _, z3⟩, z4, z5, px.isList.at fun o q => kp _ o q⟩ ⟨?_, fun i key v hr => ?_⟩ (by simp only [List.size_toArray]; omega) fun h' tk hd' hk => ?_
  · simp only [List.length_zip, List.size_toArray]
    omega
  · obtain ⟨hr1, hr2⟩ := hr
    have hi : i < its.length := by
      have := (Array.getElem?_eq_some_iff.mp hr1).1
      simpa using this
    obtain ⟨kk, hkk⟩ : ∃ kk, ks[i]? = some kk := ⟨_, List.getElem?_eq_getElem (by omega)⟩
    obtain ⟨w', hw', rw'⟩ := rx.get (show (ks.map kV)[i]? = some (kV kk) by rw [List.getElem?_map, hkk]; rfl)
    have : w' = key := by
      have z : its.toArray[i]? = its[i]? := by simp
      rw [z, hw'] at hr1
      exact Option.some.inj hr1
    subst this
    refine ⟨kk, ?_, kV_is rw'⟩
    rw [List.getElem?_zip_eq_some]
    exact ⟨hkk, by simpa using hr2⟩
  · have big : s1.heap.objs.size ≤ h1.objs.size := by omega
    have keep : ∀ b o, s1.heap.get? b = some o → h'.get? b = some o := fun b o e => hk b o (fun hm => by
      have lt : b < s1.heap.objs.size := Heap.lt_size e
      simp only [List.mem_cons, List.not_mem_nil, or_false] at hm
      rcases hm with z | z | z | z <;> rw [z] at lt
      · exact absurd lt (Nat.not_lt.mpr (Nat.le_add_right _ _))
      · exact absurd lt (Nat.not_lt.mpr (Nat.le_add_right _ _))
      · exact absurd lt (Nat.lt_irrefl _)
      · exact absurd lt (Nat.not_lt.mpr (Nat.le_add_right _ _))) (kp b o e)
    have hm : (h1.objs.size == sysModules) = false := beq_eq_false_iff_ne.mpr (Nat.ne_of_gt (Nat.lt_of_lt_of_le I1.big big))
    have hlen : (mergeK [] (ks.zip ys)).length ≤ sizeLine := by
      refine Nat.le_trans (length_mergeK (ks.zip ys) []) ?_
      rw [List.length_nil, Nat.zero_add, List.length_zip]
      omega
    exact ⟨.ref h1.objs.size, upd H1 h1.objs.size (.dK (mergeK [] (ks.zip ys))), I1.laid (t' := tk) keep big (show ObjOk X.prog X.w _ _ _ (.dK (mergeK [] (ks.zip ys))) from ⟨hlen, hm, merged [] (ks.zip its2), KV.merge kv .nil, hd'⟩), rfl, k _ (I1.hok.fresh big)⟩
end
end Nm
set_option maxRecDepth 100000
set_option maxHeartbeats 4000000
/-! led_up -/
namespace Nm
open PySem PySem.Spec PyProof.Rows L2
/-- the names with their numbers -/
def clrKV (nm : List Str) (xs : List V) : List (Key × V) := (nm.map fun y => (Sum.inr y : Key)).zip xs
def clrAt (nm : List Str) (xs : List V) (y : Str) : V := (valV (clrKV nm xs) (Sum.inr y)).getD .non
theorem clr_nd {nm : List Str} {xs : List V} (hl : xs.length = nm.length) (nd : nm.Nodup) : ((clrKV nm xs).map (·.1)).Nodup := by
  unfold clrKV
  have h : ((nm.map fun y => (Sum.inr y : Key)).zip xs).map (·.1) = nm.map fun y => (Sum.inr y : Key) := List.map_fst_zip (by rw [List.length_map]; omega)
  rw [h]
  exact List.Pairwise.map _ (fun a b hab e => hab (Sum.inr.inj e)) nd
theorem clr_merge {nm : List Str} {xs : List V} (hl : xs.length = nm.length) (nd : nm.Nodup) : mergeK [] ((nm.map fun y => (Sum.inr y : Key)).zip xs) = clrKV nm xs := merge_nd (acc := []) (clr_nd hl nd)
theorem clr_get {nm : List Str} {xs : List V} (hl : xs.length = nm.length) (nd : nm.Nodup) {p : Nat} {y : Str} {x : V} (hy : nm[p]? = some y) (hx : xs[p]? = some x) : valV (clrKV nm xs) (Sum.inr y) = some x := by
  refine val_of_mem (clr_nd hl nd) (List.mem_of_getElem? (i := p) ?_)
  unfold clrKV
  rw [List.getElem?_zip_eq_some, List.getElem?_map, hy]
  exact ⟨rfl, hx⟩
theorem clr_at {nm : List Str} {xs : List V} (hl : xs.length = nm.length) (nd : nm.Nodup) {p : Nat} {y : Str} {x : V} (hy : nm[p]? = some y) (hx : xs[p]? = some x) : clrAt nm xs y = x := by
  unfold clrAt
  rw [clr_get hl nd hy hx]
  rfl
theorem due_none {xs : List V} {m : Nat} (h : numsDue xs m = none) : xs.length = m := by
  unfold numsDue at h
  split at h
  · cases h
  · split at h
    · assumption
    · cases h
section
variable {P : Program} {w : World} {K : PySem.W.Frag} {mg : Str → Option Value} {base : Heap}
/-- a def that may let exceptions out, under its name -/
structure DefX (P : Program) (w : World) (K : PySem.W.Frag) (mg : Str → Option Value) (base : Heap) (x : Str) (ps : List Str) (k : Nat) (sp : Sp) : Prop where
  ex : ∃ f fd, FnOk P w K mg base (L2.CX P w) k f fd ps sp ∧ mg x = some (.ref f) ∧ PySem.W.keepIn K (.ref f) = true ∧ Binds K fd ps []
def spUp (K : PySem.W.Frag) (C CB : Addr) : Sp := fun vs H Q E => ∃ (ov qo we qw fo c : Addr) (nm' nm : List Str) (fkv : List (Key × V)) (g : Str → Str) (xs : List V), vs = [.ref ov, .ref we, .ref fo, .ref c] ∧ WebAt C H ov qo nm' ∧ WebAt C H we qw nm ∧ H fo = some (.dK fkv) ∧
  (SqL K H c xs ∨ SqT K H c xs) ∧ nm'.length ≤ 1000 ∧ nm.length ≤ 1000 ∧ xs.length ≤ 1000 ∧ nm.Nodup ∧ nm ≠ [] ∧ (∀ x ∈ nm', valV fkv (Sum.inr x) = some (V.str (g x)) ∧ g x ∈ nm) ∧ (∀ x ∈ xs, NumX H x) ∧
  (∀ (r : Addr) (H' : Hp), numsDue xs nm.length = none → H r = none → H' r = some (.lst (nm'.map fun x => clrAt nm xs (g x))) → Same H H' → Q (.ref r) H') ∧
  ∀ (n : Nat) (d : Addr) (H' : Hp), numsDue xs nm.length = some n → H d = none → H' d = some (.xd [("number", .int (n : Int))]) → Same H H' → E (.ref CB) (some d) H'
abbrev nUp : List Str := ["over", "web", "folding", "colouring", "number_of", "name"]
theorem scUp : FnScope nUp ["over", "web", "folding", "colouring"] (defScope sLedUp) := ⟨rfl, rfl, rfl, by decide +kernel, rfl, by decide +kernel, by decide +kernel⟩
theorem ok_up {f C CB : Addr} {fd : FuncData} (F : Fun K "led_up" "led_up" sLedUp f fd) (T : TxtW K mg C) (Gn : DefX P w K mg base "need_numbers" ["web", "colouring"] 4 (spNeedN K C CB)) (Gm : MethD P w K mg base C "places" ["self"] 1 (spPlaces C)) :
    FnOk P w K mg base (L2.CX P w) 5 f fd ["over", "web", "folding", "colouring"] (spUp K C CB) := by
  obtain ⟨fn, fdn, Gn, mn, kn, bn⟩ := Gn.ex
  obtain ⟨fm, fdm, Gm, mm, bm⟩ := Gm.ex
  refine okX (k := 4) F scUp (fun vs H Q E h => ?_) (fun cdv A outer s H vs Q E hr h => ?_)
  · obtain ⟨_, _, _, _, _, _, _, _, _, _, _, rfl, _⟩ := h
    rfl
  · obtain ⟨ov, qo, we, qw, fo, c, nm', nm, fkv, g, xs, rfl, hov, hwe, hfo, hc, hnl', hnl, hxl, nd, hne, hg, hxs, kq, ke⟩ := h
    have hu := hu_of hr
    have tk := takes_of (X := cxOf (L2.CX P w) P w K mg base nUp "led_up" (defScope sLedUp) f cdv A outer s H E) (E := E) rfl rfl rfl rfl
    refine ⟨_, Evl.pss_cut (ps_expr (pe_call Gn hr (by rfl) mn kn bn .nil (passes_call tk fun _ _ _ _ h => h) (pa_cons (pv 1) (pa_cons (pv 3) pa_nil))))
      (pss_cons (ps_set (i := 4) scUp.nd rfl (Or.inr rfl) (pe_dictZip rfl (by rfl) T.dict (by rfl) T.zip (pa_cons (pe_meth0 (pv 1) T.cl mm Gm (hr.mono (by decide)) bm .nil pass0) (pa_cons (pv 3) pa_nil))))
      (pss_one (ps_ret (pe_lc (own := [("name", 5)]) (g := gName 5) (tt := tYes) (te := tDGet (tVar 4) (tDGet (tVar 2) (tVar 5))) rfl scUp.nd (pi_list (pe_meth0 (pv 0) T.cl mm Gm (hr.mono (by decide)) bm .nil pass0)) (blkOk_by (N := nUp) (sc := defScope sLedUp) (by decide +kernel))
        (fun _ _ _ _ _ => pg_name (i := 5) scUp.nd rfl (Or.inl rfl)) (fun _ _ _ _ _ => pts_nil) (fun _ _ _ _ _ => by exact pe_dget hu (pv 4) (pe_dget hu (pv 2) (pv 5) (fun _ _ => rfl)) (fun _ _ => rfl)))))), ?_⟩
    refine ⟨fun σ H1 => σ = [some (.ref ov), some (.ref we), some (.ref fo), some (.ref c), none, none] ∧ Same H H1 ∧ numsDue xs nm.length = none, ?_, ?_⟩
    · refine ⟨_, rfl, _, rfl, we, qw, c, nm, xs, rfl, hwe, hc, hnl, hxl, hxs, fun H' s1 hd => ⟨rfl, s1, hd⟩, fun n d H' hd h1 h2 h3 => ke n d H' hd h1 h2 h3⟩
    rintro σ H1 ⟨rfl, s1, hdue⟩
    have hlen := due_none hdue
    obtain ⟨dw, fw, hw1, hw2, hw3, hw4⟩ := hwe.same s1
    refine ⟨_, rfl, we, dw, fw, rfl, hw1, hw3, we, qw, nm, rfl, hwe.same s1, hnl, fun r H2 hr0 hr2 s2 => ?_⟩
    have s12 := s1.trans s2
    refine ⟨_, rfl, r, c, nm.map fun y => (Sum.inr y : Key), xs, rfl, SqL.of (by rw [hr2, List.map_map]; rfl), sq_ext hc s12, by rw [List.length_map]; omega, by simpa using hne, fun p hp => ?_⟩
    rw [clr_merge hlen nd]
    have sp := same_new (o := .dK (clrKV nm xs)) hp
    have hnum : (upd H2 p (.dK (clrKV nm xs))) p = some (.dK (clrKV nm xs)) := upd_same
    have s3 : Same H (upd H2 p (.dK (clrKV nm xs))) := s12.trans sp
    generalize upd H2 p (.dK (clrKV nm xs)) = H3 at *
    obtain ⟨dv, fv, hv1, hv2, hv3, hv4⟩ := hov.same s3
    refine ⟨_, rfl, ov, dv, fv, rfl, hv1, hv3, ov, qo, nm', rfl, hov.same s3, hnl', fun r' H4 hr'0 hr'1 s4 => ?_⟩
    have s34 := s3.trans s4
    refine ⟨r', rfl, ⟨_, SqL.of hr'1⟩, fun D hD => ?_⟩
    refine lc_it (walk_list (xs := nm'.map V.str)) (fun i H5 => H5 D = some (.lst ((nm'.take i).map fun x => clrAt nm xs (g x))) ∧ Same H4 H5) ⟨upd_same, same_new hD⟩ (fun i H5 _ h => SqL.of (h.2 _ _ hr'1)) ?_ ?_
    · rintro i x H6 H5 hi ⟨hD5, s5⟩ ⟨rfl, hx⟩
      rw [List.length_map] at hi
      rw [List.getElem?_map] at hx
      obtain ⟨y, hy, rfl⟩ := Option.map_eq_some_iff.mp hx
      obtain ⟨hg1, hg2⟩ := hg y (List.mem_of_getElem? hy)
      have s45 : Same H3 H5 := s4.trans s5
      obtain ⟨q, hq⟩ := List.getElem?_of_mem hg2
      have hql := (List.getElem?_eq_some_iff.mp hq).1
      obtain ⟨v, hv⟩ : ∃ v, xs[q]? = some v := ⟨_, List.getElem?_eq_getElem (by omega)⟩
      refine ⟨rfl, tyes ?_⟩
      have d1 : DGet H5 fo (V.str y) (some (V.str (g y))) := by rw [← hg1]; exact DGet.k (k := Sum.inr y) (s5 _ _ (s34 _ _ hfo))
      have d2 : DGet H5 p (V.str (g y)) (some v) := by rw [← clr_get hlen nd hq hv]; exact DGet.k (k := Sum.inr (g y)) (s45 _ _ hnum)
      refine ⟨_, rfl, _, rfl, _, rfl, fo, _, rfl, d1, p, _, rfl, d2, _, hD5, Evl.sz_lt (by rw [List.length_map, List.length_take]; omega), ?_, fun b o e => ?_⟩
      · rw [upd_same, List.take_add_one, hy, List.map_append]
        show some (HO.lst (_ ++ [v])) = some (HO.lst (_ ++ [clrAt nm xs (g y)]))
        rw [clr_at hlen nd hq hv]
      · rw [upd_ne (ne_of_none e hD)]
        exact s5 _ _ e
    · rintro H5 ⟨hD5, s5⟩
      rw [List.length_map, List.take_length] at hD5
      exact kq D H5 hdue (s34.free hD) hD5 (s34.trans s5)
end
end Nm
set_option maxRecDepth 100000
set_option maxHeartbeats 4000000
/-! led_down -/
namespace Nm
open PySem PySem.Spec PyProof.Rows L2
/-! ### the one number of a list, if it is one -/
def same1 : List Int → Option Int
  | [] => none
  | n :: r => if r.all (· == n) = true then some n else none
theorem met_same {f : Nat → Int} : ∀ i, (∀ j, j ≤ i → f j = f 0) → firstMet f (i + 1) = [f 0]
  | 0, _ => by
    rw [firstMet_succ, firstMet_zero]
    rfl
  | i + 1, h => by
    rw [firstMet_succ, met_same i fun j hj => h j (by omega), h (i + 1) (Nat.le_refl _)]
    unfold step_dedup
    simp
theorem met_more {f : Nat → Int} : ∀ i, (∃ j, j ≤ i ∧ f j ≠ f 0) → 2 ≤ (firstMet f (i + 1)).length
  | 0, ⟨j, hj, h⟩ => by
    obtain rfl : j = 0 := by omega
    exact absurd rfl h
  | i + 1, ⟨j, hj, h⟩ => by
    rw [firstMet_succ]
    by_cases c : ∃ j, j ≤ i ∧ f j ≠ f 0
    · have := met_more i c
      unfold step_dedup
      split
      · exact this
      · rw [List.length_append]
        omega
    · have all : ∀ j, j ≤ i → f j = f 0 := fun j hj => Classical.byContradiction fun n => c ⟨j, hj, n⟩
      have : j = i + 1 := Classical.byContradiction fun n => c ⟨j, by omega, h⟩
      subst this
      rw [met_same i all]
      unfold step_dedup
      have e : ([f 0].any (· == f (i + 1))) = false := by simpa using fun q => h q.symm
      rw [e]
      simp
theorem met_one {ns : List Int} : ((firstMet (fun i => ns.getD i 0) ns.length).length = 1) ↔ (same1 ns).isSome = true := by
  cases ns with
  | nil => simp [same1, firstMet_zero]
  | cons n r =>
    have e : (n :: r).length = r.length + 1 := rfl
    rw [e]
    by_cases c : ∃ j, j ≤ r.length ∧ (n :: r).getD j 0 ≠ (n :: r).getD 0 0
    · have h2 := met_more (f := fun i => (n :: r).getD i 0) r.length c
      obtain ⟨j, hj, hn⟩ := c
      have : ¬ (r.all (· == n) = true) := fun q => by
        rw [List.all_eq_true] at q
        cases j with
        | zero => exact hn rfl
        | succ j =>
          have hx : r[j]? = some (r[j]'(by omega)) := List.getElem?_eq_getElem (by omega)
          have := q _ (List.mem_of_getElem? hx)
          refine hn ?_
          show r.getD j 0 = n
          rw [List.getD_eq_getElem?_getD, hx]
          simpa using this
      have e2 : same1 (n :: r) = none := if_neg this
      rw [e2]
      constructor
      · intro h
        omega
      · intro h
        cases h
    · have h1 := met_same (f := fun i => (n :: r).getD i 0) r.length fun j hj => Classical.byContradiction fun q => c ⟨j, hj, q⟩
      rw [h1]
      have : r.all (· == n) = true := List.all_eq_true.mpr fun x hx => by
        obtain ⟨j, hj⟩ := List.getElem?_of_mem hx
        have hl := (List.getElem?_eq_some_iff.mp hj).1
        have q : ¬ ((n :: r).getD (j + 1) 0 ≠ (n :: r).getD 0 0) := fun q => c ⟨j + 1, by omega, q⟩
        have q : r.getD j 0 = n := Decidable.not_not.mp q
        rw [List.getD_eq_getElem?_getD, hj] at q
        simpa using q
      have e2 : same1 (n :: r) = some n := if_pos this
      rw [e2]
      simp
theorem same1_head {ns : List Int} {n : Int} (h : same1 ns = some n) : ns[0]? = some n := by
  cases ns with
  | nil => cases h
  | cons m r =>
    have h : (if r.all (· == m) = true then some m else none) = some n := h
    by_cases c : r.all (· == m) = true
    · rw [if_pos c] at h
      exact h
    · rw [if_neg c] at h
      cases h
def downL : List (List Int) → Option (List Int)
  | [] => some []
  | l :: r => match same1 l with
    | none => none
    | some n => (downL r).map (n :: ·)
theorem downL_app : ∀ (a b : List (List Int)), downL (a ++ b) = (downL a).bind fun x => (downL b).map (x ++ ·)
  | [], b => by
    show downL b = (downL b).map ([] ++ ·)
    cases downL b <;> rfl
  | l :: a, b => by
    show (match same1 l with | none => none | some n => (downL (a ++ b)).map (n :: ·)) = _
    rw [downL_app a b]
    show _ = (match same1 l with | none => none | some n => (downL a).map (n :: ·)).bind _
    cases same1 l with
    | none => rfl
    | some n =>
      cases downL a with
      | none => rfl
      | some x =>
        cases downL b <;> rfl
theorem downL_bad {gs : List (List Int)} {i : Nat} {l : List Int} {ds : List Int} (h : downL (gs.take i) = some ds) (hl : gs[i]? = some l) (hs : same1 l = none) : downL gs = none := by
  have hi := (List.getElem?_eq_some_iff.mp hl).1
  have e : gs = gs.take i ++ l :: gs.drop (i + 1) := by
    have := (List.getElem?_eq_some_iff.mp hl).2
    rw [← this, List.getElem_cons_drop, List.take_append_drop]
  rw [e, downL_app, h]
  show (match same1 l with | none => none | some n => _ : Option (List Int)).map _ = none
  rw [hs]
  rfl
theorem downL_next {gs : List (List Int)} {i : Nat} {l : List Int} {ds : List Int} {n : Int} (h : downL (gs.take i) = some ds) (hl : gs[i]? = some l) (hs : same1 l = some n) : downL (gs.take (i + 1)) = some (ds ++ [n]) := by
  rw [List.take_add_one, hl, downL_app, h]
  show (match same1 l with | none => none | some n => (some [] : Option (List Int)).map (n :: ·) : Option (List Int)).map _ = _
  rw [hs]
  rfl
theorem due_ints {xs : List V} {m : Nat} (h : numsDue xs m = none) : ∃ ns : List Int, xs = ns.map V.int ∧ ns.length = m ∧ ∀ n ∈ ns, 0 ≤ n := by
  have hl := due_none h
  have hok : ∀ x ∈ xs, numOk x = true := fun x hx => by
    unfold numsDue at h
    split at h
    · cases h
    · rename_i e
      have := List.findIdx?_eq_none_iff.mp e x hx
      simpa using this
  have all : ∀ xs : List V, (∀ x ∈ xs, numOk x = true) → ∃ ns : List Int, xs = ns.map V.int ∧ ∀ n ∈ ns, 0 ≤ n := by
    intro xs
    induction xs with
    | nil => exact fun _ => ⟨[], rfl, fun n hn => (List.not_mem_nil hn).elim⟩
    | cons x r ih =>
      intro h
      obtain ⟨ns, e, p⟩ := ih fun y hy => h y (List.mem_cons_of_mem _ hy)
      have hx := h x List.mem_cons_self
      cases x with
      | int i =>
        refine ⟨i :: ns, by rw [e]; rfl, fun n hn => ?_⟩
        rcases List.mem_cons.mp hn with z | z
        · rw [z]
          exact of_decide_eq_true hx
        · exact p n z
      | _ => cases hx
  obtain ⟨ns, e, p⟩ := all xs hok
  exact ⟨ns, e, by rw [← hl, e, List.length_map], p⟩
/-- the numbers of the names, by name -/
def intAt (nm : List Str) (ns : List Int) (y : Str) : Int := match clrAt nm (ns.map V.int) y with
  | .int i => i
  | _ => 0
theorem int_at {nm : List Str} {ns : List Int} (hl : ns.length = nm.length) (nd : nm.Nodup) {y : Str} (hy : y ∈ nm) : valV (clrKV nm (ns.map V.int)) (Sum.inr y) = some (V.int (intAt nm ns y)) := by
  obtain ⟨p, hp⟩ := List.getElem?_of_mem hy
  have hpl := (List.getElem?_eq_some_iff.mp hp).1
  obtain ⟨n, hn⟩ : ∃ n, ns[p]? = some n := ⟨_, List.getElem?_eq_getElem (by omega)⟩
  have hx : (ns.map V.int)[p]? = some (V.int n) := by rw [List.getElem?_map, hn]; rfl
  have h1 := clr_get (by rw [List.length_map]; exact hl) nd hp hx
  have h2 := clr_at (by rw [List.length_map]; exact hl) nd hp hx
  rw [h1]
  unfold intAt
  rw [h2]
/-- the numbers above each place -/
def groups (nm' nm : List Str) (g : Str → Str) (ns : List Int) : List (List Int) := nm.map fun y => (overL nm' g y).map (intAt nm' ns)
section
variable {P : Program} {w : World} {K : PySem.W.Frag} {mg : Str → Option Value} {base : Heap}
def spDown (K : PySem.W.Frag) (C CB : Addr) : Sp := fun vs H Q E => ∃ (ov qo we qw fo c : Addr) (nm' nm : List Str) (fkv : List (Key × V)) (g : Str → Str) (xs : List V), vs = [.ref ov, .ref we, .ref fo, .ref c] ∧ WebAt C H ov qo nm' ∧ WebAt C H we qw nm ∧ H fo = some (.dK fkv) ∧
  (SqL K H c xs ∨ SqT K H c xs) ∧ nm'.length ≤ 1000 ∧ nm.length ≤ 1000 ∧ xs.length ≤ 1000 ∧ nm.Nodup ∧ nm'.Nodup ∧ nm' ≠ [] ∧ (∀ x ∈ nm', valV fkv (Sum.inr x) = some (V.str (g x)) ∧ g x ∈ nm) ∧ (∀ x ∈ xs, NumX H x) ∧
  (∀ (ns : List Int) (H' : Hp), xs = ns.map V.int → numsDue xs nm'.length = none → downL (groups nm' nm g ns) = none → Same H H' → Q .non H') ∧
  (∀ (ns ds : List Int) (r : Addr) (H' : Hp), xs = ns.map V.int → numsDue xs nm'.length = none → downL (groups nm' nm g ns) = some ds → H r = none → H' r = some (.lst (ds.map V.int)) → Same H H' → Q (.ref r) H') ∧
  ∀ (n : Nat) (d : Addr) (H' : Hp), numsDue xs nm'.length = some n → H d = none → H' d = some (.xd [("number", .int (n : Int))]) → Same H H' → E (.ref CB) (some d) H'
abbrev nDn : List Str := ["over", "web", "folding", "colouring", "number_of", "down", "names", "numbers", "name"]
theorem scDn : FnScope nDn ["over", "web", "folding", "colouring"] (defScope sLedDown) := ⟨rfl, rfl, rfl, by decide +kernel, rfl, by decide +kernel, by decide +kernel⟩
theorem ok_down {f C CB : Addr} {fd : FuncData} (F : Fun K "led_down" "led_down" sLedDown f fd) (T : TxtW K mg C) (Gn : DefX P w K mg base "need_numbers" ["web", "colouring"] 4 (spNeedN K C CB)) (Gm : MethD P w K mg base C "places" ["self"] 1 (spPlaces C))
    (Gp : Def P w K mg base "places_over" ["over", "web", "folding"] 2 (spPO C)) : FnOk P w K mg base (L2.CX P w) 5 f fd ["over", "web", "folding", "colouring"] (spDown K C CB) := by
  obtain ⟨fn, fdn, Gn, mn, kn, bn⟩ := Gn.ex
  obtain ⟨fm, fdm, Gm, mm, bm⟩ := Gm.ex
  obtain ⟨fp, fdp, Gp, mp, kp, bp⟩ := Gp.ex
  refine okX (k := 4) F scDn (fun vs H Q E h => ?_) (fun cdv A outer s H vs Q E hr h => ?_)
  · obtain ⟨_, _, _, _, _, _, _, _, _, _, _, rfl, _⟩ := h
    rfl
  · obtain ⟨ov, qo, we, qw, fo, c, nm', nm, fkv, g, xs, rfl, hov, hwe, hfo, hc, hnl', hnl, hxl, nd, nd', hne, hg, hxs, kn0, ks, ke⟩ := h
    have hu := hu_of hr
    have tk := takes_of (X := cxOf (L2.CX P w) P w K mg base nDn "led_down" (defScope sLedDown) f cdv A outer s H E) (E := E) rfl rfl rfl rfl
    refine ⟨_, Evl.pss_cut (ps_expr (pe_call Gn hr (by rfl) mn kn bn .nil (passes_call tk fun _ _ _ _ h => h) (pa_cons (pv 0) (pa_cons (pv 3) pa_nil))))
      (Evl.pss_cut (ps_set (i := 4) scDn.nd rfl (Or.inr rfl) (pe_dictZip rfl (by rfl) T.dict (by rfl) T.zip (pa_cons (pe_meth0 (pv 0) T.cl mm Gm (hr.mono (by decide)) bm .nil pass0) (pa_cons (pv 3) pa_nil))))
      (pss_cons (ps_set (i := 5) scDn.nd rfl (Or.inl rfl) (pe_lst pa_nil))
      (pss_cons (ps_for (passes_of rfl) rfl (pi_values (pe_still (pe_call Gp (hr.mono (by decide)) (by rfl) mp kp bp .nil pass0 (pa_cons (pv 0) (pa_cons (pv 1) (pa_cons (pv 2) pa_nil)))))) (pg_name (i := 6) scDn.nd rfl (.inl rfl))
        (Evl.pss_cut (ps_setLc (i := 7) (own := [("name", 8)]) (g := gName 8) (tt := tYes) (te := tDGet (tVar 4) (tVar 8)) rfl scDn.nd rfl rfl (sw_true rfl rfl rfl (by decide +kernel)) (pi_list (pv 6)) (blkOk_by (N := nDn) (sc := defScope sLedDown) (by decide +kernel))
          (fun _ _ _ _ _ => pg_name (i := 8) scDn.nd rfl (Or.inl rfl)) (fun _ _ _ _ _ => pts_nil) (fun _ _ _ _ _ => by exact pe_dget hu (pv 4) (pv 8) (fun _ _ => rfl)))
        (pss_cons (ps_if (pt_cmpR op_ne (pe_lenSetJ (by rfl) T.len (by rfl) T.set (pv 7)) pe_int (nomark _)) (pss_one (ps_ret pe_non)) pss_nil)
        (pss_one (ps_expr (pe_bm PySem.F.plainAttrs_list PySem.F.slot_list_append PySem.F.type_list_append mt_append (pv 5) (pa_cons (pe_ix ix_list (pv 7) pe_int (fun _ _ => rfl)) pa_nil)))))))
      (pss_one (ps_ret (pv 5)))))), ?_⟩
    refine ⟨fun σ H1 => σ = [some (.ref ov), some (.ref we), some (.ref fo), some (.ref c), none, none, none, none, none] ∧ Same H H1 ∧ numsDue xs nm'.length = none, ?_, ?_⟩
    · exact ⟨_, rfl, _, rfl, ov, qo, c, nm', xs, rfl, hov, hc, hnl', hxl, hxs, fun H' s1 hd => ⟨rfl, s1, hd⟩, fun n d H' hd h1 h2 h3 => ke n d H' hd h1 h2 h3⟩
    rintro σ H1 ⟨rfl, s1, hdue⟩
    obtain ⟨ns, rfl, hnsl, hnn⟩ := due_ints hdue
    refine ⟨fun σ H2 => ∃ p, σ = [some (.ref ov), some (.ref we), some (.ref fo), some (.ref c), some (.ref p), none, none, none, none] ∧ H p = none ∧ H2 p = some (.dK (clrKV nm' (ns.map V.int))) ∧ Same H H2, ?_, ?_⟩
    · obtain ⟨dw, fw, hw1, hw2, hw3, hw4⟩ := hov.same s1
      refine ⟨_, rfl, ov, dw, fw, rfl, hw1, hw3, ov, qo, nm', rfl, hov.same s1, hnl', fun r H2 hr0 hr2 s2 => ?_⟩
      have s12 := s1.trans s2
      refine ⟨_, rfl, r, c, nm'.map fun y => (Sum.inr y : Key), ns.map V.int, rfl, SqL.of (by rw [hr2, List.map_map]; rfl), sq_ext hc s12, by rw [List.length_map, List.length_map]; omega, by simpa using hne, fun p hp => ?_⟩
      rw [clr_merge (by rw [List.length_map]; exact hnsl) nd']
      exact ⟨p, rfl, s12.free hp, upd_same, s12.trans (same_new hp)⟩
    rintro σ H2 ⟨p, rfl, hp0, hp, s2⟩
    refine ⟨(by show 0 ≤ sizeLine; decide), fun dn hdn => ?_⟩
    have s3 := s2.trans (same_new (o := .lst []) hdn)
    have hp3 := same_new (o := .lst []) hdn _ _ hp
    have hdn3 : (upd H2 dn (.lst [])) dn = some (.lst []) := upd_same
    have hdn0 := s2.free hdn
    generalize upd H2 dn (.lst []) = H3 at *
    refine ⟨_, rfl, _, rfl, _, rfl, ov, qo, we, qw, fo, nm', nm, fkv, g, rfl, hov.same s3, hwe.same s3, s3 _ _ hfo, hnl', hnl, nd, hg, fun D as H4 hD0 hD4 hal has s4 => ?_⟩
    refine ⟨D, _, rfl, hD4, trivial, fun od => ⟨D, od, _, rfl, upd_same, ?_⟩⟩
    have hDf : (upd H4 D (.frz od (.dK (poKV nm as)))) D = some (.frz od (.dK (poKV nm as))) := upd_same
    have s5 : Same H3 (upd H4 D (.frz od (.dK (poKV nm as)))) := fun b o e => by
      rw [upd_ne (ne_of_none e hD0)]
      exact s4 b o e
    have ha5 : ∀ (q : Nat) (a : Addr) (y : Str), as[q]? = some a → nm[q]? = some y → a ≠ dn ∧ (upd H4 D (.frz od (.dK (poKV nm as)))) a = some (.lst ((overL nm' g y).map V.str)) := fun q a y ha hy => by
      obtain ⟨e0, e⟩ := has q a y ha hy
      refine ⟨fun z => ?_, ?_⟩
      · subst z
        rw [hdn3] at e0
        cases e0
      · rw [upd_ne (ne_of e hD4 (by intro z; cases z))]
        exact e
    have hDn : D ≠ dn := fun z => by
      subst z
      rw [hdn3] at hD0
      cases hD0
    have hpn : p ≠ dn := fun z => by
      subst z
      rw [hdn3] at hp3
      cases hp3
    have hdn5 := s5 _ _ hdn3
    have hp5 := s5 _ _ hp3
    have s05 := s3.trans s5
    generalize upd H4 D (.frz od (.dK (poKV nm as))) = H5 at *
    refine for_it walk_values (fun i σ H6 => ∃ v6 v7 ds, σ = [some (.ref ov), some (.ref we), some (.ref fo), some (.ref c), some (.ref p), some (.ref dn), v6, v7, none] ∧ downL ((groups nm' nm g ns).take i) = some ds ∧ ds.length ≤ i ∧ H6 dn = some (.lst (ds.map V.int)) ∧ But dn H5 H6)
      ⟨none, none, [], rfl, rfl, Nat.le_refl _, hdn5, fun b o e _ => e⟩ (fun i σ H6 _ ⟨_, _, _, _, _, _, _, k⟩ => k D _ hDf hDn) ?_ ?_
    · rintro i x σ H6 H7 hi ⟨v6, v7, ds, rfl, hds, hdl, hdn6, k6⟩ ⟨rfl, kk, hx⟩
      obtain ⟨y, a, hy, ha, rfl⟩ := po_get hx
      rw [po_len hal] at hi
      obtain ⟨han, hae⟩ := ha5 i a y ha hy
      have hol : (overL nm' g y).length ≤ 1000 := by
        have := List.length_filter_le (fun x => decide (g x = y)) nm'
        show ((nm'.filter fun x => decide (g x = y)).length) ≤ 1000
        omega
      have hgl : (groups nm' nm g ns)[i]? = some ((overL nm' g y).map (intAt nm' ns)) := by
        unfold groups
        rw [List.getElem?_map, hy]
        rfl
      refine ⟨fun σ H8 => ∃ L, σ = [some (.ref ov), some (.ref we), some (.ref fo), some (.ref c), some (.ref p), some (.ref dn), some (.ref a), some (.ref L), none] ∧ H8 L = some (.lst (((overL nm' g y).map (intAt nm' ns)).map V.int)) ∧ H8 dn = some (.lst (ds.map V.int)) ∧ But dn H5 H8, ?_, ?_⟩
      · refine ⟨_, rfl, a, rfl, ⟨_, SqL.of (k6 _ _ hae han)⟩, fun L hL => ?_⟩
        refine lc_it (walk_list (xs := (overL nm' g y).map V.str)) (fun j H8 => H8 L = some (.lst ((((overL nm' g y).take j).map (intAt nm' ns)).map V.int)) ∧ Same H7 H8) ⟨upd_same, same_new hL⟩ (fun j H8 _ h => SqL.of (h.2 _ _ (k6 _ _ hae han))) ?_ ?_
        · rintro j x H9 H8 hj ⟨hL8, s8⟩ ⟨rfl, hx'⟩
          rw [List.length_map] at hj
          rw [List.getElem?_map] at hx'
          obtain ⟨y', hy', rfl⟩ := Option.map_eq_some_iff.mp hx'
          have hin : y' ∈ nm' := (List.mem_filter.mp (List.mem_of_getElem? hy')).1
          have d2 : DGet H8 p (V.str y') (some (V.int (intAt nm' ns y'))) := by rw [← int_at hnsl nd' hin]; exact DGet.k (k := Sum.inr y') (s8 _ _ (k6 _ _ hp5 hpn))
          refine ⟨rfl, tyes ?_⟩
          refine ⟨_, rfl, _, rfl, p, _, rfl, d2, _, hL8, Evl.sz_lt (by rw [List.length_map, List.length_map, List.length_take]; omega), ?_, fun b o e => ?_⟩
          · rw [upd_same, List.take_add_one, hy', List.map_append, List.map_append]
            rfl
          · rw [upd_ne (ne_of_none e hL)]
            exact s8 _ _ e
        · rintro H8 ⟨hL8, s8⟩
          rw [List.length_map, List.take_length] at hL8
          exact ⟨L, rfl, hL8, s8 _ _ hdn6, fun b o e n => s8 _ _ (k6 b o e n)⟩
      rintro σ H8 ⟨L, rfl, hL8, hdn8, k8⟩
      refine ⟨_, rfl, L, (overL nm' g y).map (intAt nm' ns), rfl, SqL.of hL8, by rw [List.length_map]; omega, rfl, _, rfl, ?_⟩
      generalize hgrp : (overL nm' g y).map (intAt nm' ns) = grp at *
      show (if (!decide (V.int (((firstMet (fun i => grp.getD i 0) grp.length).length : Nat) : Int) = V.int 1)) = true then _ else _)
      rw [dec_int]
      have hone := met_one (ns := grp)
      cases hs : same1 grp with
      | none =>
        rw [hs] at hone
        have hb : ((((firstMet (fun i => grp.getD i 0) grp.length).length : Nat) : Int) == 1) = false := by
          rw [beq_eq_false_iff_ne]
          intro z
          have := hone.mp (by omega)
          cases this
        rw [hb]
        refine iteT ?_
        refine kn0 ns H8 rfl hdue (downL_bad hds hgl hs) fun b o e => ?_
        exact k8 b o (s05 b o e) (ne_of_none e hdn0)
      | some n =>
        rw [hs] at hone
        have h1 := hone.mpr rfl
        rw [h1]
        refine iteF ?_
        have hn := same1_head hs
        refine ⟨_, rfl, .inl ⟨rfl, _, SqL.of hdn8⟩, _, rfl, L, _, 0, V.int n, rfl, rfl, SqL.of hL8, atI_nat (by rw [List.getElem?_map, hn]; rfl), dn, _, _, rfl, rfl, hdn8, Evl.sz_lt (by rw [List.length_map]; omega), ?_⟩
        refine ⟨_, _, ds ++ [n], rfl, downL_next hds hgl hs, by rw [List.length_append, List.length_singleton]; omega, by rw [upd_same, List.map_append]; rfl, fun b o e nb => ?_⟩
        rw [upd_ne nb]
        exact k8 b o e nb
    · rintro σ H6 ⟨v6, v7, ds, rfl, hds, hdl, hdn6, k6⟩
      have e : (groups nm' nm g ns).take (poKV nm as).length = groups nm' nm g ns := List.take_of_length_le (by rw [po_len hal]; unfold groups; rw [List.length_map]; exact Nat.le_refl _)
      rw [e] at hds
      refine ⟨_, rfl, ks ns ds dn H6 rfl hdue hds hdn0 hdn6 fun b o e => ?_⟩
      exact k6 b o (s05 b o e) (ne_of_none e hdn0)
end
end Nm
set_option maxRecDepth 100000
set_option maxHeartbeats 4000000
/-! set(a list of ints), so that it may be sorted -/
namespace Nm
open PySem PySem.Spec PyProof.Rows L2
section
variable {P : Program} {w : World} {A : Around} {E : Value → Shared → Prop} {s : Shared}
/-- the ints below i, as a set -/
abbrev below (ns : List Int) (i : Nat) : Int → Bool := fun k => (ns.take i).any (· == k)
theorem below_next' {ns : List Int} {i : Nat} {k : Int} (h : ns[i]? = some k) (j : Int) : below ns (i + 1) j = (below ns i j || decide (j = k)) := by
  show (ns.take (i + 1)).any _ = _
  rw [List.take_add_one, h, List.any_append]
  show (below ns i j || ((k == j) || false)) = _
  congr 1
  rw [Bool.or_false]
  by_cases e : j = k
  · subst e
    simp
  · have : ¬ k = j := fun z => e z.symm
    simp [e, this]
/-- the loop that fills it -/
theorem si_loop {I : Addr} {fp wr : List Addr} {G : Array GenState → Array GenState → Prop} {n : Nat} {Pv : Nat → Value → Prop} {St : Nat → Shared → Prop} {R : Result → Shared → Prop} (W : WalksS P w A.in1 I fp wr G n Pv St) (S : Addr) (off : S ∉ fp) (ns : List Int) (hn : n = ns.length) (few : ns.length < 64)
    (hval : ∀ i v, Pv i v → ∃ k tk, ns[i]? = some k ∧ v = Value.int k tk) (h0 : Heap) (new : h0.get? S = none) (newW : ∀ b ∈ wr, h0.get? b = none) :
    ∀ (k i : Nat) (s : Shared), n - i = k → i ≤ n → St i s → (∀ b o, h0.get? b = some o → s.heap.get? b = some o) → (∃ m, m ≤ i ∧ SetR w s.heap S (below ns i) m) →
      (∀ s' m, Moved (S :: wr) G s s' → m ≤ n → SetR w s'.heap S (below ns n) m → (∀ b o, h0.get? b = some o → s'.heap.get? b = some o) → R (.ok (.ret .none)) s') →
      codeAny (model P w) A (.builtin "set.update.loop" ⟨[.ref S, .ref I], []⟩) R s := by
  have offW : S ∉ wr := fun z => off (W.sub _ z)
  have up : ∀ b ∈ wr, b ∈ S :: wr := fun b z => List.mem_cons_of_mem _ z
  have kept : ∀ {s s' : Shared}, Moved wr G s s' → (∀ b o, h0.get? b = some o → s.heap.get? b = some o) → ∀ b o, h0.get? b = some o → s'.heap.get? b = some o := fun mv k b o e =>
    mv.heap b o (fun z => by rw [newW b z] at e; cases e) (k b o e)
  intro k
  induction k with
  | zero =>
    intro i s d hi st k0 ⟨m, hm, hS⟩ hR
    obtain rfl : i = n := by omega
    refine codeAny_builtin F.entry_set_update_loop ?_
    rw [Around.under_plainId F.plain_set_update_loop _]
    show wpAny _ A.in1 (pyNext (.ref I) >>= _) _ _ s
    refine wpAny_bind (W.done s _ _ st fun s' mv => ?_)
    show wpAny _ A.in1 (ret Value.none) _ _ s'
    exact wpAny_pure (hR s' m (mv.mono up) hm (hS.at fun o e => mv.heap S o offW e) (kept mv k0))
  | succ k ih =>
    intro i s d hi st k0 ⟨m, hm, hS⟩ hR
    have lt : i < n := by omega
    refine codeAny_builtin F.entry_set_update_loop ?_
    rw [Around.under_plainId F.plain_set_update_loop _]
    show wpAny _ A.in1 (pyNext (.ref I) >>= _) _ _ s
    refine wpAny_bind (W.item i s _ _ lt st fun v s' hP st' mv => ?_)
    obtain ⟨x, tk, hx, rfl⟩ := hval i v hP
    have k1 := kept mv k0
    have hS' : SetR w s'.heap S (below ns i) m := hS.at fun o e => mv.heap S o offW e
    show wpAny _ A.in1 (holding [Value.int x tk] (setAdd S (.int x tk)) >>= _) _ _ s'
    refine wpAny_bind (wpAny_holding ?_)
    unfold setAdd
    refine wpAny_holding (wpAny_bind ((intKind P w).pyHash (intKind_is P w x tk) ?_))
    refine setR_add_hashed (s := { s' with toks := s'.toks + 1 }) hS' (by unfold scanBound; omega) fun h' sb r => ?_
    have r' : SetR w h' S (below ns (i + 1)) (if below ns i x = true then m else m + 1) := r.congr fun j => below_next' hx j
    have k2 : ∀ b o, h0.get? b = some o → h'.get? b = some o := fun b o e => (sb.2 b (fun z => by rw [z, new] at e; cases e)).trans (k1 b o e)
    refine wpAny_pure ⟨plainId_quiet F.plain_set_update_loop _, ih (i + 1) _ (by omega) lt (W.frame _ s' _ _ st' (Nat.le_add_right _ _) fun b hb o e => ?_) k2 ⟨_, by split <;> omega, r'⟩ fun s'' m2 mv2 hm2 hS2 k3 => ?_⟩
    · exact (sb.2 b (fun z : b = S => off (by rw [← z]; exact hb))).trans e
    · refine hR s'' m2 (Moved.trans W.gtrans ((mv.mono up).then_heap (Nat.le_add_right _ _) fun b o hb e => ?_) mv2) hm2 hS2 k3
      exact (sb.2 b (fun z : b = S => hb (by rw [z]; exact List.mem_cons_self))).trans e
/-- the empty set as it is made -/
abbrev set0 (w : World) : Obj := { cls := .type "set", dict := none, data := .set #[] 0 (.fresh 0 0 (!w.params.followText "set-order")) }
theorem si_call {l : Addr} {items : Array Value} {ns : List Int} {Q : Value → Shared → Prop} (hh : A.handled = none) (hl : s.heap.IsList l items) (hit : IntsAre items.toList ns) (few : ns.length < 64)
    (h : ∀ (h' : Heap) (tk m : Nat), m ≤ ns.length → SetR w h' s.heap.objs.size (below ns ns.length) m → (∀ b o, s.heap.get? b = some o → h'.get? b = some o) → Q (.ref s.heap.objs.size) { s with heap := h', toks := tk }) :
    wpAny (model P w) A (call (.type "set") [.ref l]) Q E s := by
  have size : items.size = ns.length := by
    have q := hit.length
    rw [Array.length_toList] at q
    exact q
  obtain ⟨c, tl, hmro⟩ := F.called_set.mro
  have hmade := F.called_set.made
  have hsub := F.called_set.sub
  refine wpAny_call (codeAny_of_tree ?_)
  show wpAny _ _ (callAny (.type "set") _) _ _ _
  refine wpAny_pure ⟨Code.quiet_builtin _ (by decide +kernel), codeAny_builtin F.entry_type_call ?_⟩
  rw [Around.under_plain (weight_type_call_type "set" [.ref l] []) rfl]
  have h1 := F.called_set.notType
  have h2 := F.called_set.canCreate
  have hct := F.typeCall_set_1 (.ref l)
  repeat (any_goals (first | assumption | wp_step))
  refine codeAny_mono (code_set_led1 (.ref l) (E := E) (Q₁ := fun obj s₁ => obj = .ref s.heap.objs.size ∧ s₁ = { s with heap := s.heap.push (set0 w) }) ⟨rfl, rfl⟩) fun r s₁ hr => ?_
  cases r with
  | error e => exact hr
  | ok fl =>
    cases fl with
    | ret obj =>
      obtain ⟨rfl, rfl⟩ := hr
      have hS : (s.heap.push (set0 w)).get? s.heap.objs.size = some (set0 w) := Heap.get?_push_size _ rfl
      have hT : Shared.TypeIs { s with heap := s.heap.push (set0 w) } (.ref s.heap.objs.size) "set" := ⟨_, hS, rfl⟩
      have hli := F.called_set.init.lookup
      have hbi := F.called_set.init.bind (.ref s.heap.objs.size)
      repeat (any_goals (first | assumption | wp_step))
      refine codeAny_mono (codeAny_call_builtin (R := wants (fun r s₂ => r = .none ∧ ∃ h' tk m, s₂ = { s with heap := h', toks := tk } ∧ m ≤ ns.length ∧ SetR w h' s.heap.objs.size (below ns ns.length) m ∧ (∀ b o, s.heap.get? b = some o → h'.get? b = some o)) E)
        F.called_set.init.plain F.entry_set_init (check_set_init_1 hT ?_)) fun r₂ s₂ hr₂ => ?_
      · obtain ⟨⟨oc, od, odat, osl⟩, hol, hcl, nl, hdl⟩ := hl
        simp only at hcl hdl
        subst hcl hdl
        have hol' : (s.heap.push (set0 w)).get? l = some { cls := .type "list", dict := od, data := .seq items nl, slots := osl } := Heap.get?_push_of_some _ hol
        have hsls := F.sub_list_set
        have hslf := F.sub_list_frozenset
        have hne : (Value.type "list" == Value.type "dict") = false := by decide
        have hl1 : (s.heap.push (set0 w)).IsList l items := ⟨_, hol', rfl, nl, rfl⟩
        unfold Builtin.«set.__init__» noKeywords Builtin.Frozenset.updateFrom
        generalize hPI : pyIter = PI
        wp_walk
        subst hPI
        refine wpAny_pyIter_list hl1 (wpAny_bind (wpAny_runValue ?_))
        have hlS : l < s.heap.objs.size := Heap.lt_size hol
        have hh3 : A.in1.in1.in1.handled = none := by simp [hh]
        have hneI : l ≠ (s.heap.push (set0 w)).objs.size := by
          rw [Heap.size_push]
          exact Nat.ne_of_lt (Nat.lt_succ_of_lt hlS)
        have off : s.heap.objs.size ∉ [(s.heap.push (set0 w)).objs.size, l] := by
          rw [Heap.size_push]
          simp only [List.mem_cons, List.not_mem_nil, or_false, not_or]
          exact ⟨Nat.ne_of_lt (Nat.lt_succ_self _), Nat.ne_of_gt hlS⟩
        have fresh : ∀ b, s.heap.objs.size ≤ b → s.heap.get? b = none := fun b hb => Heap.get?_none_of_le hb
        refine si_loop ((Walks.list hh3 _ l hneI items).toS) s.heap.objs.size off ns size few (fun i v hv => ?_) s.heap (fresh _ (Nat.le_refl _)) (fun b hb => fresh b (by
            rw [List.mem_singleton.mp hb, Heap.size_push]
            exact Nat.le_succ _)) (items.size - 0) 0 _ (by omega) (Nat.zero_le _)
          ⟨⟨_, Heap.get?_push_size _ rfl, rfl, rfl⟩, (hl1.push _)⟩ (fun b o e => Heap.get?_push_of_some _ (Heap.get?_push_of_some _ e)) ?start ?fin
        · have hv' : items[i]? = some v := hv
          obtain ⟨t, e⟩ := IntsAre.int_at hit i v (by rw [Array.getElem?_toList]; exact hv')
          have hi : i < ns.length := by
            have := (Array.getElem?_eq_some_iff.mp hv').1
            omega
          exact ⟨ns.getD i 0, t, by rw [List.getD_eq_getElem?_getD, List.getElem?_eq_getElem hi]; rfl, e⟩
        case start => exact ⟨0, Nat.le_refl _, SetR.at (setR_fresh w) fun o e => Heap.get?_push_of_some _ e⟩
        case fin =>
          intro s' m mv hm hS' kp
          obtain ⟨h', g2, d', tk', os'⟩ := s'
          have eg : g2 = s.gens := mv.gens
          have ed : d' = s.drawn := mv.drawn
          have eo : os' = s.os := mv.os
          subst eg ed eo
          show wpAny _ _ _ _ _ _
          refine wpAny_pure ?_
          show wpAny _ _ (ret Value.none) _ _ _
          rw [size] at hm hS'
          exact wpAny_pure ⟨rfl, h', tk', m, rfl, hm, hS', kp⟩
      · cases r₂ with
        | error e => exact hr₂
        | ok fl₂ =>
          cases fl₂ with
          | ret r =>
            obtain ⟨rfl, h', tk, m, rfl, hm, hS', hk'⟩ := hr₂
            repeat (any_goals (first | assumption | wp_step))
            exact h _ _ _ hm hS' hk'
          | _ => exact hr₂.elim
    | _ => exact hr.elim
end
section
variable {X : Cx}
def rSetI (K : PySem.W.Frag) (w : World) : List V → Hp → VK → Prop := fun xs H Q => ∃ (l : Addr) (ns : List Int), xs = [.ref l] ∧ SqL K H l (ns.map V.int) ∧ ns.length < 64 ∧ ∀ (a : Addr) (m : Nat), H a = none → m ≤ ns.length → Q (.ref a) (upd H a (SetO w a (below ns ns.length) m))
theorem cr_setI (hc : X.calm = true) : CallR X (.type "set") (rSetI X.K X.w) := by
  intro pins s σ H xs us Q I r h
  obtain ⟨l, ns, rfl, hl, hf, q⟩ := h
  rw [Vals.ref1 r]
  obtain ⟨its, rv, pl, hz⟩ := I.list hl
  refine si_call (P := X.prog) (w := X.w) (I.ok.hd hc) pl.isList (by simpa using RZ.intsAre_vals rv) hf fun h' tk m hm R k => ?_
  exact ⟨.ref s.heap.objs.size, _, I.laid (t' := tk) k (Nat.le_refl _) (setO_new R), rfl, q _ m (I.hok.fresh (Nat.le_refl _)) hm⟩
end
end Nm
set_option maxRecDepth 100000
set_option maxHeartbeats 4000000
/-! the law's own: _law_is_whole, _law_numbers_due, _law_down_due -/
namespace Nm
open PySem PySem.Spec PyProof.Rows L2
section
variable {P : Program} {w : World} {K : PySem.W.Frag} {mg : Str → Option Value} {base : Heap}
/-! ### _law_is_whole -/
def wholeB : V → Bool
  | .int _ => true
  | _ => false
def spWhole : Sp := fun vs H Q _ => ∃ x : V, vs = [x] ∧ NumX H x ∧ Q (.bl (wholeB x)) H
theorem scWh : FnScope ["_law_value"] ["_law_value"] (defScope sIsWhole) := ⟨rfl, rfl, rfl, by decide +kernel, rfl, by decide +kernel, by decide +kernel⟩
theorem ok_whole {f : Addr} {fd : FuncData} (F : Fun K "_law_is_whole" "_law_is_whole" sIsWhole f fd) (T : TxtG mg) : FnOk P w K mg base CX0 1 f fd ["_law_value"] spWhole := by
  refine F.ok scWh (fun vs H Q E h => ?_) (fun cdv A outer s H vs Q E hr h => ?_)
  · obtain ⟨_, rfl, _⟩ := h
    rfl
  · obtain ⟨x, rfl, hx, k⟩ := h
    refine ⟨_, pss_one (ps_ret (pe_and (pe_callB call_isi (by rfl) T.isinstance (by decide +kernel) (pa_cons (pv 0) (pa_cons (pe_bltn (v := .ty "int") (by rfl) T.int (by decide +kernel) rfl) pa_nil)))
      (pe_one (pe_not (pe_callB call_isi (by rfl) T.isinstance (by decide +kernel) (pa_cons (pv 0) (pa_cons (pe_bltn (v := .ty "bool") (by rfl) T.bool (by decide +kernel) rfl) pa_nil))))))), ?_⟩
    cases hx with
    | int i =>
      refine ⟨_, rfl, _, _, _, _, true, rfl, ClsV.ty "int", TyX.base (TyOf.int i), kit_ty (by decide +kernel), _, rfl, iteT ?_⟩
      exact ⟨_, rfl, _, _, _, _, false, rfl, ClsV.ty "bool", TyX.base (TyOf.int i), kit_ty (by decide +kernel), _, rfl, k⟩
    | bl b =>
      refine ⟨_, rfl, _, _, _, _, true, rfl, ClsV.ty "int", TyX.base (TyOf.bl b), kit_ty (by decide +kernel), _, rfl, iteT ?_⟩
      exact ⟨_, rfl, _, _, _, _, true, rfl, ClsV.ty "bool", TyX.base (TyOf.bl b), kit_ty (by decide +kernel), _, rfl, k⟩
    | non => exact ⟨_, rfl, _, _, _, _, false, rfl, ClsV.ty "int", TyX.base TyOf.non, kit_ty (by decide +kernel), _, rfl, iteF k⟩
    | str z => exact ⟨_, rfl, _, _, _, _, false, rfl, ClsV.ty "int", TyX.base (TyOf.str z), kit_ty (by decide +kernel), _, rfl, iteF k⟩
    | lst e => exact ⟨_, rfl, _, _, _, _, false, rfl, ClsV.ty "int", TyX.base (TyOf.lst e), kit_ty (by decide +kernel), _, rfl, iteF k⟩
    | tup e => exact ⟨_, rfl, _, _, _, _, false, rfl, ClsV.ty "int", TyX.base (TyOf.tup e), kit_ty (by decide +kernel), _, rfl, iteF k⟩
/-! ### _law_numbers_due -/
/-- what a refusal is told as -/
def badV (n : Nat) : List V := [V.str "BadNumber", V.str ((toString (n : Int) : String) : Str)]
def spNDue (K : PySem.W.Frag) : Sp := fun vs H Q _ => ∃ (c : Addr) (xs : List V) (m : Nat), vs = [.ref c, .int (m : Int)] ∧ (SqL K H c xs ∨ SqT K H c xs) ∧ xs.length ≤ 1000 ∧ (∀ x ∈ xs, NumX H x) ∧
  (∀ H', Same H H' → numsDue xs m = none → Q .non H') ∧ ∀ (n : Nat) (r : Addr) (H' : Hp), numsDue xs m = some n → H r = none → H' r = some (.lst (badV n)) → Same H H' → Q (.ref r) H'
abbrev nND : List Str := ["_law_value", "_law_many", "_law_place", "_law_number"]
theorem scND : FnScope nND ["_law_value", "_law_many"] (defScope sNumbersDue) := ⟨rfl, rfl, rfl, by decide +kernel, rfl, by decide +kernel, by decide +kernel⟩
structure TxtN (mg : Str → Option Value) : Prop extends TxtH mg where
  repr : mg "repr" = none
theorem ok_nDue {f : Addr} {fd : FuncData} (F : Fun K "_law_numbers_due" "_law_numbers_due" sNumbersDue f fd) (T : TxtN mg) (Gw : Def P w K mg base "_law_is_whole" ["_law_value"] 1 spWhole) : FnOk P w K mg base CX0 2 f fd ["_law_value", "_law_many"] (spNDue K) := by
  obtain ⟨fw, fdw, Gw, mw, kw, bw⟩ := Gw.ex
  refine F.ok (k := 1) scND (fun vs H Q E h => ?_) (fun cdv A outer s H vs Q E hr h => ?_)
  · obtain ⟨_, _, _, rfl, _⟩ := h
    rfl
  · obtain ⟨c, xs, m, rfl, hc, hxl, hxs, kq, ke⟩ := h
    refine ⟨_, pss_cons (ps_for PassesOwn.never rfl (pi_enumA (by rfl) T.enumerate (pa_cons (pv 0) pa_nil)) (pg_tup rfl (pgs_cons (pg_name (i := 2) scND.nd rfl (.inl rfl)) (pgs_cons (pg_name (i := 3) scND.nd rfl (.inl rfl)) pgs_nil)))
        (pss_one (ps_if (PW.pt (pw_or (pt_not (pt_val (pe_call Gw hr (by rfl) mw kw bw .nil pass0 (pa_cons (pv 3) pa_nil)))) (pw_or1 (pt_cmpR op_lt (pv 3) pe_int (nomark _)))))
          (pss_one (ps_ret (pe_lst (pa_cons pe_str (pa_cons (pe_callB SkE.call_repr_int (by rfl) T.repr (by decide +kernel) (pa_cons (pv 2) pa_nil)) pa_nil))))) pss_nil)))
      (pss_one (ps_ret (pe_ifExp (pt_cmpR op_eq (pe_callB call_len_seq (by rfl) T.len PySem.boot_len (pa_cons (pv 0) pa_nil)) (pv 1) (nomark _)) pe_non
        (pe_lst (pa_cons pe_str (pa_cons (pe_callB SkE.call_repr_int (by rfl) T.repr (by decide +kernel) (pa_cons (pe_callB call_len_seq (by rfl) T.len PySem.boot_len (pa_cons (pv 0) pa_nil)) pa_nil)) pa_nil)))))), ?_⟩
    have hc0 := hc
    refine ⟨_, rfl, c, xs, rfl, ?_⟩
    rcases hc with hc | hc
    · refine .inl ⟨hc, ?_⟩
      refine for_it (walk_enum (xs := xs)) (fun i σ H2 => ∃ v2 v3, σ = [some (.ref c), some (.int (m : Int)), v2, v3] ∧ (∀ y ∈ xs.take i, numOk y = true) ∧ Same H H2) ⟨none, none, rfl, by simp, fun b o e => e⟩ (fun i σ H2 _ ⟨_, _, _, _, h⟩ => (sq_l h hc)) ?_ ?_
      · rintro i x σ H2 H3 hi ⟨v2, v3, rfl, hok, s2⟩ ⟨T', x1, y1, rfl, hT, rfl, e1, e2⟩
        cases e1
        have e2 : xs[i]? = some y1 := e2
        have sT := same_new (o := .tup [V.int (i : Nat), y1]) hT
        have s3 : Same H (upd H2 T' (.tup [V.int (i : Nat), y1])) := fun b o e => sT _ _ (s2 b o e)
        refine ⟨T', _, rfl, SqT.of upd_same, rfl, _, _, rfl, _, _, rfl, rfl, ?_⟩
        generalize upd H2 T' (.tup [V.int (i : Nat), y1]) = H4 at *
        refine ⟨_, rfl, y1, rfl, (hxs y1 (List.mem_of_getElem? e2)).ext s3, ?_⟩
        have bad : numOk y1 = false → ∀ (r : Addr) (H' : Hp), H4 r = none → H' = upd H4 r (.lst (badV i)) → Q (.ref r) H' := fun hb r H' hr0 e => by
          subst e
          exact ke i r _ (due_at hok e2 hb) (s3.free hr0) upd_same (s3.trans (same_new hr0))
        have good : numOk y1 = true → ∃ v2 v3, [some (V.ref c), some (V.int (m : Int)), some (V.int ((i : Nat) : Int)), some y1] = [some (.ref c), some (.int (m : Int)), v2, v3] ∧ (∀ y ∈ xs.take (i + 1), numOk y = true) ∧ Same H H4 := fun hn => by
          refine ⟨_, _, rfl, fun y hy => ?_, s3⟩
          rw [List.take_add_one, e2] at hy
          rcases List.mem_append.mp hy with z | z
          · exact hok y z
          · obtain rfl : y = y1 := by simpa using z
            exact hn
        have hi' : i < 1000 := by omega
        refine ⟨_, rfl, ?_⟩
        cases y1 with
        | int i0 =>
          refine iteF ⟨_, rfl, i0, 0, rfl, rfl, _, rfl, ?_⟩
          by_cases hneg : i0 < 0
          · rw [decide_eq_true hneg]
            exact iteT ⟨_, rfl, (i : Int), rfl, num_log (by omega), by show (2 : Nat) ≤ sizeLine; decide, fun r hr0 => bad (decide_eq_false (by omega)) r _ hr0 rfl⟩
          · rw [decide_eq_false hneg]
            exact iteF (good (decide_eq_true (by omega)))
        | _ => exact iteT (iteT ⟨_, rfl, (i : Int), rfl, num_log (by omega), by show (2 : Nat) ≤ sizeLine; decide, fun r hr0 => bad rfl r _ hr0 rfl⟩)
      · rintro σ H2 ⟨v2, v3, rfl, hok, s2⟩
        rw [List.take_length] at hok
        have hdue := due_len (m := m) hok
        refine ⟨_, rfl, c, xs, rfl, sq_ext hc0 s2, _, rfl, rfl, _, rfl, ?_⟩
        show (if (decide (V.int ((xs.length : Nat) : Int) = V.int ((m : Nat) : Int))) = true then _ else _)
        rw [dec_int]
        by_cases hl : xs.length = m
        · rw [if_pos hl] at hdue
          rw [hl, beq_self_eq_true]
          exact iteT (kq _ s2 hdue)
        · rw [if_neg hl] at hdue
          have hb : (((xs.length : Nat) : Int) == ((m : Nat) : Int)) = false := by
            rw [beq_eq_false_iff_ne]
            omega
          rw [hb]
          exact iteF ⟨_, rfl, c, xs, rfl, sq_ext hc0 s2, ((xs.length : Nat) : Int), rfl, num_log (by omega), by show (2 : Nat) ≤ sizeLine; decide, fun r hr0 => ke _ r _ hdue (s2.free hr0) upd_same (s2.trans (same_new hr0))⟩
    · refine .inr ⟨hc, ?_⟩
      refine for_it (walk_enT (xs := xs)) (fun i σ H2 => ∃ v2 v3, σ = [some (.ref c), some (.int (m : Int)), v2, v3] ∧ (∀ y ∈ xs.take i, numOk y = true) ∧ Same H H2) ⟨none, none, rfl, by simp, fun b o e => e⟩ (fun i σ H2 _ ⟨_, _, _, _, h⟩ => (sq_t h hc)) ?_ ?_
      · rintro i x σ H2 H3 hi ⟨v2, v3, rfl, hok, s2⟩ ⟨T', x1, y1, rfl, hT, rfl, e1, e2⟩
        cases e1
        have e2 : xs[i]? = some y1 := e2
        have sT := same_new (o := .tup [V.int (i : Nat), y1]) hT
        have s3 : Same H (upd H2 T' (.tup [V.int (i : Nat), y1])) := fun b o e => sT _ _ (s2 b o e)
        refine ⟨T', _, rfl, SqT.of upd_same, rfl, _, _, rfl, _, _, rfl, rfl, ?_⟩
        generalize upd H2 T' (.tup [V.int (i : Nat), y1]) = H4 at *
        refine ⟨_, rfl, y1, rfl, (hxs y1 (List.mem_of_getElem? e2)).ext s3, ?_⟩
        have bad : numOk y1 = false → ∀ (r : Addr) (H' : Hp), H4 r = none → H' = upd H4 r (.lst (badV i)) → Q (.ref r) H' := fun hb r H' hr0 e => by
          subst e
          exact ke i r _ (due_at hok e2 hb) (s3.free hr0) upd_same (s3.trans (same_new hr0))
        have good : numOk y1 = true → ∃ v2 v3, [some (V.ref c), some (V.int (m : Int)), some (V.int ((i : Nat) : Int)), some y1] = [some (.ref c), some (.int (m : Int)), v2, v3] ∧ (∀ y ∈ xs.take (i + 1), numOk y = true) ∧ Same H H4 := fun hn => by
          refine ⟨_, _, rfl, fun y hy => ?_, s3⟩
          rw [List.take_add_one, e2] at hy
          rcases List.mem_append.mp hy with z | z
          · exact hok y z
          · obtain rfl : y = y1 := by simpa using z
            exact hn
        have hi' : i < 1000 := by omega
        refine ⟨_, rfl, ?_⟩
        cases y1 with
        | int i0 =>
          refine iteF ⟨_, rfl, i0, 0, rfl, rfl, _, rfl, ?_⟩
          by_cases hneg : i0 < 0
          · rw [decide_eq_true hneg]
            exact iteT ⟨_, rfl, (i : Int), rfl, num_log (by omega), by show (2 : Nat) ≤ sizeLine; decide, fun r hr0 => bad (decide_eq_false (by omega)) r _ hr0 rfl⟩
          · rw [decide_eq_false hneg]
            exact iteF (good (decide_eq_true (by omega)))
        | _ => exact iteT (iteT ⟨_, rfl, (i : Int), rfl, num_log (by omega), by show (2 : Nat) ≤ sizeLine; decide, fun r hr0 => bad rfl r _ hr0 rfl⟩)
      · rintro σ H2 ⟨v2, v3, rfl, hok, s2⟩
        rw [List.take_length] at hok
        have hdue := due_len (m := m) hok
        refine ⟨_, rfl, c, xs, rfl, sq_ext hc0 s2, _, rfl, rfl, _, rfl, ?_⟩
        show (if (decide (V.int ((xs.length : Nat) : Int) = V.int ((m : Nat) : Int))) = true then _ else _)
        rw [dec_int]
        by_cases hl : xs.length = m
        · rw [if_pos hl] at hdue
          rw [hl, beq_self_eq_true]
          exact iteT (kq _ s2 hdue)
        · rw [if_neg hl] at hdue
          have hb : (((xs.length : Nat) : Int) == ((m : Nat) : Int)) = false := by
            rw [beq_eq_false_iff_ne]
            omega
          rw [hb]
          exact iteF ⟨_, rfl, c, xs, rfl, sq_ext hc0 s2, ((xs.length : Nat) : Int), rfl, num_log (by omega), by show (2 : Nat) ≤ sizeLine; decide, fun r hr0 => ke _ r _ hdue (s2.free hr0) upd_same (s2.trans (same_new hr0))⟩
end
end Nm
set_option maxRecDepth 100000
set_option maxHeartbeats 4000000
/-! _law_down_due -/
namespace Nm
open PySem PySem.Spec PyProof.Rows L2
theorem below_all {l : List Int} {k : Int} : below l l.length k = true ↔ k ∈ l := by
  show (l.take l.length).any _ = true ↔ _
  rw [List.take_length, List.any_eq_true]
  constructor
  · rintro ⟨x, hx, e⟩
    obtain rfl : x = k := by simpa using e
    exact hx
  · exact fun h => ⟨k, h, by simp⟩
theorem set_some {l ns : List Int} {n : Int} (hp : ns.Pairwise (· < ·)) (hm : ∀ k, k ∈ ns ↔ below l l.length k = true) (h : same1 l = some n) : ns = [n] := by
  have only : ∀ k, k ∈ ns ↔ k = n := fun k => by
    rw [hm k, below_all]
    cases l with
    | nil => cases h
    | cons m r =>
      have h : (if r.all (· == m) = true then some m else none) = some n := h
      by_cases c : r.all (· == m) = true
      · rw [if_pos c] at h
        cases h
        rw [List.all_eq_true] at c
        constructor
        · intro z
          rcases List.mem_cons.mp z with z | z
          · exact z
          · simpa using c k z
        · intro z
          rw [z]
          exact List.mem_cons_self
      · rw [if_neg c] at h
        cases h
  cases ns with
  | nil => exact absurd ((only n).mpr rfl) (by simp)
  | cons x r =>
    have hx := (only x).mp List.mem_cons_self
    cases r with
    | nil => rw [hx]
    | cons y t =>
      have hy := (only y).mp (List.mem_cons_of_mem _ List.mem_cons_self)
      have := (List.pairwise_cons.mp hp).1 y List.mem_cons_self
      omega
theorem set_none {l ns : List Int} (hm : ∀ k, k ∈ ns ↔ below l l.length k = true) (h : same1 l = none) : ns.length ≠ 1 := fun e => by
  match ns, e with
  | [x], _ =>
    have only : ∀ k, k ∈ l ↔ k = x := fun k => by
      rw [← below_all, ← hm k]
      simp
    cases l with
    | nil => exact absurd ((only x).mpr rfl) (by simp)
    | cons m r =>
      have hm' := (only m).mp List.mem_cons_self
      have : r.all (· == m) = true := List.all_eq_true.mpr fun k hk => by
        have := (only k).mp (List.mem_cons_of_mem _ hk)
        rw [this, hm']
        simp
      have h : (if r.all (· == m) = true then some m else none) = none := h
      rw [if_pos this] at h
      cases h
section
variable {P : Program} {w : World} {K : PySem.W.Frag} {mg : Str → Option Value} {base : Heap}
def pickN (ns : List Int) (L : List Nat) : List Int := L.map fun w => ns.getD w 0
def spDDue (K : PySem.W.Frag) : Sp := fun vs H Q _ => ∃ (ab c : Addr) (as : List Addr) (grp : List (List Nat)) (ns : List Int), vs = [.ref ab, .ref c] ∧ H ab = some (.lst (as.map V.ref)) ∧ (SqL K H c (ns.map V.int) ∨ SqT K H c (ns.map V.int)) ∧ as.length = grp.length ∧ grp.length ≤ 1000 ∧
  (∀ (q : Nat) (a : Addr), as[q]? = some a → ∃ L, grp[q]? = some L ∧ H a = some (.lst (natV L)) ∧ L.length < 64 ∧ ∀ w ∈ L, w < ns.length) ∧
  (∀ H', Same H H' → downL (grp.map (pickN ns)) = none → Q .non H') ∧ ∀ (ds : List Int) (r : Addr) (H' : Hp), downL (grp.map (pickN ns)) = some ds → H r = none → H' r = some (.lst (ds.map V.int)) → Same H H' → Q (.ref r) H'
abbrev nDD : List Str := ["_law_above_here", "_law_value", "_law_found", "_law_own", "_law_numbers", "_law_w"]
theorem scDD : FnScope nDD ["_law_above_here", "_law_value"] (defScope sDownDue) := ⟨rfl, rfl, rfl, by decide +kernel, rfl, by decide +kernel, by decide +kernel⟩
theorem ok_dDue {f : Addr} {fd : FuncData} (F : Fun K "_law_down_due" "_law_down_due" sDownDue f fd) (T : TxtN mg) : FnOk P w K mg base CX0 1 f fd ["_law_above_here", "_law_value"] (spDDue K) := by
  refine F.ok scDD (fun vs H Q E h => ?_) (fun cdv A outer s H vs Q E hr h => ?_)
  · obtain ⟨_, _, _, _, _, rfl, _⟩ := h
    rfl
  · obtain ⟨ab, c, as, grp, ns, rfl, hab, hc, hal, hgl, hgrp, kq, ks⟩ := h
    refine ⟨_, pss_cons (ps_set (i := 2) scDD.nd rfl (Or.inl rfl) (pe_lst pa_nil))
      (pss_cons (ps_for PassesOwn.never rfl (pi_list (pv 0)) (pg_name (i := 3) scDD.nd rfl (.inl rfl))
        (Evl.pss_cut (ps_set (i := 4) scDD.nd rfl (Or.inl rfl) (pe_callB (cr_sortedSet rfl) (by rfl) T.sorted (by decide +kernel) (pa_cons (pe_callTy (cr_setI rfl) (by rfl) T.set (by decide +kernel) (pa_cons
            (pe_lc (own := [("_law_w", 5)]) (g := gName 5) (tt := tYes) (te := tOp (rIx K) (tVar 1) (tVar 5)) rfl scDD.nd (pi_list (pv 3)) (blkOk_by (N := nDD) (sc := defScope sDownDue) (by decide +kernel))
              (fun _ _ _ _ _ => pg_name (i := 5) scDD.nd rfl (Or.inl rfl)) (fun _ _ _ _ _ => pts_nil) (fun _ _ _ _ _ => by exact pe_ix ix_seq (pv 1) (pv 5) (fun _ _ => rfl))) pa_nil)) pa_nil)))
        (pss_cons (ps_if (pt_cmpR op_ne (pe_callB call_len_seq (by rfl) T.len PySem.boot_len (pa_cons (pv 4) pa_nil)) pe_int (nomark _)) (pss_one (ps_ret pe_non)) pss_nil)
        (pss_one (ps_expr (pe_bm PySem.F.plainAttrs_list PySem.F.slot_list_append PySem.F.type_list_append mt_append (pv 2) (pa_cons (pe_ix ix_list (pv 4) pe_int (fun _ _ => rfl)) pa_nil)))))))
      (pss_one (ps_ret (pv 2)))), ?_⟩
    refine ⟨(by show 0 ≤ sizeLine; decide), fun dn hdn => ?_⟩
    have s1 := same_new (o := .lst []) hdn
    have hdn1 : (upd H dn (.lst [])) dn = some (.lst []) := upd_same
    generalize upd H dn (.lst []) = H1 at *
    refine ⟨_, rfl, ab, rfl, ⟨_, SqL.of (s1 _ _ hab)⟩, ?_⟩
    have hnd : ∀ {b : Addr} {o : HO}, H b = some o → b ≠ dn := fun e => ne_of_none e hdn
    refine for_it (walk_list (xs := as.map V.ref)) (fun i σ H2 => ∃ v3 v4 ds, σ = [some (.ref ab), some (.ref c), some (.ref dn), v3, v4, none] ∧ downL ((grp.map (pickN ns)).take i) = some ds ∧ ds.length ≤ i ∧ H2 dn = some (.lst (ds.map V.int)) ∧ But dn H1 H2)
      ⟨none, none, [], rfl, rfl, Nat.le_refl _, hdn1, fun b o e _ => e⟩ (fun i σ H2 _ ⟨_, _, _, _, _, _, _, k⟩ => SqL.of (k _ _ (s1 _ _ hab) (hnd hab))) ?_ ?_
    · rintro i x σ H3 H2 hi ⟨v3, v4, ds, rfl, hds, hdl, hdn2, k2⟩ ⟨rfl, hx⟩
      rw [List.length_map] at hi
      rw [List.getElem?_map] at hx
      obtain ⟨a, ha, rfl⟩ := Option.map_eq_some_iff.mp hx
      obtain ⟨L, hL, haL, hL64, hLw⟩ := hgrp i a ha
      have ha2 := k2 _ _ (s1 _ _ haL) (hnd haL)
      have hgl' : (grp.map (pickN ns))[i]? = some (pickN ns L) := by rw [List.getElem?_map, hL]; rfl
      have hc2 : SqL K H2 c (ns.map V.int) ∨ SqT K H2 c (ns.map V.int) := by
        have go : ∀ {o : HO}, H c = some o → H2 c = some o := fun e => k2 _ _ (s1 _ _ e) (hnd e)
        exact hc.imp (fun h => h.elim (fun h => .inl (h.elim (fun h => .inl (go h)) fun ⟨o, h⟩ => .inr ⟨o, go h⟩)) .inr) fun h => h.elim (fun h => .inl (h.elim (fun h => .inl (go h)) fun ⟨o, h⟩ => .inr ⟨o, go h⟩)) .inr
      refine ⟨fun σ H4 => ∃ (r : Addr) (out : List Int), σ = [some (.ref ab), some (.ref c), some (.ref dn), some (.ref a), some (.ref r), none] ∧ H4 r = some (.lst (out.map V.int)) ∧ out.Pairwise (· < ·) ∧ (∀ k, k ∈ out ↔ below (pickN ns L) (pickN ns L).length k = true) ∧ out.length < 64 ∧ H4 dn = some (.lst (ds.map V.int)) ∧ But dn H1 H4, ?_, ?_⟩
      · refine ⟨_, rfl, a, rfl, ⟨_, SqL.of ha2⟩, fun D hD => ?_⟩
        refine lc_it (walk_list (xs := natV L)) (fun j H4 => H4 D = some (.lst ((pickN ns (L.take j)).map V.int)) ∧ Same H2 H4) ⟨upd_same, same_new hD⟩ (fun j H4 _ h => SqL.of (h.2 _ _ ha2)) ?_ ?_
        · rintro j x H5 H4 hj ⟨hD4, s4⟩ ⟨rfl, hx'⟩
          have hx' : (L.map fun w : Nat => V.int (w : Int))[j]? = some x := hx'
          rw [List.getElem?_map] at hx'
          obtain ⟨w', hw', rfl⟩ := Option.map_eq_some_iff.mp hx'
          have hwl := hLw w' (List.mem_of_getElem? hw')
          have hjL := (List.getElem?_eq_some_iff.mp hw').1
          have hn : (ns.map V.int)[w']? = some (V.int (ns.getD w' 0)) := by
            rw [List.getElem?_map, List.getD_eq_getElem?_getD, List.getElem?_eq_getElem hwl]
            rfl
          have acc : (List.map V.int (pickN ns (List.take j L))).length < sizeLine := Evl.sz_lt (by rw [List.length_map]; unfold pickN; rw [List.length_map, List.length_take]; omega)
          have nx : (upd H4 D (.lst (List.map V.int (pickN ns (List.take j L)) ++ [V.int (ns.getD w' 0)]))) D = some (.lst ((pickN ns (L.take (j + 1))).map V.int)) := by
            rw [upd_same, List.take_add_one, hw']
            show _ = some (HO.lst (List.map V.int (List.map _ (_ ++ [w']))))
            rw [List.map_append, List.map_append]
            rfl
          have sm : Same H2 (upd H4 D (.lst (List.map V.int (pickN ns (List.take j L)) ++ [V.int (ns.getD w' 0)]))) := fun b o e => by
            rw [upd_ne (ne_of_none e hD)]
            exact s4 _ _ e
          refine ⟨rfl, tyes ?_⟩
          rcases sq_ext hc2 s4 with z | z
          · exact ⟨_, rfl, _, rfl, .inl ⟨c, _, _, _, rfl, rfl, z, atI_nat hn, _, hD4, acc, nx, sm⟩⟩
          · exact ⟨_, rfl, _, rfl, .inr (.inl ⟨c, _, _, _, rfl, rfl, z, atI_nat hn, _, hD4, acc, nx, sm⟩)⟩
        · rintro H4 ⟨hD4, s4⟩
          have e : L.take (natV L).length = L := List.take_of_length_le (by show L.length ≤ (L.map _).length; rw [List.length_map]; exact Nat.le_refl _)
          rw [e] at hD4
          have pl : (pickN ns L).length = L.length := List.length_map _
          refine ⟨D, pickN ns L, rfl, SqL.of hD4, by omega, fun a' m ha' hm => ⟨a', _, m, rfl, upd_same, by omega, fun out r hpw hmem hol hr => ?_⟩⟩
          have sa := s4.trans (same_new (o := SetO (cxOf CX0 P w K mg base nDD "_law_down_due" (defScope sDownDue) f cdv A outer s H E).nox.w a' (below (pickN ns L) (pickN ns L).length) m) ha')
          have sr := sa.trans (same_new (o := .lst (out.map V.int)) hr)
          exact ⟨r, out, rfl, upd_same, hpw, hmem, by omega, sr _ _ hdn2, fun b o e nb => sr _ _ (k2 b o e nb)⟩
      rintro σ H4 ⟨r, out, rfl, hr4, hpw, hmem, hout, hdn4, k4⟩
      refine ⟨_, rfl, r, _, rfl, .inl (SqL.of hr4), rfl, _, rfl, ?_⟩
      rw [List.length_map]
      show (if (!decide (V.int ((out.length : Nat) : Int) = V.int 1)) = true then _ else _)
      rw [dec_int]
      cases hs : same1 (pickN ns L) with
      | none =>
        have hb : (((out.length : Nat) : Int) == 1) = false := by
          rw [beq_eq_false_iff_ne]
          have := set_none hmem hs
          omega
        rw [hb]
        exact iteT (kq H4 (fun b o e => k4 b o (s1 b o e) (hnd e)) (downL_bad hds hgl' hs))
      | some n =>
        have hone := set_some hpw hmem hs
        subst hone
        refine iteF ?_
        refine ⟨_, rfl, .inl ⟨rfl, _, SqL.of hdn4⟩, _, rfl, r, _, 0, V.int n, rfl, rfl, SqL.of hr4, atI_nat rfl, dn, _, _, rfl, rfl, hdn4, Evl.sz_lt (by rw [List.length_map]; omega), ?_⟩
        refine ⟨_, _, ds ++ [n], rfl, downL_next hds hgl' hs, by rw [List.length_append, List.length_singleton]; omega, by rw [upd_same, List.map_append]; rfl, fun b o e nb => ?_⟩
        rw [upd_ne nb]
        exact k4 b o e nb
    · rintro σ H2 ⟨v3, v4, ds, rfl, hds, hdl, hdn2, k2⟩
      have e : (grp.map (pickN ns)).take (as.map V.ref).length = grp.map (pickN ns) := List.take_of_length_le (by rw [List.length_map, List.length_map]; omega)
      rw [e] at hds
      exact ⟨_, rfl, ks ds dn H2 hds hdn hdn2 fun b o e => k2 b o (s1 b o e) (hnd e)⟩
end
end Nm
set_option maxRecDepth 100000
set_option maxHeartbeats 4000000
/-! the end of a law whose promise is told at the caller alone (so that no repr is under way) -/
namespace Nm
open PySem PySem.Spec PyProof.Rows L2 LamX
/-- the promise at the caller -/
def RunC (P : Program) (w : World) (K : PySem.W.Frag) (mg : Str → Option Value) (base : Heap) (CX : CXT) (fa : Addr) (fd : FuncData) (x : Str) (sp : Sp) : Prop :=
  ∀ (s : Shared) (H : Hp) (u : Value) (v : V) (Q : VK) (E : XK), Env0 P w K mg base callerA [] s H → BindsTo s fd ⟨[u], []⟩ [(x, u)] → RelV v u → sp [v] H Q E → codeAny (model P w) callerA (.call (.ref fa) ⟨[u], []⟩) (CR CX [] P w H s Q E) s
/-- the heap at the law's call: the tables, and the script where it is not written -/
def hpL (K : PySem.W.Frag) (cs : List (Addr × Addr)) (a : Addr) (vs : List Value) (ns : List Int) : Hp := fun b =>
  if b ∈ cs.map (·.2) then some (.tbl #[]) else if b = a ∧ K.lookup a = none then some (.frz { cls := .type "list", data := .seq vs.toArray } (.lst (ns.map V.int))) else none
section
variable {P : Program} {w : World} {K : PySem.W.Frag} {mg mb : Str → Option Value} {CX : CXT} {fa a : Addr} {cs : List (Addr × Addr)} {fd : FuncData} {x : Str} {sp : Sp} {s : Shared} {vs : List Value} {ns : List Int}
theorem hpL_tab {b : Addr} (h : b ∈ cs.map (·.2)) : hpL K cs a vs ns b = some (.tbl #[]) := if_pos h
theorem hpL_or (b : Addr) : hpL K cs a vs ns b = none ∨ (b ∈ cs.map (·.2) ∧ hpL K cs a vs ns b = some (.tbl #[])) ∨ (b ∉ cs.map (·.2) ∧ b = a ∧ K.lookup a = none ∧ hpL K cs a vs ns b = some (.frz { cls := .type "list", data := .seq vs.toArray } (.lst (ns.map V.int)))) := by
  by_cases h1 : b ∈ cs.map (·.2)
  · exact .inr (.inl ⟨h1, if_pos h1⟩)
  · by_cases h2 : b = a ∧ K.lookup a = none
    · exact .inr (.inr ⟨h1, h2.1, h2.2, (if_neg h1).trans (if_pos h2)⟩)
    · exact .inl ((if_neg h1).trans (if_neg h2))
theorem law_callG (KX : K.In s.heap) (hns : s.heap.Ns mainGlobals mg) (hb : s.heap.Ns builtinsNs mb) (hbb : ∀ x : Str, x ≠ "__name__" → mb x = bootBuiltins x) (hlim : s.heap.NoLimit) (hg : s.gens = #[])
    (hT : ∀ p ∈ cs, s.heap.get? p.2 = some { cls := .none, data := .fields #[] }) (nT : ∀ p ∈ cs, K.lookup p.2 = none) (C : ∀ p ∈ cs, PySem.W.CodeHd s.heap p.1 p.2)
    (hbm : ∃ (bm : Addr) (ob : Obj), mg "__builtins__" = some (.ref bm) ∧ bm ≠ builtinsNs ∧ s.heap.get? bm = some ob ∧ ob.cls = .type "module" ∧ ob.dict = some builtinsNs ∧ ob.data = .plain)
    (ha : s.heap.get? a = some { cls := .type "list", data := .seq vs.toArray }) (hi : IntsAre vs ns) (hl : ns.length ≤ sizeLine)
    (F : ∀ base : Heap, K.In base → base.Ns mainGlobals mg → (∀ p ∈ cs, TabB base mg p.1 p.2) → RunC P w K mg base CX fa fd x sp) (hbind : ∀ (s : Shared) (u : Value), BindsTo s fd ⟨[u], []⟩ [(x, u)])
    (hsp : ∀ H : Hp, (∀ p ∈ cs, H p.2 = some (.tbl #[])) → SqL K H a (ns.map V.int) → sp [.ref a] H (fun v _ => v = .bl true) fun _ _ _ => False)
    (hCX : ∀ H e s', CX [] H s (fun _ _ _ => False) e s' → False) :
    codeAny (model P w) callerA (.call (.ref fa) ⟨[.ref a], []⟩) (fun r s' => r = .ok (.ret (.bool true)) ∧ OldK s.heap s'.heap ∧ s'.os = s.os ∧ AllBare s'.gens) s := by
  have rv := vals_ints hi
  have tabAt : ∀ {b : Addr}, b ∈ cs.map (·.2) → s.heap.get? b = some { cls := .none, data := .fields #[] } ∧ K.lookup b = none := fun {b} hb => by
    obtain ⟨p, hp, rfl⟩ := List.mem_map.mp hb
    exact ⟨hT p hp, nT p hp⟩
  have inT : ∀ p ∈ cs, p.2 ∈ cs.map (·.2) := fun p hp => List.mem_map.mpr ⟨p, hp, rfl⟩
  generalize hH : hpL K cs a vs ns = H
  have orH : ∀ b, H b = none ∨ (b ∈ cs.map (·.2) ∧ H b = some (.tbl #[])) ∨ (b ∉ cs.map (·.2) ∧ b = a ∧ K.lookup a = none ∧ H b = some (.frz { cls := .type "list", data := .seq vs.toArray } (.lst (ns.map V.int)))) := by
    rw [← hH]
    exact hpL_or
  have tabH : ∀ p ∈ cs, H p.2 = some (.tbl #[]) := fun p hp => by
    rw [← hH]
    exact hpL_tab (inT p hp)
  -- what is tracked is no dict and nothing that is written
  have free : ∀ {b : Addr} {o : Obj}, s.heap.get? b = some o → (∀ vs n, o.data ≠ .seq vs n) → o.data ≠ .fields #[] → H b = none := fun {b o} e n1 n2 => by
    rcases orH b with z | ⟨z, _⟩ | ⟨_, z, _, _⟩
    · exact z
    · rw [(tabAt z).1] at e
      cases e
      exact absurd rfl n2
    · rw [z, ha] at e
      cases e
      exact absurd rfl (n1 _ _)
  have freeD : ∀ {b : Addr} {o : Obj} {es : Array DictEntry} {ep : Nat}, s.heap.get? b = some o → o.data = .dict es ep → H b = none := fun e q => free e (fun _ _ z => by rw [q] at z; cases z) fun z => by rw [q] at z; cases z
  have freeK : ∀ {b : Addr} {o : Obj}, K.lookup b = some o → H b = none := fun {b o} e => by
    rcases orH b with z | ⟨z, _⟩ | ⟨_, z, z2, _⟩
    · exact z
    · rw [(tabAt z).2] at e
      cases e
    · rw [z, z2] at e
      cases e
  have under : ∀ {b : Addr} {o : Obj}, s.heap.get? b = some o → H b = none → (hidT s.heap H).get? b = some o := fun e n => hidT_get e n
  have nsU : ∀ {b : Addr} {m : Str → Option Value}, s.heap.Ns b m → (hidT s.heap H).Ns b m := fun {b m} ⟨o, es, ep, e, q, r⟩ => ⟨o, es, ep, under e (freeD e q), q, r⟩
  have KU : K.In (hidT s.heap H) := fun b o e => under (KX b o e) (freeK e)
  have ok : HOk P w H s.heap := fun b o z => by
    rcases orH b with q | ⟨q, q'⟩ | ⟨_, q, _, q'⟩
    · rw [q] at z
      cases z
    · rw [q'] at z
      cases z
      exact (tabAt q).1
    · rw [q'] at z
      cases z
      subst q
      exact ⟨ha, by rw [List.length_map]; exact hl, vs, _, rv, ha⟩
  have sq : SqL K H a (ns.map V.int) := by
    cases hk : K.lookup a with
    | some o =>
      have e := KX a o hk
      rw [ha] at e
      cases e
      exact .inr ⟨_, vs.toArray, _, hk, rfl, rfl, rfl, by rw [List.size_toArray, hi.length]; exact hl, by simpa using rv⟩
    | none =>
      refine .inl (.inr ⟨{ cls := .type "list", data := .seq vs.toArray }, ?_⟩)
      rcases orH a with z | ⟨z, _⟩ | ⟨_, _, _, z⟩
      · rw [← hH] at z
        unfold hpL at z
        split at z
        · cases z
        · rw [if_pos ⟨rfl, hk⟩] at z
          cases z
      · have := (tabAt z).1
        rw [ha] at this
        cases this
      · exact z
  have mod : L2.Mod K mg (hidT s.heap H) := ⟨KU, nsU hns, ⟨mb, nsU hb, hbb⟩, let ⟨mc, h1, h2⟩ := hlim; ⟨mc, nsU h1, h2⟩⟩
  have TB : ∀ p ∈ cs, TabB (hidT s.heap H) mg p.1 p.2 := fun p hp => by
    obtain ⟨oG, esG, epG, eG, dG, _⟩ := id hns
    refine ⟨?_, ?_, fun z => ?_⟩
    · obtain ⟨o, us, file, tf, flags, tg, inF, text, tt, e1, r1, r2, r3, r⟩ := C p hp
      refine ⟨o, us, file, tf, flags, tg, inF, text, tt, under e1 (free e1 (fun _ _ z => by rw [r2] at z; cases z) fun z => ?_), r1, r2, r3, r⟩
      rw [r2] at z
      cases z
      simp at r3
    · obtain ⟨bm, ob, b1, b2, b3, b4, b5, b6⟩ := hbm
      refine ⟨bm, ob, b1, b2, fun q => ?_, fun q => ?_, under b3 (free b3 (fun _ _ z => by rw [b6] at z; cases z) fun z => by rw [b6] at z; cases z), b4, b5, b6⟩
      · rw [q, eG] at b3
        cases b3
        rw [dG] at b6
        cases b6
      · rw [q, hT p hp] at b3
        cases b3
        cases b6
    · rw [z, hT p hp] at eG
      cases eG
      cases dG
  have e0 : Env0 P w K mg (hidT s.heap H) callerA [] s H := ⟨rfl, mod, fun b o e => of_hidT e, Nat.le_of_eq (hidT_size _ _), trivial, fun b z => absurd (show b ∈ ([] : List Addr) from z) (by simp), ok, .of_eq hg⟩
  refine codeAny_mono (F _ KU (nsU hns) TB s H (.ref a) (.ref a) _ _ e0 (hbind s (.ref a)) rfl (hsp H tabH sq)) fun r s' h => ?_
  cases r with
  | error e => exact (hCX H e s' h).elim
  | ok fl =>
    cases fl with
    | next => exact False.elim h
    | brk => exact False.elim h
    | cont => exact False.elim h
    | ret u =>
      obtain ⟨v, H', os, bare, un, ok', r', q⟩ := h
      obtain rfl : v = .bl true := q
      obtain rfl : u = Value.bool true := r'
      have grown : ∀ p ∈ cs, ∃ more : Array Value, s'.heap.get? p.2 = some { cls := .none, data := .fields more } := fun p hp => by
        obtain ⟨more, z⟩ := un.tbls p.2 #[] (tabH p hp)
        exact ⟨_, ok' p.2 _ z⟩
      have rest : ∀ b o, b ∉ cs.map (·.2) → s.heap.get? b = some o → s'.heap.get? b = some o := fun b o nb e => by
        rcases orH b with z | ⟨z, _⟩ | ⟨_, _, _, z⟩
        · exact un.keep b o e z (by intro y; exact absurd (show b ∈ ([] : List Addr) from y) (by simp)) (by simp)
        · exact absurd z nb
        · obtain ⟨e1, _⟩ := ok b _ z
          obtain ⟨e2, _⟩ := ok' b _ (un.frzs b _ _ z)
          rw [e] at e1
          cases e1
          exact e2
      refine ⟨rfl, ⟨fun b o e => ?_, fun b o e => ?_⟩, os, bare⟩
      · by_cases hm : b ∈ cs.map (·.2)
        · obtain ⟨p, hp, rfl⟩ := List.mem_map.mp hm
          obtain ⟨more, hq⟩ := grown p hp
          rw [hT p hp] at e
          cases e
          exact .inr (.inl ⟨((C p hp).tab (hT p hp)).isCodeTable, rfl, #[], more, rfl, by rw [Array.empty_append]; exact hq⟩)
        · exact .inl (rest b o hm e)
      · by_cases hm : b ∈ cs.map (·.2)
        · obtain ⟨p, hp, rfl⟩ := List.mem_map.mp hm
          obtain ⟨more, hq⟩ := grown p hp
          exact ⟨_, hq⟩
        · exact ⟨o, rest b o hm e⟩
end
/-- what is known of the law's promise at the head's heap h, told at the caller -/
def LawAtG (l : PySem.W.OpenLaw) (w : World) (K : PySem.W.Frag) (CX : CXT) (n : Nat) (x : Str) (mg : Str → Option Value) (fa : Addr) (h : Heap) : Prop :=
  ∃ (fd : FuncData) (cs : List (Addr × Addr)) (sp : Sp), (∀ p ∈ cs, h.get? p.2 = some { cls := .none, data := .fields #[] }) ∧ (∀ p ∈ cs, K.lookup p.2 = none) ∧ (∀ p ∈ cs, PySem.W.CodeHd h p.1 p.2) ∧ (∀ (s : Shared) (u : Value), BindsTo s fd ⟨[u], []⟩ [(x, u)]) ∧
    (∀ (H : Hp) (a : Addr) (ns : List Int), ns.length ≤ n → (∀ p ∈ cs, H p.2 = some (.tbl #[])) → SqL K H a (ns.map V.int) → sp [.ref a] H (fun v _ => v = .bl true) fun _ _ _ => False) ∧
    ∀ base : Heap, K.In base → base.Ns mainGlobals mg → (∀ p ∈ cs, TabB base mg p.1 p.2) → RunC l.prog w K mg base CX fa fd x sp
theorem walk_G {l : PySem.W.OpenLaw} {n : Nat} {q : Program} {loose : List Str} {XP : (Str → Option Value) → Heap → Prop} {YP : World → Heap → Prop} {d : DefRec} {K : Params → PySem.W.Frag} {CX : World → CXT} {x : Str}
    (hn : l.most = some n) (hn2 : n ≤ sizeLine) (hdf : d.params.defaults = []) (hrec : ((recsOf q).any fun e => e.name == d.name) = true) (hY : ∀ (w : World) (h : Heap), YP w h → (K w.params).In h)
    (F : ∀ (w : World) (mg : Str → Option Value) (fa : Addr) (h : Heap), YP w h → (K w.params).In h → h.Ns mainGlobals mg → mg d.name = some (.ref fa) → OwnTab (K w.params) fa h → LawAtG l w (K w.params) (CX w) n x mg fa h)
    (hCX : ∀ (w : World) (H : Hp) (s : Shared) (e : Value) (s' : Shared), CX w [] H s (fun _ _ _ => False) e s' → False) :
    PySem.W.WalkO q loose XP YP l.row.toRowW d [] (fun f vs => PySem.call f vs) := by
  refine Att.attach_callB hn hdf fun w s₀ s₁ mg mb fa o pm cd doc a vs ns G Y ho hd hcd hmg hobj hints hlen _ hg => ?_
  have KX := hY w _ Y
  have own : OwnTab (K w.params) fa s₁.heap := fun c T o1 fd1 e dd us sl q1 q2 q3 q4 q5 => by
    obtain ⟨dL, hm, hnm⟩ := List.any_eq_true.mp hrec
    obtain ⟨fa', of, fdf, cf, Tf, p1, p2, p3, p4, _, p6⟩ := G.T.tab dL hm
    rw [beq_iff_eq.mp hnm, hmg] at p1
    cases p1
    have there := KX _ _ q1
    rw [there] at p2
    cases p2
    rw [q2] at p3
    cases p3
    rw [q3] at p4
    cases p4
    obtain ⟨⟨oc, ws, f1, _, f3, f4⟩, fT⟩ := p6
    have code := KX _ _ q4
    rw [code] at f1
    cases f1
    cases f3
    rw [q5] at f4
    cases f4
    exact fT
  obtain ⟨fd, cs, sp, hT, nT, C, hb, hsp, hF⟩ := F w mg fa _ Y KX G.T.g hmg own
  exact law_callG KX G.T.g G.T.b G.T.builtins G.T.nolimit hg hT nT C G.T.bmain hobj hints (Nat.le_trans hlen hn2) hF hb (fun H hH hS => hsp H a ns hlen hH hS) fun H e s' => hCX w H s₁ e s'
/-- a def's promise at the caller, from its body there -/
theorem runC_of {P : Program} {w : World} {K : PySem.W.Frag} {mg : Str → Option Value} {base : Heap} {CX : CXT} {f : Addr} {fd : FuncData} {x : Str} {st : Stmt} {qual : Str} {N : List Str} {sp : Sp} {nm : Str} (F : Fun K nm qual st f fd) (S : FnScope N [x] (defScope st))
    (hbody : ∀ (cdv : Value) (s : Shared) (H : Hp) (v : V) (Q : VK) (E : XK), (∃ oc od kV doc pm an ct osl, K.lookup f = some ⟨oc, od, .func (PySem.W.fnOf nm qual (defArgs st) (defBody st) (defScope st) .none kV doc pm an cdv ct), osl⟩) → sp [v] H Q E →
      ∃ t, PSs (cxOf CX P w K mg base N qual (defScope st) f cdv callerA [] s H E) (defBody st) t ∧ t { nx := fun _ H' => Q .non H', rt := Q } (start N [v]) H) : RunC P w K mg base CX f fd x sp := by
  obtain ⟨oc, od, kV, doc, pm, an, cdv, ct, osl, rfl, lk, hcd⟩ := F.ex
  intro s H u v Q E e0 hb r hsp
  have hr : Room 1 callerA := ⟨rfl, by decide +kernel, by decide +kernel⟩
  exact run_ofS (k := 0) (ps := [x]) (us := [u]) (vs := [v]) lk hcd S hr e0 hb (.cons r .nil) rfl fun _ => hbody cdv s H v Q E ⟨oc, od, kV, doc, pm, an, ct, osl, lk⟩ hsp
end Nm
set_option maxRecDepth 100000
set_option maxHeartbeats 4000000
/-! _law_caught(lambda: ..) -/
namespace Nm
open PySem PySem.Spec PyProof.Rows L2 LamX
/-- told: try: return ask() / except BadNumber as e: return ["BadNumber", repr(e.number)] -/
def TCaught (K : PySem.W.Frag) (CB : Addr) : (XK → Hp → VK → Prop) → Hp → VK → Prop := fun tl H Q =>
  tl (fun cls d H' => ∃ b, PySem.W.exmOne K cls (.ref CB) = some b ∧ (b = true → cls = .ref CB ∧ ∃ (n : Nat) (dd : Addr), d = some dd ∧ H' dd = some (.xd [("number", .int (n : Int))]) ∧ n ≤ 100000 ∧ ∀ r, H' r = none → Q (.ref r) (upd H' r (.lst (badV n)))) ∧ (b = false → False)) H Q
abbrev nCt : List Str := ["_law_ask", "e"]
theorem scCt : FnScope nCt ["_law_ask"] (defScope sCaught) := ⟨rfl, rfl, rfl, by decide +kernel, rfl, by decide +kernel, by decide +kernel⟩
theorem takes_len {X : Cx} {W : WX} (t : Takes X W) : Takes X (fun cls d σ H => σ.length = X.N.length → W cls d σ H) := fun u s' ⟨a, B, sI, pins, σ, H, cls, d, e, I, nb, up, sky, na, os, ag, w⟩ => t u s' ⟨a, B, sI, pins, σ, H, cls, d, e, I, nb, up, sky, na, os, ag, w I.len⟩
theorem caught_gives {X : Cx} {g CB : Addr} {cdg : Value} {q : Str} (xf : XfC X.K CB) (nNu : PySem.W.findIn X.K (.ref CB) "number" = some none) (mB : X.mg "BadNumber" = some (.ref CB)) (mr : X.mg "repr" = none) :
    GivesTo X nCt "_law_caught" (defScope sCaught) g cdg (defBody sCaught) "_law_ask" q (TCaught X.K CB) := by
  intro f c' s H Q tl act hc h
  refine ⟨_, pss_one (ps_try_as (X := (cxOf C8.CX0 X.prog X.w X.K X.mg X.base nCt "_law_caught" (defScope sCaught) g cdg X.A X.stack s H C8.E0).nox) (c := .ref CB) (i := 1)
      (tb := fun W D σ H => ∃ Ech : XK, (∀ cls d σ' H', Ech cls d H' → σ'.length = 2 → W cls d σ' H') ∧ σ[0]? = some (some (.ref f)) ∧ H c' = some (CodeO c' q) ∧ tl Ech H D.rt)
      rfl rfl scCt.nd rfl rfl ⟨rfl, by decide, .inl mB⟩ takes0 (fun W pn xe tk _ => ?_) (fun a oe cls d pn hz hf => pss_one (ps_ret (pe_lst (pa_cons pe_str (pa_cons (pe_callB SkE.call_repr_int (by rfl) mr (by decide +kernel) (pa_cons (pe_xf (C := CB) xf nNu hz hf (pv 1)) pa_nil)) pa_nil)))))), ?_⟩
  · refine ⟨fun pins s' σ H' D I h' => ?_⟩
    obtain ⟨Ech, hW, h1, h2, h3⟩ := h'
    exact (pss_one (ps_ret (act (fun cls d σ H => σ.length = 2 → W cls d σ H) pn xe Ech _ _ (takes_len tk) hW))).run pins s' σ H' D I ⟨h1, h2, h3⟩
  · refine ⟨fun cls d H' => ∃ b, PySem.W.exmOne X.K cls (.ref CB) = some b ∧ (b = true → cls = .ref CB ∧ ∃ (n : Nat) (dd : Addr), d = some dd ∧ H' dd = some (.xd [("number", .int (n : Int))]) ∧ n ≤ 100000 ∧ ∀ r, H' r = none → Q (.ref r) (upd H' r (.lst (badV n)))) ∧ (b = false → False), fun cls d σ' H' ⟨b, e1, e2, e3⟩ hlen => ⟨b, e1, fun hb a ha => ?_, fun hb => e3 hb⟩, rfl, hc, h⟩
    obtain ⟨rfl, n, dd, rfl, hx, hn, k⟩ := e2 hb
    exact ⟨_, by rw [List.getElem?_set_self (by omega)], rfl, rfl, dd, _, _, rfl, hx, rfl, (n : Int), rfl, num_log hn, by show (2 : Nat) ≤ sizeLine; decide, fun r hr0 => k r hr0⟩
end Nm
set_option maxRecDepth 100000
set_option maxHeartbeats 4000000
/-! _law_near -/
namespace Nm
open PySem PySem.Spec PyProof.Rows L2
/-- what stands in such a list: small things, or a list or a tuple of one number -/
inductive OddV (H : Hp) : V → Prop where
  | int (i : Int) (h : i.natAbs.log2 < 1000) : OddV H (.int i)
  | bl (b : Bool) : OddV H (.bl b)
  | non : OddV H .non
  | one : OddV H (.str "1")
  | lst {a : Addr} (e : H a = some (.lst [.int 0])) : OddV H (.ref a)
  | tup {a : Addr} (e : H a = some (.tup [.int 1])) : OddV H (.ref a)
theorem OddV.ext {H H' : Hp} {y : V} (h : OddV H y) (s : ∀ b o, H b = some o → (∀ kv, o ≠ .dK kv) → o ≠ .lst [] → H' b = some o) : OddV H' y := by
  cases h with
  | int i h => exact .int i h
  | bl b => exact .bl b
  | non => exact .non
  | one => exact .one
  | lst e => exact .lst (s _ _ e (fun kv z => by cases z) fun z => by cases z)
  | tup e => exact .tup (s _ _ e (fun kv z => by cases z) fun z => by cases z)
theorem OddV.num {H : Hp} {y : V} (h : OddV H y) : NumX H y := by
  cases h with
  | int i h => exact .int i
  | bl b => exact .bl b
  | non => exact .non
  | one => exact .str _
  | lst e => exact .lst e
  | tup e => exact .tup e
theorem cut_mem {xs : List V} {lo hi : Option Int} {y : V} (h : y ∈ cutV xs lo hi) : y ∈ xs := List.mem_of_mem_drop (List.mem_of_mem_take h)
theorem cut_len {xs : List V} {lo hi : Option Int} : (cutV xs lo hi).length ≤ xs.length := by
  unfold cutV
  rw [List.length_take, List.length_drop]
  omega
section
variable {P : Program} {w : World} {K : PySem.W.Frag} {mg : Str → Option Value} {base : Heap}
/-- kept: all but the source s and its cells c -/
theorem OddV.kp {s c : Addr} {H H' : Hp} {y : V} (h : OddV H y) (k : Kp s c H H') (hs : ∀ a, y = .ref a → a ≠ s ∧ a ≠ c) : OddV H' y := by
  cases h with
  | int i h => exact .int i h
  | bl b => exact .bl b
  | non => exact .non
  | one => exact .one
  | lst e => exact .lst (k _ _ e (hs _ rfl).1 (hs _ rfl).2)
  | tup e => exact .tup (k _ _ e (hs _ rfl).1 (hs _ rfl).2)
/-- new since H0, all of it -/
def OL (H0 H : Hp) (ys : List V) : Prop := ∀ y ∈ ys, OddV H y ∧ ∀ b, y = .ref b → H0 b = none
theorem src_ne {H : Hp} {s c b : Addr} (S : Src H s c) (h : H b = none) : b ≠ s ∧ b ≠ c := by
  obtain ⟨cs, l, m, t, S⟩ := S
  constructor
  · intro z
    rw [z, S.ds] at h
    cases h
  · intro z
    rw [z, S.dc] at h
    cases h
theorem OL.kp {H0 H H' : Hp} {s c : Addr} {ys : List V} (h : OL H0 H ys) (S : Src H0 s c) (k : Kp s c H H') : OL H0 H' ys := fun y hy => ⟨(h y hy).1.kp k fun a e => src_ne S ((h y hy).2 a e), (h y hy).2⟩
theorem OL.app {H0 H : Hp} {xs ys : List V} (h : OL H0 H xs) (g : OL H0 H ys) : OL H0 H (xs ++ ys) := fun y hy => (List.mem_append.mp hy).elim (h y) (g y)
theorem OL.cut {H0 H : Hp} {xs : List V} {lo hi : Option Int} (h : OL H0 H xs) : OL H0 H (cutV xs lo hi) := fun y hy => h y (cut_mem hy)
theorem OL.ints {H0 H : Hp} {ns : List Int} (h : ∀ n ∈ ns, n.natAbs.log2 < 1000) : OL H0 H (ns.map V.int) := fun y hy => by
  obtain ⟨n, hn, rfl⟩ := List.mem_map.mp hy
  exact ⟨.int n (h n hn), fun b z => by cases z⟩
theorem OL.single {H0 H : Hp} {y : V} (h : OddV H y) (g : ∀ b, y = .ref b → H0 b = none) : OL H0 H [y] := fun z hz => by
  obtain rfl : z = y := by simpa using hz
  exact ⟨h, g⟩
theorem OL.nil {H0 H : Hp} : OL H0 H [] := fun y hy => (List.not_mem_nil hy).elim
def Cn (H0 H : Hp) (s c : Addr) : Prop := Src H s c ∧ Kp s c H0 H
theorem Cn.new {H0 H : Hp} {s c p : Addr} {o : HO} (C : Cn H0 H s c) (h : H p = none) : Cn H0 (upd H p o) s c := ⟨C.1.new h, C.2.off (C.2.free C.1 h)⟩
theorem Cn.free {H0 H : Hp} {s c p : Addr} (C : Cn H0 H s c) (h : H p = none) : H0 p = none := C.2.free C.1 h
/-- a new list of such things -/
structure NL (H0 H : Hp) (l : Addr) (ys : List V) (n : Nat) : Prop where
  at_ : H l = some (.lst ys)
  new : H0 l = none
  len : ys.length ≤ n
  ok : OL H0 H ys
theorem NL.kp {H0 H H' : Hp} {s c l : Addr} {ys : List V} {n : Nat} (x : NL H0 H l ys n) (S : Src H0 s c) (k : Kp s c H H') : NL H0 H' l ys n := ⟨k _ _ x.at_ (src_ne S x.new).1 (src_ne S x.new).2, x.new, x.len, x.ok.kp S k⟩
theorem NL.go {H0 H : Hp} {s c l p : Addr} {o : HO} {ys : List V} {n : Nat} (x : NL H0 H l ys n) (S : Src H0 s c) (h : H p = none) : NL H0 (upd H p o) l ys n := x.kp S (Kp.same (same_new h))
theorem NL.mk' {H0 H : Hp} {s c p : Addr} {ys : List V} {n : Nat} (S : Src H0 s c) (C : Cn H0 H s c) (h : H p = none) (ok : OL H0 H ys) (len : ys.length ≤ n) : NL H0 (upd H p (.lst ys)) p ys n := ⟨upd_same, C.free h, len, ok.kp S (Kp.same (same_new h))⟩
theorem NL.cat {H0 H : Hp} {s c p l1 l2 : Addr} {ys zs : List V} {n m : Nat} (S : Src H0 s c) (C : Cn H0 H s c) (h : H p = none) (x : NL H0 H l1 ys n) (y : NL H0 H l2 zs m) : NL H0 (upd H p (.lst (ys ++ zs))) p (ys ++ zs) (n + m) :=
  NL.mk' S C h (x.ok.app y.ok) (by rw [List.length_append]; have := x.len; have := y.len; omega)
theorem OL.go {H0 H : Hp} {s c p : Addr} {o : HO} {ys : List V} (x : OL H0 H ys) (S : Src H0 s c) (h : H p = none) : OL H0 (upd H p o) ys := x.kp S (Kp.same (same_new h))
def spNear : Sp := fun vs H Q _ => ∃ (s c a : Addr) (ns : List Int), vs = [.ref s, .ref a] ∧ Src H s c ∧ a ≠ s ∧ a ≠ c ∧ H a = some (.lst (ns.map V.int)) ∧ 1 ≤ ns.length ∧ ns.length ≤ 400 ∧ (∀ n ∈ ns, n.natAbs.log2 < 1000) ∧
  ∀ (r : Addr) (ys : List V) (H' : Hp), H r = none → (H' r = some (.lst ys) ∨ H' r = some (.tup ys)) → ys.length ≤ 2 * ns.length + 2 → (∀ y ∈ ys, OddV H' y) → (∀ b, V.ref b ∈ ys → H b = none) → Src H' s c → Kp s c H H' → Q (.ref r) H'
abbrev nNr : List Str := ["_law_source", "_law_numbers", "_law_at", "_law_odd", "_law_both", "_law_some"]
theorem scNr : FnScope nNr ["_law_source", "_law_numbers"] (defScope sNear) := ⟨rfl, rfl, rfl, by decide +kernel, rfl, by decide +kernel, by decide +kernel⟩
theorem ok_near {f : Addr} {fd : FuncData} (F : Fun K "_law_near" "_law_near" sNear f fd) (T : TxtH mg) (Gp : Def P w K mg base "_law_pick" ["_law_source", "_law_many"] 1 spPick) (Gc : Def P w K mg base "_law_choice_of" ["_law_source", "_law_items"] 2 (spChoice K)) :
    FnOk P w K mg base CX0 3 f fd ["_law_source", "_law_numbers"] spNear := by
  obtain ⟨fp, fdp, Gp, mp, kp, bp⟩ := Gp.ex
  obtain ⟨fc, fdc, Gc, mc, kc, bc⟩ := Gc.ex
  refine F.ok (k := 2) scNr (fun vs H Q E h => ?_) (fun cdv A outer s H vs Q E hr h => ?_)
  · obtain ⟨_, _, _, _, rfl, _⟩ := h
    rfl
  · obtain ⟨sr, c, a, ns, rfl, S, has, hac, ha, hn1, hn9, hbig, k⟩ := h
    have hr1 := hr.mono (show 1 ≤ 2 by decide)
    refine ⟨_, Evl.pss_cut (ps_set (i := 2) scNr.nd rfl (Or.inl rfl) (pe_call Gp hr1 (by rfl) mp kp bp .nil pass0 (pa_cons (pv 0) (pa_cons (pe_op op_add (pe_callB call_len_seq (by rfl) T.len PySem.boot_len (pa_cons (pv 1) pa_nil)) pe_int) pa_nil))))
      (Evl.pss_cut (ps_set (i := 3) scNr.nd rfl (Or.inl rfl) (pe_call Gc hr (by rfl) mc kc bc .nil pass0 (pa_cons (pv 0) (pa_cons (pe_lst (pa_cons (pe_un un_neg pe_int) (pa_cons pe_bl (pa_cons pe_bl (pa_cons pe_non (pa_cons pe_str (pa_cons (pe_tup (pa_cons pe_int pa_nil)) (pa_cons (pe_lst (pa_cons pe_int pa_nil)) (pa_cons pe_int pa_nil))))))))) pa_nil))))
      (Evl.pss_cut (ps_set (i := 4) scNr.nd rfl (Or.inl rfl) (pe_op op_cat (pe_op op_cat (pe_op op_cat (pe_lst (pa_cons (pv 3) pa_nil)) (pe_slice sl_list (pv 1) po_none (po_some (pv 2))))
          (pe_lst (pa_cons (pe_call Gc hr (by rfl) mc kc bc .nil pass0 (pa_cons (pv 0) (pa_cons (pe_lst (pa_cons (pe_un un_neg pe_int) (pa_cons pe_non (pa_cons pe_bl pa_nil)))) pa_nil))) pa_nil))) (pe_slice sl_list (pv 1) (po_some (pe_op op_add (pv 2) pe_int)) po_none)))
      (Evl.pss_cut (ps_set (i := 5) scNr.nd rfl (Or.inl rfl) (pe_lst (pa_cons (pv 4)
          (pa_cons (pe_op op_cat (pe_op op_cat (pe_slice sl_list (pv 1) po_none (po_some (pv 2))) (pe_lst (pa_cons (pv 3) pa_nil))) (pe_slice sl_list (pv 1) (po_some (pe_op op_add (pv 2) pe_int)) po_none))
          (pa_cons (pe_op op_cat (pe_op op_cat (pe_slice sl_list (pv 1) po_none (po_some (pv 2))) (pe_lst (pa_cons (pv 3) pa_nil))) (pe_slice sl_list (pv 1) (po_some (pv 2)) po_none)) pa_nil)))))
      (Evl.pss_cut (ps_set (i := 5) scNr.nd rfl (Or.inl rfl) (pe_op op_cat (pv 5) (pe_lst (pa_cons (pe_slice sl_list (pv 1) po_none (po_some (pe_un un_neg pe_int))) (pa_cons (pe_op op_cat (pv 1) (pe_lst (pa_cons pe_int pa_nil))) pa_nil)))))
      (pss_one (ps_ret (pe_call Gc hr (by rfl) mc kc bc .nil pass0 (pa_cons (pv 0) (pa_cons (pe_op op_cat (pv 5) (pe_lst (pa_cons (pe_callTy call_tuple_of (by rfl) T.tuple (by decide +kernel) (pa_cons (pv 1) pa_nil)) (pa_cons (pe_lst pa_nil)
          (pa_cons (pe_op op_cat (pe_slice sl_list (pv 1) (po_some pe_int) po_none) (pe_lst (pa_cons (pv 3) pa_nil))) pa_nil))))) pa_nil))))))))), ?_⟩
    have has' : ∀ {H1 : Hp}, Kp sr c H H1 → H1 a = some (.lst (ns.map V.int)) := fun k => k _ _ ha has hac
    have lim : sizeLine = 16777216 := sizeLine_eq
    have hnl : (ns.map V.int).length = ns.length := List.length_map _
    have cl : ∀ lo hi, (cutV (ns.map V.int) lo hi).length ≤ ns.length := fun lo hi => by
      have := cut_len (xs := ns.map V.int) (lo := lo) (hi := hi)
      omega
    refine ⟨fun σ H1 => ∃ kk : Int, σ = [some (.ref sr), some (.ref a), some (.int kk), none, none, none] ∧ Cn H H1 sr c, ?_, ?_⟩
    · refine ⟨_, rfl, _, rfl, a, _, rfl, .inl (SqL.of ha), _, _, rfl, rfl, sr, c, _, rfl, S, ?_, ?_, fun kk H1 _ _ S1 k1 => ⟨kk, rfl, S1, k1⟩⟩
      · omega
      · omega
    rintro σ H1 ⟨kk, rfl, C1⟩
    refine ⟨fun σ H2 => ∃ v : V, σ = [some (.ref sr), some (.ref a), some (.int kk), some v, none, none] ∧ OL H H2 [v] ∧ Cn H H2 sr c, ?_, ?_⟩
    · refine ⟨_, rfl, 1, rfl, (by show 1 ≤ sizeLine; decide), fun t ht => ⟨(by show 1 ≤ sizeLine; decide), fun l hl => ⟨(by show 8 ≤ sizeLine; decide), fun L hL => ?_⟩⟩⟩
      have Ca := C1.new (o := .tup [.int 1]) ht
      have Cb := Ca.new (o := .lst [.int 0]) hl
      have t1 : (upd H1 t (.tup [.int 1])) t = some (.tup [.int 1]) := upd_same
      have t2 := same_new (o := .lst [.int 0]) hl _ _ t1
      have l2 : (upd (upd H1 t (.tup [.int 1])) l (.lst [.int 0])) l = some (.lst [.int 0]) := upd_same
      have ht0 := C1.free ht
      have hl0 := Ca.free hl
      have hn := Cb.1.ne hL
      have t3 := same_new (o := .lst [V.int (-1), .bl true, .bl false, .non, .str "1", .ref t, .ref l, .int 7]) hL _ _ t2
      have l3 := same_new (o := .lst [V.int (-1), .bl true, .bl false, .non, .str "1", .ref t, .ref l, .int 7]) hL _ _ l2
      have Cc := Cb.new (o := .lst [V.int (-1), .bl true, .bl false, .non, .str "1", .ref t, .ref l, .int 7]) hL
      refine ⟨sr, c, L, _, rfl, Cc.1, hn.1, hn.2, SqL.of upd_same, (by show 1 ≤ 8; decide), (by show 8 ≤ 1000; decide), fun v H3 hv S3 k3 => ⟨v, rfl, ?_, S3, Cc.2.trans k3⟩⟩
      have hs := src_ne S ht0
      have hs2 := src_ne S hl0
      simp only [List.mem_cons, List.not_mem_nil, or_false] at hv
      rcases hv with rfl | rfl | rfl | rfl | rfl | rfl | rfl | rfl
      · exact OL.single (.int _ (by decide)) fun b z => by cases z
      · exact OL.single (.bl _) fun b z => by cases z
      · exact OL.single (.bl _) fun b z => by cases z
      · exact OL.single .non fun b z => by cases z
      · exact OL.single .one fun b z => by cases z
      · exact OL.single (.tup (k3 _ _ t3 hs.1 hs.2)) fun b z => by cases z; exact ht0
      · exact OL.single (.lst (k3 _ _ l3 hs2.1 hs2.2)) fun b z => by cases z; exact hl0
      · exact OL.single (.int _ (by decide)) fun b z => by cases z
    rintro σ H2 ⟨v, rfl, hv2, C2⟩
    refine ⟨fun σ H3 => ∃ (b : Addr) (ys : List V), σ = [some (.ref sr), some (.ref a), some (.int kk), some v, some (.ref b), none] ∧ NL H H3 b ys (1 + ns.length + 1 + ns.length) ∧ OL H H3 [v] ∧ Cn H H3 sr c, ?_, ?_⟩
    · refine ⟨_, rfl, (by show 1 ≤ sizeLine; decide), fun p1 h1 => ?_⟩
      have N1 := NL.mk' (n := 1) S C2 h1 hv2 (Nat.le_refl _)
      have V3 := hv2.go (o := .lst [v]) S h1
      have C3 := C2.new (o := .lst [v]) h1
      generalize upd H2 p1 (.lst [v]) = H3 at *
      refine ⟨_, rfl, _, rfl, _, rfl, a, _, rfl, SqL.of (has' C3.2), fun p2 h2 => ?_⟩
      have N2 := NL.mk' (n := ns.length) S C3 h2 (OL.cut (lo := none) (hi := some kk) (OL.ints hbig)) (cl _ _)
      have N1 := N1.go (o := .lst (cutV (ns.map V.int) none (some kk))) S h2
      have V4 := V3.go (o := .lst (cutV (ns.map V.int) none (some kk))) S h2
      have C4 := C3.new (o := .lst (cutV (ns.map V.int) none (some kk))) h2
      generalize cutV (ns.map V.int) none (some kk) = y2 at *
      generalize upd H3 p2 (.lst y2) = H4 at *
      refine ⟨p1, p2, _, _, rfl, rfl, N1.at_, N2.at_, (by have := N1.len; have := N2.len; omega), fun p3 h3 => ?_⟩
      have N3 := NL.cat S C4 h3 N1 N2
      have V5 := V4.go (o := .lst ([v] ++ y2)) S h3
      have C5 := C4.new (o := .lst ([v] ++ y2)) h3
      generalize [v] ++ y2 = y3 at *
      generalize upd H4 p3 (.lst y3) = H5 at *
      refine ⟨_, rfl, 1, rfl, (by show 3 ≤ sizeLine; decide), fun p4 h4 => ?_⟩
      have N3 := N3.go (o := .lst [V.int (-1), .non, .bl true]) S h4
      have V6 := V5.go (o := .lst [V.int (-1), .non, .bl true]) S h4
      have C6 := C5.new (o := .lst [V.int (-1), .non, .bl true]) h4
      have hn := C5.1.ne h4
      refine ⟨sr, c, p4, _, rfl, C6.1, hn.1, hn.2, SqL.of upd_same, (by show 1 ≤ 3; decide), (by show 3 ≤ 1000; decide), fun x H7 hx S7 k7 => ?_⟩
      have C7 : Cn H H7 sr c := ⟨S7, C6.2.trans k7⟩
      have N3 := N3.kp S k7
      have V7 := V6.kp S k7
      have X7 : OL H H7 [x] := by
        simp only [List.mem_cons, List.not_mem_nil, or_false] at hx
        rcases hx with rfl | rfl | rfl
        · exact OL.single (.int _ (by decide)) fun b z => by cases z
        · exact OL.single .non fun b z => by cases z
        · exact OL.single (.bl _) fun b z => by cases z
      refine ⟨(by show 1 ≤ sizeLine; decide), fun p5 h5 => ?_⟩
      have N5 := NL.mk' (n := 1) S C7 h5 X7 (Nat.le_refl _)
      have N3 := N3.go (o := .lst [x]) S h5
      have V8 := V7.go (o := .lst [x]) S h5
      have C8 := C7.new (o := .lst [x]) h5
      generalize upd H7 p5 (.lst [x]) = H8 at *
      refine ⟨p3, p5, _, _, rfl, rfl, N3.at_, N5.at_, (by have := N3.len; have := N5.len; omega), fun p6 h6 => ?_⟩
      have N6 := NL.cat S C8 h6 N3 N5
      have V9 := V8.go (o := .lst (y3 ++ [x])) S h6
      have C9 := C8.new (o := .lst (y3 ++ [x])) h6
      generalize y3 ++ [x] = y6 at *
      generalize upd H8 p6 (.lst y6) = H9 at *
      refine ⟨_, rfl, _, rfl, _, _, rfl, rfl, _, rfl, a, _, rfl, SqL.of (has' C9.2), fun p7 h7 => ?_⟩
      have N7 := NL.mk' (n := ns.length) S C9 h7 (OL.cut (lo := some (kk + 2)) (hi := none) (OL.ints hbig)) (cl _ _)
      have N6 := N6.go (o := .lst (cutV (ns.map V.int) (some (kk + 2)) none)) S h7
      have V10 := V9.go (o := .lst (cutV (ns.map V.int) (some (kk + 2)) none)) S h7
      have C10 := C9.new (o := .lst (cutV (ns.map V.int) (some (kk + 2)) none)) h7
      generalize cutV (ns.map V.int) (some (kk + 2)) none = y7 at *
      generalize upd H9 p7 (.lst y7) = H10 at *
      refine ⟨p6, p7, _, _, rfl, rfl, N6.at_, N7.at_, (by have := N6.len; have := N7.len; omega), fun p8 h8 => ?_⟩
      exact ⟨p8, _, rfl, NL.cat S C10 h8 N6 N7, V10.go S h8, C10.new h8⟩
    rintro σ H3 ⟨b, yb, rfl, Nb, V3, C3⟩
    refine ⟨fun σ H4 => ∃ (m b2 b3 : Addr) (y2 y3 : List V), σ = [some (.ref sr), some (.ref a), some (.int kk), some v, some (.ref b), some (.ref m)] ∧ H m = none ∧ H4 m = some (.lst [.ref b, .ref b2, .ref b3]) ∧ NL H H4 b yb (2 + 2 * ns.length) ∧ NL H H4 b2 y2 (2 + 2 * ns.length) ∧ NL H H4 b3 y3 (2 + 2 * ns.length) ∧ OL H H4 [v] ∧ Cn H H4 sr c, ?_, ?_⟩
    · have C := C3
      have VV := V3
      have NX := Nb
      refine ⟨_, rfl, ?_⟩
      refine ⟨_, rfl, _, rfl, _, rfl, a, _, rfl, SqL.of (has' C.2), fun pa1 h1 => ?_⟩
      have NA := NL.mk' (n := ns.length) S C h1 (OL.cut (lo := none) (hi := some kk) (OL.ints hbig)) (cl _ _)
      have NX := NX.go (o := .lst (cutV (ns.map V.int) none (some kk))) S h1
      have VV := VV.go (o := .lst (cutV (ns.map V.int) none (some kk))) S h1
      have C := C.new (o := .lst (cutV (ns.map V.int) none (some kk))) h1
      generalize cutV (ns.map V.int) none (some kk) = z1 at *
      generalize upd H3 pa1 (.lst z1) = Ga1 at *
      refine ⟨_, rfl, (by show 1 ≤ sizeLine; decide), fun pa2 h2 => ?_⟩
      have NB := NL.mk' (n := 1) S C h2 VV (Nat.le_refl _)
      have NA := NA.go (o := .lst [v]) S h2
      have NX := NX.go (o := .lst [v]) S h2
      have VV := VV.go (o := .lst [v]) S h2
      have C := C.new (o := .lst [v]) h2
      generalize upd Ga1 pa2 (.lst [v]) = Ga2 at *
      refine ⟨pa1, pa2, _, _, rfl, rfl, NA.at_, NB.at_, (by have := NA.len; have := NB.len; omega), fun pa3 h3 => ?_⟩
      have NC := NL.cat S C h3 NA NB
      have NX := NX.go (o := .lst (z1 ++ [v])) S h3
      have VV := VV.go (o := .lst (z1 ++ [v])) S h3
      have C := C.new (o := .lst (z1 ++ [v])) h3
      generalize z1 ++ [v] = z3 at *
      generalize upd Ga2 pa3 (.lst z3) = Ga3 at *
      refine ⟨_, rfl, _, rfl, _, _, rfl, rfl, _, rfl, a, _, rfl, SqL.of (has' C.2), fun pa4 h4 => ?_⟩
      have ND := NL.mk' (n := ns.length) S C h4 (OL.cut (lo := some (kk + 1)) (hi := none) (OL.ints hbig)) (cl _ _)
      have NC := NC.go (o := .lst (cutV (ns.map V.int) (some (kk + 1)) none)) S h4
      have NX := NX.go (o := .lst (cutV (ns.map V.int) (some (kk + 1)) none)) S h4
      have VV := VV.go (o := .lst (cutV (ns.map V.int) (some (kk + 1)) none)) S h4
      have C := C.new (o := .lst (cutV (ns.map V.int) (some (kk + 1)) none)) h4
      generalize cutV (ns.map V.int) (some (kk + 1)) none = z4 at *
      generalize upd Ga3 pa4 (.lst z4) = Ga4 at *
      refine ⟨pa3, pa4, _, _, rfl, rfl, NC.at_, ND.at_, (by have := NC.len; have := ND.len; omega), fun pa5 h5 => ?_⟩
      have Na : NL H _ pa5 _ (2 + 2 * ns.length) := (fun x => ⟨x.at_, x.new, by have := x.len; omega, x.ok⟩) (NL.cat S C h5 NC ND)
      have NX := NX.go (o := .lst (z3 ++ z4)) S h5
      have VV := VV.go (o := .lst (z3 ++ z4)) S h5
      have C := C.new (o := .lst (z3 ++ z4)) h5
      generalize z3 ++ z4 = ya at *
      generalize upd Ga4 pa5 (.lst ya) = Ga5 at *
      clear NA NB NC ND
      refine ⟨_, rfl, _, rfl, _, rfl, a, _, rfl, SqL.of (has' C.2), fun pb1 h1 => ?_⟩
      have NA := NL.mk' (n := ns.length) S C h1 (OL.cut (lo := none) (hi := some kk) (OL.ints hbig)) (cl _ _)
      have NX := NX.go (o := .lst (cutV (ns.map V.int) none (some kk))) S h1
      have VV := VV.go (o := .lst (cutV (ns.map V.int) none (some kk))) S h1
      have Na := Na.go (o := .lst (cutV (ns.map V.int) none (some kk))) S h1
      have C := C.new (o := .lst (cutV (ns.map V.int) none (some kk))) h1
      generalize cutV (ns.map V.int) none (some kk) = z1 at *
      generalize upd Ga5 pb1 (.lst z1) = Gb1 at *
      refine ⟨_, rfl, (by show 1 ≤ sizeLine; decide), fun pb2 h2 => ?_⟩
      have NB := NL.mk' (n := 1) S C h2 VV (Nat.le_refl _)
      have NA := NA.go (o := .lst [v]) S h2
      have NX := NX.go (o := .lst [v]) S h2
      have VV := VV.go (o := .lst [v]) S h2
      have Na := Na.go (o := .lst [v]) S h2
      have C := C.new (o := .lst [v]) h2
      generalize upd Gb1 pb2 (.lst [v]) = Gb2 at *
      refine ⟨pb1, pb2, _, _, rfl, rfl, NA.at_, NB.at_, (by have := NA.len; have := NB.len; omega), fun pb3 h3 => ?_⟩
      have NC := NL.cat S C h3 NA NB
      have NX := NX.go (o := .lst (z1 ++ [v])) S h3
      have VV := VV.go (o := .lst (z1 ++ [v])) S h3
      have Na := Na.go (o := .lst (z1 ++ [v])) S h3
      have C := C.new (o := .lst (z1 ++ [v])) h3
      generalize z1 ++ [v] = z3 at *
      generalize upd Gb2 pb3 (.lst z3) = Gb3 at *
      refine ⟨_, rfl, _, rfl, _, rfl, a, _, rfl, SqL.of (has' C.2), fun pb4 h4 => ?_⟩
      have ND := NL.mk' (n := ns.length) S C h4 (OL.cut (lo := some kk) (hi := none) (OL.ints hbig)) (cl _ _)
      have NC := NC.go (o := .lst (cutV (ns.map V.int) (some kk) none)) S h4
      have NX := NX.go (o := .lst (cutV (ns.map V.int) (some kk) none)) S h4
      have VV := VV.go (o := .lst (cutV (ns.map V.int) (some kk) none)) S h4
      have Na := Na.go (o := .lst (cutV (ns.map V.int) (some kk) none)) S h4
      have C := C.new (o := .lst (cutV (ns.map V.int) (some kk) none)) h4
      generalize cutV (ns.map V.int) (some kk) none = z4 at *
      generalize upd Gb3 pb4 (.lst z4) = Gb4 at *
      refine ⟨pb3, pb4, _, _, rfl, rfl, NC.at_, ND.at_, (by have := NC.len; have := ND.len; omega), fun pb5 h5 => ?_⟩
      have Nb' : NL H _ pb5 _ (2 + 2 * ns.length) := (fun x => ⟨x.at_, x.new, by have := x.len; omega, x.ok⟩) (NL.cat S C h5 NC ND)
      have NX := NX.go (o := .lst (z3 ++ z4)) S h5
      have VV := VV.go (o := .lst (z3 ++ z4)) S h5
      have Na := Na.go (o := .lst (z3 ++ z4)) S h5
      have C := C.new (o := .lst (z3 ++ z4)) h5
      generalize z3 ++ z4 = yb' at *
      generalize upd Gb4 pb5 (.lst yb') = Gb5 at *
      clear NA NB NC ND
      refine ⟨(by show 3 ≤ sizeLine; decide), fun m hm => ?_⟩
      have NX' : NL H _ b yb (2 + 2 * ns.length) := (fun x => ⟨x.at_, x.new, by have := x.len; omega, x.ok⟩) (NX.go (o := .lst [.ref b, .ref pa5, .ref pb5]) S hm)
      exact ⟨m, pa5, pb5, ya, yb', rfl, C.free hm, upd_same, NX', Na.go S hm, Nb'.go S hm, VV.go S hm, C.new hm⟩
    rintro σ H4 ⟨m, b2, b3, y2, y3, rfl, hm0, hm4, Nb, N2, N3, V4, C4⟩
    refine ⟨fun σ H5 => ∃ (m b4 b5 : Addr) (y4 y5 : List V), σ = [some (.ref sr), some (.ref a), some (.int kk), some v, some (.ref b), some (.ref m)] ∧ H m = none ∧ H5 m = some (.lst [.ref b, .ref b2, .ref b3, .ref b4, .ref b5]) ∧ NL H H5 b yb (2 + 2 * ns.length) ∧ NL H H5 b2 y2 (2 + 2 * ns.length) ∧ NL H H5 b3 y3 (2 + 2 * ns.length) ∧ NL H H5 b4 y4 (2 + 2 * ns.length) ∧ NL H H5 b5 y5 (2 + 2 * ns.length) ∧ OL H H5 [v] ∧ Cn H H5 sr c, ?_, ?_⟩
    · have C := C4
      refine ⟨_, rfl, _, rfl, 1, rfl, _, rfl, a, _, rfl, SqL.of (has' C.2), fun q1 h1 => ?_⟩
      have N4 : NL H (upd H4 q1 (.lst (cutV (ns.map V.int) none (some (-1))))) q1 _ (2 + 2 * ns.length) := NL.mk' S C h1 (OL.cut (OL.ints hbig)) (Nat.le_trans (cl _ _) (by omega))
      have Nb := Nb.go (o := .lst (cutV (ns.map V.int) none (some (-1)))) S h1
      have N2 := N2.go (o := .lst (cutV (ns.map V.int) none (some (-1)))) S h1
      have N3 := N3.go (o := .lst (cutV (ns.map V.int) none (some (-1)))) S h1
      have V4 := V4.go (o := .lst (cutV (ns.map V.int) none (some (-1)))) S h1
      have C := C.new (o := .lst (cutV (ns.map V.int) none (some (-1)))) h1
      have hm4 := same_new (o := .lst (cutV (ns.map V.int) none (some (-1)))) h1 _ _ hm4
      generalize cutV (ns.map V.int) none (some (-1)) = y4 at *
      generalize upd H4 q1 (.lst y4) = G1 at *
      refine ⟨_, rfl, (by show 1 ≤ sizeLine; decide), fun q2 h2 => ?_⟩
      have NZ := NL.mk' (n := 1) S C h2 (OL.single (y := .int 0) (.int 0 (by decide)) fun b z => by cases z) (Nat.le_refl _)
      have Nb := Nb.go (o := .lst [.int 0]) S h2
      have N2 := N2.go (o := .lst [.int 0]) S h2
      have N3 := N3.go (o := .lst [.int 0]) S h2
      have V4 := V4.go (o := .lst [.int 0]) S h2
      have N4 := N4.go (o := .lst [.int 0]) S h2
      have C := C.new (o := .lst [.int 0]) h2
      have hm4 := same_new (o := .lst [.int 0]) h2 _ _ hm4
      generalize upd G1 q2 (.lst [.int 0]) = G2 at *
      refine ⟨a, q2, _, _, rfl, rfl, has' C.2, NZ.at_, (by show _ + 1 ≤ _; omega), fun q3 h3 => ?_⟩
      have N5 : NL H (upd G2 q3 (.lst (ns.map V.int ++ [.int 0]))) q3 _ (2 + 2 * ns.length) := NL.mk' S C h3 ((OL.ints hbig).app NZ.ok) (by rw [List.length_append]; show _ + 1 ≤ _; omega)
      have Nb := Nb.go (o := .lst (ns.map V.int ++ [.int 0])) S h3
      have N2 := N2.go (o := .lst (ns.map V.int ++ [.int 0])) S h3
      have N3 := N3.go (o := .lst (ns.map V.int ++ [.int 0])) S h3
      have V4 := V4.go (o := .lst (ns.map V.int ++ [.int 0])) S h3
      have N4 := N4.go (o := .lst (ns.map V.int ++ [.int 0])) S h3
      have C := C.new (o := .lst (ns.map V.int ++ [.int 0])) h3
      have hm4 := same_new (o := .lst (ns.map V.int ++ [.int 0])) h3 _ _ hm4
      generalize ns.map V.int ++ [V.int 0] = y5 at *
      generalize upd G2 q3 (.lst y5) = G3 at *
      refine ⟨(by show 2 ≤ sizeLine; decide), fun q4 h4 => ?_⟩
      have Nb := Nb.go (o := .lst [.ref q1, .ref q3]) S h4
      have N2 := N2.go (o := .lst [.ref q1, .ref q3]) S h4
      have N3 := N3.go (o := .lst [.ref q1, .ref q3]) S h4
      have V4 := V4.go (o := .lst [.ref q1, .ref q3]) S h4
      have N4 := N4.go (o := .lst [.ref q1, .ref q3]) S h4
      have N5 := N5.go (o := .lst [.ref q1, .ref q3]) S h4
      have C := C.new (o := .lst [.ref q1, .ref q3]) h4
      have hm4 := same_new (o := .lst [.ref q1, .ref q3]) h4 _ _ hm4
      have hq4 : (upd G3 q4 (.lst [.ref q1, .ref q3])) q4 = some (.lst [.ref q1, .ref q3]) := upd_same
      generalize upd G3 q4 (.lst [.ref q1, .ref q3]) = G4 at *
      refine ⟨m, q4, _, _, rfl, rfl, hm4, hq4, (by show 3 + 2 ≤ _; omega), fun m2 h5 => ?_⟩
      exact ⟨m2, q1, q3, y4, y5, rfl, C.free h5, upd_same, Nb.go S h5, N2.go S h5, N3.go S h5, N4.go S h5, N5.go S h5, V4.go S h5, C.new h5⟩
    rintro σ H5 ⟨m, b4, b5, y4, y5, rfl, hm0, hm5, Nb, N2, N3, N4, N5, V5, C⟩
    have fin : ∀ {r : Addr} {ys : List V} {H' : Hp}, NL H H' r ys (2 + 2 * ns.length) → Cn H H' sr c → Q (.ref r) H' := fun x C => k _ _ _ x.new (.inl x.at_) (by have := x.len; omega) (fun y hy => (x.ok y hy).1) (fun b hb => (x.ok _ hb).2 b rfl) C.1 C.2
    refine ⟨_, rfl, _, rfl, _, rfl, a, _, rfl, .inl ⟨SqL.of (has' C.2), fun t1 h1 => ?_⟩⟩
    have Nb := Nb.go (o := .tup (ns.map V.int)) S h1
    have N2 := N2.go (o := .tup (ns.map V.int)) S h1
    have N3 := N3.go (o := .tup (ns.map V.int)) S h1
    have N4 := N4.go (o := .tup (ns.map V.int)) S h1
    have N5 := N5.go (o := .tup (ns.map V.int)) S h1
    have V5 := V5.go (o := .tup (ns.map V.int)) S h1
    have ht0 := C.free h1
    have hm5 := same_new (o := .tup (ns.map V.int)) h1 _ _ hm5
    have ht1 : (upd H5 t1 (.tup (ns.map V.int))) t1 = some (.tup (ns.map V.int)) := upd_same
    have C := C.new (o := .tup (ns.map V.int)) h1
    generalize upd H5 t1 (.tup (ns.map V.int)) = G1 at *
    refine ⟨(by show 0 ≤ sizeLine; decide), fun e1 h2 => ?_⟩
    have N6 := NL.mk' (n := 2 + 2 * ns.length) S C h2 OL.nil (Nat.zero_le _)
    have Nb := Nb.go (o := .lst []) S h2
    have N2 := N2.go (o := .lst []) S h2
    have N3 := N3.go (o := .lst []) S h2
    have N4 := N4.go (o := .lst []) S h2
    have N5 := N5.go (o := .lst []) S h2
    have V5 := V5.go (o := .lst []) S h2
    have hm5 := same_new (o := .lst []) h2 _ _ hm5
    have ht1 := same_new (o := .lst []) h2 _ _ ht1
    have C := C.new (o := .lst []) h2
    generalize upd G1 e1 (.lst []) = G2 at *
    refine ⟨_, rfl, _, rfl, a, _, rfl, SqL.of (has' C.2), fun q5 h3 => ?_⟩
    have NA := NL.mk' (n := ns.length) S C h3 (OL.cut (lo := some 1) (hi := none) (OL.ints hbig)) (cl _ _)
    have Nb := Nb.go (o := .lst (cutV (ns.map V.int) (some 1) none)) S h3
    have N2 := N2.go (o := .lst (cutV (ns.map V.int) (some 1) none)) S h3
    have N3 := N3.go (o := .lst (cutV (ns.map V.int) (some 1) none)) S h3
    have N4 := N4.go (o := .lst (cutV (ns.map V.int) (some 1) none)) S h3
    have N5 := N5.go (o := .lst (cutV (ns.map V.int) (some 1) none)) S h3
    have V5 := V5.go (o := .lst (cutV (ns.map V.int) (some 1) none)) S h3
    have N6 := N6.go (o := .lst (cutV (ns.map V.int) (some 1) none)) S h3
    have hm5 := same_new (o := .lst (cutV (ns.map V.int) (some 1) none)) h3 _ _ hm5
    have ht1 := same_new (o := .lst (cutV (ns.map V.int) (some 1) none)) h3 _ _ ht1
    have C := C.new (o := .lst (cutV (ns.map V.int) (some 1) none)) h3
    generalize cutV (ns.map V.int) (some 1) none = z1 at *
    generalize upd G2 q5 (.lst z1) = G3 at *
    refine ⟨_, rfl, (by show 1 ≤ sizeLine; decide), fun q6 h4 => ?_⟩
    have NB := NL.mk' (n := 1) S C h4 V5 (Nat.le_refl _)
    have Nb := Nb.go (o := .lst [v]) S h4
    have N2 := N2.go (o := .lst [v]) S h4
    have N3 := N3.go (o := .lst [v]) S h4
    have N4 := N4.go (o := .lst [v]) S h4
    have N5 := N5.go (o := .lst [v]) S h4
    have V5 := V5.go (o := .lst [v]) S h4
    have N6 := N6.go (o := .lst [v]) S h4
    have NA := NA.go (o := .lst [v]) S h4
    have hm5 := same_new (o := .lst [v]) h4 _ _ hm5
    have ht1 := same_new (o := .lst [v]) h4 _ _ ht1
    have C := C.new (o := .lst [v]) h4
    generalize upd G3 q6 (.lst [v]) = G4 at *
    refine ⟨q5, q6, _, _, rfl, rfl, NA.at_, NB.at_, (by have := NA.len; have := NB.len; omega), fun q7 h5 => ?_⟩
    have N7 : NL H (upd G4 q7 (.lst (z1 ++ [v]))) q7 _ (2 + 2 * ns.length) := (fun x => ⟨x.at_, x.new, by have := x.len; omega, x.ok⟩) (NL.cat S C h5 NA NB)
    have Nb := Nb.go (o := .lst (z1 ++ [v])) S h5
    have N2 := N2.go (o := .lst (z1 ++ [v])) S h5
    have N3 := N3.go (o := .lst (z1 ++ [v])) S h5
    have N4 := N4.go (o := .lst (z1 ++ [v])) S h5
    have N5 := N5.go (o := .lst (z1 ++ [v])) S h5
    have V5 := V5.go (o := .lst (z1 ++ [v])) S h5
    have N6 := N6.go (o := .lst (z1 ++ [v])) S h5
    have hm5 := same_new (o := .lst (z1 ++ [v])) h5 _ _ hm5
    have ht1 := same_new (o := .lst (z1 ++ [v])) h5 _ _ ht1
    have C := C.new (o := .lst (z1 ++ [v])) h5
    generalize z1 ++ [v] = y7 at *
    generalize upd G4 q7 (.lst y7) = G5 at *
    refine ⟨(by show 3 ≤ sizeLine; decide), fun q8 h6 => ?_⟩
    have hq8 : (upd G5 q8 (.lst [.ref t1, .ref e1, .ref q7])) q8 = some (.lst [.ref t1, .ref e1, .ref q7]) := upd_same
    have Nb := Nb.go (o := .lst [.ref t1, .ref e1, .ref q7]) S h6
    have N2 := N2.go (o := .lst [.ref t1, .ref e1, .ref q7]) S h6
    have N3 := N3.go (o := .lst [.ref t1, .ref e1, .ref q7]) S h6
    have N4 := N4.go (o := .lst [.ref t1, .ref e1, .ref q7]) S h6
    have N5 := N5.go (o := .lst [.ref t1, .ref e1, .ref q7]) S h6
    have V5 := V5.go (o := .lst [.ref t1, .ref e1, .ref q7]) S h6
    have N6 := N6.go (o := .lst [.ref t1, .ref e1, .ref q7]) S h6
    have N7 := N7.go (o := .lst [.ref t1, .ref e1, .ref q7]) S h6
    have hm5 := same_new (o := .lst [.ref t1, .ref e1, .ref q7]) h6 _ _ hm5
    have ht1 := same_new (o := .lst [.ref t1, .ref e1, .ref q7]) h6 _ _ ht1
    have C := C.new (o := .lst [.ref t1, .ref e1, .ref q7]) h6
    generalize upd G5 q8 (.lst [.ref t1, .ref e1, .ref q7]) = G6 at *
    refine ⟨m, q8, _, _, rfl, rfl, hm5, hq8, (by show 5 + 3 ≤ _; omega), fun L hL => ?_⟩
    have hn := C.1.ne hL
    have Nb := Nb.go (o := .lst ([.ref b, .ref b2, .ref b3, .ref b4, .ref b5] ++ [.ref t1, .ref e1, .ref q7])) S hL
    have N2 := N2.go (o := .lst ([.ref b, .ref b2, .ref b3, .ref b4, .ref b5] ++ [.ref t1, .ref e1, .ref q7])) S hL
    have N3 := N3.go (o := .lst ([.ref b, .ref b2, .ref b3, .ref b4, .ref b5] ++ [.ref t1, .ref e1, .ref q7])) S hL
    have N4 := N4.go (o := .lst ([.ref b, .ref b2, .ref b3, .ref b4, .ref b5] ++ [.ref t1, .ref e1, .ref q7])) S hL
    have N5 := N5.go (o := .lst ([.ref b, .ref b2, .ref b3, .ref b4, .ref b5] ++ [.ref t1, .ref e1, .ref q7])) S hL
    have V5 := V5.go (o := .lst ([.ref b, .ref b2, .ref b3, .ref b4, .ref b5] ++ [.ref t1, .ref e1, .ref q7])) S hL
    have N6 := N6.go (o := .lst ([.ref b, .ref b2, .ref b3, .ref b4, .ref b5] ++ [.ref t1, .ref e1, .ref q7])) S hL
    have N7 := N7.go (o := .lst ([.ref b, .ref b2, .ref b3, .ref b4, .ref b5] ++ [.ref t1, .ref e1, .ref q7])) S hL
    have ht1 := same_new (o := .lst ([.ref b, .ref b2, .ref b3, .ref b4, .ref b5] ++ [.ref t1, .ref e1, .ref q7])) hL _ _ ht1
    have C := C.new (o := .lst ([.ref b, .ref b2, .ref b3, .ref b4, .ref b5] ++ [.ref t1, .ref e1, .ref q7])) hL
    refine ⟨sr, c, L, _, rfl, C.1, hn.1, hn.2, SqL.of upd_same, (by show 1 ≤ 8; decide), (by show 8 ≤ 1000; decide), fun x H' hx S' k' => ?_⟩
    have C' : Cn H H' sr c := ⟨S', C.2.trans k'⟩
    simp only [List.cons_append, List.nil_append, List.mem_cons, List.not_mem_nil, or_false] at hx
    rcases hx with rfl | rfl | rfl | rfl | rfl | rfl | rfl | rfl
    · exact fin (Nb.kp S k') C'
    · exact fin (N2.kp S k') C'
    · exact fin (N3.kp S k') C'
    · exact fin (N4.kp S k') C'
    · exact fin (N5.kp S k') C'
    · have hs := src_ne S ht0
      refine k t1 (ns.map V.int) H' ht0 (.inr (k' _ _ ht1 hs.1 hs.2)) (by omega) (fun y hy => ((OL.ints (H0 := H) (H := H') hbig) y hy).1) (fun b hb => ?_) C'.1 C'.2
      obtain ⟨n, _, z⟩ := List.mem_map.mp hb
      cases z
    · exact fin (N6.kp S k') C'
    · exact fin (N7.kp S k') C'
end
end Nm
set_option maxRecDepth 100000
set_option maxHeartbeats 4000000
/-! repr of lists, tuples and dicts, where no repr is under way -/
namespace Nm
open PySem PySem.Spec PyProof.Rows L2
/-- a key as a datum -/
def keyD : Key → PyData
  | .inl i => .int i
  | .inr z => .str z
mutual
/-- the value shows this datum -/
inductive Sh (H : Hp) : V → PyData → Prop
  | non : Sh H .non .none
  | bl (b : Bool) : Sh H (.bl b) (.bool b)
  | int (i : Int) : Sh H (.int i) (.int i)
  | str (z : Str) : Sh H (.str z) (.str z)
  | lst {a : Addr} {xs : List V} {ds : List PyData} (e : H a = some (.lst xs)) (h : ShAll H xs ds) : Sh H (.ref a) (.list ds)
  | tup {a : Addr} {xs : List V} {ds : List PyData} (e : H a = some (.tup xs)) (h : ShAll H xs ds) : Sh H (.ref a) (.tuple ds)
inductive ShAll (H : Hp) : List V → List PyData → Prop
  | nil : ShAll H [] []
  | cons {x : V} {d : PyData} {xs : List V} {ds : List PyData} (h : Sh H x d) (t : ShAll H xs ds) : ShAll H (x :: xs) (d :: ds)
end
section
variable {H H' : Hp}
mutual
theorem Sh.ext {x : V} {d : PyData} (s : ∀ b o, H b = some o → H' b = some o) : Sh H x d → Sh H' x d
  | .non => .non
  | .bl b => .bl b
  | .int i => .int i
  | .str z => .str z
  | .lst e h => .lst (s _ _ e) (ShAll.ext s h)
  | .tup e h => .tup (s _ _ e) (ShAll.ext s h)
theorem ShAll.ext {xs : List V} {ds : List PyData} (s : ∀ b o, H b = some o → H' b = some o) : ShAll H xs ds → ShAll H' xs ds
  | .nil => .nil
  | .cons h t => .cons (Sh.ext s h) (ShAll.ext s t)
end
end
section
variable {X : Cx} {pins : List (Addr × Obj)} {σ : L2.St} {H : Hp} {s : Shared}
mutual
theorem sh_reads (I : Inv X pins σ H s) {x : V} {d : PyData} {u : Value} (r : RelV x u) : Sh H x d → ∃ as, Reads s.heap u d as
  | .non => by
    cases (show u = Value.none from r)
    exact ⟨_, .none⟩
  | .bl b => by
    cases (show u = Value.bool b from r)
    exact ⟨_, .bool b⟩
  | .int i => by
    obtain ⟨t, rfl⟩ := (show ∃ t, u = Value.int i t from r)
    exact ⟨_, .int i t⟩
  | .str z => by
    obtain ⟨t, rfl⟩ := (show ∃ t, u = Value.str z t from r)
    exact ⟨_, .str z t⟩
  | .lst (a := a) e h => by
    cases (show u = Value.ref a from r)
    obtain ⟨its, rv, p, hz⟩ := I.list (SqL.of e)
    obtain ⟨o, n, ho, hc, hd, hdat⟩ := p
    obtain ⟨as, ra⟩ := sh_readsAll I (us := its) rv h
    exact ⟨_, .list ho hc hdat (by simpa using ra)⟩
  | .tup (a := a) e h => by
    cases (show u = Value.ref a from r)
    obtain ⟨its, rv, p, hz⟩ := I.tuple (SqT.of e)
    obtain ⟨o, ho, hc, n, hdat⟩ := p
    obtain ⟨as, ra⟩ := sh_readsAll I (us := its) rv h
    exact ⟨_, .tuple ho hc hdat (by simpa using ra)⟩
theorem sh_readsAll (I : Inv X pins σ H s) {xs : List V} {ds : List PyData} {us : List Value} (r : Vals xs us) : ShAll H xs ds → ∃ as, ReadsAll s.heap us ds as
  | .nil => by
    cases r
    exact ⟨_, .nil⟩
  | .cons h t => by
    cases r with
    | cons r1 r2 =>
      obtain ⟨as, ra⟩ := sh_reads I r1 h
      obtain ⟨bs, rb⟩ := sh_readsAll I r2 t
      exact ⟨_, .cons ra rb⟩
end
/-- repr(x) of a list or a tuple: the text that shows it -/
def rRepr : List V → Hp → VK → Prop := fun xs H Q => ∃ (a : Addr) (d : PyData), xs = [.ref a] ∧ Sh H (.ref a) d ∧ d.showable = true ∧ d.hasDict = false ∧ d.depth ≤ 50 ∧ d.shown.length ≤ sizeLine ∧ Q (.str d.shown) H
theorem call_repr (hg : X.A.guards = some []) (hu : X.A.units + 64 < cLine) : CallR X (.builtin "repr") rRepr := by
  intro pins s σ H xs us Q I r h
  obtain ⟨a, d, rfl, hs, h1, h2, h3, h4, q⟩ := h
  obtain ⟨u, rfl, ru⟩ := vals1 r
  obtain ⟨as, hr⟩ := sh_reads I ru hs
  obtain rfl : u = Value.ref a := ru
  exact repr_of_reads' hr h1 (fun z => by rw [h2] at z; cases z) hg (by omega) (fun _ _ e => e) (fun h' u tk k => ⟨.str d.shown, H, I.kept (t' := tk) k, ⟨u, rfl⟩, q⟩) h4
end
end Nm
set_option maxRecDepth 100000
set_option maxHeartbeats 4000000
/-! list(zip(xs, ys)) -/
namespace Nm
open PySem PySem.Spec PyProof.Rows L2
theorem zip_lenless : typeLookup (.type "zip") "__len__" = pure none := am_miss_of_fast (by decide +kernel)
theorem zip_hintless : typeLookup (.type "zip") "__length_hint__" = pure none := am_miss_of_fast (by decide +kernel)
/-- a list of references as it stands -/
abbrev refsObj (ts : List Addr) (c : Nat) : Obj := { cls := .type "list", dict := none, data := .seq (ts.map Value.ref).toArray c, slots := #[] }
/-- a zip on its way into the list at S; g: the heap ahead of it all -/
structure ZL (g h : Heap) (z TI TO i1 i2 l1 l2 S : Addr) (xs ys : Array Value) (i : Nat) (ts : List Addr) (c : Nat) : Prop where
  base : ∀ b o, g.get? b = some o → h.get? b = some o
  size : g.objs.size ≤ h.objs.size
  ti : IsPair h TI (.ref i1) (.ref i2)
  a1 : h.IsListIter i1 l1 i
  a2 : h.IsListIter i2 l2 i
  b1 : h.IsList l1 xs
  b2 : h.IsList l2 ys
  to : ∃ u v, IsPair h TO u v
  st : IsZip h z TI TO .none ∨ ∃ T f oT, IsZipHeld h z TI TO T f ∧ h.get? T = some oT ∧ T ≠ z ∧ T ≠ i1 ∧ T ≠ i2 ∧ T ≠ S
  at_ : h.get? S = some (refsObj ts c)
  len : ts.length = i
  nd : ts.Nodup
  each : ∀ (j : Nat) t, ts[j]? = some t → ∃ x y, xs[j]? = some x ∧ ys[j]? = some y ∧ IsPair h t x y ∧ t ≠ z ∧ t ≠ TO ∧ t ≠ i1 ∧ t ≠ i2 ∧ t ≠ S ∧ g.objs.size ≤ t
/-- S stands apart -/
structure Off (g : Heap) (z TI TO i1 i2 l1 l2 S : Addr) : Prop where
  oz : S ≠ z
  oti : S ≠ TI
  oto : S ≠ TO
  oi1 : S ≠ i1
  oi2 : S ≠ i2
  ol1 : S ≠ l1
  ol2 : S ≠ l2
  nz : g.get? z = none
  nto : g.get? TO = none
  n1 : g.get? i1 = none
  n2 : g.get? i2 = none
  ns : g.get? S = none
/-- what comes of it -/
structure ZD (g h : Heap) (S : Addr) (xs ys : Array Value) (ts : List Addr) (c : Nat) : Prop where
  base : ∀ b o, g.get? b = some o → h.get? b = some o
  at_ : h.get? S = some (refsObj ts c)
  len : ts.length = xs.size
  nd : ts.Nodup
  each : ∀ (j : Nat) t, ts[j]? = some t → ∃ x y, xs[j]? = some x ∧ ys[j]? = some y ∧ IsPair h t x y ∧ t ≠ S ∧ g.objs.size ≤ t
section
variable {P : Program} {w : World} {A : Around} {E : Value → Shared → Prop} {R : Result → Shared → Prop} {g : Heap} {z TI TO i1 i2 l1 l2 S : Addr} {xs ys : Array Value}
/-- S changed -/
theorem ZL.lay {h h' : Heap} {i : Nat} {ts : List Addr} {c c' : Nat} (Z : ZL g h z TI TO i1 i2 l1 l2 S xs ys i ts c) (O : Off g z TI TO i1 i2 l1 l2 S) (k : ∀ b o, b ≠ S → h.get? b = some o → h'.get? b = some o) (le : h.objs.size ≤ h'.objs.size)
    (at_ : h'.get? S = some (refsObj ts c')) : ZL g h' z TI TO i1 i2 l1 l2 S xs ys i ts c' := by
  refine ⟨fun b o e => k b o (fun q => by subst q; rw [O.ns] at e; cases e) (Z.base b o e), Nat.le_trans Z.size le, k _ _ O.oti.symm Z.ti, Z.a1.at fun o e => k _ o O.oi1.symm e, Z.a2.at fun o e => k _ o O.oi2.symm e, Z.b1.at fun o e => k _ o O.ol1.symm e, Z.b2.at fun o e => k _ o O.ol2.symm e, let ⟨u, v, b⟩ := Z.to; ⟨u, v, k _ _ O.oto.symm b⟩, ?_, at_, Z.len, Z.nd, fun j t e => ?_⟩
  · rcases Z.st with a | ⟨T, f, oT, a, b, n1, n2, n3, n4⟩
    · exact .inl (k _ _ O.oz.symm a)
    · exact .inr ⟨T, f, oT, k _ _ O.oz.symm a, k _ _ n4 b, n1, n2, n3, n4⟩
  · obtain ⟨x, y, ex, ey, ep, n1, n2, n3, n4, n5, n6⟩ := Z.each j t e
    exact ⟨x, y, ex, ey, k _ _ n5 ep, n1, n2, n3, n4, n5, n6⟩
theorem zl_loop (D : ZipApart z TI TO i1 i2 l1 l2) (O : Off g z TI TO i1 i2 l1 l2 S) (same : xs.size = ys.size) (lim : xs.size ≤ sizeLine) (hh : A.in1.handled = none) (res : Value) :
    ∀ (k i : Nat) (s : Shared) (ts : List Addr) (c : Nat), xs.size - i = k → i ≤ xs.size → ZL g s.heap z TI TO i1 i2 l1 l2 S xs ys i ts c →
      (∀ h' ts' c', ZD g h' S xs ys ts' c' → R (.ok (.ret res)) { s with heap := h' }) →
      codeAny (model P w) A (.builtin "list.extend.loop" ⟨[.ref S, .ref z, res], []⟩) R s := by
  intro k
  induction k with
  | zero =>
    intro i s ts c ek le Z hR
    obtain rfl : i = xs.size := by omega
    have fin : ∀ h', (∀ b o, b ≠ z → b ≠ TO → b ≠ i1 → b ≠ i2 → s.heap.get? b = some o → h'.get? b = some o) → R (.ok (.ret res)) { s with heap := h' } := fun h' kp => by
      refine hR h' ts c ⟨fun b o e => kp b o (fun q => ?_) (fun q => ?_) (fun q => ?_) (fun q => ?_) (Z.base b o e), kp _ _ O.oz O.oto O.oi1 O.oi2 Z.at_, Z.len, Z.nd, fun j t e => ?_⟩
      · subst q; rw [O.nz] at e; cases e
      · subst q; rw [O.nto] at e; cases e
      · subst q; rw [O.n1] at e; cases e
      · subst q; rw [O.n2] at e; cases e
      · obtain ⟨x, y, ex, ey, ep, n1, n2, n3, n4, n5, n6⟩ := Z.each j t e
        exact ⟨x, y, ex, ey, kp _ _ n1 n2 n3 n4 ep, n5, n6⟩
    have hend : xs[xs.size]? = none ∨ ys[xs.size]? = none := .inl (Array.getElem?_eq_none (Nat.le_refl _))
    refine codeAny_builtin F.entry_extend_loop (by
      rw [Around.under_plainId F.plain_extend_loop _]
      show wpAny _ A.in1 (pyNext (.ref z) >>= _) _ _ s
      refine wpAny_bind ?_
      obtain ⟨u, v, o0⟩ := Z.to
      rcases Z.st with a | ⟨T, f, oT, a, b, n1, n2, n3, n4⟩
      · exact wpAny_pyNext_zip_end hh D a Z.ti o0 Z.a1 Z.a2 Z.b1 Z.b2 hend fun h' kp => wpAny_pure (fin h' kp)
      · exact wpAny_pyNext_zip_end_held hh D a b Z.ti Z.a1 Z.a2 Z.b1 Z.b2 hend fun h' kp => wpAny_pure (fin h' fun b o m1 _ m3 m4 e => kp b o m1 m3 m4 e))
  | succ k ih =>
    intro i s ts c ek le Z hR
    have lt : i < xs.size := by omega
    have ex := Array.getElem?_eq_getElem lt
    have ey := Array.getElem?_eq_getElem (show i < ys.size by omega)
    have off : ∀ {b o}, s.heap.get? b = some o → s.heap.objs.size ≠ b := fun e => Nat.ne_of_gt (Heap.lt_size e)
    have m1 : s.heap.objs.size ≠ i1 := let ⟨_, e, _⟩ := Z.a1; off e
    have m2 : s.heap.objs.size ≠ i2 := let ⟨_, e, _⟩ := Z.a2; off e
    have m3 : s.heap.objs.size ≠ S := off Z.at_
    have m4 : s.heap.objs.size ≠ z := by rcases Z.st with a | ⟨_, _, _, a, _⟩ <;> exact off a
    -- behind one item
    have turn : ∀ h1, (∃ T f oT, IsZipHeld h1 z TI TO T f ∧ h1.get? T = some oT ∧ T ≠ z ∧ T ≠ i1 ∧ T ≠ i2 ∧ T ≠ S) → (∃ u v, IsPair h1 TO u v) → h1.IsListIter i1 l1 (i + 1) → h1.IsListIter i2 l2 (i + 1) → IsPair h1 s.heap.objs.size xs[i] ys[i] → h1.objs.size = s.heap.objs.size + 1 →
        (∀ b o, b ≠ z → b ≠ TO → b ≠ i1 → b ≠ i2 → s.heap.get? b = some o → h1.get? b = some o) →
        wpAny (model P w) A.in1 (updateSeq S (·.push (.ref s.heap.objs.size)) >>= fun _ => again (.builtin "list.extend.loop" ⟨[.ref S, .ref z, res], []⟩))
          (fun fin s' => match fin with | .done f => R (.ok f) s' | .again c' => c'.quiet = true ∧ codeAny (model P w) A c' R s') (fun e s' => R (.error e) s') { s with heap := h1 } := fun h1 st1 to1 c1 c2 cp csz kp => by
      obtain ⟨_, _, o0⟩ := Z.to
      have m5 : s.heap.objs.size ≠ TO := off o0
      have at1 : h1.get? S = some (refsObj ts c) := kp _ _ O.oz O.oto O.oi1 O.oi2 Z.at_
      have sz1 : (ts.map Value.ref).toArray.size = i := by simp [Z.len]
      have nin : s.heap.objs.size ∉ ts := fun m => by
        obtain ⟨j, hj⟩ := List.getElem?_of_mem m
        obtain ⟨_, _, _, _, ep, _⟩ := Z.each j _ hj
        exact off ep rfl
      refine wpAny_bind (wpAny_updateSeq at1 rfl (wpAny_pure ⟨plainId_quiet F.plain_extend_loop _, ?_⟩) (by rw [sz1]; omega) (by show ((ts.map Value.ref).toArray.push _).size ≤ sizeLine + 1; rw [Array.size_push, sz1]; omega))
      have oth : ∀ b o, b ≠ S → h1.get? b = some o → (h1.update S (Obj.mapSeq (·.push (.ref s.heap.objs.size)))).get? b = some o := fun b o n e => (Heap.get?_update_other _ _ n.symm).trans e
      have at2 := Heap.get?_update_self (Obj.mapSeq (·.push (.ref s.heap.objs.size))) at1 rfl
      have size2 : (h1.update S (Obj.mapSeq (·.push (.ref s.heap.objs.size)))).objs.size = s.heap.objs.size + 1 := by rw [Heap.size_update, csz]
      refine ih (i + 1) { s with heap := h1.update S (Obj.mapSeq (·.push (.ref s.heap.objs.size))) } (ts ++ [s.heap.objs.size]) (c + 1) (by omega) lt ⟨fun b o e => ?_, by show g.objs.size ≤ (h1.update S _).objs.size; rw [size2]; have := Z.size; omega, oth _ _ O.oti.symm (kp _ _ D.TIz D.TITO D.TIi1 D.TIi2 Z.ti), c1.at fun o e => oth _ o O.oi1.symm e, c2.at fun o e => oth _ o O.oi2.symm e,
        Z.b1.at fun o e => oth _ o O.ol1.symm (kp _ o D.l1z D.l1TO D.l1i1 D.l1i2 e), Z.b2.at fun o e => oth _ o O.ol2.symm (kp _ o D.l2z D.l2TO D.l2i1 D.l2i2 e), let ⟨u, v, b⟩ := to1; ⟨u, v, oth _ _ O.oto.symm b⟩, .inr ?_, ?_, by simp [Z.len], ?_, fun j t e => ?_⟩ fun h' ts' c' zd => hR h' ts' c' zd
      · refine oth _ _ (fun q => ?_) (kp _ _ (fun q => ?_) (fun q => ?_) (fun q => ?_) (fun q => ?_) (Z.base b o e))
        · subst q; rw [O.ns] at e; cases e
        · subst q; rw [O.nz] at e; cases e
        · subst q; rw [O.nto] at e; cases e
        · subst q; rw [O.n1] at e; cases e
        · subst q; rw [O.n2] at e; cases e
      · obtain ⟨T, f, oT, a, b, n1, n2, n3, n4⟩ := st1
        exact ⟨T, f, oT, oth _ _ O.oz.symm a, oth _ _ n4 b, n1, n2, n3, n4⟩
      · rw [at2]
        simp [refsObj, Obj.mapSeq]
      · rw [List.nodup_append]
        refine ⟨Z.nd, by simp, fun a ha b hb q => ?_⟩
        rw [List.mem_singleton] at hb
        subst hb q
        exact nin ha
      · by_cases q : j < ts.length
        · rw [List.getElem?_append_left q] at e
          obtain ⟨x, y, fx, fy, ep, n1, n2, n3, n4, n5, n6⟩ := Z.each j t e
          exact ⟨x, y, fx, fy, oth _ _ n5 (kp _ _ n1 n2 n3 n4 ep), n1, n2, n3, n4, n5, n6⟩
        · have ej : j = i := by
            have := (List.getElem?_eq_some_iff.mp e).1
            rw [List.length_append, List.length_singleton, Z.len] at this
            rw [Z.len] at q
            omega
          subst ej
          rw [List.getElem?_append_right (by rw [Z.len]; exact Nat.le_refl _), Z.len, Nat.sub_self] at e
          cases e
          exact ⟨_, _, ex, ey, oth _ _ m3 cp, m4, m5, m1, m2, m3, Z.size⟩
    refine codeAny_builtin F.entry_extend_loop (by
      rw [Around.under_plainId F.plain_extend_loop _]
      show wpAny _ A.in1 (pyNext (.ref z) >>= _) _ _ s
      refine wpAny_bind ?_
      obtain ⟨u, v, o0⟩ := Z.to
      rcases Z.st with a | ⟨T, f, oT, a, b, n1, n2, n3, n4⟩
      · refine wpAny_pyNext_zip_item D a Z.ti o0 Z.a1 Z.a2 Z.b1 Z.b2 ex ey fun h1 q1 q2 q3 q4 q5 q6 kp => ?_
        exact turn h1 ⟨s.heap.objs.size, false, _, q1, q5, m4, m1, m2, m3⟩ ⟨_, _, q2⟩ q3 q4 q5 q6 kp
      · refine wpAny_pyNext_zip_item_held D a b Z.ti Z.a1 Z.a2 Z.b1 Z.b2 ex ey fun h1 q1 q3 q4 q5 q6 kp => ?_
        exact turn h1 ⟨T, true, oT, q1, kp _ _ n1 n2 n3 b, n1, n2, n3, n4⟩ ⟨u, v, kp _ _ D.TOz D.TOi1 D.TOi2 o0⟩ q3 q4 q5 q6 fun b o k1 _ k3 k4 e => kp b o k1 k3 k4 e)
end
end Nm
set_option maxRecDepth 100000
set_option maxHeartbeats 4000000
/-! list(zip(xs, ys)) as an expression -/
namespace Nm
open PySem PySem.Spec PyProof.Rows L2
section
variable {P : Program} {w : World} {A : Around} {E : Value → Shared → Prop} {R : Result → Shared → Prop} {g : Heap} {z TI TO i1 i2 l1 l2 S : Addr} {xs ys : Array Value} {s : Shared}
/-- what a list's making waits for -/
abbrev Waits (P : Program) (w : World) (A : Around) (R : Result → Shared → Prop) : PySem.Fin → Shared → Prop := fun fin s' => match fin with
  | .done f => R (.ok f) s'
  | .again c' => c'.quiet = true ∧ codeAny (model P w) A c' R s'
theorem extend_zip (D : ZipApart z TI TO i1 i2 l1 l2) (O : Off g z TI TO i1 i2 l1 l2 S) (same : xs.size = ys.size) (lim : xs.size ≤ sizeLine) (hh : A.in1.handled = none) (res : Value) {c : Nat} (hz : IsZip s.heap z TI TO .none) (Z : ZL g s.heap z TI TO i1 i2 l1 l2 S xs ys 0 [] c)
    (hR : ∀ h' ts c', ZD g h' S xs ys ts c' → R (.ok (.ret res)) { s with heap := h' }) :
    wpAny (model P w) A.in1 (Builtin.List.listExtendWith (.ref S) (.ref z) res) (Waits P w A R) (fun e s' => R (.error e) s') s := by
  have ty : s.TypeIs (.ref z) "zip" := ⟨_, hz, rfl⟩
  unfold Builtin.List.listExtendWith
  refine wpAny_bind (wpAny_typeOf ty ?_)
  have q1 : Builtin.List.listSameRef (.ref S) (.ref z) = false := by simp [Builtin.List.listSameRef, O.oz]
  have q2 : (Value.type "zip" == Value.type "list") = false := by decide
  have q3 : (Value.type "zip" == Value.type "tuple") = false := by decide
  simp only [q1, q2, q3, Bool.or_false, Bool.false_eq_true, if_false]
  refine wpAny_bind (wpAny_pyIter_zip hz (wpAny_bind (wpAny_holding ?_)))
  unfold Builtin.List.listLengthHint
  refine wpAny_bind (wpAny_specialOf ty zip_lenless ?_)
  show wpAny _ A.in1 (specialOf (Value.ref z) (Str.ofString "__length_hint__") >>= _) _ _ _
  refine wpAny_bind (wpAny_specialOf ty zip_hintless (wpAny_pure ?_))
  show wpAny _ A.in1 (rule "list.extend.makes-room" >>= fun _ => Builtin.List.listTouch (.ref S) >>= fun _ => again (.builtin "list.extend.loop" ⟨[.ref S, .ref z, res], []⟩)) _ _ _
  refine wpAny_bind (wpAny_rule (wpAny_bind ?_))
  show wpAny _ A.in1 (updateSeq S (·.push .none) >>= fun _ => updateSeq S (·.pop)) _ _ _
  refine wpAny_bind (wpAny_updateSeq Z.at_ rfl ?_ (by simp [sizeLine_eq]) (by simp [sizeLine_eq]))
  have at2 := Heap.get?_update_self (Obj.mapSeq (·.push Value.none)) Z.at_ rfl
  refine wpAny_updateSeq at2 rfl ?_ (by simp [Obj.mapSeq, refsObj, sizeLine_eq]) (by simp [Obj.mapSeq, refsObj, sizeLine_eq])
  have at3 := Heap.get?_update_self (Obj.mapSeq (·.pop)) at2 rfl
  have oth : ∀ b o, b ≠ S → s.heap.get? b = some o → ((s.heap.update S (Obj.mapSeq (·.push Value.none))).update S (Obj.mapSeq (·.pop))).get? b = some o := fun b o n e => (Heap.get?_update_other _ _ n.symm).trans ((Heap.get?_update_other _ _ n.symm).trans e)
  have Z2 := Z.lay (h' := (s.heap.update S (Obj.mapSeq (·.push Value.none))).update S (Obj.mapSeq (·.pop))) (c' := c + 2) O oth (by rw [Heap.size_update, Heap.size_update]; exact Nat.le_refl _) (by rw [at3]; simp [refsObj, Obj.mapSeq])
  exact wpAny_pure ⟨plainId_quiet F.plain_extend_loop _, zl_loop D O same lim hh res _ 0 _ [] (c + 2) rfl (Nat.zero_le _) Z2 hR⟩
theorem init_zip (D : ZipApart z TI TO i1 i2 l1 l2) (O : Off g z TI TO i1 i2 l1 l2 S) (same : xs.size = ys.size) (lim : xs.size ≤ sizeLine) (hh : A.in1.handled = none) {c : Nat} (hz : IsZip s.heap z TI TO .none) (Z : ZL g s.heap z TI TO i1 i2 l1 l2 S xs ys 0 [] c)
    (hR : ∀ h' ts c', ZD g h' S xs ys ts c' → R (.ok (.ret .none)) { s with heap := h' }) :
    wpAny (model P w) A.in1 (Builtin.«list.__init__» ⟨[.ref S, .ref z], []⟩) (Waits P w A R) (fun e s' => R (.error e) s') s := by
  show wpAny _ A.in1 (Builtin.List.listItems (.ref S) >>= fun old => Builtin.List.listUpdate (.ref S) (fun _ => #[]) >>= fun _ => letGo old.toList.reverse >>= fun _ => Builtin.List.listExtendWith (.ref S) (.ref z) .none) _ _ s
  refine wpAny_bind ?_
  unfold Builtin.List.listItems
  refine wpAny_bind (wpAny_seqItems Z.at_ rfl (wpAny_pure ?_))
  show wpAny _ A.in1 (updateSeq S (fun _ => #[]) >>= fun _ => letGo ((([] : List Addr).map Value.ref).toArray).toList.reverse >>= fun _ => Builtin.List.listExtendWith (.ref S) (.ref z) .none) _ _ s
  refine wpAny_bind (wpAny_updateSeq Z.at_ rfl ?_ (by simp [sizeLine_eq]) (by simp [sizeLine_eq]))
  have at2 := Heap.get?_update_self (Obj.mapSeq (fun _ => (#[] : Array Value))) Z.at_ rfl
  have oth : ∀ b o, b ≠ S → s.heap.get? b = some o → (s.heap.update S (Obj.mapSeq (fun _ => (#[] : Array Value)))).get? b = some o := fun b o n e => (Heap.get?_update_other _ _ n.symm).trans e
  have Z2 := Z.lay (h' := s.heap.update S (Obj.mapSeq (fun _ => (#[] : Array Value)))) (c' := c) O oth (by rw [Heap.size_update]; exact Nat.le_refl _) (by rw [at2]; simp [refsObj, Obj.mapSeq])
  exact wpAny_bind (wpAny_letGo (extend_zip (s := { s with heap := s.heap.update S (Obj.mapSeq (fun _ => (#[] : Array Value))) }) D O same lim hh .none (oth _ _ O.oz.symm hz) Z2 hR))
/-- list(z) of a zip just made -/
theorem call_listZip {Q : Value → Shared → Prop} {h0 : Heap} (la : l1 < h0.objs.size) (lb : l2 < h0.objs.size) (hb1 : h0.IsList l1 xs) (hb2 : h0.IsList l2 ys) (same : xs.size = ys.size) (lim : xs.size ≤ sizeLine) (hh : A.in1.in1.handled = none)
    (hz : IsZip s.heap (h0.objs.size + 4) (h0.objs.size + 2) (h0.objs.size + 3) .none) (hTI : IsPair s.heap (h0.objs.size + 2) (.ref h0.objs.size) (.ref (h0.objs.size + 1))) (hTO : IsPair s.heap (h0.objs.size + 3) .none .none) (a1 : s.heap.IsListIter h0.objs.size l1 0) (a2 : s.heap.IsListIter (h0.objs.size + 1) l2 0)
    (hsz : s.heap.objs.size = h0.objs.size + 5) (hk : ∀ b o, h0.get? b = some o → s.heap.get? b = some o)
    (hQ : ∀ h' ts c', ZD h0 h' (h0.objs.size + 5) xs ys ts c' → Q (.ref (h0.objs.size + 5)) { s with heap := h' }) : wpAny (model P w) A (call (.type "list") [.ref (h0.objs.size + 4)]) Q E s := by
  have fresh : ∀ k, h0.get? (h0.objs.size + k) = none := fun k => Heap.get?_none_of_le (Nat.le_add_right _ _)
  have O : Off h0 (h0.objs.size + 4) (h0.objs.size + 2) (h0.objs.size + 3) h0.objs.size (h0.objs.size + 1) l1 l2 (h0.objs.size + 5) := ⟨Nat.ne_of_gt (Nat.add_lt_add_left (by decide) _), Nat.ne_of_gt (Nat.add_lt_add_left (by decide) _), Nat.ne_of_gt (Nat.add_lt_add_left (by decide) _), Nat.ne_of_gt (Nat.lt_add_of_pos_right (by decide)), Nat.ne_of_gt (Nat.add_lt_add_left (by decide) _), Nat.ne_of_gt (Nat.lt_add_right 5 la), Nat.ne_of_gt (Nat.lt_add_right 5 lb), fresh 4, fresh 3, fresh 0, fresh 1, fresh 5⟩
  refine callType_codes (Q₁ := fun obj s₁ => obj = .ref s.heap.objs.size ∧ s₁ = { s with heap := s.heap.push { cls := .type "list", data := .seq #[] } }) F.called_list (F.typeCall_list_1 _) F.entry_list_init (code_list_new _ ⟨rfl, rfl⟩) fun obj s₁ h₁ => ?_
  obtain ⟨rfl, rfl⟩ := h₁
  have at_ : (s.heap.push { cls := .type "list", data := .seq #[] }).get? s.heap.objs.size = some { cls := .type "list", data := .seq #[] } := Heap.get?_push_size _ rfl
  have kp : ∀ b o, s.heap.get? b = some o → (s.heap.push { cls := .type "list", data := .seq #[] }).get? b = some o := fun b o e => Heap.get?_push_of_some _ e
  refine ⟨⟨_, at_, rfl⟩, F.args_list_init_2 _ _, ?_⟩
  rw [hsz] at at_ ⊢
  refine init_zip (s := { s with heap := s.heap.push { cls := .type "list", data := .seq #[] } }) (PySem.W.ktu_apart h0.objs.size l1 l2 la lb) O same lim hh (kp _ _ hz) ⟨fun b o e => kp b o (hk b o e), by show h0.objs.size ≤ (s.heap.push _).objs.size; rw [Heap.size_push, hsz]; omega, kp _ _ hTI, a1.at fun o e => kp _ o e, a2.at fun o e => kp _ o e, hb1.at fun o e => kp _ o (hk _ o e), hb2.at fun o e => kp _ o (hk _ o e), ⟨_, _, kp _ _ hTO⟩, .inl (kp _ _ hz), at_, rfl, List.nodup_nil, fun j t e => by simp at e⟩ fun h' ts c' zd => ?_
  exact ⟨rfl, hQ h' ts c' zd⟩
/-! ### the objects that come of it -/
theorem refs_vals : ∀ ts : List Addr, Vals (ts.map V.ref) (ts.map Value.ref)
  | [] => .nil
  | t :: ts => .cons (show RelV (.ref t) (.ref t) from rfl) (refs_vals ts)
/-- tuples laid at these places -/
def layT (H : Hp) : List Addr → List V → List V → Hp
  | t :: ts, x :: xs, y :: ys => upd (layT H ts xs ys) t (.tup [x, y])
  | _, _, _ => H
theorem layT_out {H : Hp} {b : Addr} : ∀ {ts : List Addr} {xs ys : List V}, b ∉ ts → layT H ts xs ys b = H b
  | [], _, _, _ => by unfold layT; rfl
  | _ :: _, [], _, _ => by unfold layT; rfl
  | _ :: _, _ :: _, [], _ => by unfold layT; rfl
  | t :: ts, x :: xs, y :: ys, n => by
    show upd (layT H ts xs ys) t _ b = H b
    rw [upd_ne fun e => n (by rw [e]; exact List.mem_cons_self)]
    exact layT_out fun m => n (List.mem_cons_of_mem _ m)
theorem layT_at {H : Hp} : ∀ {ts : List Addr} {xs ys : List V} {j : Nat} {t : Addr} {x y : V}, ts.Nodup → ts[j]? = some t → xs[j]? = some x → ys[j]? = some y → layT H ts xs ys t = some (.tup [x, y])
  | [], _, _, _, _, _, _, _, e, _, _ => by simp at e
  | _ :: _, [], _, _, _, _, _, _, _, e, _ => by simp at e
  | _ :: _, _ :: _, [], _, _, _, _, _, _, _, e => by simp at e
  | t :: ts, x :: xs, y :: ys, 0, _, _, _, _, e1, e2, e3 => by
    cases e1
    cases e2
    cases e3
    exact upd_same
  | t :: ts, x :: xs, y :: ys, j + 1, t', _, _, nd, e1, e2, e3 => by
    obtain ⟨n1, n2⟩ := List.nodup_cons.mp nd
    rw [List.getElem?_cons_succ] at e1 e2 e3
    show upd (layT H ts xs ys) t _ t' = _
    rw [upd_ne fun e => n1 (by rw [← e]; exact List.mem_of_getElem? e1)]
    exact layT_at n2 e1 e2 e3
variable {X : Cx} {pins : List (Addr × Obj)} {σ : L2.St} {H H' : Hp} {h' : Heap}
/-- many objects laid at once -/
theorem laid_all (I : Inv X pins σ H s) (k : ∀ b u, s.heap.get? b = some u → h'.get? b = some u) (old : ∀ b, b < s.heap.objs.size → H' b = H b) (new : ∀ b o, s.heap.objs.size ≤ b → H' b = some o → ObjOk X.prog X.w H' h' b o) : Inv X pins σ H' { s with heap := h' } := by
  have same : ∀ b o, H b = some o → H' b = some o := fun b o e => (old b (I.hok.lt e)).trans e
  refine I.un (t' := s.toks) ⟨fun b o e _ _ _ => k b o e, fun b o e _ _ _ => ⟨o.slots, k b o e⟩, fun b o e n _ => (old b (Heap.lt_size e)).trans n, fun b o e _ => ⟨o, k b o e⟩, fun b xs e => same b _ e, fun b o u e => same b _ e, fun b ps e => ⟨#[], by rw [same b _ e]; simp⟩⟩ fun b o e => ?_
  by_cases c : b < s.heap.objs.size
  · rw [old b c] at e
    exact (I.hok b o e).stay (fun b u _ q => k b u q) (fun b q => same b _ q) fun b xs q => same b _ q
  · exact new b o (Nat.le_of_not_lt c) e
/-- list(zip(xs, ys)): new tuples in a new list -/
def tListZip (K : PySem.W.Frag) (t : TA) : TE := fun σ H Q => t σ H fun vs H1 => ∃ (a b : Addr) (xs ys : List V), vs = [.ref a, .ref b] ∧ SqL K H1 a xs ∧ SqL K H1 b ys ∧ xs.length = ys.length ∧ xs.length ≤ 1000 ∧
  ∀ (p : Addr) (ts : List Addr) (H2 : Hp), H1 p = none → ts.length = xs.length → H2 p = some (.lst (ts.map V.ref)) → (∀ (i : Nat) (t : Addr), ts[i]? = some t → ∃ x y, xs[i]? = some x ∧ ys[i]? = some y ∧ H2 t = some (.tup [x, y])) → (∀ b o, H1 b = some o → H2 b = some o) → Q (.ref p) H2
theorem pe_listZip {e e2 : Expr} {t : TA} {p p2 q pos : Pos} (hc : X.calm = true) (g1 : Gl X "list") (m1 : X.mg "list" = none) (g2 : Gl X "zip") (m2 : X.mg "zip" = none) (ha : PA X [e, e2] t)
    (n1 : starEach [e, e2] X.env = (false, eval e X.env) :: starEach [e2] X.env := by rfl) (n2 : (backTo q (starEach [e2] X.env)).any (·.1) = false := by rfl) (n3 : starEach [.Call (.Name "zip" p2) [e, e2] [] q] X.env = (false, eval (.Call (.Name "zip" p2) [e, e2] [] q) X.env) :: starEach [] X.env := by rfl) : PE X (.Call (.Name "list" p) [.Call (.Name "zip" p2) [e, e2] [] q] [] pos) (tListZip X.K t) := by
  refine ⟨fun pins s σ H Q I h => ?_⟩
  refine Call_ (ld_blt I g1 m1 (show bootBuiltins "list" = some (.type "list") by decide +kernel) (PyProof.Rows.callWith_type1 (PyProof.Rows.args_cons ?_ n3) n3 rfl))
  refine Call_ (ld_blt I g2 m2 PyProof.Rows.boot_zip (PyProof.Rows.callWith_type1 (thn (ha.run q pins s σ H _ I h) fun us s1 ⟨vs, H1, I1, r1, q1⟩ => ?_) n1 n2))
  obtain ⟨a, b, xs, ys, rfl, hqx, hqy, same, lim, k⟩ := q1
  obtain ⟨its, rv, p1, _⟩ := I1.list hqx
  obtain ⟨its2, rv2, p2', _⟩ := I1.list hqy
  have e1 := rv.length
  have e2' := rv2.length
  cases r1 with
  | cons r rr =>
    cases rr with
    | cons r' rr =>
      cases rr
      cases r
      cases r'
      refine call_zip_2 p1.isList p2'.isList fun h1 hz hTI hTO a1 a2 hsz hk => PyProof.Rows.args_nil ?_
      refine call_listZip (s := { s1 with heap := h1 }) (h0 := s1.heap) p1.lt p2'.lt p1.isList p2'.isList (by simp only [List.size_toArray]; omega) (by simp only [List.size_toArray, sizeLine_eq]; omega) (I1.ok.hd hc) hz hTI hTO a1 a2 hsz hk fun h2 ts c zd => ?_
      have len : ts.length = xs.length := by rw [zd.len, List.size_toArray, e1]
      have nsT : s1.heap.objs.size + 5 ∉ ts := fun m => by
        obtain ⟨j, hj⟩ := List.getElem?_of_mem m
        obtain ⟨_, _, _, _, _, n, _⟩ := zd.each j _ hj
        exact n rfl
      have at1 : upd (layT H1 ts xs ys) (s1.heap.objs.size + 5) (.lst (ts.map V.ref)) (s1.heap.objs.size + 5) = some (.lst (ts.map V.ref)) := upd_same
      have tup1 : ∀ (j : Nat) t x y, ts[j]? = some t → xs[j]? = some x → ys[j]? = some y → upd (layT H1 ts xs ys) (s1.heap.objs.size + 5) (.lst (ts.map V.ref)) t = some (.tup [x, y]) := fun j t x y f1 f2 f3 => by
        rw [upd_ne fun q => nsT (by rw [← q]; exact List.mem_of_getElem? f1)]
        exact layT_at zd.nd f1 f2 f3
      have old1 : ∀ b, b < s1.heap.objs.size → upd (layT H1 ts xs ys) (s1.heap.objs.size + 5) (.lst (ts.map V.ref)) b = H1 b := fun b lt => by
        rw [upd_ne (Nat.ne_of_lt (Nat.lt_add_right 5 lt))]
        refine layT_out fun m => ?_
        obtain ⟨j, hj⟩ := List.getElem?_of_mem m
        obtain ⟨_, _, _, _, _, _, n⟩ := zd.each j _ hj
        exact absurd lt (Nat.not_lt.mpr n)
      refine ⟨.ref (s1.heap.objs.size + 5), _, laid_all (s := s1) I1 zd.base old1 fun b o ge eb => ?_, rfl, k (s1.heap.objs.size + 5) ts _ (I1.hok.fresh (Nat.le_add_right _ _)) len at1 (fun j t f1 => ?_) fun b o eb => ?_⟩
      · by_cases cS : b = s1.heap.objs.size + 5
        · subst cS
          rw [at1] at eb
          cases eb
          exact ⟨by rw [List.length_map, len, sizeLine_eq]; omega, ts.map Value.ref, c, refs_vals ts, zd.at_⟩
        · by_cases cT : b ∈ ts
          · obtain ⟨j, hj⟩ := List.getElem?_of_mem cT
            have jl : j < ts.length := (List.getElem?_eq_some_iff.mp hj).1
            have fx := List.getElem?_eq_getElem (show j < xs.length by omega)
            have fy := List.getElem?_eq_getElem (show j < ys.length by omega)
            rw [tup1 j b _ _ hj fx fy] at eb
            cases eb
            obtain ⟨u, v, hu, hv, hp, _⟩ := zd.each j b hj
            obtain ⟨u', hu', ru⟩ := rv.get fx
            obtain ⟨v', hv', rv'⟩ := rv2.get fy
            have eu : u' = u := Option.some.inj (hu'.symm.trans (by simpa using hu))
            have ev : v' = v := Option.some.inj (hv'.symm.trans (by simpa using hv))
            subst eu ev
            exact ⟨by show 2 ≤ sizeLine; decide, [u', v'], .cons ru (.cons rv' .nil), ⟨_, hp, rfl, _, rfl⟩⟩
          · rw [upd_ne cS, layT_out cT, I1.hok.fresh ge] at eb
            cases eb
      · have jl : j < ts.length := (List.getElem?_eq_some_iff.mp f1).1
        have fx := List.getElem?_eq_getElem (show j < xs.length by omega)
        have fy := List.getElem?_eq_getElem (show j < ys.length by omega)
        exact ⟨_, _, fx, fy, tup1 j t _ _ f1 fx fy⟩
      · rw [old1 b (I1.hok.lt eb)]
        exact eb
end
end Nm
set_option maxRecDepth 100000
set_option maxHeartbeats 4000000
/-! spots of ties, by the places of their ends -/
namespace Nm
open PySem L2
theorem pair_mm {x y : Str} (h : x ≠ y) : (minS x y = x ∧ maxS x y = y) ∨ (minS x y = y ∧ maxS x y = x) := by
  unfold minS maxS
  by_cases a : x.cps.toList < y.cps.toList
  · rw [if_pos a, if_neg (List.lt_asymm a)]
    exact .inl ⟨rfl, rfl⟩
  · by_cases b : y.cps.toList < x.cps.toList
    · rw [if_neg a, if_pos b]
      exact .inr ⟨rfl, rfl⟩
    · exfalso
      have := List.le_antisymm (List.not_lt.mp b) (List.not_lt.mp a)
      apply h
      cases x
      cases y
      simp_all
theorem mm_comm {x y : Str} (h : x ≠ y) : minS x y = minS y x ∧ maxS x y = maxS y x := by
  unfold minS maxS
  by_cases a : x.cps.toList < y.cps.toList
  · rw [if_pos a, if_neg (List.lt_asymm a), if_pos a, if_neg (List.lt_asymm a)]
    exact ⟨rfl, rfl⟩
  · by_cases b : y.cps.toList < x.cps.toList
    · rw [if_neg a, if_pos b, if_neg a, if_pos b]
      exact ⟨rfl, rfl⟩
    · exfalso
      have := List.le_antisymm (List.not_lt.mp b) (List.not_lt.mp a)
      apply h
      cases x
      cases y
      simp_all
/-- the spot that a key of a world's ties leads to -/
def spotK (nm : List Str) : List Key → List Key
  | [Sum.inl i, Sum.inl j, Sum.inr kd] => [Sum.inr (minS ((nm[i.toNat]?).getD "") ((nm[j.toNat]?).getD "")), Sum.inr (maxS ((nm[i.toNat]?).getD "") ((nm[j.toNat]?).getD "")), Sum.inr kd]
  | _ => []
theorem spotK_at {nm : List Str} {i j : Nat} {kd x y : Str} (hx : nm[i]? = some x) (hy : nm[j]? = some y) : spotK nm [Sum.inl (i : Int), Sum.inl (j : Int), Sum.inr kd] = [Sum.inr (minS x y), Sum.inr (maxS x y), Sum.inr kd] := by
  show [Sum.inr (minS ((nm[(i : Int).toNat]?).getD "") ((nm[(j : Int).toNat]?).getD "")), Sum.inr (maxS ((nm[(i : Int).toNat]?).getD "") ((nm[(j : Int).toNat]?).getD "")), Sum.inr kd] = _
  rw [Int.toNat_natCast, Int.toNat_natCast, hx, hy]
  rfl
theorem spotK_inj {nm : List Str} (nd : nm.Nodup) {k k' : List Key} (h : TieK nm.length k) (h' : TieK nm.length k') (e : spotK nm k = spotK nm k') : k = k' := by
  obtain ⟨i, j, kd, rfl, h1, h2, _⟩ := h
  obtain ⟨i', j', kd', rfl, h1', h2', _⟩ := h'
  obtain ⟨x, hx⟩ : ∃ x, nm[i]? = some x := ⟨_, List.getElem?_eq_getElem (by omega)⟩
  obtain ⟨y, hy⟩ : ∃ y, nm[j]? = some y := ⟨_, List.getElem?_eq_getElem (by omega)⟩
  obtain ⟨x', hx'⟩ : ∃ x, nm[i']? = some x := ⟨_, List.getElem?_eq_getElem (by omega)⟩
  obtain ⟨y', hy'⟩ : ∃ y, nm[j']? = some y := ⟨_, List.getElem?_eq_getElem (by omega)⟩
  rw [spotK_at hx hy, spotK_at hx' hy'] at e
  simp only [List.cons.injEq, Sum.inr.injEq, and_true] at e
  obtain ⟨e1, e2, e3⟩ := e
  have at_ : ∀ {a b : Nat} {z : Str}, nm[a]? = some z → nm[b]? = some z → a = b := fun {a b z} ha hb => (List.getElem?_inj (List.getElem?_eq_some_iff.mp ha).1 nd).mp (ha.trans hb.symm)
  have hne : x ≠ y := fun z => by
    subst z
    have := at_ hx hy
    omega
  have hne' : x' ≠ y' := fun z => by
    subst z
    have := at_ hx' hy'
    omega
  have fin : (i = i' ∧ j = j') ∨ (i = j' ∧ j = i') := by
    rcases pair_mm hne with ⟨a, b⟩ | ⟨a, b⟩ <;> rcases pair_mm hne' with ⟨a', b'⟩ | ⟨a', b'⟩ <;> rw [a, a'] at e1 <;> rw [b, b'] at e2 <;> subst e1 e2
    · exact .inl ⟨at_ hx hx', at_ hy hy'⟩
    · exact .inr ⟨at_ hx hy', at_ hy hx'⟩
    · exact .inr ⟨at_ hx hy', at_ hy hx'⟩
    · exact .inl ⟨at_ hx hx', at_ hy hy'⟩
  subst e3
  rcases fin with ⟨rfl, rfl⟩ | ⟨rfl, rfl⟩
  · rfl
  · omega
theorem spots_nd {nm : List Str} (nd : nm.Nodup) {ks : List (List Key)} (hk : ∀ k ∈ ks, TieK nm.length k) (hn : ks.Nodup) : (ks.map (spotK nm)).Nodup := by
  refine List.pairwise_map.mpr (List.Pairwise.imp_of_mem (fun {a b} ha hb hne e => hne ?_) hn)
  exact spotK_inj nd (hk a ha) (hk b hb) e
/-- the key that a tuple tells -/
def keyBack (H : Hp) : V → List Key
  | .ref b => (match H b with
    | some (.tup xs) => xs.map keyOf
    | _ => [])
  | _ => []
theorem keyBack_of {H : Hp} {b : Addr} {k : List Key} (h : H b = some (.tup (k.map kV))) : keyBack H (.ref b) = k := by
  show (match H b with
    | some (.tup xs) => xs.map keyOf
    | _ => []) = k
  rw [h]
  show (k.map kV).map keyOf = k
  rw [List.map_map]
  conv => rhs; rw [← List.map_id k]
  exact List.map_congr_left fun x _ => keyOf_kV x
theorem keys_back {H : Hp} : ∀ {kvs : List (List Key × V)} {bs : List Addr}, IsKeys H kvs bs → (bs.map V.ref).map (keyBack H) = kvs.map (·.1)
  | _, _, .nil => rfl
  | _, _, .cons h t => by
    rw [List.map_cons, List.map_cons, List.map_cons, keys_back t, keyBack_of h]
end Nm
set_option maxRecDepth 100000
set_option maxHeartbeats 4000000
namespace Nm
open PySem L2
theorem step_up (x y : V) : stepV [x, y] 1 = [x, y] := by
  have e : stepIx 1 2 = [0, 1] := by decide +kernel
  show (stepIx 1 2).filterMap ([x, y][·]?) = [x, y]
  rw [e]
  rfl
theorem step_down (x y : V) : stepV [x, y] (-1) = [y, x] := by
  have e : stepIx (-1) 2 = [1, 0] := by decide +kernel
  show (stepIx (-1) 2).filterMap ([x, y][·]?) = [y, x]
  rw [e]
  rfl
structure TxtM (K : PySem.W.Frag) (mg : Str → Option Value) (C f : Addr) : Prop extends TxtW K mg C where
  mgC : mg "Web" = some (.ref C)
  mkC : Mk K C f
section
variable {P : Program} {w : World} {K : PySem.W.Frag} {mg : Str → Option Value} {base : Heap}
/-! ### _law_made -/
def spMade (C : Addr) : Sp := fun vs H Q _ => ∃ (s c wd a b t : Addr) (nm cl : List Str) (kvs : List (List Key × V)) (m : Nat), vs = [.ref s, .ref wd] ∧ Src H s c ∧ WorldOk H s c wd a b t nm cl kvs ∧ Ties nm.length m kvs ∧ kvs.length ≤ 4000 ∧ nm.length ≤ 1000 ∧
  ∀ (p q : Addr) (H' : Hp), H p = none → H q = none → WebAt C H' p q nm → Src H' s c → Kp s c H H' → Q (.ref p) H'
abbrev nMd : List Str := ["_law_source", "_law_world", "_law_names", "_law_rows", "_law_one", "_law_other", "_law_kind", "_law_ends"]
theorem scMd : FnScope nMd ["_law_source", "_law_world"] (defScope sMade) := ⟨rfl, rfl, rfl, by decide +kernel, rfl, by decide +kernel, by decide +kernel⟩
theorem ok_made {f C fi : Addr} {fd fdi : FuncData} (F : Fun K "_law_made" "_law_made" sMade f fd) (T : TxtM K mg C fi) (Gp : Def P w K mg base "_law_pick" ["_law_source", "_law_many"] 1 spPick) (Ga : Def P w K mg base "_law_any_order" ["_law_source", "_law_items"] 2 (spAny K))
    (Gi : FnOk P w K mg base CX0 5 fi fdi ["self", "places", "ties"] (spWebI C)) (bi : Binds K fdi ["self", "places", "ties"] []) : FnOk P w K mg base CX0 7 f fd ["_law_source", "_law_world"] (spMade C) := by
  obtain ⟨fp, fdp, Gp, mp, kp, bp⟩ := Gp.ex
  obtain ⟨fa, fda, Ga, ma, ka, ba⟩ := Ga.ex
  refine F.ok scMd (fun vs H Q E h => ?_) (fun cdv A outer s H vs Q E hr h => ?_)
  · obtain ⟨_, _, _, _, _, _, _, _, _, _, rfl, _⟩ := h
    rfl
  · obtain ⟨sa, ca, wd, a, b, t, nm, cl, kvs, m, rfl, S, W, ti, hkl, hnl, k⟩ := h
    have hu := hu_of hr
    have hr1 := hr.mono (by decide : 1 ≤ 6)
    have hr2 := hr.mono (by decide : 2 ≤ 6)
    refine ⟨_, pss_cons (ps_par (i := 2) (j := 3) (by rfl) scMd.nd rfl rfl (by decide) rfl rfl (pa_cons (pe_dget hu (pv 1) pe_str (fun _ _ => rfl)) (pa_cons (pe_lst pa_nil) pa_nil)) (by rfl))
      (Evl.pss_cut (ps_for PassesOwn.never rfl (pi_list (pe_call Ga hr2 (by rfl) ma ka ba .nil pass0 (pa_cons (pv 0) (pa_cons (pe_callTy (call_list_dT rfl) (by rfl) T.list (by decide +kernel) (pa_cons (pe_dget hu (pv 1) pe_str (fun _ _ => rfl)) pa_nil)) pa_nil))))
        (pg_tup rfl (pgs_cons (pg_name (i := 4) scMd.nd rfl (.inl rfl)) (pgs_cons (pg_name (i := 5) scMd.nd rfl (.inl rfl)) (pgs_cons (pg_name (i := 6) scMd.nd rfl (.inl rfl)) pgs_nil))))
        (pss_cons (ps_set (i := 7) scMd.nd rfl (Or.inl rfl) (pe_stepL (pe_lst (pa_cons (pe_ix ix_list (pv 2) (pv 4) (fun _ _ => rfl)) (pa_cons (pe_ix ix_list (pv 2) (pv 5) (fun _ _ => rfl)) pa_nil))) (pe_op op_sub pe_int (pe_op op_mul pe_int (pe_call Gp hr1 (by rfl) mp kp bp .nil pass0 (pa_cons (pv 0) (pa_cons pe_int pa_nil)))))))
        (pss_one (ps_expr (pe_bm PySem.F.plainAttrs_list PySem.F.slot_list_append PySem.F.type_list_append mt_append (pv 3) (pa_cons (pe_tup (pa_cons (pe_ix ix_list (pv 7) pe_int (fun _ _ => rfl)) (pa_cons (pe_ix ix_list (pv 7) pe_int (fun _ _ => rfl)) (pa_cons (pv 6) (pa_cons (pe_dget hu (pe_dget hu (pv 1) pe_str (fun _ _ => rfl)) (pe_tup (pa_cons (pv 4) (pa_cons (pv 5) (pa_cons (pv 6) pa_nil)))) (fun _ _ => rfl)) pa_nil))))) pa_nil))))))
      (pss_one (ps_ret (pe_make T.mkC Gi hr (by rfl) T.mgC bi .nil pass0 (pa_cons (pe_listZip rfl (by rfl) T.list (by rfl) T.zip (pa_cons (pv 2) (pa_cons (pe_dget hu (pv 1) pe_str (fun _ _ => rfl)) pa_nil))) (pa_cons (pv 3) pa_nil)))))), ?_⟩
    have hn := W.hn
    refine ⟨_, rfl, wd, _, rfl, dg_names W.d, (by show 0 ≤ sizeLine; decide), fun ro hro => ⟨_, _, rfl, ?_⟩⟩
    have s1 := same_new (o := .lst []) hro
    have hro1 : (upd H ro (.lst [])) ro = some (.lst (List.map V.ref [])) := upd_same
    have W1 := W.same s1
    have S1 := S.same s1
    generalize upd H ro (.lst []) = H1 at *
    obtain ⟨nrs, nrc⟩ := S.ne hro
    refine ⟨fun σ H2 => ∃ v4 v5 v6 v7 tl, σ = [some (.ref sa), some (.ref wd), some (.ref a), some (.ref ro), v4, v5, v6, v7] ∧ TiesAt H2 ro tl ∧ (∀ t ∈ tl, t.Ok nm) ∧ (tl.map TieV.spot).Nodup ∧ tl.length ≤ 4000 ∧ Src H2 sa ca ∧ Kp sa ca H H2, ?_, ?_⟩
    · refine ⟨_, rfl, _, rfl, wd, _, rfl, dg_ties W1.d, t, kvs, rfl, .inl W1.ht, fun l bs hl hk => ?_⟩
      obtain ⟨kl, hbl⟩ := keyL_of hk
      have s2 := same_new (o := .lst (bs.map V.ref)) hl
      have hl2 : (upd H1 l (.lst (bs.map V.ref))) l = some (.lst (bs.map V.ref)) := upd_same
      have kb : (bs.map V.ref).map (keyBack H1) = kvs.map (·.1) := keys_back hk
      have hbk : ∀ y ∈ bs.map V.ref, ∃ b k, y = V.ref b ∧ H1 b = some (.tup (List.map kV k)) := fun y hy => by
        obtain ⟨b, k, v, h1, h2, _⟩ := kl y hy
        exact ⟨b, k, h1, h2⟩
      generalize upd H1 l (.lst (bs.map V.ref)) = H2 at *
      refine ⟨sa, ca, l, _, rfl, S1.same s2, SqL.of hl2, by rw [List.length_map]; omega, fun p ys H3 hp pm hp3 S3 kp3 => ?_⟩
      have kly : KeyL H3 kvs ys := fun y hy => ((kl.same s2).kp (S1.same s2) kp3) y (pm.subset hy)
      have W3 := (W1.same s2).kp kp3
      have hro3 := kp3 _ _ (s2 _ _ hro1) nrs nrc
      have hyl : ys.length ≤ 4000 := by rw [pm.length_eq, List.length_map]; omega
      have npr : p ≠ ro := fun e => by subst e; rw [s2 _ _ hro1] at hp; cases hp
      have hkk : ((ys.map (keyBack H1)).Perm (kvs.map (·.1))) := by rw [← kb]; exact pm.map _
      have kp03 : Kp sa ca H H3 := (Kp.same (s1.trans s2)).trans kp3
      have hp0 := S3
      have npsc := (S1.same s2).ne hp
      refine ⟨p, rfl, ⟨_, SqL.of hp3⟩, ?_⟩
      refine for_list (xs := ys) (fun i σ H4 => ∃ v4 v5 v6 v7 us tl, σ = [some (.ref sa), some (.ref wd), some (.ref a), some (.ref ro), v4, v5, v6, v7] ∧ H4 ro = some (.lst (List.map V.ref us)) ∧ us.length = i ∧ Paired (fun u tv => H4 u = some (.tup (TieV.tup tv))) us tl ∧ (∀ t ∈ tl, t.Ok nm) ∧ tl.map TieV.spot = ((ys.map (keyBack H1)).take i).map (spotK nm) ∧ Src H4 sa ca ∧ Kp3 sa ca ro H3 H4)
        ⟨none, none, none, none, [], [], rfl, hro3, rfl, .nil, (fun t ht => (List.not_mem_nil ht).elim), rfl, S3, Kp3.refl H3⟩ (fun i σ H4 _ ⟨_, _, _, _, _, _, _, _, _, _, _, _, _, h⟩ => SqL.of (h _ _ hp3 npsc.1 npsc.2 npr)) ?_ ?_
      · rintro i y σ H4 hi ⟨v4, v5, v6, v7, us, tl, rfl, hro4, hul, pu, hok, hsp, S4, kp4⟩
        have hil := (List.getElem?_eq_some_iff.mp hi).1
        have hym := List.mem_of_getElem? hi
        obtain ⟨b1, i1, j1, x1, kd1, rfl, hb1, hmem, hij, hjn, hkw, hx1, hx2⟩ := kly.tie ti hym
        obtain ⟨b1', k1, eb, hbk1⟩ := hbk _ (pm.subset hym)
        cases eb
        obtain ⟨cs0, l0, m0, t0, S30⟩ := id S3
        have nb1 : b1 ≠ sa := ne_of hb1 S30.ds (by intro z; cases z)
        have nb2 : b1 ≠ ca := ne_of hb1 S30.dc (by intro z; cases z)
        have nb3 : b1 ≠ ro := ne_of hb1 hro3 (by intro z; cases z)
        have ek : keyBack H1 (V.ref b1) = [Sum.inl (i1 : Int), Sum.inl (j1 : Int), Sum.inr kd1] := by
          have q1 := (kp3 _ _ (s2 _ _ hbk1) nb1 nb2).symm.trans hb1
          rw [keyBack_of hbk1]
          have q2 : List.map kV k1 = List.map kV [Sum.inl (i1 : Int), Sum.inl (j1 : Int), Sum.inr kd1] := by
            have := Option.some.inj q1
            injection this
          have q3 := congrArg (List.map keyOf) q2
          rw [List.map_map, List.map_map] at q3
          have idk : (keyOf ∘ kV : Key → Key) = id := funext fun z => keyOf_kV z
          rw [idk, List.map_id, List.map_id] at q3
          exact q3
        obtain ⟨x, hx⟩ : ∃ x, nm[i1]? = some x := ⟨_, List.getElem?_eq_getElem (by omega)⟩
        obtain ⟨y, hy⟩ : ∃ x, nm[j1]? = some x := ⟨_, List.getElem?_eq_getElem (by omega)⟩
        have hxy : x ≠ y := fun e => by
          subst e
          have := (List.getElem?_inj (List.getElem?_eq_some_iff.mp hx).1 W.nn).mp (hx.trans hy.symm)
          omega
        have nar : a ≠ ro := fun e => by subst e; rw [W.hn] at hro; cases hro
        have nwr : wd ≠ ro := fun e => by subst e; rw [W.d] at hro; cases hro
        have ntr : t ≠ ro := fun e => by subst e; rw [W.ht] at hro; cases hro
        have hn4 := kp4 _ _ W3.hn W.as.1 W.as.2 nar
        have hwd4 := kp4 _ _ W3.d W.ds.1 W.ds.2 nwr
        have ht4 := kp4 _ _ W3.ht W.ts.1 W.ts.2 ntr
        refine ⟨b1, _, rfl, SqT.of (kp4 _ _ hb1 nb1 nb2 nb3), rfl, _, _, rfl, _, _, rfl, _, _, rfl, rfl, ?_⟩
        refine ⟨_, rfl, _, rfl, a, _, _, V.str x, rfl, rfl, SqL.of hn4, atI_nat (by rw [List.getElem?_map, hx]; rfl), _, rfl, _, rfl, a, _, _, V.str y, rfl, rfl, SqL.of hn4, atI_nat (by rw [List.getElem?_map, hy]; rfl), (by show 2 ≤ sizeLine; decide), fun l1 hl1 => ?_⟩
        have s5 := same_new (o := .lst [V.str x, V.str y]) hl1
        have hl5 : (upd H4 l1 (.lst [V.str x, V.str y])) l1 = some (.lst [V.str x, V.str y]) := upd_same
        have S5 := S4.same s5
        have nl1 := S4.ne hl1
        generalize upd H4 l1 (.lst [V.str x, V.str y]) = H5 at *
        refine ⟨_, rfl, sa, ca, 2, rfl, S5, by decide, by decide, fun kk H6 k0 k1' S6 kp6 => ⟨_, _, rfl, rfl, .inl (by decide), _, _, rfl, rfl, ?_⟩⟩
        refine ⟨_, rfl, l1, _, rfl, ?_, rfl, SqL.of (kp6 _ _ hl5 nl1.1 nl1.2), fun en hen => ?_⟩
        · show (1 : Int) - 2 * kk ≠ 0
          omega
        have ends : ∃ x' y', stepV [V.str x, V.str y] ((some ((1 : Int) - 2 * kk)).getD 1) = [V.str x', V.str y'] ∧ ((x' = x ∧ y' = y) ∨ (x' = y ∧ y' = x)) := by
          have : kk = 0 ∨ kk = 1 := by omega
          rcases this with rfl | rfl
          · exact ⟨x, y, step_up _ _, .inl ⟨rfl, rfl⟩⟩
          · exact ⟨y, x, step_down _ _, .inr ⟨rfl, rfl⟩⟩
        obtain ⟨x', y', est, hor⟩ := ends
        rw [est]
        have s7 := same_new (o := .lst [V.str x', V.str y']) hen
        have hen7 : (upd H6 en (.lst [V.str x', V.str y'])) en = some (.lst [V.str x', V.str y']) := upd_same
        have S7 := S6.same s7
        have kp47 : Kp sa ca H4 (upd H6 en (.lst [V.str x', V.str y'])) := ((Kp.same s5).trans kp6).trans (Kp.same s7)
        generalize upd H6 en (.lst [V.str x', V.str y']) = H7 at *
        have hro7 := kp47 _ _ hro4 nrs nrc
        have hwd7 := kp47 _ _ hwd4 W.ds.1 W.ds.2
        have ht7 := kp47 _ _ ht4 W.ts.1 W.ts.2
        have hval : valV kvs [Sum.inl (i1 : Int), Sum.inl (j1 : Int), Sum.inr kd1] = some (V.int (x1 : Int)) := val_of_mem ti.nd hmem
        refine ⟨_, rfl, .inl ⟨rfl, _, SqL.of hro7⟩, _, rfl, en, _, _, V.str x', rfl, rfl, SqL.of hen7, atI_nat (j := 0) rfl, _, rfl, en, _, _, V.str y', rfl, rfl, SqL.of hen7, atI_nat (j := 1) rfl, _, rfl, _, rfl, wd, _, rfl, dg_ties hwd7, _, rfl, _, rfl, _, rfl, (by show 3 ≤ sizeLine; decide), fun u hu' => ?_⟩
        have s8 := same_new (o := .tup [V.int (i1 : Int), V.int (j1 : Int), V.str kd1]) hu'
        have hu8 : (upd H7 u (.tup [V.int (i1 : Int), V.int (j1 : Int), V.str kd1])) u = some (.tup (List.map kV [Sum.inl (i1 : Int), Sum.inl (j1 : Int), Sum.inr kd1])) := upd_same
        generalize upd H7 u (.tup [V.int (i1 : Int), V.int (j1 : Int), V.str kd1]) = H8 at *
        refine ⟨t, _, rfl, (by rw [← hval]; exact DGet.t (s8 _ _ ht7) hu8), (by show 4 ≤ sizeLine; decide), fun o ho => ?_⟩
        have s9 := same_new (o := .tup [V.str x', V.str y', V.str kd1, V.int (x1 : Int)]) ho
        have ho9 : (upd H8 o (.tup [V.str x', V.str y', V.str kd1, V.int (x1 : Int)])) o = some (.tup (TieV.tup ⟨x', y', kd1, (x1 : Int)⟩)) := upd_same
        have kp79 : Kp sa ca H4 (upd H8 o (.tup [V.str x', V.str y', V.str kd1, V.int (x1 : Int)])) := kp47.trans (Kp.same (s8.trans s9))
        have S9 := S7.same (s8.trans s9)
        have hro9 := s9 _ _ (s8 _ _ hro7)
        generalize upd H8 o (.tup [V.str x', V.str y', V.str kd1, V.int (x1 : Int)]) = H9 at *
        refine ⟨ro, _, _, rfl, rfl, hro9, Evl.sz_lt (by rw [List.length_map]; omega), ?_⟩
        obtain ⟨cs4, l4, m4, t4, S40⟩ := id S4
        have nor : o ≠ ro := ne_of ho9 hro9 (by intro z; cases z)
        refine ⟨_, _, _, _, us ++ [o], tl ++ [⟨x', y', kd1, (x1 : Int)⟩], rfl, by rw [upd_same, List.map_append]; rfl, by simp [hul], ?_, ?_, ?_, S9.upd nrs nrc, fun b' o' e' h1 h2 h3 => ?_⟩
        · refine paired_snoc (Paired.mapP pu fun u' tv h => ?_) (by rw [upd_ne nor]; exact ho9)
          rw [upd_ne (ne_of h hro4 (by intro z; cases z))]
          exact kp79 _ _ h (ne_of h S40.ds (by intro z; cases z)) (ne_of h S40.dc (by intro z; cases z))
        · intro tv htv
          rcases List.mem_append.mp htv with z | z
          · exact hok tv z
          · rw [List.mem_singleton] at z
            subst z
            have mx := List.mem_of_getElem? hx
            have my := List.mem_of_getElem? hy
            rcases hor with ⟨rfl, rfl⟩ | ⟨rfl, rfl⟩
            · exact ⟨mx, my, hxy, hkw, by show (1 : Int) ≤ (x1 : Int); omega⟩
            · exact ⟨my, mx, hxy.symm, hkw, by show (1 : Int) ≤ (x1 : Int); omega⟩
        · have e3 : (ys.map (keyBack H1))[i]? = some [Sum.inl (i1 : Int), Sum.inl (j1 : Int), Sum.inr kd1] := by rw [List.getElem?_map, hi]; exact congrArg some ek
          rw [List.take_add_one, e3, List.map_append, List.map_append, hsp]
          have e4 : TieV.spot ⟨x', y', kd1, (x1 : Int)⟩ = spotK nm [Sum.inl (i1 : Int), Sum.inl (j1 : Int), Sum.inr kd1] := by
            rw [spotK_at hx hy]
            show [Sum.inr (minS x' y'), Sum.inr (maxS x' y'), Sum.inr kd1] = _
            rcases hor with ⟨rfl, rfl⟩ | ⟨rfl, rfl⟩
            · rfl
            · rw [(mm_comm hxy).1, (mm_comm hxy).2]
          rw [List.map_singleton, e4]
          rfl
        · rw [upd_ne h3]
          exact kp79 _ _ (kp4 _ _ e' h1 h2 h3) h1 h2
      · rintro σ H4 ⟨v4, v5, v6, v7, us, tl, rfl, hro4, hul, pu, hok, hsp, S4, kp4⟩
        rw [List.take_of_length_le (by simp)] at hsp
        refine ⟨v4, v5, v6, v7, tl, rfl, ⟨us, hro4, pu⟩, hok, ?_, by rw [← Paired.length pu]; omega, S4, fun b' o' e' h1 h2 => ?_⟩
        · rw [hsp]
          refine spots_nd W.nn (fun k hk' => ?_) (hkk.nodup_iff.mpr ti.nd)
          obtain ⟨kv, hkv, rfl⟩ := List.mem_map.mp (hkk.subset hk')
          exact ti.key kv hkv
        · exact kp4 _ _ (kp03 _ _ e' h1 h2) h1 h2 (ne_of_none e' hro)
    rintro σ H2 ⟨v4, v5, v6, v7, tl, rfl, hti, hok, hnd, hlen, S2, kp2⟩
    have W2 := W.kp kp2
    refine ⟨_, rfl, _, rfl, wd, _, rfl, dg_colours W2.d, a, b, _, _, rfl, SqL.of W2.hn, SqL.of W2.hc, by rw [List.length_map, List.length_map, W.cn], by rw [List.length_map]; exact hnl, fun pl ts H3 hpl0 htl hpl hts s3 => ?_⟩
    refine ⟨_, rfl, fun p dx hp0 hdx0 ne => ?_⟩
    have s4 : Same H3 (upd (upd H3 dx (.own p)) p (.ins C dx [])) := (same_new hdx0).trans (same_new (by rw [upd_ne ne.symm]; exact hp0))
    have hp4 : (upd (upd H3 dx (.own p)) p (.ins C dx [])) p = some (.ins C dx []) := upd_same
    generalize upd (upd H3 dx (.own p)) p (.ins C dx []) = H4 at *
    have s3 : Same H2 H3 := s3
    have s34 := s3.trans s4
    have S4 := S2.same s34
    refine ⟨p, dx, pl, ro, nm, cl, tl, rfl, hp4, ⟨ts, s4 _ _ hpl, by rw [htl, List.length_map], fun i t' ht' => ?_⟩, ?_, W.n1, hnl, W.nn, W.nw, W.cw, hok, hnd, hlen, fun q H5 hq0 web bt => ⟨rfl, ?_⟩⟩
    · obtain ⟨x, y, hx, hy, he⟩ := hts i t' ht'
      rw [List.getElem?_map] at hx hy
      obtain ⟨x', hx', rfl⟩ := Option.map_eq_some_iff.mp hx
      obtain ⟨y', hy', rfl⟩ := Option.map_eq_some_iff.mp hy
      exact ⟨x', y', hx', hy', s4 _ _ he⟩
    · obtain ⟨us, h1, h2⟩ := hti
      exact ⟨us, s34 _ _ h1, Paired.mapP h2 fun u tv e => s34 _ _ e⟩
    · have hp00 : H p = none := kp2.free S2 (s3.free hp0)
      have hq00 : H q = none := kp2.free S2 (s34.free hq0)
      refine k p q H5 hp00 hq00 web ?_ fun b' o' e' h1 h2 => bt _ _ (s34 _ _ (kp2 _ _ e' h1 h2)) (ne_of_none e' hp00)
      obtain ⟨cs, l, m', t', S0⟩ := S4
      exact ⟨cs, l, m', t', ⟨bt _ _ S0.ds (ne_of S0.ds hp4 (by intro z; cases z)), bt _ _ S0.dc (ne_of S0.dc hp4 (by intro z; cases z)), S0.nn, S0.len, S0.l0, S0.m0, S0.m1, S0.t0⟩⟩
end
end Nm
set_option maxRecDepth 100000
set_option maxHeartbeats 4000000
/-! what the law reckons, and what the program tells: one and the same -/
namespace Nm
open PySem L2
/-- the name with a number -/
def nmA (nm : List Str) (w : Nat) : Str := (nm[w]?).getD ""
theorem nmA_at {nm : List Str} {w : Nat} {x : Str} (h : nm[w]? = some x) : nmA nm w = x := by
  unfold nmA
  rw [h]
  rfl
/-- where a dict leads a name -/
def leadG (fkv : List (Key × V)) (x : Str) : Str := match valV fkv (Sum.inr x) with
  | some (.str z) => z
  | _ => ""
theorem lead_at {nm' nm : List Str} {led : List Nat} {i w : Nat} {x y : Str} (hx : nm'[i]? = some x) (hw : led[i]? = some w) (hy : nm[w]? = some y) : (Sum.inr x, V.str y) ∈ leadKV nm' nm led := by
  unfold leadKV
  refine List.mem_map.mpr ⟨(x, w), List.mem_of_getElem? (i := i) ?_, by simp [hy]⟩
  rw [List.getElem?_zip_eq_some]
  exact ⟨hx, hw⟩
/-- what of a folding's dict is known -/
structure Lead (nm' nm : List Str) (led : List Nat) (fkv : List (Key × V)) : Prop where
  pm : fkv.Perm (leadKV nm' nm led)
  nd' : nm'.Nodup
  nd : nm.Nodup
  len : led.length = nm'.length
  lt : ∀ x ∈ led, x < nm.length
section
variable {nm' nm : List Str} {led : List Nat} {fkv : List (Key × V)}
theorem Lead.keys (L : Lead nm' nm led fkv) : (fkv.map (·.1)).Nodup := (L.pm.map (·.1)).nodup_iff.mpr (lead_nd L.len L.nd')
theorem Lead.val (L : Lead nm' nm led fkv) {i w : Nat} {x y : Str} (hx : nm'[i]? = some x) (hw : led[i]? = some w) (hy : nm[w]? = some y) : valV fkv (Sum.inr x) = some (V.str y) := val_of_mem L.keys (L.pm.mem_iff.mpr (lead_at hx hw hy))
theorem Lead.g (L : Lead nm' nm led fkv) {i w : Nat} {x y : Str} (hx : nm'[i]? = some x) (hw : led[i]? = some w) (hy : nm[w]? = some y) : leadG fkv x = y := by
  unfold leadG
  rw [L.val hx hw hy]
theorem Lead.there (L : Lead nm' nm led fkv) {i : Nat} {x : Str} (hx : nm'[i]? = some x) : ∃ w y, led[i]? = some w ∧ nm[w]? = some y := by
  have hi := (List.getElem?_eq_some_iff.mp hx).1
  obtain ⟨w, hw⟩ : ∃ w, led[i]? = some w := ⟨_, List.getElem?_eq_getElem (by rw [L.len]; exact hi)⟩
  exact ⟨w, _, hw, List.getElem?_eq_getElem (L.lt w (List.mem_of_getElem? hw))⟩
/-- as the judging functions ask for it -/
theorem Lead.ok (L : Lead nm' nm led fkv) : ∀ x ∈ nm', valV fkv (Sum.inr x) = some (V.str (leadG fkv x)) ∧ leadG fkv x ∈ nm := fun x hx => by
  obtain ⟨i, hi⟩ := List.getElem?_of_mem hx
  obtain ⟨w, y, hw, hy⟩ := L.there hi
  rw [L.g hi hw hy]
  exact ⟨L.val hi hw hy, List.mem_of_getElem? hy⟩
/-- the names over y, by numbers -/
theorem Lead.over_take (L : Lead nm' nm led fkv) {q : Nat} {y : Str} (hq : nm[q]? = some y) : ∀ i, i ≤ nm'.length → overL (nm'.take i) (leadG fkv) y = (posU led i q).map (nmA nm')
  | 0, _ => rfl
  | i + 1, le => by
    obtain ⟨x, hx⟩ : ∃ x, nm'[i]? = some x := ⟨_, List.getElem?_eq_getElem le⟩
    obtain ⟨w, z, hw, hz⟩ := L.there hx
    have ih := L.over_take hq i (by omega)
    have g := L.g hx hw hz
    by_cases e : w = q
    · subst e
      have : z = y := Option.some.inj (hz.symm.trans hq)
      subst this
      rw [overL_yes hx g, posU_yes hw, ih, List.map_append, List.map_singleton, nmA_at hx]
    · have ne : ¬ leadG fkv x = y := fun z' => by
        rw [g] at z'
        subst z'
        exact e ((List.getElem?_inj (List.getElem?_eq_some_iff.mp hz).1 L.nd).mp (hz.trans hq.symm))
      rw [overL_no hx ne, posU_no hw (fun z' => e z'.symm), ih]
theorem Lead.over (L : Lead nm' nm led fkv) {q : Nat} {y : Str} (hq : nm[q]? = some y) : overL nm' (leadG fkv) y = (posU led led.length q).map (nmA nm') := by
  have := L.over_take hq nm'.length (Nat.le_refl _)
  rw [List.take_of_length_le (Nat.le_refl _), ← L.len] at this
  exact this
/-- the counts -/
def cnts (led : List Nat) (n : Nat) : List Nat := (List.range n).map fun q => (posU led led.length q).length
theorem Lead.counts (L : Lead nm' nm led fkv) : (nm.map fun y => (overL nm' (leadG fkv) y).length) = cnts led nm.length := by
  refine List.ext_getElem? fun q => ?_
  unfold cnts
  rw [List.getElem?_map, List.getElem?_map]
  by_cases c : q < nm.length
  · have hq := List.getElem?_eq_getElem c
    rw [hq, List.getElem?_range c, Option.map_some, Option.map_some, L.over hq, List.length_map]
  · rw [List.getElem?_eq_none (by omega), List.getElem?_eq_none (by rw [List.length_range]; omega)]
    rfl
/-- two such dicts are equal -/
theorem Lead.eqs {fkv2 : List (Key × V)} (L : Lead nm' nm led fkv) (L2 : Lead nm' nm led fkv2) : fkv.length = fkv2.length ∧ ∀ p ∈ fkv, valV fkv2 p.1 = some p.2 ∧ flatB p.2 = true := by
  refine ⟨(L.pm.trans L2.pm.symm).length_eq, fun p m => ?_⟩
  have m1 := L.pm.mem_iff.mp m
  refine ⟨val_of_mem L2.keys (L2.pm.mem_iff.mpr m1), ?_⟩
  unfold leadKV at m1
  obtain ⟨z, _, rfl⟩ := List.mem_map.mp m1
  rfl
end
/-- by least and greatest: is there one over each? -/
theorem all_pos {ks : List Nat} {m : Int} (hm : m ∈ ks.map fun (k : Nat) => (k : Int)) (le : ∀ j ∈ ks.map fun (k : Nat) => (k : Int), m ≤ j) : (ks.all fun n => decide (0 < n)) = decide (0 < m) := by
  by_cases c : 0 < m
  · rw [decide_eq_true c]
    refine List.all_eq_true.mpr fun k hk => decide_eq_true ?_
    have := le (k : Int) (List.mem_map.mpr ⟨k, hk, rfl⟩)
    omega
  · rw [decide_eq_false c]
    obtain ⟨k, hk, rfl⟩ := List.mem_map.mp hm
    refine List.all_eq_false.mpr ⟨k, hk, ?_⟩
    simp
    omega
theorem all_same {ks : List Nat} {k0 : Nat} {m M : Int} (h0 : ks[0]? = some k0) (hm : m ∈ ks.map fun (k : Nat) => (k : Int)) (le : ∀ j ∈ ks.map fun (k : Nat) => (k : Int), m ≤ j) (hM : M ∈ ks.map fun (k : Nat) => (k : Int)) (ge : ∀ j ∈ ks.map fun (k : Nat) => (k : Int), j ≤ M) :
    (decide (0 < k0) && ks.all fun n => decide (n = k0)) = (decide (0 < m) && decide (m = M)) := by
  have m0 : k0 ∈ ks := List.mem_of_getElem? h0
  by_cases c : m = M
  · subst c
    have same : ∀ k ∈ ks, (k : Int) = m := fun k hk => Int.le_antisymm (ge _ (List.mem_map.mpr ⟨k, hk, rfl⟩)) (le _ (List.mem_map.mpr ⟨k, hk, rfl⟩))
    have e0 := same k0 m0
    have a1 : (ks.all fun n => decide (n = k0)) = true := List.all_eq_true.mpr fun k hk => decide_eq_true (by have := same k hk; omega)
    rw [a1, Bool.and_true, decide_eq_true (rfl : m = m), Bool.and_true]
    by_cases p : 0 < k0
    · rw [decide_eq_true p, decide_eq_true (by omega)]
    · rw [decide_eq_false p, decide_eq_false (by omega)]
  · rw [decide_eq_false c, Bool.and_false]
    obtain ⟨a, ha, ea⟩ := List.mem_map.mp hm
    obtain ⟨b, hb, eb⟩ := List.mem_map.mp hM
    have a1 : (ks.all fun n => decide (n = k0)) = false := by
      refine List.all_eq_false.mpr ?_
      by_cases p : a = k0
      · exact ⟨b, hb, by simp; omega⟩
      · exact ⟨a, ha, by simp [p]⟩
    rw [a1, Bool.and_false]
theorem none_same {ks : List Nat} {k0 : Nat} {m : Int} (hm : m ∈ ks.map fun (k : Nat) => (k : Int)) (c : ¬ 0 < m) : (decide (0 < k0) && ks.all fun n => decide (n = k0)) = false := by
  obtain ⟨a, ha, ea⟩ := List.mem_map.mp hm
  by_cases p : 0 < k0
  · have a1 : (ks.all fun n => decide (n = k0)) = false := List.all_eq_false.mpr ⟨a, ha, by simp; omega⟩
    rw [a1, Bool.and_false]
  · rw [decide_eq_false p, Bool.false_and]
/-- a web over itself -/
def selfKV (nm : List Str) : List (Key × V) := nm.map fun x => (Sum.inr x, V.str x)
theorem self_keys (nm : List Str) : (selfKV nm).map (·.1) = nm.map Sum.inr := by
  unfold selfKV
  rw [List.map_map]
  rfl
theorem self_nd {nm : List Str} (nd : nm.Nodup) : ((selfKV nm).map (·.1)).Nodup := by
  rw [self_keys]
  exact List.Pairwise.map _ (fun a b hab e => hab (Sum.inr.inj e)) nd
theorem self_ok {nm : List Str} (nd : nm.Nodup) : ∀ x ∈ nm, valV (selfKV nm) (Sum.inr x) = some (V.str (id x)) ∧ id x ∈ nm := fun x hx => ⟨val_of_mem (self_nd nd) (List.mem_map.mpr ⟨x, hx, rfl⟩), hx⟩
theorem self_over {nm : List Str} (nd : nm.Nodup) : ∀ y ∈ nm, (overL nm id y).length = 1 := by
  intro y hy
  have e : overL nm id y = nm.filter (· == y) := by
    unfold overL
    congr 1
  have h1 : nm.count y ≤ 1 := List.nodup_iff_count.mp nd y
  have h2 : 0 < nm.count y := List.count_pos_iff.mpr hy
  rw [e, ← List.count_eq_length_filter]
  omega
theorem self_onto {nm : List Str} (nd : nm.Nodup) : ((nm.map fun y => (overL nm id y).length).all fun n => decide (0 < n)) = true := by
  rw [List.all_map]
  refine List.all_eq_true.mpr fun y hy => ?_
  show decide (0 < (overL nm id y).length) = true
  rw [self_over nd y hy]
  rfl
theorem self_spread {nm : List Str} (nd : nm.Nodup) {y0 : Str} (h : nm[0]? = some y0) : (decide (0 < (overL nm id y0).length) && (nm.map fun y => (overL nm id y).length).all fun n => decide (n = (overL nm id y0).length)) = true := by
  rw [self_over nd y0 (List.mem_of_getElem? h), List.all_map]
  refine Bool.and_eq_true_iff.mpr ⟨rfl, List.all_eq_true.mpr fun y hy => ?_⟩
  show decide ((overL nm id y).length = 1) = true
  rw [self_over nd y hy]
  rfl
end Nm
set_option maxRecDepth 100000
set_option maxHeartbeats 4000000
/-! the law's mathematics: both ways to the same numbers; what a list of odd things shows -/
namespace Nm
open PySem PySem.Spec PyProof.Rows L2
/-! ### the groups -/
def grpOf (led : List Nat) (n : Nat) : List (List Nat) := (List.range n).map fun q => posU led led.length q
theorem int_nm {nm : List Str} {ns : List Int} (hl : ns.length = nm.length) (nd : nm.Nodup) {w : Nat} (hw : w < nm.length) : intAt nm ns (nmA nm w) = ns.getD w 0 := by
  have hx := List.getElem?_eq_getElem hw
  have hn : ns[w]? = some (ns[w]'(by omega)) := List.getElem?_eq_getElem (by omega)
  have hv : (ns.map V.int)[w]? = some (V.int (ns[w]'(by omega))) := by
    rw [List.getElem?_map, hn]
    rfl
  have e := clr_at (by rw [List.length_map]; exact hl) nd hx hv
  unfold intAt
  rw [nmA_at hx, e, List.getD_eq_getElem?_getD, hn]
  rfl
theorem Lead.groups {nm' nm : List Str} {led : List Nat} {fkv : List (Key × V)} (L : Lead nm' nm led fkv) {ns : List Int} (hl : ns.length = nm'.length) : groups nm' nm (leadG fkv) ns = (grpOf led nm.length).map (pickN ns) := by
  unfold Nm.groups grpOf
  apply List.ext_getElem?
  intro q
  rw [List.getElem?_map, List.getElem?_map, List.getElem?_map]
  cases hq : nm[q]? with
  | none =>
    have : ¬ q < nm.length := fun z => by
      rw [List.getElem?_eq_getElem z] at hq
      cases hq
    rw [List.getElem?_eq_none (by rw [List.length_range]; omega)]
    rfl
  | some y =>
    have hql := (List.getElem?_eq_some_iff.mp hq).1
    rw [List.getElem?_range hql]
    show some ((overL nm' (leadG fkv) y).map (intAt nm' ns)) = some (pickN ns (posU led led.length q))
    rw [L.over hq, List.map_map]
    congr 1
    refine List.map_congr_left fun w hw => ?_
    have hwl : w < nm'.length := by
      rw [← L.len]
      exact posU_lt hw
    exact int_nm hl L.nd' hwl
/-- led_up's answer -/
theorem Lead.up {nm' nm : List Str} {led : List Nat} {fkv : List (Key × V)} (L : Lead nm' nm led fkv) (nd : nm.Nodup) {xs : List V} (hl : xs.length = nm.length) : (nm'.map fun x => clrAt nm xs (leadG fkv x)) = led.map fun p => xs.getD p .non := by
  apply List.ext_getElem?
  intro i
  rw [List.getElem?_map, List.getElem?_map]
  cases hx : nm'[i]? with
  | none =>
    have : ¬ i < nm'.length := fun z => by
      rw [List.getElem?_eq_getElem z] at hx
      cases hx
    rw [List.getElem?_eq_none (by rw [L.len]; omega)]
    rfl
  | some x =>
    obtain ⟨w, y, hw, hy⟩ := L.there hx
    have hwl := (List.getElem?_eq_some_iff.mp hy).1
    have hv : xs[w]? = some (xs[w]'(by omega)) := List.getElem?_eq_getElem (by omega)
    rw [hw]
    show some (clrAt nm xs (leadG fkv x)) = some (xs.getD w .non)
    rw [L.g hx hw hy, clr_at hl nd hy hv, List.getD_eq_getElem?_getD, hv]
    rfl
/-! ### what it shows -/
structure Odd5 (d : PyData) : Prop where
  show_ : d.showable = true
  nod : d.hasDict = false
  dep : d.depth ≤ 5
  leaf : d.leavesShort 1010 = true
  bulk : d.bulk ≤ 1
theorem int_short {i : Int} (h : i.natAbs.log2 < 1000) : (PyData.shown (.int i)).length ≤ 1010 := by
  have e := PySem.int_text_length_le (a := i) (k := 1000) (by decide) h
  show (Str.ofString (toString i)).length ≤ 1010
  rw [PySem.ofString_length]
  omega
theorem odd_int {i : Int} (h : i.natAbs.log2 < 1000) : Odd5 (.int i) := ⟨decide_eq_true (show i.natAbs.log2 < 1920 by omega), rfl, by simp [PyData.depth], decide_eq_true (int_short h), by simp [PyData.bulk]⟩
theorem OddV.sh {H : Hp} {y : V} (h : OddV H y) : ∃ d, Sh H y d ∧ Odd5 d := by
  cases h with
  | int i h => exact ⟨_, .int i, odd_int h⟩
  | bl b => exact ⟨_, .bl b, ⟨rfl, rfl, by simp [PyData.depth], rfl, by simp [PyData.bulk]⟩⟩
  | non => exact ⟨_, .non, ⟨rfl, rfl, by simp [PyData.depth], rfl, by simp [PyData.bulk]⟩⟩
  | one => exact ⟨_, .str _, ⟨rfl, rfl, by decide +kernel, by decide +kernel, by decide +kernel⟩⟩
  | lst e => exact ⟨_, .lst e (.cons (.int 0) .nil), ⟨by decide +kernel, by decide +kernel, by decide +kernel, by decide +kernel, by decide +kernel⟩⟩
  | tup e => exact ⟨_, .tup e (.cons (.int 1) .nil), ⟨by decide +kernel, by decide +kernel, by decide +kernel, by decide +kernel, by decide +kernel⟩⟩
theorem odd_all {H : Hp} : ∀ {ys : List V}, (∀ y ∈ ys, OddV H y) → ∃ ds : List PyData, ShAll H ys ds ∧ PyData.showableAll ds = true ∧ PyData.hasDictAll ds = false ∧ PyData.depthAll ds ≤ 5 ∧ PyData.leavesShortAll 1010 ds = true ∧ PyData.bulkAll ds ≤ 2 * ys.length
  | [], _ => ⟨[], .nil, rfl, rfl, by simp [PyData.depthAll], rfl, by simp [PyData.bulkAll]⟩
  | y :: ys, h => by
    obtain ⟨d, hd, o⟩ := (h y List.mem_cons_self).sh
    obtain ⟨ds, hs, a1, a2, a3, a4, a5⟩ := odd_all fun z hz => h z (List.mem_cons_of_mem _ hz)
    have o1 := o.dep
    have o2 := o.bulk
    refine ⟨d :: ds, .cons hd hs, ?_, ?_, ?_, ?_, ?_⟩
    · simp only [PyData.showableAll, o.show_, a1, Bool.and_self]
    · simp only [PyData.hasDictAll, o.nod, a2, Bool.or_self]
    · simp only [PyData.depthAll]
      omega
    · simp only [PyData.leavesShortAll, o.leaf, a4, Bool.and_self]
    · simp only [PyData.bulkAll, List.length_cons]
      omega
/-- a list or a tuple of such things has one text -/
theorem odd_text {H : Hp} {r : Addr} {ys : List V} (hr : H r = some (.lst ys) ∨ H r = some (.tup ys)) (h : ∀ y ∈ ys, OddV H y) (hl : ys.length ≤ 1000) :
    ∃ d : PyData, Sh H (.ref r) d ∧ d.showable = true ∧ d.hasDict = false ∧ d.depth ≤ 50 ∧ d.shown.length ≤ sizeLine := by
  obtain ⟨ds, hs, a1, a2, a3, a4, a5⟩ := odd_all h
  have fits : ∀ d : PyData, d.leavesShort 1010 = true → d.bulk ≤ 2000 → d.shown.length ≤ sizeLine := fun d h1 h2 => by
    have := PyData.shown_le_bulk 1010 (by decide) d h1
    rw [sizeLine_eq]
    have h3 : (1010 + 2) * d.bulk ≤ 1012 * 2000 := Nat.mul_le_mul_left _ h2
    omega
  rcases hr with e | e
  · refine ⟨.list ds, .lst e hs, by simpa only [PyData.showable] using a1, by simpa only [PyData.hasDict] using a2, ?_, fits _ (by simpa only [PyData.leavesShort] using a4) ?_⟩
    · simp only [PyData.depth]
      omega
    · simp only [PyData.bulk]
      omega
  · refine ⟨.tuple ds, .tup e hs, by simpa only [PyData.showable] using a1, by simpa only [PyData.hasDict] using a2, ?_, fits _ (by simpa only [PyData.leavesShort] using a4) ?_⟩
    · simp only [PyData.depth]
      omega
    · simp only [PyData.bulk]
      omega
end Nm
set_option maxRecDepth 100000
set_option maxHeartbeats 4000000
/-! != of two dicts of lists of texts, the same ones; repr of a bool -/
namespace Nm
open PySem PySem.Spec PyProof.Rows L2
section
variable {X : Cx} {pins : List (Addr × Obj)} {σ : L2.St} {H : Hp} {s : Shared}
theorem strs_hit {A : Around} : ∀ {zs : List Str} {us ws : List Value}, Vals (zs.map V.str) us → Vals (zs.map V.str) ws → us.length = ws.length ∧ ∀ j (h1 : j < us.length) (h2 : j < ws.length), SeqAt.EqAt A s us[j] ws[j] true
  | [], _, _, .nil, .nil => ⟨rfl, fun j h1 => absurd h1 (Nat.not_lt_zero j)⟩
  | z :: zs, _, _, .cons r t, .cons r' t' => by
    obtain ⟨e, k⟩ := strs_hit t t'
    refine ⟨by simp [e], fun j h1 h2 => ?_⟩
    cases j with
    | zero => exact eqAt_same r r' rfl
    | succ j => exact k j (Nat.lt_of_succ_lt_succ h1) (Nat.lt_of_succ_lt_succ h2)
/-- two lists of the same texts -/
theorem lists_hit (I : Inv X pins σ H s) {A : Around} (hu : A.units < cLine) {u v : Addr} {zs : List Str} (hu' : H u = some (.lst (zs.map V.str))) (hv : H v = some (.lst (zs.map V.str))) : SeqAt.EqAt A s (.ref u) (.ref v) true := by
  by_cases e : u = v
  · subst e
    exact SeqAt.EqAt.same _
  obtain ⟨us, r1, p1, _⟩ := I.list (SqL.of hu')
  obtain ⟨ws, r2, p2, _⟩ := I.list (SqL.of hv)
  obtain ⟨sz, items⟩ := strs_hit (s := s) (A := A.in1) r1 r2
  have z := SeqAt.RcAt.lists (A := A) (e := fun _ => true) p1.isList p2.isList (by simpa using sz) hu fun j h1 h2 => by simpa using items j (by simpa using h1) (by simpa using h2)
  rw [show ((List.range us.toArray.size).all fun _ => true) = true from List.all_eq_true.mpr fun _ _ => rfl] at z
  exact SeqAt.EqAt.of_refs e z
/-- each key leads to a list of the same texts -/
def SameLists (H : Hp) (ks ls : List (Key × V)) : Prop := ks.length = ls.length ∧ ∀ p ∈ ks, ∃ (u v : Addr) (zs : List Str), p.2 = V.ref u ∧ valV ls p.1 = some (V.ref v) ∧ H u = some (.lst (zs.map V.str)) ∧ H v = some (.lst (zs.map V.str))
theorem dict_hits (I : Inv X pins σ H s) {A : Around} (hu : A.units < cLine) {ls : List (Key × V)} {vb : List (Key × Value)} (rb : KV ls vb) : ∀ {ks : List (Key × V)} {va : List (Key × Value)}, KV ks va →
    (∀ p ∈ ks, ∃ (u v : Addr) (zs : List Str), p.2 = V.ref u ∧ valV ls p.1 = some (V.ref v) ∧ H u = some (.lst (zs.map V.str)) ∧ H v = some (.lst (zs.map V.str))) → PySem.W.KeqHits A s vb va true := by
  intro ks va ra
  unfold KV at ra
  induction ra with
  | nil => exact fun _ => .nil
  | @cons p q ps qs h t ih =>
    intro hp
    obtain ⟨e1, e2⟩ := h
    obtain ⟨u, v, zs, ep, ev, hu1, hv1⟩ := hp p List.mem_cons_self
    have there : RelO (some (V.ref v)) (valueAt vb p.1) := by rw [← ev]; exact rb.val p.1
    obtain ⟨y, hy, ry⟩ := there.some_of
    obtain ⟨key, z⟩ := q
    obtain rfl : p.1 = key := e1
    rw [ep] at e2
    cases (show z = Value.ref u from e2)
    cases (show y = Value.ref v from ry)
    exact PySem.W.KeqHits.hit (b := true) (e := true) hy (lists_hit I hu hu1 hv1) (ih fun p' m => hp p' (List.mem_cons_of_mem _ m))
def rNeL : R2 := fun x y H Q => ∃ a b ks ls, x = V.ref a ∧ y = V.ref b ∧ H a = some (.dK ks) ∧ H b = some (.dK ls) ∧ SameLists H ks ls ∧ Q (.bl false) H
theorem op_neL (hu : X.A.units + 1 < cLine) : OpR X (compareOp .NotEq) rNeL := by
  intro pins s σ H x y v u Q I rx ry h
  obtain ⟨a, b, ks, ls, rfl, rfl, ha, hb, ⟨len, each⟩, q⟩ := h
  cases (show v = Value.ref a from rx)
  cases (show u = Value.ref b from ry)
  obtain ⟨_, ya, va, ra, da⟩ := (show ObjOk X.prog X.w H s.heap a (.dK ks) from I.hok a _ ha)
  obtain ⟨_, yb, vb, rb, db⟩ := (show ObjOk X.prog X.w H s.heap b (.dK ls) from I.hok b _ hb)
  have same : va.length = vb.length := by rw [← ra.length, ← rb.length]; exact len
  refine PySem.W.keq_ne (knd := mixKind X.prog X.w) (r := true) ya yb da db (by omega) (fun _ => dict_hits I (A := X.A.in1) (show X.A.units + 1 < cLine from hu) rb ra each) ?_
  rw [same]
  exact ⟨.bl false, H, I, by show Value.bool (!(vb.length == vb.length && true)) = Value.bool false; simp, q⟩
/-- repr of a bool -/
theorem call_reprB : CallR X (.builtin "repr") (fun xs H Q => ∃ b : Bool, xs = [.bl b] ∧ Q (.str (if b then "True" else "False")) H) := by
  intro pins s σ H xs us Q I r h
  obtain ⟨b, rfl, q⟩ := h
  cases r with
  | cons r t =>
    cases t
    cases (show _ = Value.bool b from r)
    exact PySem.P.repr_of_bool ⟨.str (if b then "True" else "False"), H, I.tok _, ⟨_, rfl⟩, q⟩
end
end Nm
set_option maxRecDepth 100000
set_option maxHeartbeats 4000000
/-! != of two lists of the same texts -/
namespace Nm
open PySem PySem.Spec PyProof.Rows L2
section
variable {X : Cx}
def rNeS (K : PySem.W.Frag) : R2 := fun x y H Q => ∃ (a b : Addr) (zs : List Str), x = V.ref a ∧ y = V.ref b ∧ SqL K H a (zs.map V.str) ∧ SqL K H b (zs.map V.str) ∧ Q (.bl false) H
theorem op_neS (hu : X.A.units + 1 < cLine) : OpR X (compareOp .NotEq) (rNeS X.K) := by
  intro pins s σ H x y v u Q I rx ry h
  obtain ⟨a, b, zs, rfl, rfl, ha, hb, q⟩ := h
  cases (show v = Value.ref a from rx)
  cases (show u = Value.ref b from ry)
  obtain ⟨us, r1, p1, _⟩ := I.list ha
  obtain ⟨ws, r2, p2, _⟩ := I.list hb
  obtain ⟨sz, items⟩ := strs_hit (s := s) (A := X.A.in1) r1 r2
  have z := SeqAt.RcNeAt.lists (A := X.A) (e := fun _ => true) p1.isList p2.isList (by simpa using sz) (by omega) fun j h1 h2 => by simpa using items j (by simpa using h1) (by simpa using h2)
  rw [show ((List.range us.toArray.size).all fun _ => true) = true from List.all_eq_true.mpr fun _ _ => rfl] at z
  exact z X.prog X.w X.xe (EP X pins σ Q) ⟨.bl false, H, I, rfl, q⟩
end
end Nm
set_option maxRecDepth 100000
set_option maxHeartbeats 4000000
/-! != of two things that are equal: two Nones, two lists of the same numbers and texts -/
namespace Nm
open PySem PySem.Spec PyProof.Rows L2
section
variable {X : Cx} {s : Shared}
theorem flat_hit {A : Around} : ∀ {xs : List V} {us ws : List Value}, (∀ x ∈ xs, flatB x = true) → Vals xs us → Vals xs ws → us.length = ws.length ∧ ∀ j (h1 : j < us.length) (h2 : j < ws.length), SeqAt.EqAt A s us[j] ws[j] true
  | [], _, _, _, .nil, .nil => ⟨rfl, fun j h1 => absurd h1 (Nat.not_lt_zero j)⟩
  | x :: xs, _, _, hf, .cons r t, .cons r' t' => by
    obtain ⟨e, k⟩ := flat_hit (A := A) (fun y hy => hf y (List.mem_cons_of_mem _ hy)) t t'
    refine ⟨by simp [e], fun j h1 h2 => ?_⟩
    cases j with
    | zero => exact eqAt_same r r' (hf x List.mem_cons_self)
    | succ j => exact k j (Nat.lt_of_succ_lt_succ h1) (Nat.lt_of_succ_lt_succ h2)
def rNeF (K : PySem.W.Frag) : R2 := fun x y H Q => (x = .non ∧ y = .non ∧ Q (.bl false) H) ∨ ∃ (a b : Addr) (xs : List V), x = V.ref a ∧ y = V.ref b ∧ SqL K H a xs ∧ SqL K H b xs ∧ (∀ x ∈ xs, flatB x = true) ∧ Q (.bl false) H
theorem op_neF (hu : X.A.units + 1 < cLine) : OpR X (compareOp .NotEq) (rNeF X.K) := by
  intro pins s σ H x y v u Q I rx ry h
  rcases h with ⟨rfl, rfl, q⟩ | ⟨a, b, xs, rfl, rfl, ha, hb, hf, q⟩
  · exact op_ne pins s σ H _ _ v u Q I rx ry ⟨rfl, q⟩
  · cases (show v = Value.ref a from rx)
    cases (show u = Value.ref b from ry)
    obtain ⟨us, r1, p1, _⟩ := I.list ha
    obtain ⟨ws, r2, p2, _⟩ := I.list hb
    obtain ⟨sz, items⟩ := flat_hit (s := s) (A := X.A.in1) hf r1 r2
    have z := SeqAt.RcNeAt.lists (A := X.A) (e := fun _ => true) p1.isList p2.isList (by simpa using sz) (by omega) fun j h1 h2 => by simpa using items j (by simpa using h1) (by simpa using h2)
    rw [show ((List.range us.toArray.size).all fun _ => true) = true from List.all_eq_true.mpr fun _ _ => rfl] at z
    exact z X.prog X.w X.xe (EP X pins σ Q) ⟨.bl false, H, I, rfl, q⟩
end
end Nm
set_option maxRecDepth 100000
set_option maxHeartbeats 8000000
/-! the law's body as a term of rules (its reading is still to be written) -/
namespace Nm
open PySem PySem.Spec PyProof.Rows L2 LamX
abbrev nL4 : List Str := ["_law_script", "_law_source", "_law_time", "_law_web", "_law_over_here", "_law_led", "_law_one", "_law_other", "_law_right", "_law_above_here", "_law_numbers", "_law_up", "_law_mixed", "_law_value", "_law_kept", "_law_due", "_law_told", "_law_name", "_law_p"]
def forBody' : Stmt → List Stmt
  | .For _ _ b _ _ => b
  | _ => []
theorem scL4 : FnScope nL4 ["_law_script"] (defScope sLaw) := ⟨rfl, rfl, rfl, by decide +kernel, rfl, by decide +kernel, by decide +kernel⟩
structure TxtK4 (K : PySem.W.Frag) (mg : Str → Option Value) (C fi CB : Addr) : Prop extends TxtM K mg C fi where
  repr : mg "repr" = none
  mB : mg "BadNumber" = some (.ref CB)
  xf : XfC K CB
  nNu : PySem.W.findIn K (.ref CB) "number" = some none
  exm : PySem.W.exmOne K (.ref CB) (.ref CB) = some true
/-- nothing is raised where nothing may be -/
theorem pass_none {X : Cx} : Passes (L2.CX X.prog X.w) X E0 := fun _ _ _ _ _ _ _ ⟨_, _, _, _, _, _, _, _, _, _, _, _, z⟩ => z.elim
section
variable {P : Program} {w : World} {K : PySem.W.Frag} {mg : Str → Option Value} {base : Heap}
theorem law_rules {f C fi CB c PT g : Addr} {cdv : Value} {s : Shared} {H : Hp} {E : XK} (T : TxtK4 K mg C fi CB) (hcd : cdv = .ref c) (TB : TabB base mg c PT)
    (Gs : Def P w K mg base "_law_open_cells" ["_law_script"] 1 (spOpen K)) (Gl : Def P w K mg base "_law_loose_world" ["_law_source"] 4 spLoose) (Gc : Def P w K mg base "_law_copied_over" ["_law_source", "_law_world"] 5 spCopied)
    (Gm : Def P w K mg base "_law_made" ["_law_source", "_law_world"] 7 (spMade C)) (Gd : Def P w K mg base "_law_dict" ["_law_source", "_law_over_here", "_law_web", "_law_led"] 4 spDict) (Ga : Def P w K mg base "_law_above" ["_law_led", "_law_many"] 1 spAbove)
    (Gp : Def P w K mg base "_law_pick" ["_law_source", "_law_many"] 1 spPick) (Gh : Def P w K mg base "_law_choice_of" ["_law_source", "_law_items"] 2 (spChoice K)) (Gn : Def P w K mg base "_law_near" ["_law_source", "_law_numbers"] 3 spNear)
    (Gu : Def P w K mg base "_law_numbers_due" ["_law_value", "_law_many"] 2 (spNDue K)) (Gw : Def P w K mg base "_law_down_due" ["_law_above_here", "_law_value"] 1 (spDDue K))
    (Lu : DefX P w K mg base "led_up" ["over", "web", "folding", "colouring"] 5 (spUp K C CB)) (Ld : DefX P w K mg base "led_down" ["over", "web", "folding", "colouring"] 5 (spDown K C CB)) :
    ∃ t, PSs (cxOf CX0 P w K mg base nL4 "law" (defScope sLaw) f cdv callerA [] s H E).nox ((forBody' ((defBody sLaw).getD 1 (.Pass ⟨0, 0, 0, 0⟩))).take 9) t := by
  have hr : Room 8 (callerA.deeper (envOfC "law" (defScope sLaw) s.heap.objs.size f cdv)) := Room.deeper (k := 8) ⟨rfl, by decide +kernel, by decide +kernel⟩ _
  have hu := hu_of hr
  obtain ⟨fl, fdl, Gl, ml, kl, bl⟩ := Gl.ex
  obtain ⟨fc, fdc, Gc, mc, kc, bc⟩ := Gc.ex
  obtain ⟨fm, fdm, Gm, mm, km, bm⟩ := Gm.ex
  obtain ⟨fdd, fddd, Gd, md, kd, bd⟩ := Gd.ex
  obtain ⟨fa, fda, Ga, ma, ka, ba⟩ := Ga.ex
  obtain ⟨fp, fdp, Gp, mp, kp, bp⟩ := Gp.ex
  obtain ⟨fh, fdh, Gh, mh, kh, bh⟩ := Gh.ex
  obtain ⟨fw, fdw, Gw, mw, kw, bw⟩ := Gw.ex
  obtain ⟨fu, fdu, Lu, mu, ku, bu⟩ := Lu.ex
  obtain ⟨fd, fdd', Ld, mdn, kdn, bdn⟩ := Ld.ex
  refine ⟨_, pss_cons (ps_set (i := 3) scL4.nd rfl (Or.inl rfl) (pe_call Gl (hr.mono (by decide)) (by rfl) ml kl bl .nil pass0 (pa_cons (pv 1) pa_nil)))
    (pss_cons (ps_asg (pe_call Gc (hr.mono (by decide)) (by rfl) mc kc bc .nil pass0 (pa_cons (pv 1) (pa_cons (pv 3) pa_nil))) (pg_tup rfl (pgs_cons (pg_name (i := 4) scL4.nd rfl (.inl rfl)) (pgs_cons (pg_name (i := 5) scL4.nd rfl (.inl rfl)) pgs_nil))))
    (Evl.pss_cut (ps_asg (pe_tup (pa_cons (pe_call Gm (hr.mono (by decide)) (by rfl) mm km bm .nil pass0 (pa_cons (pv 1) (pa_cons (pv 4) pa_nil))) (pa_cons (pe_call Gm (hr.mono (by decide)) (by rfl) mm km bm .nil pass0 (pa_cons (pv 1) (pa_cons (pv 3) pa_nil)))
        (pa_cons (pe_call Gd (hr.mono (by decide)) (by rfl) md kd bd .nil pass0 (pa_cons (pv 1) (pa_cons (pv 4) (pa_cons (pv 3) (pa_cons (pv 5) pa_nil))))) pa_nil)))) (pg_tup rfl (pgs_cons (pg_name (i := 6) scL4.nd rfl (.inr rfl)) (pgs_cons (pg_name (i := 7) scL4.nd rfl (.inr rfl)) (pgs_cons (pg_name (i := 8) scL4.nd rfl (.inr rfl)) pgs_nil)))))
    (pss_cons (ps_set (i := 9) scL4.nd rfl (Or.inl rfl) (pe_call Ga (hr.mono (by decide)) (by rfl) ma ka ba .nil pass0 (pa_cons (pv 5) (pa_cons (pe_callB call_len_seq (by rfl) T.len PySem.boot_len (pa_cons (pe_dget hu (pv 3) pe_str (fun _ _ => rfl)) pa_nil)) pa_nil))))
    (Evl.pss_cut (ps_set (i := 10) scL4.nd rfl (Or.inr rfl) (pe_lc (own := [("_law_name", 17)]) (g := gName 17) (tt := tYes) rfl scL4.nd (pi_list (pe_dget hu (pv 3) pe_str (fun _ _ => rfl))) (blkOk_by (N := nL4) (sc := defScope sLaw) (by decide +kernel))
        (te := tCall (spChoice K) [] E0 (tCons (tVar 1) (tCons (tLst (tCons (tC (.int 0)) (tCons (tC (.int 0)) (tCons (tC (.int 1)) (tCons (tC (.int 2)) (tCons (tC (.int 5)) (tCons (tOp (rI CPow fun i j => .int (i ^ j.toNat)) (tC (.int 10)) (tC (.int 30))) tNil))))))) tNil)))
        (fun _ _ _ _ _ => pg_name (i := 17) scL4.nd rfl (Or.inl rfl)) (fun _ _ _ _ _ => pts_nil)
        (fun _ _ _ _ _ => by exact pe_call Gh (hr.mono (by decide)) (by rfl) mh kh bh .nil pass0 (pa_cons (pv 1) (pa_cons (pe_lst (pa_cons pe_int (pa_cons pe_int (pa_cons pe_int (pa_cons pe_int (pa_cons pe_int (pa_cons (pe_op op_pow pe_int pe_int) pa_nil))))))) pa_nil)))))
    (Evl.pss_cut (ps_setLc (i := 11) (own := [("_law_p", 18)]) (g := gName 18) (tt := tYes) (te := tOp (rIxL K) (tVar 10) (tVar 18)) rfl scL4.nd rfl rfl (sw_true rfl rfl rfl (by decide +kernel)) (pi_list (pv 5)) (blkOk_by (N := nL4) (sc := defScope sLaw) (by decide +kernel))
        (fun _ _ _ _ _ => pg_name (i := 18) scL4.nd rfl (Or.inl rfl)) (fun _ _ _ _ _ => pts_nil) (fun _ _ _ _ _ => by exact pe_ix ix_list (pv 10) (pv 18) (fun _ _ => rfl)))
    (pss_cons (ps_if (PW.pt (pw_or (pt_cmpR (op_neF hu) (pe_call Lu (hr.mono (by decide)) (by rfl) mu ku bu .nil pass_none (pa_cons (pv 6) (pa_cons (pv 7) (pa_cons (pv 8) (pa_cons (pv 10) pa_nil))))) (pv 11) (nomark _))
        (pw_or1 (pt_cmpR (op_neF hu) (pe_call Lu (hr.mono (by decide)) (by rfl) mu ku bu .nil pass_none (pa_cons (pv 6) (pa_cons (pv 7) (pa_cons (pv 8) (pa_cons (pe_callTy call_tuple_of (by rfl) T.tuple (by decide +kernel) (pa_cons (pv 10) pa_nil)) pa_nil))))) (pv 11) (nomark _))))) (pss_one (ps_ret pe_bl)) pss_nil)
    (pss_cons (ps_if (pt_cmpR (op_neF hu) (pe_call Ld (hr.mono (by decide)) (by rfl) mdn kdn bdn .nil pass_none (pa_cons (pv 6) (pa_cons (pv 7) (pa_cons (pv 8) (pa_cons (pv 11) pa_nil))))) (pe_call Gw (hr.mono (by decide)) (by rfl) mw kw bw .nil pass0 (pa_cons (pv 9) (pa_cons (pv 11) pa_nil))) (nomark _)) (pss_one (ps_ret pe_bl)) pss_nil)
    (pss_one (ps_set (i := 12) scL4.nd rfl (Or.inl rfl) (pe_callTy call_list_of (by rfl) T.list (by decide +kernel) (pa_cons (pv 11) pa_nil)))))))))))⟩
theorem law_rules2 {f C fi CB c PT g : Addr} {fdc : FuncData} {s : Shared} {H : Hp} {E : XK} (T : TxtK4 K mg C fi CB) (TB : TabB base mg c PT) (Fc : Fun K "_law_caught" "_law_caught" sCaught g fdc) (mg' : mg "_law_caught" = some (.ref g)) (bg : Binds K fdc ["_law_ask"] [])
    (Gp : Def P w K mg base "_law_pick" ["_law_source", "_law_many"] 1 spPick) (Gh : Def P w K mg base "_law_choice_of" ["_law_source", "_law_items"] 2 (spChoice K)) (Gn : Def P w K mg base "_law_near" ["_law_source", "_law_numbers"] 3 spNear)
    (Gu : Def P w K mg base "_law_numbers_due" ["_law_value", "_law_many"] 2 (spNDue K)) (Gw : Def P w K mg base "_law_down_due" ["_law_above_here", "_law_value"] 1 (spDDue K))
    (Lu : DefX P w K mg base "led_up" ["over", "web", "folding", "colouring"] 5 (spUp K C CB)) (Ld : DefX P w K mg base "led_down" ["over", "web", "folding", "colouring"] 5 (spDown K C CB)) :
    ∃ t, PSs (cxOf CX0 P w K mg base nL4 "law" (defScope sLaw) f (.ref c) callerA [] s H E).nox ((forBody' ((defBody sLaw).getD 1 (.Pass ⟨0, 0, 0, 0⟩))).drop 9) t := by
  have hr : Room 8 (callerA.deeper (envOfC "law" (defScope sLaw) s.heap.objs.size f (.ref c))) := Room.deeper (k := 8) ⟨rfl, by decide +kernel, by decide +kernel⟩ _
  have hu := hu_of hr
  have hg : (cxOf CX0 P w K mg base nL4 "law" (defScope sLaw) f (.ref c) callerA [] s H E).nox.A.guards = some [] := rfl
  obtain ⟨fp, fdp, Gp, mp, kp, bp⟩ := Gp.ex
  obtain ⟨fh, fdh, Gh, mh, kh, bh⟩ := Gh.ex
  obtain ⟨fn, fdn, Gn, mn, kn, bn⟩ := Gn.ex
  obtain ⟨fq, fdq, Gq, mq, kq, bq⟩ := Gu.ex
  obtain ⟨fw, fdw, Gw, mw, kw, bw⟩ := Gw.ex
  obtain ⟨fu, fdu, Lu, mu, ku, bu⟩ := Lu.ex
  obtain ⟨fd, fdd', Ld, mdn, kdn, bdn⟩ := Ld.ex
  obtain ⟨oc, od, kV, doc, pm, an, cdc, ct, osl, rfl, lk, hcg⟩ := Fc.ex
  refine ⟨_, pss_cons (ps_asg (pe_call Gh (hr.mono (by decide)) (by rfl) mh kh bh .nil pass0 (pa_cons (pv 1) (pa_cons (pe_lst (pa_cons pe_int (pa_cons pe_int (pa_cons pe_int (pa_cons pe_int pa_nil))))) pa_nil)))
      (pg_sub (pv 12) (pe_call Gp (hr.mono (by decide)) (by rfl) mp kp bp .nil pass0 (pa_cons (pv 1) (pa_cons (pe_callB call_len_seq (by rfl) T.len PySem.boot_len (pa_cons (pv 12) pa_nil)) pa_nil))) set_list))
    (pss_cons (ps_if (pt_cmpR (op_neF hu) (pe_call Ld (hr.mono (by decide)) (by rfl) mdn kdn bdn .nil pass_none (pa_cons (pv 6) (pa_cons (pv 7) (pa_cons (pv 8) (pa_cons (pv 12) pa_nil))))) (pe_call Gw (hr.mono (by decide)) (by rfl) mw kw bw .nil pass0 (pa_cons (pv 9) (pa_cons (pv 12) pa_nil))) (nomark _)) (pss_one (ps_ret pe_bl)) pss_nil)
    (pss_one (ps_for PassesOwn.never rfl (pi_list (pe_lst (pa_cons (pe_call Gn (hr.mono (by decide)) (by rfl) mn kn bn .nil pass0 (pa_cons (pv 1) (pa_cons (pv 10) pa_nil))) (pa_cons (pe_call Gn (hr.mono (by decide)) (by rfl) mn kn bn .nil pass0 (pa_cons (pv 1) (pa_cons (pv 11) pa_nil))) pa_nil)))) (pg_name (i := 13) scL4.nd rfl (.inr rfl))
      (pss_cons (ps_par (i := 14) (j := 15) (by rfl) scL4.nd rfl rfl (by decide) rfl rfl (pa_cons (pe_callB (call_repr hg hr.units) (by rfl) T.repr (by decide +kernel) (pa_cons (pv 13) pa_nil)) (pa_cons (pe_call Gq (hr.mono (by decide)) (by rfl) mq kq bq .nil pass0 (pa_cons (pv 13) (pa_cons (pe_callB call_len_seq (by rfl) T.len PySem.boot_len (pa_cons (pv 10) pa_nil)) pa_nil))) pa_nil)) (by rfl))
      (pss_cons (ps_set (i := 16) scL4.nd rfl (Or.inl rfl) (pe_lamcall (T := [(PT, (cxOf CX0 P w K mg base nL4 "law" (defScope sLaw) f (.ref c) callerA [] s H E).nox.env.qual ++ "<lambda>")]) (k := 6) (t := fun E => tCall (spUp K C CB) [] E (tCons (tVar 6) (tCons (tVar 7) (tCons (tVar 8) (tCons (tVar 13) tNil))))) (by rfl) mg' Fc.kp lk hcg bg scCt rfl (.inl rfl) (caught_gives T.xf T.nNu T.mB T.repr) TB rfl
          (List.mem_singleton.mpr rfl) (fun p hp _ => by rw [List.mem_singleton.mp hp]) hr (by show LamS (defScope sLaw) _; exact lamS_by (by decide +kernel)) rfl (fun _ _ _ _ _ => rfl)
          (fun A outer s H E f c' hr' => pe_call Lu (hr'.mono (by decide)) (by rfl) mu ku bu .nil (passes_call (takes_of rfl rfl rfl rfl) fun _ _ _ _ h => h) (pa_cons (pv 6) (pa_cons (pv 7) (pa_cons (pv 8) (pa_cons (pv 13) pa_nil)))))))
      (pss_cons (ps_if (PW.pt (pw_or (pt_cmpR (op_neF hu) (pv 16) (pe_ifExp (pt_cmpR op_notN (pv 15) pe_non (nomark _)) (pv 15) (pe_lc (own := [("_law_p", 18)]) (g := gName 18) (tt := tYes) (te := tOp (rIx K) (tVar 13) (tVar 18)) rfl scL4.nd (pi_list (pv 5)) (blkOk_by (N := nL4) (sc := defScope sLaw) (by decide +kernel))
          (fun _ _ _ _ _ => pg_name (i := 18) scL4.nd rfl (Or.inl rfl)) (fun _ _ _ _ _ => pts_nil) (fun _ _ _ _ _ => by exact pe_ix ix_seq (pv 13) (pv 18) (fun _ _ => rfl)))) (nomark _))
          (pw_or1 (pt_cmpR op_ne (pe_callB (call_repr hg hr.units) (by rfl) T.repr (by decide +kernel) (pa_cons (pv 13) pa_nil)) (pv 14) (nomark _))))) (pss_one (ps_ret pe_bl)) pss_nil)
      (pss_cons (ps_set (i := 15) scL4.nd rfl (Or.inl rfl) (pe_call Gq (hr.mono (by decide)) (by rfl) mq kq bq .nil pass0 (pa_cons (pv 13) (pa_cons (pe_callB call_len_seq (by rfl) T.len PySem.boot_len (pa_cons (pv 11) pa_nil)) pa_nil))))
      (pss_cons (ps_set (i := 16) scL4.nd rfl (Or.inl rfl) (pe_lamcall (T := [(PT, (cxOf CX0 P w K mg base nL4 "law" (defScope sLaw) f (.ref c) callerA [] s H E).nox.env.qual ++ "<lambda>")]) (k := 6) (t := fun E => tCall (spDown K C CB) [] E (tCons (tVar 6) (tCons (tVar 7) (tCons (tVar 8) (tCons (tVar 13) tNil))))) (by rfl) mg' Fc.kp lk hcg bg scCt rfl (.inl rfl) (caught_gives T.xf T.nNu T.mB T.repr) TB rfl
          (List.mem_singleton.mpr rfl) (fun p hp _ => by rw [List.mem_singleton.mp hp]) hr (by show LamS (defScope sLaw) _; exact lamS_by (by decide +kernel)) rfl (fun _ _ _ _ _ => rfl)
          (fun A outer s H E f c' hr' => pe_call Ld (hr'.mono (by decide)) (by rfl) mdn kdn bdn .nil (passes_call (takes_of rfl rfl rfl rfl) fun _ _ _ _ h => h) (pa_cons (pv 6) (pa_cons (pv 7) (pa_cons (pv 8) (pa_cons (pv 13) pa_nil)))))))
      (pss_one (ps_if (PW.pt (pw_or (pt_cmpR (op_neF hu) (pv 16) (pe_ifExp (pt_cmpR op_notN (pv 15) pe_non (nomark _)) (pv 15) (pe_call Gw (hr.mono (by decide)) (by rfl) mw kw bw .nil pass0 (pa_cons (pv 9) (pa_cons (pv 13) pa_nil)))) (nomark _))
          (pw_or1 (pt_cmpR op_ne (pe_callB (call_repr hg hr.units) (by rfl) T.repr (by decide +kernel) (pa_cons (pv 13) pa_nil)) (pv 14) (nomark _))))) (pss_one (ps_ret pe_bl)) pss_nil))))))))))⟩
end
end Nm
set_option maxRecDepth 100000
set_option maxHeartbeats 4000000
/-! what a turn of the law has made; the tables through it -/
namespace Nm
open PySem L2 LamX
theorem WebAt.kp {C s c : Addr} {H H' : Hp} {p q : Addr} {nm : List Str} (h : WebAt C H p q nm) (k : Kp s c H H') (n1 : p ≠ s ∧ p ≠ c) (n2 : q ≠ s ∧ q ≠ c) : WebAt C H' p q nm := by
  obtain ⟨dx, fs, h1, h2, h3, h4⟩ := h
  exact ⟨dx, fs, k _ _ h1 n1.1 n1.2, h2, h3, k _ _ h4 n2.1 n2.2⟩
/-- what a turn of the law has made -/
structure Made (C : Addr) (H : Hp) (s c wd a b t wd' a' b' t' ld : Addr) (nm cl nm' cl' : List Str) (kvs kvs' : List (List Key × V)) (led : List Nat) (one qo oth qw ri : Addr) (fkv : List (Key × V)) : Prop where
  S : Src H s c
  W : WorldOk H s c wd a b t nm cl kvs
  W' : WorldOk H s c wd' a' b' t' nm' cl' kvs'
  hld : H ld = some (.lst (natV led))
  nld : ld ≠ s ∧ ld ≠ c
  h1 : WebAt C H one qo nm'
  n1 : (one ≠ s ∧ one ≠ c) ∧ qo ≠ s ∧ qo ≠ c
  h2 : WebAt C H oth qw nm
  n2 : (oth ≠ s ∧ oth ≠ c) ∧ qw ≠ s ∧ qw ≠ c
  hri : H ri = some (.dK fkv)
  nri : ri ≠ s ∧ ri ≠ c
  L : Lead nm' nm led fkv
  n5 : nm.length ≤ 5
  n100 : nm'.length ≤ 50
theorem Made.kp {C : Addr} {H H' : Hp} {s c wd a b t wd' a' b' t' ld : Addr} {nm cl nm' cl' : List Str} {kvs kvs' : List (List Key × V)} {led : List Nat} {one qo oth qw ri : Addr} {fkv : List (Key × V)} (M : Made C H s c wd a b t wd' a' b' t' ld nm cl nm' cl' kvs kvs' led one qo oth qw ri fkv)
    (k : Kp s c H H') (S : Src H' s c) : Made C H' s c wd a b t wd' a' b' t' ld nm cl nm' cl' kvs kvs' led one qo oth qw ri fkv :=
  ⟨S, M.W.kp k, M.W'.kp k, k _ _ M.hld M.nld.1 M.nld.2, M.nld, M.h1.kp k M.n1.1 M.n1.2, M.n1, M.h2.kp k M.n2.1 M.n2.2, M.n2, k _ _ M.hri M.nri.1 M.nri.2, M.nri, M.L, M.n5, M.n100⟩
theorem Made.same {C : Addr} {H H' : Hp} {s c wd a b t wd' a' b' t' ld : Addr} {nm cl nm' cl' : List Str} {kvs kvs' : List (List Key × V)} {led : List Nat} {one qo oth qw ri : Addr} {fkv : List (Key × V)} (M : Made C H s c wd a b t wd' a' b' t' ld nm cl nm' cl' kvs kvs' led one qo oth qw ri fkv)
    (k : Same H H') : Made C H' s c wd a b t wd' a' b' t' ld nm cl nm' cl' kvs kvs' led one qo oth qw ri fkv := M.kp (Kp.same k) (M.S.same k)
theorem tabS_kp {s c : Addr} {H H' : Hp} {PT : Addr} {q : Str} (t : TabS H PT q) (S : Src H s c) (k : Kp s c H H') : TabS H' PT q := by
  obtain ⟨cs, l, m, tt, S⟩ := S
  obtain ⟨ps, h1, h2, h3⟩ := t
  refine ⟨ps, k _ _ h1 (fun z => ?_) (fun z => ?_), h2, fun pos cv hc => ?_⟩
  · rw [z, S.ds] at h1
    cases h1
  · rw [z, S.dc] at h1
    cases h1
  · obtain ⟨c', e1, e2⟩ := h3 pos cv hc
    refine ⟨c', e1, k _ _ e2 (fun z => ?_) (fun z => ?_)⟩
    · rw [z, S.ds] at e2
      cases e2
    · rw [z, S.dc] at e2
      cases e2
theorem tabs_kp {s c : Addr} {H H' : Hp} {T : List (Addr × Str)} (t : Tabs T H) (S : Src H s c) (k : Kp s c H H') : Tabs T H' := fun p hp => tabS_kp (t p hp) S k
end Nm
set_option maxRecDepth 100000
set_option maxHeartbeats 4000000
/-! the calls of a turn of the law, each as it is asked there -/
namespace Nm
open PySem PySem.Spec PyProof.Rows L2 LamX
/-! ### what stays where the tables of code grow -/
theorem Src.extN {H H' : Hp} {s c : Addr} (S : Src H s c) (e : ExtN H H') : Src H' s c := by
  obtain ⟨cs, l, m, t, S⟩ := S
  exact ⟨cs, l, m, t, { S with ds := e _ _ S.ds (fun _ z => by cases z), dc := e _ _ S.dc (fun _ z => by cases z) }⟩
theorem WebAt.extN {C : Addr} {H H' : Hp} {p q : Addr} {nm : List Str} (h : WebAt C H p q nm) (e : ExtN H H') : WebAt C H' p q nm := by
  obtain ⟨dx, fs, h1, h2, h3, h4⟩ := h
  exact ⟨dx, fs, e _ _ h1 (fun _ z => by cases z), h2, h3, e _ _ h4 (fun _ z => by cases z)⟩
theorem OddV.extN {H H' : Hp} {y : V} (h : OddV H y) (e : ExtN H H') : OddV H' y := by
  cases h with
  | int i h => exact .int i h
  | bl b => exact .bl b
  | non => exact .non
  | one => exact .one
  | lst h => exact .lst (e _ _ h fun _ z => by cases z)
  | tup h => exact .tup (e _ _ h fun _ z => by cases z)
theorem num_val {xs : List V} {m : Nat} (h : numsDue xs m = none) : ∀ x ∈ xs, flatB x = true := fun x hx => by
  obtain ⟨ns, rfl, _⟩ := due_ints h
  obtain ⟨n, _, rfl⟩ := List.mem_map.mp hx
  rfl
theorem get_vals {xs : List V} {led : List Nat} (h : ∀ x ∈ xs, flatB x = true) : ∀ x ∈ led.map fun p => xs.getD p .non, flatB x = true := fun x hx => by
  obtain ⟨p, _, rfl⟩ := List.mem_map.mp hx
  rw [List.getD_eq_getElem?_getD]
  cases e : xs[p]? with
  | none => rfl
  | some y => exact h y (List.mem_of_getElem? e)
theorem sq_val {K : PySem.W.Frag} {H : Hp} {c : Addr} {ys : List V} (h : H c = some (.lst ys) ∨ H c = some (.tup ys)) : SqL K H c ys ∨ SqT K H c ys := h.imp SqL.of SqT.of
theorem val_extN {H H' : Hp} {c : Addr} {ys : List V} (h : H c = some (.lst ys) ∨ H c = some (.tup ys)) (e : ExtN H H') : H' c = some (.lst ys) ∨ H' c = some (.tup ys) := h.imp (fun h => e _ _ h fun _ z => by cases z) fun h => e _ _ h fun _ z => by cases z
theorem due_le {xs : List V} {m n : Nat} (h : numsDue xs m = some n) : n ≤ xs.length := by
  unfold numsDue at h
  split at h
  · rename_i e
    cases h
    exact Nat.le_of_lt (List.findIdx?_eq_some_iff_getElem.mp e).1
  · split at h
    · cases h
    · cases h
      exact Nat.le_refl _
mutual
theorem Sh.extN {H H' : Hp} {x : V} {d : PyData} (s : ExtN H H') : Sh H x d → Sh H' x d
  | .non => .non
  | .bl b => .bl b
  | .int i => .int i
  | .str z => .str z
  | .lst e h => .lst (s _ _ e fun _ z => by cases z) (ShAll.extN s h)
  | .tup e h => .tup (s _ _ e fun _ z => by cases z) (ShAll.extN s h)
theorem ShAll.extN {H H' : Hp} {xs : List V} {ds : List PyData} (s : ExtN H H') : ShAll H xs ds → ShAll H' xs ds
  | .nil => .nil
  | .cons h t => .cons (Sh.extN s h) (ShAll.extN s t)
end
/-- what the calls of a turn stand on -/
structure Set4 (C : Addr) (H : Hp) (one qo oth qw ri fA : Addr) (nm' nm : List Str) (led : List Nat) (fkv : List (Key × V)) (as : List Addr) : Prop where
  h1 : WebAt C H one qo nm'
  h2 : WebAt C H oth qw nm
  hri : H ri = some (.dK fkv)
  hA : H fA = some (.lst (as.map V.ref))
  al : as.length = nm.length
  ag : ∀ q a, as[q]? = some a → H a = some (.lst (natV (posU led led.length q)))
  L : Lead nm' nm led fkv
  n5 : nm.length ≤ 5
  n50 : nm'.length ≤ 50
  nn : nm ≠ []
  nn' : nm' ≠ []
theorem Set4.extN {C : Addr} {H H' : Hp} {one qo oth qw ri fA : Addr} {nm' nm : List Str} {led : List Nat} {fkv : List (Key × V)} {as : List Addr} (S : Set4 C H one qo oth qw ri fA nm' nm led fkv as) (e : ExtN H H') : Set4 C H' one qo oth qw ri fA nm' nm led fkv as :=
  ⟨S.h1.extN e, S.h2.extN e, e _ _ S.hri (fun _ z => by cases z), e _ _ S.hA (fun _ z => by cases z), S.al, fun q a h => e _ _ (S.ag q a h) (fun _ z => by cases z), S.L, S.n5, S.n50, S.nn, S.nn'⟩
theorem Set4.same {C : Addr} {H H' : Hp} {one qo oth qw ri fA : Addr} {nm' nm : List Str} {led : List Nat} {fkv : List (Key × V)} {as : List Addr} (S : Set4 C H one qo oth qw ri fA nm' nm led fkv as) (e : Same H H') : Set4 C H' one qo oth qw ri fA nm' nm led fkv as := S.extN (ExtN.of e)
theorem due_nn {ns : List Int} {m : Nat} (h : ∀ n ∈ ns, 0 ≤ n) (hl : ns.length = m) : numsDue (ns.map V.int) m = none := by
  rw [due_len (m := m) fun y hy => ?_, List.length_map, if_pos hl]
  obtain ⟨n, hn, rfl⟩ := List.mem_map.mp hy
  exact decide_eq_true (h n hn)
theorem num_ints {H : Hp} {ns : List Int} : ∀ x ∈ ns.map V.int, NumX H x := fun x hx => by
  obtain ⟨n, _, rfl⟩ := List.mem_map.mp hx
  exact .int n
theorem pick_len {ns : List Int} {led : List Nat} : (pickN ns led).length = led.length := List.length_map _
theorem pick_nn {ns : List Int} {led : List Nat} (h : ∀ n ∈ ns, 0 ≤ n) : ∀ n ∈ pickN ns led, 0 ≤ n := fun n hn => by
  obtain ⟨w, _, rfl⟩ := List.mem_map.mp hn
  rw [List.getD_eq_getElem?_getD]
  cases e : ns[w]? with
  | none => exact Int.le_refl 0
  | some x => exact h x (List.mem_of_getElem? e)
theorem pick_big {ns : List Int} {led : List Nat} (h : ∀ n ∈ ns, n.natAbs.log2 < 1000) : ∀ n ∈ pickN ns led, n.natAbs.log2 < 1000 := fun n hn => by
  obtain ⟨w, _, rfl⟩ := List.mem_map.mp hn
  rw [List.getD_eq_getElem?_getD]
  cases e : ns[w]? with
  | none => decide
  | some x => exact h x (List.mem_of_getElem? e)
theorem pick_vals {ns : List Int} {led : List Nat} (h : ∀ p ∈ led, p < ns.length) : (led.map fun p => (ns.map V.int).getD p .non) = (pickN ns led).map V.int := by
  unfold pickN
  rw [List.map_map]
  refine List.map_congr_left fun p hp => ?_
  have hl := h p hp
  show (ns.map V.int).getD p .non = V.int (ns.getD p 0)
  rw [List.getD_eq_getElem?_getD, List.getD_eq_getElem?_getD, List.getElem?_map, List.getElem?_eq_getElem hl]
  rfl
theorem flat_ints (ns : List Int) : ∀ x ∈ ns.map V.int, flatB x = true := fun x hx => by
  obtain ⟨n, _, rfl⟩ := List.mem_map.mp hx
  rfl
theorem flat_bad (n : Nat) : ∀ x ∈ badV n, flatB x = true := fun x hx => by
  unfold badV at hx
  rcases List.mem_cons.mp hx with rfl | hx
  · rfl
  · rw [List.mem_singleton.mp hx]
    rfl
theorem tNil_in {σ : L2.St} {H : Hp} {k : List V → Hp → Prop} (h : k [] H) : tNil σ H k := h
/-- what is due, as the law holds it -/
def DueV (H : Hp) (v : V) (o : Option Nat) : Prop := (o = none ∧ v = .non) ∨ ∃ (n : Nat) (r : Addr), o = some n ∧ v = .ref r ∧ H r = some (.lst (badV n))
theorem DueV.extN {H H' : Hp} {v : V} {o : Option Nat} (h : DueV H v o) (e : ExtN H H') : DueV H' v o := h.imp id fun ⟨n, r, h1, h2, h3⟩ => ⟨n, r, h1, h2, e _ _ h3 fun _ z => by cases z⟩
/-- what led_down has told -/
def DnV (H : Hp) (v : V) (ys : List V) (m : Nat) (led : List Nat) (n : Nat) : Prop :=
  (∃ ns : List Int, ys = ns.map V.int ∧ ns.length = m ∧ numsDue ys m = none ∧ ((downL ((grpOf led n).map (pickN ns)) = none ∧ v = .non) ∨ ∃ (ds : List Int) (t : Addr), downL ((grpOf led n).map (pickN ns)) = some ds ∧ v = .ref t ∧ H t = some (.lst (ds.map V.int)))) ∨
    ∃ (k : Nat) (t : Addr), numsDue ys m = some k ∧ v = .ref t ∧ H t = some (.lst (badV k))
theorem ne_same {x : V} {A B : Prop} (h : B) : if (!decide (x = x)) = true then A else B := by
  rw [decide_eq_true rfl]
  exact iteF h
theorem notN_ref {a : Addr} {A B : Prop} (h : A) : if (!decide (V.ref a = V.non)) = true then A else B := by
  rw [decide_eq_false (fun z => by cases z)]
  exact iteT h
theorem ints_inj {ns ms : List Int} (h : ns.map V.int = ms.map V.int) : ns = ms := (List.map_inj_right fun a b e => V.int.inj e).mp h
theorem four_mem {v : V} (h : v ∈ [V.int 0, V.int 1, V.int 2, V.int 5]) : ∃ n : Int, v = V.int n ∧ 0 ≤ n := by
  simp only [List.mem_cons, List.not_mem_nil, or_false] at h
  rcases h with rfl | rfl | rfl | rfl
  all_goals exact ⟨_, rfl, by decide +kernel⟩
theorem ixN_nat {n : Nat} {k : Int} (h0 : 0 ≤ k) (h1 : k < n) : ixN n k = some k.toNat := by
  unfold ixN
  rw [if_pos h0, if_pos h1]
section
variable {K : PySem.W.Frag} {C CB : Addr} {H : Hp} {one qo oth qw ri fA : Addr} {nm' nm : List Str} {led : List Nat} {fkv : List (Key × V)} {as : List Addr}
theorem up_call (S : Set4 C H one qo oth qw ri fA nm' nm led fkv as) {c : Addr} {xs : List V} (hc : SqL K H c xs ∨ SqT K H c xs) (hx : xs.length ≤ 1000) (hn : ∀ x ∈ xs, NumX H x) {Q : VK} {E : XK}
    (k : ∀ (r : Addr) (H' : Hp), numsDue xs nm.length = none → H r = none → H' r = some (.lst (led.map fun p => xs.getD p .non)) → Same H H' → Q (.ref r) H')
    (ke : ∀ (n : Nat) (d : Addr) (H' : Hp), numsDue xs nm.length = some n → H d = none → H' d = some (.xd [("number", .int (n : Int))]) → Same H H' → E (.ref CB) (some d) H') :
    spUp K C CB [.ref one, .ref oth, .ref ri, .ref c] H Q E :=
  ⟨one, qo, oth, qw, ri, c, nm', nm, fkv, leadG fkv, xs, rfl, S.h1, S.h2, S.hri, hc, by have := S.n50; omega, by have := S.n5; omega, hx, S.L.nd, S.nn, S.L.ok, hn, fun r H' hd hr hr' s => k r H' hd hr (by rw [hr', S.L.up S.L.nd (due_none hd)]) s, ke⟩
theorem dn_call (S : Set4 C H one qo oth qw ri fA nm' nm led fkv as) {c : Addr} {xs : List V} (hc : SqL K H c xs ∨ SqT K H c xs) (hx : xs.length ≤ 1000) (hn : ∀ x ∈ xs, NumX H x) {Q : VK} {E : XK}
    (kN : ∀ (ns : List Int) (H' : Hp), xs = ns.map V.int → ns.length = nm'.length → numsDue xs nm'.length = none → downL ((grpOf led nm.length).map (pickN ns)) = none → Same H H' → Q .non H')
    (kS : ∀ (ns ds : List Int) (r : Addr) (H' : Hp), xs = ns.map V.int → ns.length = nm'.length → numsDue xs nm'.length = none → downL ((grpOf led nm.length).map (pickN ns)) = some ds → H r = none → H' r = some (.lst (ds.map V.int)) → Same H H' → Q (.ref r) H')
    (ke : ∀ (n : Nat) (d : Addr) (H' : Hp), numsDue xs nm'.length = some n → H d = none → H' d = some (.xd [("number", .int (n : Int))]) → Same H H' → E (.ref CB) (some d) H') :
    spDown K C CB [.ref one, .ref oth, .ref ri, .ref c] H Q E := by
  have ln : ∀ {ns : List Int}, xs = ns.map V.int → numsDue xs nm'.length = none → ns.length = nm'.length := fun {ns} e hd => by
    have := due_none hd
    rw [e, List.length_map] at this
    exact this
  refine ⟨one, qo, oth, qw, ri, c, nm', nm, fkv, leadG fkv, xs, rfl, S.h1, S.h2, S.hri, hc, by have := S.n50; omega, by have := S.n5; omega, hx, S.L.nd, S.L.nd', S.nn', S.L.ok, hn, fun ns H' e hd h s => ?_, fun ns ds r H' e hd h hr hr' s => ?_, ke⟩
  · rw [S.L.groups (ln e hd)] at h
    exact kN ns H' e (ln e hd) hd h s
  · rw [S.L.groups (ln e hd)] at h
    exact kS ns ds r H' e (ln e hd) hd h hr hr' s
theorem dd_call (S : Set4 C H one qo oth qw ri fA nm' nm led fkv as) {c : Addr} {ns : List Int} (hc : SqL K H c (ns.map V.int) ∨ SqT K H c (ns.map V.int)) (hl : ns.length = nm'.length) {Q : VK} {E : XK}
    (kN : ∀ H' : Hp, Same H H' → downL ((grpOf led nm.length).map (pickN ns)) = none → Q .non H')
    (kS : ∀ (ds : List Int) (r : Addr) (H' : Hp), downL ((grpOf led nm.length).map (pickN ns)) = some ds → H r = none → H' r = some (.lst (ds.map V.int)) → Same H H' → Q (.ref r) H') :
    spDDue K [.ref fA, .ref c] H Q E := by
  have gl : (grpOf led nm.length).length = nm.length := by unfold grpOf; rw [List.length_map, List.length_range]
  refine ⟨fA, c, as, grpOf led nm.length, ns, rfl, S.hA, hc, by rw [gl]; exact S.al, by rw [gl]; have := S.n5; omega, fun q a h => ?_, kN, kS⟩
  have hq := (List.getElem?_eq_some_iff.mp h).1
  refine ⟨posU led led.length q, ?_, S.ag q a h, ?_, fun w hw => ?_⟩
  · unfold grpOf
    rw [List.getElem?_map, List.getElem?_range (by rw [← S.al]; exact hq)]
    rfl
  · have := posU_len led led.length q
    have h2 := S.L.len
    have h3 := S.n50
    omega
  · have := posU_lt hw
    have h2 := S.L.len
    omega
end
end Nm
set_option maxRecDepth 100000
set_option maxHeartbeats 8000000
/-! the law -/
namespace Nm
open PySem PySem.Spec PyProof.Rows L2 LamX
section
variable {P : Program} {w : World} {K : PySem.W.Frag} {mg : Str → Option Value} {base : Heap}
def lamQ : Str := (envOfC "law" (defScope sLaw) 0 0 .none).qual ++ "<lambda>"
def spLaw4 (K : PySem.W.Frag) (PT : Addr) : Sp := fun vs H Q _ => ∃ (a : Addr) (ns : List Int), vs = [.ref a] ∧ SqL K H a (ns.map V.int) ∧ ns.length ≤ 63 ∧ H PT = some (.tbl #[]) ∧ ∀ H', Q (.bl true) H'
theorem six_mem {v : V} (h : v ∈ [V.int 0, V.int 0, V.int 1, V.int 2, V.int 5, V.int (10 ^ (30 : Int).toNat)]) : ∃ n : Int, v = V.int n ∧ 0 ≤ n ∧ n.natAbs.log2 < 1000 := by
  simp only [List.mem_cons, List.not_mem_nil, or_false] at h
  rcases h with rfl | rfl | rfl | rfl | rfl | rfl
  all_goals exact ⟨_, rfl, by decide +kernel, by decide +kernel⟩
theorem run_law {f C fi CB c PT g : Addr} {fd fdc : FuncData} (F : Fun K "law" "law" sLaw f fd) (hcode : ∀ (cdv : Value) oc od kV doc pm an ct osl, K.lookup f = some ⟨oc, od, .func (PySem.W.fnOf "law" "law" (defArgs sLaw) (defBody sLaw) (defScope sLaw) .none kV doc pm an cdv ct), osl⟩ → cdv = .ref c) (T : TxtK4 K mg C fi CB) (TB : TabB base mg c PT) (Fc : Fun K "_law_caught" "_law_caught" sCaught g fdc) (mg' : mg "_law_caught" = some (.ref g)) (bg : Binds K fdc ["_law_ask"] [])
    (Gs : Def P w K mg base "_law_open_cells" ["_law_script"] 1 (spOpen K)) (Gl : Def P w K mg base "_law_loose_world" ["_law_source"] 4 spLoose) (Gc : Def P w K mg base "_law_copied_over" ["_law_source", "_law_world"] 5 spCopied)
    (Gm : Def P w K mg base "_law_made" ["_law_source", "_law_world"] 7 (spMade C)) (Gd : Def P w K mg base "_law_dict" ["_law_source", "_law_over_here", "_law_web", "_law_led"] 4 spDict) (Ga : Def P w K mg base "_law_above" ["_law_led", "_law_many"] 1 spAbove)
    (Gp : Def P w K mg base "_law_pick" ["_law_source", "_law_many"] 1 spPick) (Gh : Def P w K mg base "_law_choice_of" ["_law_source", "_law_items"] 2 (spChoice K)) (Gn : Def P w K mg base "_law_near" ["_law_source", "_law_numbers"] 3 spNear)
    (Gu : Def P w K mg base "_law_numbers_due" ["_law_value", "_law_many"] 2 (spNDue K)) (Gw : Def P w K mg base "_law_down_due" ["_law_above_here", "_law_value"] 1 (spDDue K))
    (Lu : DefX P w K mg base "led_up" ["over", "web", "folding", "colouring"] 5 (spUp K C CB)) (Ld : DefX P w K mg base "led_down" ["over", "web", "folding", "colouring"] 5 (spDown K C CB)) :
    RunC P w K mg base CX0 f fd "_law_script" (spLaw4 K PT) := by
  refine runC_of F scL4 fun cdv s H v Q E hcd hsp => ?_
  obtain ⟨oc0, od0, kV0, doc0, pm0, an0, ct0, osl0, lk0⟩ := hcd
  obtain rfl := hcode _ _ _ _ _ _ _ _ _ lk0
  have hr : Room 8 (callerA.deeper (envOfC "law" (defScope sLaw) s.heap.objs.size f (.ref c))) := Room.deeper (k := 8) ⟨rfl, by decide +kernel, by decide +kernel⟩ _
  have hu := hu_of hr
  have hg : (cxOf CX0 P w K mg base nL4 "law" (defScope sLaw) f (.ref c) callerA [] s H E).nox.A.guards = some [] := rfl
  obtain ⟨fs, fds, Gs, ms, ks, bs⟩ := Gs.ex
  obtain ⟨fl, fdl, Gl, ml, kl, bl⟩ := Gl.ex
  obtain ⟨fc, fdcc, Gc, mc, kc, bc⟩ := Gc.ex
  obtain ⟨fm, fdm, Gm, mm, km, bm⟩ := Gm.ex
  obtain ⟨fdd, fddd, Gd, md, kd, bd⟩ := Gd.ex
  obtain ⟨fa, fda, Ga, ma, ka, ba⟩ := Ga.ex
  obtain ⟨fp, fdp, Gp, mp, kp, bp⟩ := Gp.ex
  obtain ⟨fh, fdh, Gh, mh, kh, bh⟩ := Gh.ex
  obtain ⟨fn, fdn, Gn, mn, kn, bn⟩ := Gn.ex
  obtain ⟨fq, fdq, Gq, mq, kq, bq⟩ := Gu.ex
  obtain ⟨fw, fdw, Gw, mw, kw, bw⟩ := Gw.ex
  obtain ⟨fu, fdu, Lu, mu, ku, bu⟩ := Lu.ex
  obtain ⟨fd', fdd', Ld, mdn, kdn, bdn⟩ := Ld.ex
  obtain ⟨oc, od, kV, doc, pm, an, cdc, ct, osl, rfl, lk, hcg⟩ := Fc.ex
  obtain ⟨sa, ns, hv, hs, hn, hPT, k⟩ := hsp
  cases hv
  refine ⟨_, PSs.nox (pss_cons (ps_set (i := 1) scL4.nd rfl (Or.inr rfl) (pe_call Gs (hr.mono (by decide)) (by rfl) ms ks bs .nil pass0 (pa_cons (pv 0) pa_nil)))
    (pss_cons (ps_for PassesOwn.never rfl (pi_range1 (by rfl) T.range (pa_cons pe_int pa_nil)) (pg_name (i := 2) scL4.nd rfl (Or.inl rfl))
    (pss_cons (ps_set (i := 3) scL4.nd rfl (Or.inl rfl) (pe_call Gl (hr.mono (by decide)) (by rfl) ml kl bl .nil pass0 (pa_cons (pv 1) pa_nil)))
    (pss_cons (ps_asg (pe_call Gc (hr.mono (by decide)) (by rfl) mc kc bc .nil pass0 (pa_cons (pv 1) (pa_cons (pv 3) pa_nil))) (pg_tup rfl (pgs_cons (pg_name (i := 4) scL4.nd rfl (.inl rfl)) (pgs_cons (pg_name (i := 5) scL4.nd rfl (.inl rfl)) pgs_nil))))
    (Evl.pss_cut (ps_asg (pe_tup (pa_cons (pe_call Gm (hr.mono (by decide)) (by rfl) mm km bm .nil pass0 (pa_cons (pv 1) (pa_cons (pv 4) pa_nil))) (pa_cons (pe_call Gm (hr.mono (by decide)) (by rfl) mm km bm .nil pass0 (pa_cons (pv 1) (pa_cons (pv 3) pa_nil)))
        (pa_cons (pe_call Gd (hr.mono (by decide)) (by rfl) md kd bd .nil pass0 (pa_cons (pv 1) (pa_cons (pv 4) (pa_cons (pv 3) (pa_cons (pv 5) pa_nil))))) pa_nil)))) (pg_tup rfl (pgs_cons (pg_name (i := 6) scL4.nd rfl (.inr rfl)) (pgs_cons (pg_name (i := 7) scL4.nd rfl (.inr rfl)) (pgs_cons (pg_name (i := 8) scL4.nd rfl (.inr rfl)) pgs_nil)))))
    (pss_cons (ps_set (i := 9) scL4.nd rfl (Or.inl rfl) (pe_call Ga (hr.mono (by decide)) (by rfl) ma ka ba .nil pass0 (pa_cons (pv 5) (pa_cons (pe_callB call_len_seq (by rfl) T.len PySem.boot_len (pa_cons (pe_dget hu (pv 3) pe_str (fun _ _ => rfl)) pa_nil)) pa_nil))))
    (Evl.pss_cut (ps_set (i := 10) scL4.nd rfl (Or.inr rfl) (pe_lc (own := [("_law_name", 17)]) (g := gName 17) (tt := tYes) rfl scL4.nd (pi_list (pe_dget hu (pv 3) pe_str (fun _ _ => rfl))) (blkOk_by (N := nL4) (sc := defScope sLaw) (by decide +kernel))
        (te := tCall (spChoice K) [] E0 (tCons (tVar 1) (tCons (tLst (tCons (tC (.int 0)) (tCons (tC (.int 0)) (tCons (tC (.int 1)) (tCons (tC (.int 2)) (tCons (tC (.int 5)) (tCons (tOp (rI CPow fun i j => .int (i ^ j.toNat)) (tC (.int 10)) (tC (.int 30))) tNil))))))) tNil)))
        (fun _ _ _ _ _ => pg_name (i := 17) scL4.nd rfl (Or.inl rfl)) (fun _ _ _ _ _ => pts_nil)
        (fun _ _ _ _ _ => by exact pe_call Gh (hr.mono (by decide)) (by rfl) mh kh bh .nil pass0 (pa_cons (pv 1) (pa_cons (pe_lst (pa_cons pe_int (pa_cons pe_int (pa_cons pe_int (pa_cons pe_int (pa_cons pe_int (pa_cons (pe_op op_pow pe_int pe_int) pa_nil))))))) pa_nil)))))
    (Evl.pss_cut (ps_setLc (i := 11) (own := [("_law_p", 18)]) (g := gName 18) (tt := tYes) (te := tOp (rIxL K) (tVar 10) (tVar 18)) rfl scL4.nd rfl rfl (sw_true rfl rfl rfl (by decide +kernel)) (pi_list (pv 5)) (blkOk_by (N := nL4) (sc := defScope sLaw) (by decide +kernel))
        (fun _ _ _ _ _ => pg_name (i := 18) scL4.nd rfl (Or.inl rfl)) (fun _ _ _ _ _ => pts_nil) (fun _ _ _ _ _ => by exact pe_ix ix_list (pv 10) (pv 18) (fun _ _ => rfl)))
    (Evl.pss_cut (ps_if (PW.pt (pw_or (pt_cmpR (op_neF hu) (pe_call Lu (hr.mono (by decide)) (by rfl) mu ku bu .nil pass_none (pa_cons (pv 6) (pa_cons (pv 7) (pa_cons (pv 8) (pa_cons (pv 10) pa_nil))))) (pv 11) (nomark _))
        (pw_or1 (pt_cmpR (op_neF hu) (pe_call Lu (hr.mono (by decide)) (by rfl) mu ku bu .nil pass_none (pa_cons (pv 6) (pa_cons (pv 7) (pa_cons (pv 8) (pa_cons (pe_callTy call_tuple_of (by rfl) T.tuple (by decide +kernel) (pa_cons (pv 10) pa_nil)) pa_nil))))) (pv 11) (nomark _))))) (pss_one (ps_ret pe_bl)) pss_nil)
    (Evl.pss_cut (ps_if (pt_cmpR (op_neF hu) (pe_call Ld (hr.mono (by decide)) (by rfl) mdn kdn bdn .nil pass_none (pa_cons (pv 6) (pa_cons (pv 7) (pa_cons (pv 8) (pa_cons (pv 11) pa_nil))))) (pe_call Gw (hr.mono (by decide)) (by rfl) mw kw bw .nil pass0 (pa_cons (pv 9) (pa_cons (pv 11) pa_nil))) (nomark _)) (pss_one (ps_ret pe_bl)) pss_nil)
    (pss_cons (ps_set (i := 12) scL4.nd rfl (Or.inl rfl) (pe_callTy call_list_of (by rfl) T.list (by decide +kernel) (pa_cons (pv 11) pa_nil)))
    (Evl.pss_cut (ps_asg (pe_call Gh (hr.mono (by decide)) (by rfl) mh kh bh .nil pass0 (pa_cons (pv 1) (pa_cons (pe_lst (pa_cons pe_int (pa_cons pe_int (pa_cons pe_int (pa_cons pe_int pa_nil))))) pa_nil)))
      (pg_sub (pv 12) (pe_call Gp (hr.mono (by decide)) (by rfl) mp kp bp .nil pass0 (pa_cons (pv 1) (pa_cons (pe_callB call_len_seq (by rfl) T.len PySem.boot_len (pa_cons (pv 12) pa_nil)) pa_nil))) set_list))
    (Evl.pss_cut (ps_if (pt_cmpR (op_neF hu) (pe_call Ld (hr.mono (by decide)) (by rfl) mdn kdn bdn .nil pass_none (pa_cons (pv 6) (pa_cons (pv 7) (pa_cons (pv 8) (pa_cons (pv 12) pa_nil))))) (pe_call Gw (hr.mono (by decide)) (by rfl) mw kw bw .nil pass0 (pa_cons (pv 9) (pa_cons (pv 12) pa_nil))) (nomark _)) (pss_one (ps_ret pe_bl)) pss_nil)
    (pss_one (ps_for PassesOwn.never rfl (pi_list (pe_lst (pa_cons (pe_call Gn (hr.mono (by decide)) (by rfl) mn kn bn .nil pass0 (pa_cons (pv 1) (pa_cons (pv 10) pa_nil))) (pa_cons (pe_call Gn (hr.mono (by decide)) (by rfl) mn kn bn .nil pass0 (pa_cons (pv 1) (pa_cons (pv 11) pa_nil))) pa_nil)))) (pg_name (i := 13) scL4.nd rfl (.inr rfl))
      (Evl.pss_cut (ps_par (i := 14) (j := 15) (by rfl) scL4.nd rfl rfl (by decide) rfl rfl (pa_cons (pe_callB (call_repr hg hr.units) (by rfl) T.repr (by decide +kernel) (pa_cons (pv 13) pa_nil)) (pa_cons (pe_call Gq (hr.mono (by decide)) (by rfl) mq kq bq .nil pass0 (pa_cons (pv 13) (pa_cons (pe_callB call_len_seq (by rfl) T.len PySem.boot_len (pa_cons (pv 10) pa_nil)) pa_nil))) pa_nil)) (by rfl))
      (Evl.pss_cut (ps_set (i := 16) scL4.nd rfl (Or.inl rfl) (pe_lamcall (T := [(PT, (cxOf CX0 P w K mg base nL4 "law" (defScope sLaw) f (.ref c) callerA [] s H E).nox.env.qual ++ "<lambda>")]) (k := 6) (t := fun E => tCall (spUp K C CB) [] E (tCons (tVar 6) (tCons (tVar 7) (tCons (tVar 8) (tCons (tVar 13) tNil))))) (by rfl) mg' Fc.kp lk hcg bg scCt rfl (.inl rfl) (caught_gives T.xf T.nNu T.mB T.repr) TB rfl
          (List.mem_singleton.mpr rfl) (fun p hp _ => by rw [List.mem_singleton.mp hp]) hr (by show LamS (defScope sLaw) _; exact lamS_by (by decide +kernel)) rfl (fun _ _ _ _ _ => rfl)
          (fun A outer s H E f c' hr' => pe_call Lu (hr'.mono (by decide)) (by rfl) mu ku bu .nil (passes_call (takes_of rfl rfl rfl rfl) fun _ _ _ _ h => h) (pa_cons (pv 6) (pa_cons (pv 7) (pa_cons (pv 8) (pa_cons (pv 13) pa_nil)))))))
      (Evl.pss_cut (ps_if (PW.pt (pw_or (pt_cmpR (op_neF hu) (pv 16) (pe_ifExp (pt_cmpR op_notN (pv 15) pe_non (nomark _)) (pv 15) (pe_lc (own := [("_law_p", 18)]) (g := gName 18) (tt := tYes) (te := tOp (rIx K) (tVar 13) (tVar 18)) rfl scL4.nd (pi_list (pv 5)) (blkOk_by (N := nL4) (sc := defScope sLaw) (by decide +kernel))
          (fun _ _ _ _ _ => pg_name (i := 18) scL4.nd rfl (Or.inl rfl)) (fun _ _ _ _ _ => pts_nil) (fun _ _ _ _ _ => by exact pe_ix ix_seq (pv 13) (pv 18) (fun _ _ => rfl)))) (nomark _))
          (pw_or1 (pt_cmpR op_ne (pe_callB (call_repr hg hr.units) (by rfl) T.repr (by decide +kernel) (pa_cons (pv 13) pa_nil)) (pv 14) (nomark _))))) (pss_one (ps_ret pe_bl)) pss_nil)
      (Evl.pss_cut (ps_set (i := 15) scL4.nd rfl (Or.inl rfl) (pe_call Gq (hr.mono (by decide)) (by rfl) mq kq bq .nil pass0 (pa_cons (pv 13) (pa_cons (pe_callB call_len_seq (by rfl) T.len PySem.boot_len (pa_cons (pv 11) pa_nil)) pa_nil))))
      (Evl.pss_cut (ps_set (i := 16) scL4.nd rfl (Or.inl rfl) (pe_lamcall (T := [(PT, (cxOf CX0 P w K mg base nL4 "law" (defScope sLaw) f (.ref c) callerA [] s H E).nox.env.qual ++ "<lambda>")]) (k := 6) (t := fun E => tCall (spDown K C CB) [] E (tCons (tVar 6) (tCons (tVar 7) (tCons (tVar 8) (tCons (tVar 13) tNil))))) (by rfl) mg' Fc.kp lk hcg bg scCt rfl (.inl rfl) (caught_gives T.xf T.nNu T.mB T.repr) TB rfl
          (List.mem_singleton.mpr rfl) (fun p hp _ => by rw [List.mem_singleton.mp hp]) hr (by show LamS (defScope sLaw) _; exact lamS_by (by decide +kernel)) rfl (fun _ _ _ _ _ => rfl)
          (fun A outer s H E f c' hr' => pe_call Ld (hr'.mono (by decide)) (by rfl) mdn kdn bdn .nil (passes_call (takes_of rfl rfl rfl rfl) fun _ _ _ _ h => h) (pa_cons (pv 6) (pa_cons (pv 7) (pa_cons (pv 8) (pa_cons (pv 13) pa_nil)))))))
      (pss_one (ps_if (PW.pt (pw_or (pt_cmpR (op_neF hu) (pv 16) (pe_ifExp (pt_cmpR op_notN (pv 15) pe_non (nomark _)) (pv 15) (pe_call Gw (hr.mono (by decide)) (by rfl) mw kw bw .nil pass0 (pa_cons (pv 9) (pa_cons (pv 13) pa_nil)))) (nomark _))
          (pw_or1 (pt_cmpR op_ne (pe_callB (call_repr hg hr.units) (by rfl) T.repr (by decide +kernel) (pa_cons (pv 13) pa_nil)) (pv 14) (nomark _))))) (pss_one (ps_ret pe_bl)) pss_nil)))))))))))))))))))))
    (pss_one (ps_ret pe_bl)))), ?_⟩
  have lQ : (cxOf CX0 P w K mg base nL4 "law" (defScope sLaw) f (.ref c) callerA [] s H E).nox.env.qual ++ "<lambda>" = lamQ := rfl
  have tab0 : Tabs [(PT, lamQ)] H := fun p hp => by
    rw [List.mem_singleton.mp hp]
    exact TabS.nil hPT
  refine ⟨_, rfl, sa, ns, rfl, hs, hn, fun s0 c0 H1 _ _ S1 s1 => ?_⟩
  refine ⟨_, rfl, by decide, by decide, ?_⟩
  refine for_range (lo := 0) (n := 4) (fun i σ H2 => Src H2 s0 c0 ∧ Tabs [(PT, lamQ)] H2 ∧ ∃ v2 v3 v4 v5 v6 v7 v8 v9 v10 v11 v12 v13 v14 v15 v16, σ = [some (.ref sa), some (.ref s0), v2, v3, v4, v5, v6, v7, v8, v9, v10, v11, v12, v13, v14, v15, v16, none, none]) ⟨S1, Tabs.ext tab0 s1, none, none, none, none, none, none, none, none, none, none, none, none, none, none, none, rfl⟩ ?_ ?_
  · rintro i σ H2 hi ⟨S2, Tb2, v2, v3, v4, v5, v6, v7, v8, v9, v10, v11, v12, v13, v14, v15, v16, rfl⟩
    -- the web
    refine ⟨_, rfl, s0, c0, rfl, S2, fun wd a b t nm cl kvs H3 _ _ _ _ W3 n5 ti3 kl3 S3 kp3 => ?_⟩
    have Tb3 := tabs_kp Tb2 S2 kp3
    -- the web over it
    refine ⟨_, rfl, _, rfl, s0, c0, wd, a, b, t, nm, cl, kvs, rfl, S3, W3, ti3, kl3, n5, fun r wd' a' b' t' ld nm' cl' kvs' led H4 _ _ _ _ hld0 hr4 W4' n100 ti4 kl4 hld4 len4 lt4 S4 kp4 => ?_⟩
    have W4 := W3.kp kp4
    have Tb4 := tabs_kp Tb3 S3 kp4
    refine ⟨r, _, rfl, SqT.of hr4, rfl, _, _, rfl, _, _, rfl, rfl, ?_⟩
    -- both made, and the dict
    refine ⟨fun σ H5 => ∃ one qo oth qw ri fkv, σ = [some (.ref sa), some (.ref s0), some (.int (0 + (i : Int))), some (.ref wd), some (.ref wd'), some (.ref ld), some (.ref one), some (.ref oth), some (.ref ri), v9, v10, v11, v12, v13, v14, v15, v16, none, none] ∧ Made C H5 s0 c0 wd a b t wd' a' b' t' ld nm cl nm' cl' kvs kvs' led one qo oth qw ri fkv ∧ Tabs [(PT, lamQ)] H5, ?_, ?_⟩
    · refine ⟨_, rfl, _, rfl, s0, c0, wd', a', b', t', nm', cl', kvs', 4000, rfl, S4, W4', ti4, kl4, by omega, fun one qo H5 hone hqo web1 S5 kp5 => ?_⟩
      refine ⟨_, rfl, _, rfl, s0, c0, wd, a, b, t, nm, cl, kvs, 2, rfl, S5, W4.kp kp5, ti3, by omega, by omega, fun oth qw H6 hoth hqw web2 S6 kp6 => ?_⟩
      have nld := S3.ne hld0
      have kp56 := kp5.trans kp6
      have W6 := W4.kp kp56
      have W6' := W4'.kp kp56
      refine ⟨_, rfl, _, rfl, _, rfl, _, rfl, s0, c0, wd', a', b', t', wd, a, b, t, ld, nm', nm, led, rfl, S6, W6'.d, W6'.hn, W6.d, W6.hn, kp56 _ _ hld4 nld.1 nld.2, len4, lt4, W6'.nn, (by omega), fun ri fkv H7 hri0 pm hri S7 kp7 => ?_⟩
      have n1 : (one ≠ s0 ∧ one ≠ c0) ∧ qo ≠ s0 ∧ qo ≠ c0 := ⟨S4.ne hone, S4.ne hqo⟩
      have n2 : (oth ≠ s0 ∧ oth ≠ c0) ∧ qw ≠ s0 ∧ qw ≠ c0 := ⟨S5.ne hoth, S5.ne hqw⟩
      have M7 : Made C H7 s0 c0 wd a b t wd' a' b' t' ld nm cl nm' cl' kvs kvs' led one qo oth qw ri fkv := ⟨S7, W6.kp kp7, W6'.kp kp7, (kp56.trans kp7) _ _ hld4 nld.1 nld.2, nld, web1.kp (kp6.trans kp7) n1.1 n1.2, n1, web2.kp kp7 n2.1 n2.2, n2, hri, S6.ne hri0, ⟨pm, W6'.nn, W6.nn, len4, lt4⟩, n5, n100⟩
      refine ⟨(by show 3 ≤ sizeLine; decide), fun tp htp => ?_⟩
      have sT := same_new (o := .tup [V.ref one, .ref oth, .ref ri]) htp
      refine ⟨tp, _, rfl, SqT.of upd_same, rfl, _, _, rfl, _, _, rfl, _, _, rfl, rfl, ?_⟩
      exact ⟨one, qo, oth, qw, ri, fkv, rfl, M7.same sT, Tabs.ext (tabs_kp Tb4 S4 (kp56.trans kp7)) sT⟩
    rintro σ H5 ⟨one, qo, oth, qw, ri, fkv, rfl, M5, Tb5⟩
    -- above
    refine ⟨_, rfl, _, rfl, wd, _, rfl, dg_names M5.W.d, a, _, rfl, .inl (SqL.of M5.W.hn), ld, led, (nm.map V.str).length, rfl, M5.hld, by rw [len4]; omega, by rw [List.length_map]; omega, fun x hx => by rw [List.length_map]; exact lt4 x hx, fun fA as H6 hf0 hf hal has s6 => ?_⟩
    rw [List.length_map] at hal
    have M6 := M5.same s6
    have Tb6 := Tabs.ext Tb5 s6
    have nfA := M5.S.ne hf0
    -- the numbers
    refine ⟨fun σ H7 => ∃ (q : Addr) (nI : List Int), σ = [some (.ref sa), some (.ref s0), some (.int (0 + (i : Int))), some (.ref wd), some (.ref wd'), some (.ref ld), some (.ref one), some (.ref oth), some (.ref ri), some (.ref fA), some (.ref q), v11, v12, v13, v14, v15, v16, none, none] ∧ H6 q = none ∧ H7 q = some (.lst (nI.map V.int)) ∧ nI.length = nm.length ∧ (∀ n ∈ nI, 0 ≤ n ∧ n.natAbs.log2 < 1000) ∧ Src H7 s0 c0 ∧ Kp s0 c0 H6 H7, ?_, ?_⟩
    · refine ⟨_, rfl, wd, _, rfl, dg_names M6.W.d, a, rfl, ⟨_, SqL.of M6.W.hn⟩, fun D hD => ?_⟩
      have nD := M6.S.ne hD
      refine lc_it (walk_list (xs := nm.map V.str)) (fun j H7 => ∃ nI : List Int, H7 D = some (.lst (nI.map V.int)) ∧ nI.length = j ∧ (∀ n ∈ nI, 0 ≤ n ∧ n.natAbs.log2 < 1000) ∧ Src H7 s0 c0 ∧ Kp s0 c0 H6 H7) ⟨[], upd_same, rfl, (fun n hn => (List.not_mem_nil hn).elim), M6.S.new hD, Kp.same (same_new hD)⟩ (fun j H7 _ ⟨_, _, _, _, _, h⟩ => SqL.of (M6.W.kp h).hn) ?_ ?_
      · rintro j x H8 H7 hj ⟨nI, hD7, hnl, hnn, S7, k7⟩ ⟨rfl, hx⟩
        rw [List.length_map] at hj
        refine ⟨rfl, tyes ?_⟩
        refine ⟨_, rfl, _, _, rfl, rfl, ⟨by decide, by decide, by decide +kernel⟩, (by show 6 ≤ sizeLine; rw [sizeLine_eq]; decide), fun l hl => ?_⟩
        have nl := S7.ne hl
        refine ⟨s0, c0, l, _, rfl, S7.new hl, nl.1, nl.2, SqL.of upd_same, by decide, by decide, fun v H9 hv S9 kp9 => ?_⟩
        have kp79 := (Kp.same (same_new (o := .lst [V.int 0, V.int 0, V.int 1, V.int 2, V.int 5, V.int (10 ^ (30 : Int).toNat)]) hl)).trans kp9
        obtain ⟨n, rfl, n0, nb⟩ := six_mem hv
        have hD9 := kp79 _ _ hD7 nD.1 nD.2
        refine ⟨_, hD9, Evl.sz_lt (by rw [List.length_map]; omega), nI ++ [n], by rw [upd_same, List.map_append]; rfl, by rw [List.length_append, hnl]; rfl, fun m hm => ?_, ?_, ?_⟩
        · rcases List.mem_append.mp hm with z | z
          · exact hnn m z
          · rw [List.mem_singleton.mp z]
            exact ⟨n0, nb⟩
        · exact S9.upd nD.1 nD.2
        · exact (k7.trans kp79).off hD
      · rintro H7 ⟨nI, hD7, hnl, hnn, S7, k7⟩
        rw [List.length_map] at hnl
        exact ⟨D, nI, rfl, hD, hD7, hnl, hnn, S7, k7⟩
    rintro σ H7 ⟨q, nI, rfl, hq0, hq, hnl, hnn, S7, k7⟩
    have M7 := M6.kp k7 S7
    have Tb7 := tabs_kp Tb6 M6.S k7
    have nq := M6.S.ne hq0
    have hledlt : ∀ p ∈ led, p < nI.length := fun p hp => by rw [hnl]; exact M7.L.lt p hp
    have hnn0 : ∀ n ∈ nI, 0 ≤ n := fun n h => (hnn n h).1
    have hnb0 : ∀ n ∈ nI, n.natAbs.log2 < 1000 := fun n h => (hnn n h).2
    have hledl : led.length = nm'.length := M7.L.len
    have hnlt : nm.length ≤ 5 := M7.n5
    have hnlt' : nm'.length ≤ 50 := M7.n100
    -- up
    refine ⟨fun σ H8 => ∃ u : Addr, σ = [some (.ref sa), some (.ref s0), some (.int (0 + (i : Int))), some (.ref wd), some (.ref wd'), some (.ref ld), some (.ref one), some (.ref oth), some (.ref ri), some (.ref fA), some (.ref q), some (.ref u), v12, v13, v14, v15, v16, none, none] ∧ H7 u = none ∧ H8 u = some (.lst ((pickN nI led).map V.int)) ∧ Same H7 H8, ?_, ?_⟩
    · refine ⟨_, rfl, ld, rfl, ⟨_, SqL.of M7.hld⟩, fun D hD => ?_⟩
      refine lc_it (walk_list (xs := natV led)) (fun j H8 => H8 D = some (.lst ((pickN nI (led.take j)).map V.int)) ∧ Same H7 H8) ⟨upd_same, same_new hD⟩ (fun j H8 _ h => SqL.of (h.2 _ _ M7.hld)) ?_ ?_
      · rintro j x H9 H8 hj ⟨hD8, s8⟩ ⟨rfl, hx⟩
        have hx : (led.map fun w : Nat => V.int (w : Int))[j]? = some x := hx
        rw [List.getElem?_map] at hx
        obtain ⟨p, hp, rfl⟩ := Option.map_eq_some_iff.mp hx
        have hpl := hledlt p (List.mem_of_getElem? hp)
        have hjl := (List.getElem?_eq_some_iff.mp hp).1
        have hn2 : (nI.map V.int)[p]? = some (V.int (nI.getD p 0)) := by
          rw [List.getElem?_map, List.getD_eq_getElem?_getD, List.getElem?_eq_getElem hpl]
          rfl
        refine ⟨rfl, tyes ⟨_, rfl, _, rfl, q, _, _, _, rfl, rfl, SqL.of (s8 _ _ hq), atI_nat hn2, _, hD8, ?_, ?_, ?_⟩⟩
        · exact Evl.sz_lt (by rw [List.length_map]; unfold pickN; rw [List.length_map, List.length_take]; omega)
        · rw [upd_same, List.take_add_one, hp]
          show some (HO.lst (List.map V.int (List.map _ _) ++ _)) = some (HO.lst (List.map V.int (List.map _ (_ ++ [p]))))
          rw [List.map_append, List.map_append]
          rfl
        · exact fun b o e => by
            rw [upd_ne (ne_of_none e hD)]
            exact s8 _ _ e
      · rintro H8 ⟨hD8, s8⟩
        have e : led.take (natV led).length = led := List.take_of_length_le (by show led.length ≤ (led.map _).length; rw [List.length_map]; exact Nat.le_refl _)
        rw [e] at hD8
        exact ⟨D, rfl, hD, hD8, s8⟩
    rintro σ H8 ⟨u, rfl, hu0, hu8, s8⟩
    have M8 := M7.same s8
    have Tb8 := Tabs.ext Tb7 s8
    have hq8 := s8 _ _ hq
    have nu := M7.S.ne hu0
    have S8 : Set4 C H8 one qo oth qw ri fA nm' nm led fkv as := ⟨M8.h1, M8.h2, M8.hri, s8 _ _ (k7 _ _ hf nfA.1 nfA.2), hal, fun q a h => s8 _ _ (k7 _ _ (has q a h).2 (M5.S.ne (has q a h).1).1 (M5.S.ne (has q a h).1).2), M8.L, hnlt, hnlt', fun z => by have := M8.W.n1; rw [z] at this; exact absurd this (by decide), fun z => by have := M8.W'.n1; rw [z] at this; exact absurd this (by decide)⟩
    have dueU : numsDue (nI.map V.int) nm.length = none := due_nn hnn0 hnl
    have upl : (pickN nI led).length = nm'.length := by rw [pick_len]; exact hledl
    have upn : ∀ n ∈ pickN nI led, 0 ≤ n := pick_nn hnn0
    have upb : ∀ n ∈ pickN nI led, n.natAbs.log2 < 1000 := pick_big hnb0
    have dueD : numsDue ((pickN nI led).map V.int) nm'.length = none := due_nn upn upl
    have lxI : (nI.map V.int).length ≤ 1000 := by rw [List.length_map]; omega
    have lxU : ((pickN nI led).map V.int).length ≤ 1000 := by rw [List.length_map]; omega
    -- led_up of the numbers
    refine ⟨fun σ H9 => σ = [some (.ref sa), some (.ref s0), some (.int (0 + (i : Int))), some (.ref wd), some (.ref wd'), some (.ref ld), some (.ref one), some (.ref oth), some (.ref ri), some (.ref fA), some (.ref q), some (.ref u), v12, v13, v14, v15, v16, none, none] ∧ Same H8 H9, ?_, ?_⟩
    · refine ⟨_, rfl, _, rfl, _, rfl, _, rfl, tNil_in (up_call S8 (.inl (SqL.of hq8)) lxI num_ints (fun r H9 _ hr0 hr9 s9 => ?_) (fun n d H' hd _ _ _ => by rw [dueU] at hd; cases hd))⟩
      rw [pick_vals hledlt] at hr9
      refine ⟨_, rfl, .inr ⟨r, u, (pickN nI led).map V.int, rfl, rfl, SqL.of hr9, SqL.of (s9 _ _ hu8), flat_ints _, false, rfl, iteF ?_⟩⟩
      refine ⟨_, rfl, _, rfl, _, rfl, _, rfl, q, _, rfl, .inl ⟨SqL.of (s9 _ _ hq8), fun l hl => ?_⟩⟩
      have s9l := s9.trans (same_new (o := .tup (nI.map V.int)) hl)
      refine tNil_in (up_call (S8.same s9l) (.inr (SqT.of upd_same)) lxI num_ints (fun r2 H10 _ hr20 hr210 s10 => ?_) (fun n d H' hd _ _ _ => by rw [dueU] at hd; cases hd))
      rw [pick_vals hledlt] at hr210
      exact ⟨_, rfl, .inr ⟨r2, u, _, rfl, rfl, SqL.of hr210, SqL.of (s10 _ _ (s9l _ _ hu8)), flat_ints _, false, rfl, iteF ⟨rfl, s9l.trans s10⟩⟩⟩
    rintro σ H9 ⟨rfl, s9⟩
    have hu9 := s9 _ _ hu8
    -- led_down of them
    refine ⟨fun σ H10 => σ = [some (.ref sa), some (.ref s0), some (.int (0 + (i : Int))), some (.ref wd), some (.ref wd'), some (.ref ld), some (.ref one), some (.ref oth), some (.ref ri), some (.ref fA), some (.ref q), some (.ref u), v12, v13, v14, v15, v16, none, none] ∧ Same H9 H10, ?_, ?_⟩
    · refine ⟨_, rfl, _, rfl, _, rfl, _, rfl, tNil_in (dn_call (S8.same s9) (.inl (SqL.of hu9)) lxU num_ints (fun ns' H' e hl _ h s => ?_) (fun ns' ds r H' e hl _ h hr0 hr' s => ?_) (fun n d H' hd _ _ _ => by rw [dueD] at hd; cases hd))⟩
      · obtain rfl := ints_inj e
        exact ⟨_, rfl, _, rfl, tNil_in (dd_call (S8.same (s9.trans s)) (.inl (SqL.of (s _ _ hu9))) upl (fun H'' s2 h2 => .inl ⟨rfl, rfl, false, rfl, iteF ⟨rfl, s.trans s2⟩⟩) (fun ds r H'' h2 _ _ _ => by rw [h] at h2; cases h2))⟩
      · obtain rfl := ints_inj e
        refine ⟨_, rfl, _, rfl, tNil_in (dd_call (S8.same (s9.trans s)) (.inl (SqL.of (s _ _ hu9))) upl (fun H'' s2 h2 => by rw [h] at h2; cases h2) (fun ds2 r2 H'' h2 hr20 hr2 s2 => ?_))⟩
        rw [h] at h2
        cases h2
        exact .inr ⟨r, r2, ds.map V.int, rfl, rfl, SqL.of (s2 _ _ hr'), SqL.of hr2, flat_ints _, false, rfl, iteF ⟨rfl, s.trans s2⟩⟩
    rintro σ H10 ⟨rfl, s10⟩
    have s810 := s9.trans s10
    -- mixed
    refine ⟨_, rfl, u, _, rfl, .inl (SqL.of (s810 _ _ hu8)), fun l hl => ?_⟩
    have hl8 := s810.free hl
    have nl := M8.S.ne hl8
    have hl11 : (upd H10 l (.lst ((pickN nI led).map V.int))) l = some (.lst ((pickN nI led).map V.int)) := upd_same
    have s811 := s810.trans (same_new (o := .lst ((pickN nI led).map V.int)) hl)
    generalize upd H10 l (.lst ((pickN nI led).map V.int)) = H11 at *
    have S11 := M8.S.same s811
    refine ⟨fun σ H12 => ∃ mx : List Int, σ = [some (.ref sa), some (.ref s0), some (.int (0 + (i : Int))), some (.ref wd), some (.ref wd'), some (.ref ld), some (.ref one), some (.ref oth), some (.ref ri), some (.ref fA), some (.ref q), some (.ref u), some (.ref l), v13, v14, v15, v16, none, none] ∧ H12 l = some (.lst (mx.map V.int)) ∧ mx.length = nm'.length ∧ (∀ n ∈ mx, 0 ≤ n) ∧ Src H12 s0 c0 ∧ Kp s0 c0 H8 H12, ?_, ?_⟩
    · refine ⟨_, rfl, (by show 4 ≤ sizeLine; rw [sizeLine_eq]; decide), fun l2 hl2 => ?_⟩
      have nl2 := S11.ne hl2
      refine ⟨s0, c0, l2, _, rfl, S11.new hl2, nl2.1, nl2.2, SqL.of upd_same, by decide, by decide, fun v H12 hv S12 kp12 => ?_⟩
      obtain ⟨n, rfl, n0⟩ := four_mem hv
      have k12 := (Kp.same (same_new (o := .lst [V.int 0, V.int 1, V.int 2, V.int 5]) hl2)).trans kp12
      have hl12 := k12 _ _ hl11 nl.1 nl.2
      have n1' := M8.W'.n1
      refine ⟨_, rfl, _, rfl, _, rfl, l, _, rfl, .inl (SqL.of hl12), s0, c0, _, rfl, S12, by rw [List.length_map]; omega, by rw [List.length_map]; omega, fun k H13 hk0 hk1 S13 kp13 => ?_⟩
      have hl13 := kp13 _ _ hl12 nl.1 nl.2
      refine ⟨l, _, k, k.toNat, rfl, rfl, hl13, ixN_nat hk0 hk1, (pickN nI led).set k.toNat n, rfl, ?_, by rw [List.length_set]; exact upl, fun m hm => ?_, S13.upd nl.1 nl.2, ((Kp.same s811).trans (k12.trans kp13)).off hl8⟩
      · rw [upd_same, List.map_set]
      · rcases List.mem_or_eq_of_mem_set hm with z | z
        · exact upn m z
        · rw [z]
          exact n0
    rintro σ H12 ⟨mx, rfl, hl12, mxl, mxn, S12, k12⟩
    have M12 := M8.kp k12 S12
    have Set12 : Set4 C H12 one qo oth qw ri fA nm' nm led fkv as := ⟨M12.h1, M12.h2, M12.hri, k12 _ _ S8.hA nfA.1 nfA.2, hal, fun q a h => k12 _ _ (S8.ag q a h) (M5.S.ne (has q a h).1).1 (M5.S.ne (has q a h).1).2, S8.L, S8.n5, S8.n50, S8.nn, S8.nn'⟩
    have lxM : (mx.map V.int).length ≤ 1000 := by rw [List.length_map]; omega
    have dueM : numsDue (mx.map V.int) nm'.length = none := due_nn mxn mxl
    refine ⟨fun σ H13 => σ = [some (.ref sa), some (.ref s0), some (.int (0 + (i : Int))), some (.ref wd), some (.ref wd'), some (.ref ld), some (.ref one), some (.ref oth), some (.ref ri), some (.ref fA), some (.ref q), some (.ref u), some (.ref l), v13, v14, v15, v16, none, none] ∧ Same H12 H13, ?_, ?_⟩
    · refine ⟨_, rfl, _, rfl, _, rfl, _, rfl, tNil_in (dn_call Set12 (.inl (SqL.of hl12)) lxM num_ints (fun ns' H' e hl _ h s => ?_) (fun ns' ds r H' e hl _ h hr0 hr' s => ?_) (fun n d H' hd _ _ _ => by rw [dueM] at hd; cases hd))⟩
      · obtain rfl := ints_inj e
        exact ⟨_, rfl, _, rfl, tNil_in (dd_call (Set12.same s) (.inl (SqL.of (s _ _ hl12))) mxl (fun H'' s2 h2 => .inl ⟨rfl, rfl, false, rfl, iteF ⟨rfl, s.trans s2⟩⟩) (fun ds r H'' h2 _ _ _ => by rw [h] at h2; cases h2))⟩
      · obtain rfl := ints_inj e
        refine ⟨_, rfl, _, rfl, tNil_in (dd_call (Set12.same s) (.inl (SqL.of (s _ _ hl12))) mxl (fun H'' s2 h2 => by rw [h] at h2; cases h2) (fun ds2 r2 H'' h2 hr20 hr2 s2 => ?_))⟩
        rw [h] at h2
        cases h2
        exact .inr ⟨r, r2, ds.map V.int, rfl, rfl, SqL.of (s2 _ _ hr'), SqL.of hr2, flat_ints _, false, rfl, iteF ⟨rfl, s.trans s2⟩⟩
    rintro σ H13 ⟨rfl, s13⟩
    -- the two near values
    have S13 := S12.same s13
    have k813 := k12.trans (Kp.same s13)
    have hq13 := k813 _ _ hq8 nq.1 nq.2
    have hu13 := k813 _ _ hu8 nu.1 nu.2
    have Tb13 : Tabs [(PT, lamQ)] H13 := tabs_kp Tb8 M8.S k813
    have n1 := M12.W.n1
    have n1' := M12.W'.n1
    refine ⟨_, rfl, _, rfl, s0, c0, q, nI, rfl, S13, nq.1, nq.2, hq13, by omega, by omega, hnb0, fun r1 ys1 H14 hr10 hr1 hl1 ho1 hnew1 S14 kp14 => ?_⟩
    have hu14 := kp14 _ _ hu13 nu.1 nu.2
    refine ⟨_, rfl, _, rfl, s0, c0, u, pickN nI led, rfl, S14, nu.1, nu.2, hu14, by omega, by omega, upb, fun r2 ys2 H15 hr20 hr2 hl2 ho2 hnew2 S15 kp15 => ?_⟩
    have nr1 := S13.ne hr10
    have hr1' : H15 r1 = some (.lst ys1) ∨ H15 r1 = some (.tup ys1) := hr1.imp (fun h => kp15 _ _ h nr1.1 nr1.2) fun h => kp15 _ _ h nr1.1 nr1.2
    have ho1' : ∀ y ∈ ys1, OddV H15 y := fun y hy => (ho1 y hy).kp kp15 fun a e => S13.ne (hnew1 a (e ▸ hy))
    refine ⟨(by show 2 ≤ sizeLine; rw [sizeLine_eq]; decide), fun L hL => ?_⟩
    have k815 := k813.trans (kp14.trans kp15)
    have k17 : Kp s0 c0 H8 (upd H15 L (.lst [V.ref r1, V.ref r2])) := k815.trans (Kp.same (same_new hL))
    have sL := same_new (o := .lst [V.ref r1, V.ref r2]) hL
    have S17 := S15.new (o := .lst [V.ref r1, V.ref r2]) hL
    have hL17 : (upd H15 L (.lst [V.ref r1, V.ref r2])) L = some (.lst [V.ref r1, V.ref r2]) := upd_same
    have hvals : ∀ x ∈ [V.ref r1, V.ref r2], ∃ (r : Addr) (ys : List V), x = V.ref r ∧ ((upd H15 L (.lst [V.ref r1, V.ref r2])) r = some (.lst ys) ∨ (upd H15 L (.lst [V.ref r1, V.ref r2])) r = some (.tup ys)) ∧ ys.length ≤ 1000 ∧ ∀ y ∈ ys, OddV (upd H15 L (.lst [V.ref r1, V.ref r2])) y := fun x hx => by
      rcases List.mem_cons.mp hx with rfl | hx
      · exact ⟨r1, ys1, rfl, hr1'.imp (sL _ _) (sL _ _), by omega, fun y hy => (ho1' y hy).extN (ExtN.of sL)⟩
      · obtain rfl := List.mem_singleton.mp hx
        exact ⟨r2, ys2, rfl, hr2.imp (sL _ _) (sL _ _), by omega, fun y hy => (ho2 y hy).extN (ExtN.of sL)⟩
    have Tb17 : Tabs [(PT, lamQ)] (upd H15 L (.lst [V.ref r1, V.ref r2])) := tabs_kp Tb8 M8.S k17
    generalize upd H15 L (.lst [V.ref r1, V.ref r2]) = H17 at *
    have M17 := M8.kp k17 S17
    have Set17 : Set4 C H17 one qo oth qw ri fA nm' nm led fkv as := ⟨M17.h1, M17.h2, M17.hri, k17 _ _ S8.hA nfA.1 nfA.2, hal, fun q a h => k17 _ _ (S8.ag q a h) (M5.S.ne (has q a h).1).1 (M5.S.ne (has q a h).1).2, S8.L, S8.n5, S8.n50, S8.nn, S8.nn'⟩
    have hq17 := k17 _ _ hq8 nq.1 nq.2
    have hu17 := k17 _ _ hu8 nu.1 nu.2
    have hld17 := M17.hld
    refine ⟨L, rfl, ⟨_, SqL.of hL17⟩, ?_⟩
    refine for_it (walk_list (xs := [V.ref r1, V.ref r2])) (fun t σ H18 => ∃ v13 v14 v15 v16, σ = [some (.ref sa), some (.ref s0), some (.int (0 + (i : Int))), some (.ref wd), some (.ref wd'), some (.ref ld), some (.ref one), some (.ref oth), some (.ref ri), some (.ref fA), some (.ref q), some (.ref u), some (.ref l), v13, v14, v15, v16, none, none] ∧ ExtN H17 H18 ∧ Tabs [(PT, lamQ)] H18) ⟨v13, v14, v15, v16, rfl, ExtN.refl _, Tb17⟩ (fun t σ H18 _ ⟨_, _, _, _, _, e, _⟩ => SqL.of (e _ _ hL17 fun _ z => by cases z)) ?_ ?_
    · rintro t x σ H19 H18 ht ⟨v13, v14, v15, v16, rfl, e18, T18⟩ ⟨rfl, hx⟩
      obtain ⟨r, ys, rfl, hval, hyl, hod⟩ := hvals x (List.mem_of_getElem? hx)
      obtain ⟨d, hsh, hs1, hs2, hs3, hs4⟩ := odd_text hval hod hyl
      have hnum : ∀ {H' : Hp}, ExtN H17 H' → ∀ y ∈ ys, NumX H' y := fun e y hy => ((hod y hy).extN e).num
      have lI : (nI.map V.int).length = nm.length := by rw [List.length_map]; exact hnl
      have lU : ((pickN nI led).map V.int).length = nm'.length := by rw [List.length_map]; exact upl
      -- what is kept, what is due
      refine ⟨fun σ H20 => ∃ w, σ = [some (.ref sa), some (.ref s0), some (.int (0 + (i : Int))), some (.ref wd), some (.ref wd'), some (.ref ld), some (.ref one), some (.ref oth), some (.ref ri), some (.ref fA), some (.ref q), some (.ref u), some (.ref l), some (.ref r), some (.str d.shown), some w, v16, none, none] ∧ DueV H20 w (numsDue ys nm.length) ∧ ExtN H17 H20 ∧ Tabs [(PT, lamQ)] H20, ?_, ?_⟩
      · have hq18 := e18 _ _ hq17 fun _ z => by cases z
        refine ⟨_, rfl, r, d, rfl, hsh.extN e18, hs1, hs2, hs3, hs4, ?_⟩
        refine ⟨_, rfl, _, rfl, q, _, rfl, .inl (SqL.of hq18), r, ys, _, rfl, sq_val (val_extN hval e18), hyl, hnum e18, fun H20 s20 hd => ?_, fun n r3 H20 hd hr30 hr3 s20 => ?_⟩
        · rw [lI] at hd
          exact ⟨_, _, rfl, _, rfl, .inl ⟨hd, rfl⟩, e18.trans (ExtN.of s20), Tabs.ext T18 s20⟩
        · rw [lI] at hd
          exact ⟨_, _, rfl, _, rfl, .inr ⟨n, r3, hd, rfl, hr3⟩, e18.trans (ExtN.of s20), Tabs.ext T18 s20⟩
      rintro σ H20 ⟨w, rfl, dw, e20, T20⟩
      -- led_up of it
      refine ⟨fun σ H21 => ∃ t1, σ = [some (.ref sa), some (.ref s0), some (.int (0 + (i : Int))), some (.ref wd), some (.ref wd'), some (.ref ld), some (.ref one), some (.ref oth), some (.ref ri), some (.ref fA), some (.ref q), some (.ref u), some (.ref l), some (.ref r), some (.str d.shown), some w, some (.ref t1), none, none] ∧ ((numsDue ys nm.length = none ∧ H21 t1 = some (.lst (led.map fun p => ys.getD p .non))) ∨ ∃ n, numsDue ys nm.length = some n ∧ H21 t1 = some (.lst (badV n))) ∧ ExtN H20 H21 ∧ Tabs [(PT, lamQ)] H21, ?_, ?_⟩
      · refine ⟨T20, fun H21 e21 T21 => ?_⟩
        have e2 := e20.trans e21
        refine ⟨_, rfl, _, rfl, _, rfl, _, rfl, tNil_in (up_call (Set17.extN e2) (sq_val (val_extN hval e2)) hyl (hnum e2) (fun t1 H22 hd ht10 ht1 s22 => ?_) (fun n dd H22 hd _ hdd s22 => ?_))⟩
        · exact ⟨t1, rfl, .inl ⟨hd, ht1⟩, e21.trans (ExtN.of s22), Tabs.ext T21 s22⟩
        · exact ⟨true, T.exm, fun _ => ⟨rfl, n, dd, rfl, hdd, by have := due_le hd; omega, fun t1 ht10 => ⟨t1, rfl, .inr ⟨n, hd, upd_same⟩, (e21.trans (ExtN.of s22)).trans (ExtN.of (same_new ht10)), Tabs.ext (Tabs.ext T21 s22) (same_new ht10)⟩⟩, fun z => by cases z⟩
      rintro σ H21 ⟨t1, rfl, ht1, e21, T21⟩
      have e2 := e20.trans e21
      refine ⟨fun σ H22 => σ = [some (.ref sa), some (.ref s0), some (.int (0 + (i : Int))), some (.ref wd), some (.ref wd'), some (.ref ld), some (.ref one), some (.ref oth), some (.ref ri), some (.ref fA), some (.ref q), some (.ref u), some (.ref l), some (.ref r), some (.str d.shown), some w, some (.ref t1), none, none] ∧ ExtN H17 H22 ∧ Tabs [(PT, lamQ)] H22, ?_, ?_⟩
      · have hld21 := e2 _ _ hld17 fun _ z => by cases z
        have hval21 := val_extN hval e2
        refine ⟨_, rfl, _, rfl, rfl, _, rfl, ?_⟩
        rcases dw with ⟨hd, rfl⟩ | ⟨n, r3, hd, rfl, hr3⟩
        · refine ne_same ?_
          have ht1' : H21 t1 = some (.lst (led.map fun p => ys.getD p .non)) := by
            rcases ht1 with ⟨_, h⟩ | ⟨n, h, _⟩
            · exact h
            · rw [hd] at h
              cases h
          have hyn := due_none hd
          refine ⟨_, rfl, ld, rfl, ⟨_, SqL.of hld21⟩, fun D hD => ?_⟩
          refine lc_it (walk_list (xs := natV led)) (fun j H' => H' D = some (.lst ((led.take j).map fun p => ys.getD p .non)) ∧ Same H21 H') ⟨upd_same, same_new hD⟩ (fun j H' _ h => SqL.of (h.2 _ _ hld21)) ?_ ?_
          · rintro j x H9 H8 hj ⟨hD8, s8⟩ ⟨rfl, hx⟩
            have hx : (led.map fun w : Nat => V.int (w : Int))[j]? = some x := hx
            rw [List.getElem?_map] at hx
            obtain ⟨p, hp, rfl⟩ := Option.map_eq_some_iff.mp hx
            have hpl := hledlt p (List.mem_of_getElem? hp)
            have hjl := (List.getElem?_eq_some_iff.mp hp).1
            have hn2 : ys[p]? = some (ys.getD p .non) := by
              rw [List.getD_eq_getElem?_getD, List.getElem?_eq_getElem (by omega)]
              rfl
            have acc : ((led.take j).map fun p => ys.getD p V.non).length < sizeLine := Evl.sz_lt (by rw [List.length_map, List.length_take]; omega)
            have nx : (upd H8 D (.lst (((led.take j).map fun p => ys.getD p V.non) ++ [ys.getD p .non]))) D = some (.lst ((led.take (j + 1)).map fun p => ys.getD p V.non)) := by
              rw [upd_same, List.take_add_one, hp]
              show _ = some (HO.lst (List.map _ (_ ++ [p])))
              rw [List.map_append]
              rfl
            have sm : Same H21 (upd H8 D (.lst (((led.take j).map fun p => ys.getD p V.non) ++ [ys.getD p .non]))) := fun b o e => by
              rw [upd_ne (ne_of_none e hD)]
              exact s8 _ _ e
            refine ⟨rfl, tyes ?_⟩
            rcases hval21 with h | h
            · exact ⟨_, rfl, _, rfl, .inl ⟨r, _, _, _, rfl, rfl, SqL.of (s8 _ _ h), atI_nat hn2, _, hD8, acc, nx, sm⟩⟩
            · exact ⟨_, rfl, _, rfl, .inr (.inl ⟨r, _, _, _, rfl, rfl, SqT.of (s8 _ _ h), atI_nat hn2, _, hD8, acc, nx, sm⟩)⟩
          · rintro H8 ⟨hD8, s8⟩
            have e : led.take (natV led).length = led := List.take_of_length_le (by show led.length ≤ (led.map _).length; rw [List.length_map]; exact Nat.le_refl _)
            rw [e] at hD8
            have e3 := e2.trans (ExtN.of s8)
            refine .inr ⟨t1, D, _, rfl, rfl, SqL.of (s8 _ _ ht1'), SqL.of hD8, get_vals (num_val hd), false, rfl, iteF ?_⟩
            exact ⟨_, rfl, r, d, rfl, hsh.extN e3, hs1, hs2, hs3, hs4, _, rfl, rfl, _, rfl, ne_same ⟨rfl, e3, Tabs.ext T21 s8⟩⟩
        · refine notN_ref ?_
          have ht1' : H21 t1 = some (.lst (badV n)) := by
            rcases ht1 with ⟨h, _⟩ | ⟨m, h, h2⟩
            · rw [hd] at h
              cases h
            · rw [hd] at h
              cases h
              exact h2
          refine ⟨_, rfl, .inr ⟨t1, r3, badV n, rfl, rfl, SqL.of ht1', SqL.of (e21 _ _ hr3 fun _ z => by cases z), flat_bad n, false, rfl, iteF ?_⟩⟩
          exact ⟨_, rfl, r, d, rfl, hsh.extN e2, hs1, hs2, hs3, hs4, _, rfl, rfl, _, rfl, ne_same ⟨rfl, e2, T21⟩⟩
      rintro σ H22 ⟨rfl, e22, T22⟩
      -- what is due from led_down
      refine ⟨fun σ H23 => ∃ w2, σ = [some (.ref sa), some (.ref s0), some (.int (0 + (i : Int))), some (.ref wd), some (.ref wd'), some (.ref ld), some (.ref one), some (.ref oth), some (.ref ri), some (.ref fA), some (.ref q), some (.ref u), some (.ref l), some (.ref r), some (.str d.shown), some w2, some (.ref t1), none, none] ∧ DueV H23 w2 (numsDue ys nm'.length) ∧ ExtN H17 H23 ∧ Tabs [(PT, lamQ)] H23, ?_, ?_⟩
      · have hu22 := e22 _ _ hu17 fun _ z => by cases z
        refine ⟨_, rfl, _, rfl, u, _, rfl, .inl (SqL.of hu22), r, ys, _, rfl, sq_val (val_extN hval e22), hyl, hnum e22, fun H23 s23 hd => ?_, fun n r3 H23 hd hr30 hr3 s23 => ?_⟩
        · rw [lU] at hd
          exact ⟨_, rfl, .inl ⟨hd, rfl⟩, e22.trans (ExtN.of s23), Tabs.ext T22 s23⟩
        · rw [lU] at hd
          exact ⟨_, rfl, .inr ⟨n, r3, hd, rfl, hr3⟩, e22.trans (ExtN.of s23), Tabs.ext T22 s23⟩
      rintro σ H23 ⟨w2, rfl, dw2, e23, T23⟩
      refine ⟨fun σ H24 => ∃ w3, σ = [some (.ref sa), some (.ref s0), some (.int (0 + (i : Int))), some (.ref wd), some (.ref wd'), some (.ref ld), some (.ref one), some (.ref oth), some (.ref ri), some (.ref fA), some (.ref q), some (.ref u), some (.ref l), some (.ref r), some (.str d.shown), some w2, some w3, none, none] ∧ DnV H24 w3 ys nm'.length led nm.length ∧ ExtN H23 H24 ∧ Tabs [(PT, lamQ)] H24, ?_, ?_⟩
      · refine ⟨T23, fun H24 e24 T24 => ?_⟩
        have e3 := e23.trans e24
        refine ⟨_, rfl, _, rfl, _, rfl, _, rfl, tNil_in (dn_call (Set17.extN e3) (sq_val (val_extN hval e3)) hyl (hnum e3) (fun ns' H' e hl hd h s => ?_) (fun ns' ds t2 H' e hl hd h ht0 ht s => ?_) (fun n dd H' hd _ hdd s => ?_))⟩
        · exact ⟨.non, rfl, .inl ⟨ns', e, hl, hd, .inl ⟨h, rfl⟩⟩, e24.trans (ExtN.of s), Tabs.ext T24 s⟩
        · exact ⟨.ref t2, rfl, .inl ⟨ns', e, hl, hd, .inr ⟨ds, t2, h, rfl, ht⟩⟩, e24.trans (ExtN.of s), Tabs.ext T24 s⟩
        · exact ⟨true, T.exm, fun _ => ⟨rfl, n, dd, rfl, hdd, by have := due_le hd; omega, fun t2 ht0 => ⟨.ref t2, rfl, .inr ⟨n, t2, hd, rfl, upd_same⟩, (e24.trans (ExtN.of s)).trans (ExtN.of (same_new ht0)), Tabs.ext (Tabs.ext T24 s) (same_new ht0)⟩⟩, fun z => by cases z⟩
      rintro σ H24 ⟨w3, rfl, dn, e24, T24⟩
      have e3 := e23.trans e24
      have dw3 := dw2.extN e24
      refine ⟨_, rfl, _, rfl, rfl, _, rfl, ?_⟩
      rcases dw3 with ⟨hd, rfl⟩ | ⟨n, r3, hd, rfl, hr3⟩
      · refine ne_same ?_
        rcases dn with ⟨ns', rfl, hl', _, dn⟩ | ⟨k, t2, h, _⟩
        · refine ⟨_, rfl, _, rfl, tNil_in (dd_call (Set17.extN e3) (sq_val (val_extN hval e3)) hl' (fun H25 s25 h25 => ?_) (fun ds2 t3 H25 h25 ht0 ht3 s25 => ?_))⟩
          · rcases dn with ⟨h, rfl⟩ | ⟨ds, t2, h, _⟩
            · refine .inl ⟨rfl, rfl, false, rfl, iteF ?_⟩
              have e4 := e3.trans (ExtN.of s25)
              exact ⟨_, rfl, r, d, rfl, hsh.extN e4, hs1, hs2, hs3, hs4, _, rfl, rfl, _, rfl, ne_same ⟨_, _, _, _, rfl, e4, Tabs.ext T24 s25⟩⟩
            · rw [h] at h25
              cases h25
          · rcases dn with ⟨h, _⟩ | ⟨ds, t2, h, rfl, ht2⟩
            · rw [h] at h25
              cases h25
            · rw [h] at h25
              cases h25
              have e4 := e3.trans (ExtN.of s25)
              refine .inr ⟨t2, t3, ds2.map V.int, rfl, rfl, SqL.of (s25 _ _ ht2), SqL.of ht3, flat_ints _, false, rfl, iteF ?_⟩
              exact ⟨_, rfl, r, d, rfl, hsh.extN e4, hs1, hs2, hs3, hs4, _, rfl, rfl, _, rfl, ne_same ⟨_, _, _, _, rfl, e4, Tabs.ext T24 s25⟩⟩
        · rw [hd] at h
          cases h
      · refine notN_ref ?_
        rcases dn with ⟨ns', _, _, h, _⟩ | ⟨k, t2, h, rfl, ht2⟩
        · rw [hd] at h
          cases h
        · rw [hd] at h
          cases h
          refine ⟨_, rfl, .inr ⟨t2, r3, badV n, rfl, rfl, SqL.of ht2, SqL.of hr3, flat_bad n, false, rfl, iteF ?_⟩⟩
          exact ⟨_, rfl, r, d, rfl, hsh.extN e3, hs1, hs2, hs3, hs4, _, rfl, rfl, _, rfl, ne_same ⟨_, _, _, _, rfl, e3, T24⟩⟩
    · rintro σ H18 ⟨v13, v14, v15, v16, rfl, e18, T18⟩
      exact ⟨S17.extN e18, T18, _, _, _, _, _, _, _, _, _, _, _, _, _, _, _, rfl⟩
  · rintro σ H2 ⟨S2, Tb2, v2, v3, v4, v5, v6, v7, v8, v9, v10, v11, v12, v13, v14, v15, v16, rfl⟩
    exact k H2
end
end Nm
/-! x -> 5 x + 1 goes the whole round of every power of two -/
namespace Nm
open L2
def seq5 : Nat → Nat
  | 0 => 0
  | n + 1 => 5 * seq5 n + 1
theorem seq5_pow : ∀ n, 4 * seq5 n + 1 = 5 ^ n
  | 0 => rfl
  | n + 1 => by
    have h := seq5_pow n
    rw [Nat.pow_succ, ← h]
    show 4 * (5 * seq5 n + 1) + 1 = _
    omega
theorem seq5_add (a : Nat) : ∀ b, seq5 (a + b) = 5 ^ b * seq5 a + seq5 b
  | 0 => by
    show seq5 a = 1 * seq5 a + 0
    omega
  | b + 1 => by
    show 5 * seq5 (a + b) + 1 = 5 ^ (b + 1) * seq5 a + (5 * seq5 b + 1)
    rw [seq5_add a b, Nat.pow_succ, Nat.mul_add, Nat.mul_comm (5 ^ b) 5, Nat.mul_assoc]
    omega
/-- at 2^k it is 2^k times an odd number -/
theorem seq5_two : ∀ k, ∃ c, seq5 (2 ^ k) = 2 ^ k * (2 * c + 1)
  | 0 => ⟨0, rfl⟩
  | k + 1 => by
    obtain ⟨c, h⟩ := seq5_two k
    have e : 2 ^ (k + 1) = 2 ^ k + 2 ^ k := by rw [Nat.pow_succ]; omega
    refine ⟨2 * seq5 (2 ^ k) * c + seq5 (2 ^ k) + c, ?_⟩
    have h2 : seq5 (2 ^ (k + 1)) = (5 ^ (2 ^ k) + 1) * seq5 (2 ^ k) := by
      rw [e, seq5_add, Nat.add_mul, Nat.one_mul]
    rw [h2, ← seq5_pow]
    have h3 : (4 * seq5 (2 ^ k) + 1 + 1) * seq5 (2 ^ k) = 2 * ((2 * seq5 (2 ^ k) + 1) * (2 ^ k * (2 * c + 1))) := by
      conv => lhs; rhs; rw [h]
      have : 4 * seq5 (2 ^ k) + 1 + 1 = 2 * (2 * seq5 (2 ^ k) + 1) := by omega
      rw [this, Nat.mul_assoc]
    rw [h3, Nat.pow_succ, Nat.mul_left_comm (2 * seq5 (2 ^ k) + 1), Nat.mul_comm (2 ^ k) 2, Nat.mul_assoc]
    congr 1
    congr 1
    generalize seq5 (2 ^ k) = z
    rw [Nat.mul_add, Nat.add_mul, Nat.mul_one, Nat.one_mul, Nat.mul_add, Nat.mul_add]
    have : 2 * z * (2 * c) = 2 * (2 * z * c) := by rw [Nat.mul_left_comm]
    omega
theorem seq5_odd (b : Nat) : ∃ d, 5 ^ b = 2 * d + 1 := ⟨2 * seq5 b, by rw [← seq5_pow]; omega⟩
theorem odd_mul (d c : Nat) : (2 * d + 1) * (2 * c + 1) = 2 * (2 * d * c + d + c) + 1 := by
  rw [Nat.add_mul, Nat.mul_add, Nat.mul_one, Nat.one_mul, Nat.mul_add, Nat.mul_add]
  have : 2 * d * (2 * c) = 2 * (2 * d * c) := by rw [Nat.mul_left_comm]
  omega
/-- every number below 2^k is met within the round -/
theorem seq5_all : ∀ k j, j < 2 ^ k → ∃ b, b < 2 ^ k ∧ seq5 b % 2 ^ k = j
  | 0, j, h => ⟨0, Nat.one_pos, by
    have : j = 0 := by
      have : (2 : Nat) ^ 0 = 1 := rfl
      omega
    rw [this]
    rfl⟩
  | k + 1, j, h => by
    have e : 2 ^ (k + 1) = 2 * 2 ^ k := by rw [Nat.pow_succ, Nat.mul_comm]
    have hp : 0 < 2 ^ k := Nat.pow_pos (by decide)
    obtain ⟨b, hb, hbj⟩ := seq5_all k (j % 2 ^ k) (Nat.mod_lt _ hp)
    rw [e] at h ⊢
    by_cases c : seq5 b % (2 * 2 ^ k) = j
    · exact ⟨b, by omega, c⟩
    · refine ⟨2 ^ k + b, by omega, ?_⟩
      obtain ⟨c1, h1⟩ := seq5_two k
      obtain ⟨d, h2⟩ := seq5_odd b
      rw [seq5_add, h1, h2, Nat.mul_left_comm, odd_mul]
      generalize 2 * d * c1 + d + c1 = q
      generalize 2 ^ k = D at *
      have h3 : D * (2 * q + 1) + seq5 b = (D + seq5 b) + 2 * D * q := by
        rw [Nat.mul_add, Nat.mul_one, Nat.mul_assoc, Nat.mul_left_comm]
        omega
      rw [h3, Nat.add_mul_mod_self_left]
      have h4 : seq5 b % (2 * D) % D = j % D := by rw [Nat.mod_mul_left_mod]; exact hbj
      have h5 : seq5 b % (2 * D) < 2 * D := Nat.mod_lt _ (by omega)
      have h6 : (D + seq5 b) % (2 * D) = (D + seq5 b % (2 * D)) % (2 * D) := by rw [Nat.add_mod_mod]
      rw [h6]
      generalize seq5 b % (2 * D) = r at *
      have split : ∀ x, x < 2 * D → x % D = if x < D then x else x - D := fun x hx => by
        split
        · exact Nat.mod_eq_of_lt (by assumption)
        · rw [Nat.mod_eq_sub_mod (by omega)]
          exact Nat.mod_eq_of_lt (by omega)
      rw [split r h5, split j h] at h4
      by_cases r1 : r < D
      · rw [if_pos r1] at h4
        split at h4
        · exact absurd h4 c
        · rw [Nat.mod_eq_of_lt (by omega)]
          omega
      · rw [if_neg r1] at h4
        split at h4
        · rw [Nat.mod_eq_sub_mod (by omega), Nat.mod_eq_of_lt (by omega)]
          omega
        · omega
theorem lcg_seq (m : Nat) : ∀ b, lcgN m b = seq5 b % (m + 1)
  | 0 => by
    show 0 = 0 % (m + 1)
    rw [Nat.zero_mod]
  | b + 1 => by
    show (lcgN m b * 5 + 1) % (m + 1) = (5 * seq5 b + 1) % (m + 1)
    rw [lcg_seq m b, Nat.mul_comm 5, Nat.add_mod, Nat.mod_mul_mod, ← Nat.add_mod]
/-- a mask: one less than a power of two -/
def Pow2 (m : Nat) : Prop := ∃ k, m + 1 = 2 ^ k
theorem lcg_full {m j : Nat} (hm : Pow2 m) (hj : j ≤ m) : ∃ b, b ≤ m ∧ lcgN m b = j := by
  obtain ⟨k, hk⟩ := hm
  obtain ⟨b, h1, h2⟩ := seq5_all k j (by omega)
  exact ⟨b, by omega, by rw [lcg_seq, hk]; exact h2⟩
theorem lcg_back {m : Nat} (hm : Pow2 m) : lcgN m (m + 1) = 0 := by
  obtain ⟨k, hk⟩ := hm
  obtain ⟨c, h⟩ := seq5_two k
  rw [lcg_seq, hk, h]
  exact Nat.mul_mod_right _ _
end Nm
/-! the way of a search through a table of any size -/
namespace Nm
open PySem L2
theorem lcg_turn {m : Nat} (pw : Pow2 m) (n : Nat) : lcgN m (m + 1 + n) = lcgN m n := by
  have z := lcg_back pw
  rw [lcg_seq] at z
  rw [lcg_seq, lcg_seq, seq5_add, Nat.add_mod, Nat.mul_mod, z, Nat.mul_zero, Nat.zero_mod, Nat.zero_add, Nat.mod_mod]
/-- from every slot to every slot -/
theorem lcg_from {m a b : Nat} (pw : Pow2 m) (ha : a ≤ m) (hb : b ≤ m) : ∃ n, n ≤ m ∧ lcgI m a n = b := by
  obtain ⟨u, hu, rfl⟩ := lcg_full pw ha
  obtain ⟨v, hv, rfl⟩ := lcg_full pw hb
  by_cases c : u ≤ v
  · refine ⟨v - u, by omega, ?_⟩
    rw [lcgN_add, show u + (v - u) = v by omega]
  · refine ⟨m + 1 + v - u, by omega, ?_⟩
    rw [lcgN_add, show u + (m + 1 + v - u) = m + 1 + v by omega, lcg_turn pw]
theorem way_meets {m j : Nat} (pw : Pow2 m) (h : Int) (hj : j ≤ m) : ∃ n, n < 10 * SetTable.turns m ∧ way m h n = j := by
  obtain ⟨r, hr, er⟩ := lcg_from pw (runI_le m (SetTable.bits h) 12) hj
  obtain ⟨n, hn, en⟩ := run_nth m (SetTable.bits h) (12 + r)
  refine ⟨n, ?_, ?_⟩
  · unfold SetTable.turns
    omega
  · show (nth m _ n).j = j
    rw [en, ← er, ← runI_tail (bits_lt h)]
    rfl
theorem way_in (m : Nat) (h : Int) (n : Nat) : way m h n ≤ m := by
  have b0 : SetTable.bits h % (m + 1) < m + 1 := Nat.mod_lt _ (Nat.succ_pos _)
  obtain ⟨r1, r2, _⟩ := runEnd_bd (Nat.le_of_lt_succ b0)
  have := nth_in (m := m) n (runAt m (SetTable.bits h % (m + 1)) (SetTable.bits h)) (by unfold runAt; simp only; omega)
  exact Nat.le_trans (Nat.le_add_right _ _) this
/-- a table in which each hash leads to its slot, its mask any -/
structure Tab (t : SetTable) (hs : List Int) : Prop where
  up : Ris t.place.toList
  clean : t.dummies = #[]
  many : t.place.size = hs.length
  pow : Pow2 t.mask
  low : ∀ j ∈ t.place.toList, j ≤ t.mask
  led : ∀ (i : Nat) (h : Int) (j : Nat), hs[i]? = some h → t.place.toList[i]? = some j → ∃ n, way t.mask h n = j ∧ ∀ n' < n, way t.mask h n' ∈ t.place.toList
/-- where the search for a hash ends: the first free slot of its way -/
theorem Tab.free {t : SetTable} {hs : List Int} (T : Tab t hs) (room : hs.length ≤ t.mask) (h : Int) : ∃ N, N < 10 * SetTable.turns t.mask ∧ way t.mask h N ∉ t.place.toList ∧ ∀ n < N, way t.mask h n ∈ t.place.toList := by
  obtain ⟨j, lt, out⟩ := st_missing t.place.toList (t.mask + 1) (by rw [Array.length_toList, T.many]; omega)
  obtain ⟨n, hn, e⟩ := way_meets T.pow h (Nat.le_of_lt_succ lt)
  obtain ⟨N, a, b, c⟩ := st_least (p := fun n => way t.mask h n ∉ t.place.toList) n (e ▸ out)
  exact ⟨N, by omega, b, fun n' hn' => Classical.not_not.mp (c n' hn')⟩
/-- a hash that stands in the table is met ahead of it -/
theorem Tab.ahead {t : SetTable} {hs : List Int} (T : Tab t hs) {h : Int} {N i j : Nat} (out : way t.mask h N ∉ t.place.toList) (hi : hs[i]? = some h) (hj : t.place.toList[i]? = some j) : ∃ n < N, way t.mask h n = j := by
  obtain ⟨n, e, before⟩ := T.led i h j hi hj
  refine ⟨n, Nat.lt_of_not_le fun le => ?_, e⟩
  rcases Nat.lt_or_eq_of_le le with lt | eq
  · exact out (before N lt)
  · subst eq
    exact out (e ▸ List.mem_of_getElem? hj)
/-- one more put at the first free slot of its way -/
theorem Tab.more {t : SetTable} {hs : List Int} (T : Tab t hs) {h : Int} {N : Nat} (out : way t.mask h N ∉ t.place.toList) (bef : ∀ n < N, way t.mask h n ∈ t.place.toList) :
    SetTable.below t.place (way t.mask h N) ≤ hs.length ∧ Tab (t.put (way t.mask h N)).1 (hs.take (SetTable.below t.place (way t.mask h N)) ++ h :: hs.drop (SetTable.below t.place (way t.mask h N))) ∧ (t.put (way t.mask h N)).1.fill = hs.length + 1 := by
  generalize hw : way t.mask h N = j at *
  have hjm : j ≤ t.mask := hw ▸ way_in t.mask h N
  obtain ⟨cut, _, _⟩ := below_cut T.up j
  have in1 : SetTable.below t.place j ≤ hs.length := T.many ▸ cut
  have in2 : SetTable.below t.place j ≤ t.place.toList.length := by rw [Array.length_toList]; exact cut
  have fresh : t.place[SetTable.below t.place j]? ≠ some j := fun e => out (List.mem_of_getElem? (i := SetTable.below t.place j) (by rw [Array.getElem?_toList]; exact e))
  have pp := put_place t j
  have keep : ∀ {x : Nat}, x ∈ t.place.toList → x ∈ (t.put j).1.place.toList := fun hx => pp ▸ mem_ins.2 (.inr hx)
  have sz : (t.put j).1.place.size = hs.length + 1 := by
    rw [← Array.length_toList, pp, len_ins _ in2, Array.length_toList, T.many]
  refine ⟨in1, ⟨ris_insert T.up fresh, put_dm T.clean j, by rw [len_ins _ in1, sz], T.pow, fun x hx => ?_, fun i h' j' a b => ?_⟩, ?_⟩
  · rw [pp] at hx
    rcases mem_ins.1 hx with rfl | z
    · exact hjm
    · exact T.low x z
  · rw [tins_get hs in1] at a
    rw [pp, tins_get _ in2] at b
    have old : ∀ i', hs[i']? = some h' → t.place.toList[i']? = some j' → ∃ n, way t.mask h' n = j' ∧ ∀ n' < n, way t.mask h' n' ∈ (t.put j).1.place.toList := fun i' u v => by
      obtain ⟨n, e, z⟩ := T.led i' h' j' u v
      exact ⟨n, e, fun n' lt => keep (z n' lt)⟩
    rcases Nat.lt_trichotomy i (SetTable.below t.place j) with c | c | c
    · rw [if_pos c] at a b
      exact old i a b
    · rw [if_neg (by omega), if_pos c] at a b
      cases a
      cases b
      exact ⟨N, hw, fun n' lt => keep (bef n' lt)⟩
    · rw [if_neg (by omega), if_neg (by omega)] at a b
      exact old (i - 1) a b
  · show (t.put j).1.place.size + (t.put j).1.dummies.size = _
    rw [sz, put_dm T.clean j]
    rfl
end Nm
/-! laying a table anew, its mask any -/
namespace Nm
open PySem L2
/-- the first free slot on the way of a hash is the one that the laying takes -/
theorem lay_free {m : Nat} (pw : Pow2 m) (ow : Array (Option Nat)) (h : Int) {j : Nat} (hj : j ≤ m) (fr : oAt ow j = none) :
    ∃ N, SetTable.layClean.free m ow (SetTable.turns m) (SetTable.bits h % (m + 1)) (SetTable.bits h) = some (way m h N) ∧ oAt ow (way m h N) = none ∧ ∀ n < N, oAt ow (way m h n) ≠ none := by
  obtain ⟨r, hr, er⟩ := lcg_from pw (runI_le m (SetTable.bits h) 12) hj
  have at_ : way m h (off m (SetTable.bits h % (m + 1)) (SetTable.bits h) (12 + r)) = j := by
    show (nth m _ _).j = j
    rw [nth_off, itL_run, ← er, ← runI_tail (bits_lt h)]
    rfl
  obtain ⟨N, le, emp, occ⟩ := st_least (p := fun n => oAt ow (way m h n) = none) _ (show oAt ow (way m h (off m (SetTable.bits h % (m + 1)) (SetTable.bits h) (12 + r))) = none by rw [at_]; exact fr)
  refine ⟨N, free_spec m ow _ (12 + r) _ _ N ?_ le (fun n lt => ?_) ?_, emp, occ⟩
  · unfold SetTable.turns
    omega
  · cases z : oAt ow (way m h n) with
    | none => exact absurd z (occ n lt)
    | some _ => rfl
  · exact congrArg Option.isNone emp
/-- one hash more -/
theorem own_more {m : Nat} (pw : Pow2 m) {hs : List Int} {ow : Array (Option Nat)} (O : Own m hs ow) (room : hs.length ≤ m) (h : Int) :
    ∃ j, SetTable.layClean.free m ow (SetTable.turns m) (SetTable.bits h % (m + 1)) (SetTable.bits h) = some j ∧ Own m (hs ++ [h]) (ow.setIfInBounds j (some hs.length)) := by
  obtain ⟨ps, pl, pin⟩ := O.ps
  obtain ⟨f, flt, fout⟩ := st_missing ps (m + 1) (by omega)
  have ffree : oAt ow f = none := Classical.byContradiction fun z => fout (pin f (by omega) z)
  obtain ⟨N, got, emp, occ⟩ := lay_free pw ow h (Nat.le_of_lt_succ flt) ffree
  generalize hw : way m h N = j at *
  have jm : j ≤ m := hw ▸ way_in m h N
  have new : oAt (ow.setIfInBounds j (some hs.length)) j = some hs.length := oAt_set_self _ (by rw [O.sz]; omega)
  have still : ∀ i, oAt ow i ≠ none → oAt (ow.setIfInBounds j (some hs.length)) i ≠ none := fun i hi => by
    by_cases c : i = j
    · subst c
      rw [new]
      exact Option.some_ne_none _
    · rw [oAt_set_ne _ c]
      exact hi
  refine ⟨j, got, ⟨by rw [Array.size_setIfInBounds, O.sz], fun i k hi e => ?_, fun k hk => ?_, j :: ps, by simp [pl], fun i hi e => ?_⟩⟩
  · by_cases c : i = j
    · subst c
      rw [new] at e
      cases e
      exact ⟨h, N, by simp, hw, fun n lt => still _ (occ n lt)⟩
    · rw [oAt_set_ne _ c] at e
      obtain ⟨h', n', a, b, d⟩ := O.at_ i k hi e
      refine ⟨h', n', ?_, b, fun n lt => still _ (d n lt)⟩
      rw [List.getElem?_append_left (List.getElem?_eq_some_iff.mp a).1, a]
  · rw [List.length_append, List.length_singleton] at hk
    rcases Nat.lt_or_eq_of_le (Nat.le_of_lt_succ hk) with lt | rfl
    · obtain ⟨i, hi, e⟩ := O.all k lt
      refine ⟨i, hi, ?_⟩
      rw [oAt_set_ne _ (fun z => by subst z; rw [emp] at e; cases e), e]
    · exact ⟨j, jm, new⟩
  · by_cases c : i = j
    · exact c ▸ List.mem_cons_self
    · rw [oAt_set_ne _ c] at e
      exact List.mem_cons_of_mem _ (pin i hi e)
theorem own_all {m : Nat} (pw : Pow2 m) : ∀ (todo hs : List Int) (ow : Array (Option Nat)), Own m hs ow → hs.length + todo.length ≤ m →
    ∃ ow', todo.foldl (stepF m) (some (ow, hs.length)) = some (ow', hs.length + todo.length) ∧ Own m (hs ++ todo) ow'
  | [], hs, ow, O, _ => ⟨ow, rfl, by rw [List.append_nil]; exact O⟩
  | h :: todo, hs, ow, O, room => by
    rw [List.length_cons] at room
    obtain ⟨j, got, O'⟩ := own_more pw O (by omega) h
    obtain ⟨ow', a, b⟩ := own_all pw todo (hs ++ [h]) _ O' (by rw [List.length_append, List.length_singleton]; omega)
    rw [List.length_append, List.length_singleton] at a
    refine ⟨ow', ?_, by rw [List.append_assoc] at b; exact b⟩
    rw [List.foldl_cons, stepF_some got, a, List.length_cons]
    congr 2
    omega
/-- the table laid anew: the entries in another order, each hash led to its slot -/
theorem lay_new (t : SetTable) {hs : Array Int} {want M : Nat} (hM : SetTable.sizeAbove want - 1 = M) (pw : Pow2 M) (room : hs.size ≤ M) :
    ∃ t' ord, t.relaid hs want = some (t', ord) ∧ ord.toList.Perm (List.range hs.size) ∧ Tab t' (ord.toList.map fun i => hs.getD i 0) ∧ t'.mask = M ∧ t'.led = t.led ∧ t'.plain = t.plain := by
  obtain ⟨ow, a, O⟩ := own_all pw hs.toList [] _ (Own.init M) (by rw [Array.length_toList]; show 0 + hs.size ≤ M; omega)
  rw [List.nil_append] at O
  have lay : SetTable.layClean M hs = some ow := by
    rw [layClean_eq]
    exact congrArg (Option.map Prod.fst) a
  have at_ : ∀ {j k : Nat}, (j, k) ∈ liveOf M ow ↔ j ≤ M ∧ oAt ow j = some k := mem_live O.sz
  obtain ⟨up, low⟩ := ris_live (fun j => ow.getD j none) (List.range (M + 1)) (show Ris (List.range (M + 1)) from List.pairwise_lt_range)
  change Ris ((liveOf M ow).map (·.1)) at up
  have all : ∀ k < hs.size, k ∈ (liveOf M ow).map (·.2) := fun k lt => by
    obtain ⟨j, u, v⟩ := O.all k (by rw [Array.length_toList]; exact lt)
    exact List.mem_map.mpr ⟨(j, k), at_.2 ⟨u, v⟩, rfl⟩
  have count : (liveOf M ow).length = hs.size := by
    obtain ⟨ps, pl, pin⟩ := O.ps
    have le : ((liveOf M ow).map (·.1)).length ≤ ps.length := nat_nodup_len _ ps (up.imp fun lt => Nat.ne_of_lt lt) fun x hx => by
      obtain ⟨⟨y, k⟩, hq, rfl⟩ := List.mem_map.mp hx
      obtain ⟨u, v⟩ := at_.1 hq
      exact pin y u (by rw [v]; exact Option.some_ne_none _)
    have ge := nat_nodup_len (List.range hs.size) ((liveOf M ow).map (·.2)) List.nodup_range fun k hk => all k (List.mem_range.mp hk)
    rw [List.length_map, pl] at le
    have hz : hs.toList.length = hs.size := rfl
    rw [List.length_map, List.length_range] at ge
    omega
  refine ⟨tabOf t M ow, ((liveOf M ow).map (·.2)).toArray, by rw [relaid_eq, hM, lay]; rfl, perm_range _ _ (by rw [List.toList_toArray, List.length_map, count]) (fun k lt => by rw [List.toList_toArray]; exact all k lt), ?_, rfl, rfl, rfl⟩
  refine ⟨up, rfl, ?_, pw, fun x hx => ?_, fun i h j u v => ?_⟩
  · show ((liveOf M ow).map (·.1)).toArray.size = _
    simp
  · obtain ⟨⟨y, k⟩, hq, rfl⟩ := List.mem_map.mp (show x ∈ (liveOf M ow).map (·.1) from hx)
    exact (at_.1 hq).1
  · change ((liveOf M ow).map (·.1))[i]? = some j at v
    rw [List.toList_toArray, List.map_map, List.getElem?_map] at u
    rw [List.getElem?_map] at v
    obtain ⟨⟨y, k⟩, hq, rfl⟩ := Option.map_eq_some_iff.mp v
    rw [hq] at u
    have eh : hs.getD k 0 = h := Option.some.inj u
    obtain ⟨b1, b2⟩ := at_.1 (List.mem_of_getElem? hq)
    obtain ⟨h0, N, c1, c2, c3⟩ := O.at_ y k b1 b2
    have e0 : hs.getD k 0 = h0 := by
      rw [Array.getElem?_toList] at c1
      rw [Array.getD_eq_getD_getElem?, c1]
      rfl
    rw [e0] at eh
    subst eh
    refine ⟨N, c2, fun n lt => ?_⟩
    cases z : oAt ow (way M h0 n) with
    | none => exact absurd z (c3 n lt)
    | some k2 => exact List.mem_map.mpr ⟨(way M h0 n, k2), at_.2 ⟨way_in M h0 n, z⟩, rfl⟩
end Nm
set_option maxRecDepth 100000
set_option maxHeartbeats 4000000
/-! sets of tuples of keys (ints, texts): what is asked of the tuples, and the search -/
namespace Nm
open PySem PySem.Spec PyProof.Rows L2
abbrev kh (P : Program) (w : World) (k : List Key) : Int := tupleKeyHash (mixKind P w) k
abbrev IsK (P : Program) (w : World) (h : Heap) (k : List Key) (a : Addr) : Prop := IsTupleKey (mixKind P w) h k a
section
variable {P : Program} {w : World} {A : Around} {E : Value → Shared → Prop} {s : Shared}
theorem told_items {k : List Key} {us : List Value} (T : PySem.ItemsAre (mixKind P w) k us) : ∀ u ∈ us, ∃ y : Key, keyIs y u = true := by
  induction T with
  | nil => exact fun u m => (List.not_mem_nil m).elim
  | @cons y u ks us e _ ih =>
    intro z m
    rcases List.mem_cons.mp m with rfl | m
    · exact ⟨y, e⟩
    · exact ih z m
theorem no_class {y : Key} {u : Value} (n : Nat) (e : keyIs y u = true) : ofAClassStatement n u = pure false := by
  rcases keyIs_shape e with ⟨i, t, rfl, rfl⟩ | ⟨x, t, rfl, rfl⟩ <;> cases n <;> rfl
theorem some_hash {y : Key} {u : Value} (n : Nat) (e : keyIs y u = true) : ∃ b, hashByValue n u = pure b := by
  rcases keyIs_shape e with ⟨i, t, rfl, rfl⟩ | ⟨x, t, rfl, rfl⟩
  · exact ⟨true, by cases n <;> rfl⟩
  · exact ⟨false, by cases n <;> rfl⟩
theorem class_of {k : List Key} {b : Addr} {Q : Bool → Shared → Prop} (T : IsK P w s.heap k b) (q : Q false s) : wpAny (model P w) A (ofAClassStatement 8 (.ref b)) Q E s := by
  have ty := T.typeIs
  obtain ⟨ob, its, cnt, hob, _, dat, itk⟩ := T
  unfold ofAClassStatement
  refine wpAny_bind (wpAny_typeOf ty ?_)
  dsimp only
  have yes : (("tuple" : String) == "tuple") = true := by decide
  simp only [yes, if_true, Bool.not_true, Bool.false_eq_true, if_false]
  try refine wpAny_bind (wpAny_pure ?_)
  try simp only [Bool.not_true, Bool.false_eq_true, if_false]
  show wpAny _ _ (seqItems? (.ref b) >>= _) _ _ s
  refine wpAny_bind (wpAny_seqItems hob dat ?_)
  dsimp only
  refine wpAny_bind ?_
  show wpAny _ _ (forIn its _ _) _ _ s
  rw [← Array.forIn_toList]
  refine wpAny_forIn_list _ (fun left acc st => acc.1 = none ∧ st = s ∧ ∀ u ∈ left, ∃ y : Key, keyIs y u = true) _ ?_ ?_ _ _ ⟨rfl, rfl, told_items itk⟩
  · rintro u left acc st ⟨na, rfl, every⟩
    obtain ⟨y, e⟩ := every u List.mem_cons_self
    rw [no_class _ e]
    refine wpAny_bind (wpAny_pure ?_)
    simp only [Bool.false_eq_true, if_false]
    exact wpAny_pure ⟨rfl, rfl, fun z m => every z (List.mem_cons_of_mem _ m)⟩
  · rintro ⟨c1, c2⟩ st ⟨na, rfl, _⟩
    simp only at na
    subst na
    exact wpAny_pure q
theorem hash_of {k : List Key} {b : Addr} {Q : Bool → Shared → Prop} (T : IsK P w s.heap k b) (q : ∀ r, Q r s) : wpAny (model P w) A (hashByValue 8 (.ref b)) Q E s := by
  have ty := T.typeIs
  obtain ⟨ob, its, cnt, hob, _, dat, itk⟩ := T
  unfold hashByValue
  refine wpAny_bind (wpAny_specialOf ty F.slot_tuple_hash.lookup ?_)
  show wpAny _ _ (seqItems? (.ref b) >>= _) _ _ s
  refine wpAny_bind (wpAny_seqItems hob dat ?_)
  refine wpAny_bind ?_
  show wpAny _ _ (forIn its _ _) _ _ s
  rw [← Array.forIn_toList]
  refine wpAny_forIn_list _ (fun left acc st => acc.1 = none ∧ st = s ∧ ∀ u ∈ left, ∃ y : Key, keyIs y u = true) _ ?_ ?_ _ _ ⟨rfl, rfl, told_items itk⟩
  · rintro u left acc st ⟨na, rfl, every⟩
    obtain ⟨y, e⟩ := every u List.mem_cons_self
    obtain ⟨r, er⟩ := some_hash 7 e
    rw [er]
    refine wpAny_bind (wpAny_pure ?_)
    cases r with
    | true =>
      simp only [Bool.not_true, Bool.false_eq_true, if_false]
      exact wpAny_pure ⟨rfl, rfl, fun z m => every z (List.mem_cons_of_mem _ m)⟩
    | false =>
      simp only [Bool.not_false, if_true]
      exact wpAny_pure (wpAny_pure (q false))
  · rintro ⟨c1, c2⟩ st ⟨na, rfl, _⟩
    simp only at na
    subst na
    exact wpAny_pure (q true)
/-- a search among such tuples cannot be seen -/
theorem seen_of {k : List Key} {b : Addr} {Q : Bool → Shared → Prop} (T : IsK P w s.heap k b) {us : List Value} (hu : ∀ u ∈ us, ∃ j c, u = Value.ref c ∧ IsK P w s.heap j c) (q : Q false s) :
    wpAny (model P w) A (searchCouldBeSeen (.ref b) us) Q E s := by
  unfold searchCouldBeSeen
  refine wpAny_bind ?_
  refine wpAny_forIn_list _ (fun left acc st => acc.1 = none ∧ st = s ∧ ∀ u ∈ left, ∃ j c, u = Value.ref c ∧ IsK P w s.heap j c) _ ?_ ?_ _ _ ⟨rfl, rfl, hu⟩
  · rintro u left acc st ⟨na, rfl, every⟩
    obtain ⟨j, c, rfl, Tc⟩ := every u List.mem_cons_self
    have after : ∀ u ∈ left, ∃ j c, u = Value.ref c ∧ IsK P w st.heap j c := fun z m => every z (List.mem_cons_of_mem _ m)
    dsimp only
    by_cases very : (b == c || (carriedByValue (.ref b) && carriedByValue (.ref c))) = true
    · exact wp_if_pos very (wpAny_pure ⟨rfl, rfl, after⟩)
    · refine wp_if_neg very (wpAny_bind (wpAny_eqIsQuiet_tuple T ?_))
      simp only [Bool.not_true, Bool.false_eq_true, if_false]
      refine wpAny_bind (wpAny_eqIsQuiet_tuple Tc ?_)
      simp only [Bool.not_true, Bool.false_eq_true, if_false]
      refine wpAny_bind (class_of T ?_)
      simp only [Bool.false_eq_true, if_false]
      refine wpAny_bind (class_of Tc ?_)
      simp only [Bool.false_eq_true, if_false]
      exact wpAny_pure ⟨rfl, rfl, after⟩
  · rintro ⟨c1, c2⟩ st ⟨na, rfl, _⟩
    simp only at na
    subst na
    exact wpAny_pure q
/-! ### the table of such a set -/
def MaskIn (m : Nat) : Prop := m = 7 ∨ m = 31 ∨ m = 127 ∨ m = 511 ∨ m = 2047 ∨ m = 8191
theorem MaskIn.pow {m : Nat} (h : MaskIn m) : Pow2 m := by
  rcases h with rfl | rfl | rfl | rfl | rfl | rfl
  · exact ⟨3, rfl⟩
  · exact ⟨5, rfl⟩
  · exact ⟨7, rfl⟩
  · exact ⟨9, rfl⟩
  · exact ⟨11, rfl⟩
  · exact ⟨13, rfl⟩
theorem MaskIn.odd {m : Nat} (h : MaskIn m) : m % 2 = 1 := by
  rcases h with rfl | rfl | rfl | rfl | rfl | rfl <;> rfl
theorem MaskIn.le {m : Nat} (h : MaskIn m) : m ≤ 8191 := by
  rcases h with rfl | rfl | rfl | rfl | rfl | rfl <;> decide
def rowsK (P : Program) (w : World) (L : List (Addr × List Key)) : List (Int × Value) := L.map fun e => (kh P w e.2, Value.ref e.1)
theorem rowsK_len (L : List (Addr × List Key)) : (rowsK P w L).length = L.length := List.length_map ..
structure KSet (P : Program) (w : World) (h : Heap) (a : Addr) (L : List (Addr × List Key)) (es : Array (Int × Value)) (ep : Nat) (t : SetTable) : Prop where
  here : ∃ o, h.get? a = some o ∧ o.ExactSet ∧ o.data = .set es ep t
  rows : es.toList = rowsK P w L
  tab : Tab t (L.map fun e => kh P w e.2)
  nd : (L.map (·.2)).Nodup
  tups : ∀ e ∈ L, IsK P w h e.2 e.1
  mask : MaskIn t.mask
  room : L.length * 5 < t.mask * 3
variable {a : Addr} {L : List (Addr × List Key)} {es : Array (Int × Value)} {ep : Nat} {t : SetTable}
theorem KSet.size (R : KSet P w s.heap a L es ep t) : es.size = L.length := by
  rw [← Array.length_toList, R.rows, rowsK_len]
theorem KSet.places (R : KSet P w s.heap a L es ep t) : t.place.toList.length = L.length := by
  rw [Array.length_toList, R.tab.many, List.length_map]
theorem KSet.fits (R : KSet P w s.heap a L es ep t) : t.fits es.size = true := by
  have p := R.places
  have z := R.size
  have r := R.room
  rw [Array.length_toList] at p
  unfold SetTable.fits SetTable.fill
  rw [R.tab.clean]
  simp
  omega
theorem KSet.entry (R : KSet P w s.heap a L es ep t) {i : Nat} {e : Addr × List Key} (h : L[i]? = some e) : es[i]? = some (kh P w e.2, Value.ref e.1) := by
  rw [← Array.getElem?_toList, R.rows]
  show (L.map _)[i]? = _
  rw [List.getElem?_map, h]
  rfl
theorem KSet.hashAt (R : KSet P w s.heap a L es ep t) {i : Nat} {e : Addr × List Key} (h : L[i]? = some e) : (es[i]?.map (·.1)).getD 0 = kh P w e.2 := by
  rw [R.entry h]
  rfl
theorem KSet.whole (R : KSet P w s.heap a L es ep t) : ¬ t.gaveWay = true := by
  unfold SetTable.gaveWay
  rw [R.mask.odd]
  decide
/-- where the walk stands behind c steps -/
abbrev stand (m : Nat) (h : Int) (c : Nat) : SetTable.Probe := nth m (runAt m (SetTable.bits h % (m + 1)) (SetTable.bits h)) c
theorem stand_dummy (m : Nat) (h : Int) : ∀ c, (stand m h c).dummy = none
  | 0 => rfl
  | c + 1 => by
    show (nth m _ (c + 1)).dummy = none
    rw [nth_succ]
    have ih := stand_dummy m h c
    unfold adv
    split <;> exact ih
theorem stand_on (m : Nat) (h : Int) (c q : Nat) : nth m (stand m h c) q = stand m h (c + q) := (nth_add m c _ q).symm
end
end Nm
set_option maxRecDepth 100000
set_option maxHeartbeats 4000000
/-! the search for a tuple in a set of tuples of keys, to add it or to ask for it -/
namespace Nm
open PySem PySem.Spec PyProof.Rows L2
section
variable {P : Program} {w : World} {A : Around} {E : Value → Shared → Prop} {s : Shared}
variable {a : Addr} {L : List (Addr × List Key)} {es : Array (Int × Value)} {ep : Nat} {t : SetTable}
theorem look_from (R : KSet P w s.heap a L es ep t) {x : Addr} {k : List Key} (T : IsK P w s.heap k x) (hu : A.units < cLine) (ad : Bool) {N : Nat} (lim : N < 10 * SetTable.turns t.mask)
    (out : way t.mask (kh P w k) N ∉ t.place.toList) (bef : ∀ c < N, way t.mask (kh P w k) c ∈ t.place.toList) {Q : SetFound → Shared → Prop}
    (qin : k ∈ L.map (·.2) → ∀ r : Option Nat, (ad = false → r.isSome = true) → Q (.there r) s) (qout : k ∉ L.map (·.2) → Q (.free (way t.mask (kh P w k) N) false) s) :
    ∀ (f c : Nat) (fr : Option SetTable.Probe), fr.getD (t.probeStart (kh P w k)) = stand t.mask (kh P w k) c → c ≤ N → N - c < f →
      (∀ (i : Nat) e, L[i]? = some e → e.2 = k → ∃ d, c ≤ d ∧ d < N ∧ t.place.toList[i]? = some (way t.mask (kh P w k) d)) →
      wpAny (model P w) A (setSearchFrom a (.ref x) (kh P w k) ad f fr) Q E s
  | 0, c, fr, _, _, few, _ => absurd few (Nat.not_lt_zero _)
  | f + 1, c, fr, at_, le, few, ahead => by
    obtain ⟨o, ho, ex, dat⟩ := R.here
    rw [setSearchFrom_succ]
    refine wpAny_bind (wpAny_setState_of ho dat R.fits ?_)
    dsimp only
    refine wp_if_neg R.whole ?_
    try refine wpAny_bind (wpAny_pure ?_)
    have wj : ∀ q, (nth t.mask (stand t.mask (kh P w k) c) q).j = way t.mask (kh P w k) (c + q) := fun q => congrArg SetTable.Probe.j (stand_on t.mask (kh P w k) c q)
    have told := go_spec t R.tab.up R.tab.clean (fun i => (es[i]?.map (·.1)).getD 0) (kh P w k) (10 * SetTable.turns t.mask) (N - c) (stand t.mask (kh P w k) c) (stand_dummy t.mask (kh P w k) c) (by omega)
      (fun q hq => by rw [wj]; exact bef (c + q) (by omega)) (by rw [wj, show c + (N - c) = N by omega]; exact out)
    rcases told with ⟨q, i, hq, hi, hh, first, pr⟩ | ⟨none_, pr⟩
    · -- one of the same hash
      have pr2 : t.probe (fun i => (es[i]?.map (·.1)).getD 0) (kh P w k) (fr.getD (t.probeStart (kh P w k))) = some (.candidate (way t.mask (kh P w k) (c + q)) i (stand t.mask (kh P w k) (c + (q + 1)))) := by
        rw [at_, ← wj, ← stand_on]
        exact pr
      rw [pr2]
      dsimp only
      rw [wj] at hi
      have lt : i < L.length := by
        rw [← R.places]
        exact (List.getElem?_eq_some_iff.mp hi).1
      obtain ⟨e, he⟩ : ∃ e, L[i]? = some e := ⟨_, List.getElem?_eq_getElem lt⟩
      have hm : e ∈ L := List.mem_of_getElem? he
      have Te := R.tups e hm
      have go_on : wpAny (model P w) A (searchRest a (.ref x) (kh P w k) ad f es t (way t.mask (kh P w k) (c + q)) i (stand t.mask (kh P w k) (c + (q + 1)))) Q E s := by
        unfold searchRest
        rw [R.entry he]
        dsimp only
        refine wpAny_bind (wpAny_holding (wpAny_eqBool_tuple hu Te T ?_))
        refine wpAny_bind (wpAny_setState_of ho dat R.fits ?_)
        dsimp only
        have sl : t.slot (way t.mask (kh P w k) (c + q)) = .live i := slot_live R.tab.up hi
        by_cases same : e.2 = k
        · have inn : k ∈ L.map (·.2) := List.mem_map.mpr ⟨e, hm, same⟩
          cases ad with
          | true =>
            refine wp_if_pos (by simp [same]) ?_
            exact wpAny_pure (qin inn none fun z => nomatch z)
          | false =>
            refine wp_if_neg (by simp) ?_
            try refine wpAny_bind (wpAny_pure ?_)
            rw [sameMem]
            dsimp only
            simp only [if_true, sl, R.entry he]
            refine wpAny_bind (wpAny_isSame_ref_self (wpAny_bind (wpAny_pure ?_)))
            simp only [if_true]
            refine wp_if_pos (by simp [same]) ?_
            exact wpAny_pure (qin inn (some i) fun _ => rfl)
        · refine wp_if_neg (by simp [same]) ?_
          try refine wpAny_bind (wpAny_pure ?_)
          rw [sameMem]
          dsimp only
          simp only [if_true, sl, R.entry he]
          refine wpAny_bind (wpAny_isSame_ref_self (wpAny_bind (wpAny_pure ?_)))
          simp only [if_true]
          refine wp_if_neg (by simp [same]) ?_
          refine look_from R T hu ad lim out bef qin qout f (c + (q + 1)) _ rfl (by omega) (by omega) fun i0 e0 h0 k0 => ?_
          obtain ⟨d, d1, d2, d3⟩ := ahead i0 e0 h0 k0
          refine ⟨d, ?_, d2, d3⟩
          rcases Nat.lt_or_ge (c + q) d with gt | le'
          · omega
          exfalso
          rcases Nat.lt_or_eq_of_le le' with lt' | eq'
          · refine first (d - c) i0 (by omega) (by rw [wj, show c + (d - c) = d by omega]; exact d3) ?_
            exact (R.hashAt h0).trans (congrArg (kh P w) k0)
          · rw [eq'] at d3
            have s0 := slot_live R.tab.up d3
            rw [sl] at s0
            injection s0 with s0
            subst s0
            rw [he] at h0
            cases h0
            exact same k0
      by_cases led : t.led = true
      · refine wp_if_neg (by simp [led]) ?_
        try refine wpAny_bind (wpAny_pure ?_)
        exact go_on
      · refine wp_if_pos (by simp [led]) ?_
        refine wpAny_bind (seen_of T (fun u m => ?_) ?_)
        · obtain ⟨r, hr, er⟩ := List.mem_map.mp m
          have m2 : r ∈ es.toList := by
            have := (show r ∈ es ∧ r.1 = kh P w k by simpa using hr).1
            simpa using this
          rw [R.rows] at m2
          obtain ⟨e2, hm2, ee⟩ := List.mem_map.mp m2
          exact ⟨e2.2, e2.1, by rw [← er, ← ee], R.tups e2 hm2⟩
        · refine wp_if_neg (by decide) ?_
          try refine wpAny_bind (wpAny_pure ?_)
          exact go_on
    · -- the free slot
      have pr2 : t.probe (fun i => (es[i]?.map (·.1)).getD 0) (kh P w k) (fr.getD (t.probeStart (kh P w k))) = some (.empty (way t.mask (kh P w k) N) none) := by
        have ew : way t.mask (kh P w k) N = (nth t.mask (stand t.mask (kh P w k) c) (N - c)).j := by rw [wj, show c + (N - c) = N by omega]
        rw [at_, ew]
        exact pr
      rw [pr2]
      dsimp only
      refine wpAny_pure (qout fun m => ?_)
      obtain ⟨e0, m0, k0⟩ := List.mem_map.mp m
      obtain ⟨i0, h0⟩ := List.getElem?_of_mem m0
      obtain ⟨d, d1, d2, d3⟩ := ahead i0 e0 h0 k0
      refine none_ (d - c) i0 (by omega) (by rw [wj, show c + (d - c) = d by omega]; exact d3) ?_
      exact (R.hashAt h0).trans (congrArg (kh P w) k0)
/-- the search from its beginning -/
theorem look (R : KSet P w s.heap a L es ep t) {x : Addr} {k : List Key} (T : IsK P w s.heap k x) (hu : A.units < cLine) (ad : Bool) {Q : SetFound → Shared → Prop}
    (qin : k ∈ L.map (·.2) → ∀ r : Option Nat, (ad = false → r.isSome = true) → Q (.there r) s)
    (qout : ∀ N, k ∉ L.map (·.2) → way t.mask (kh P w k) N ∉ t.place.toList → (∀ c < N, way t.mask (kh P w k) c ∈ t.place.toList) → Q (.free (way t.mask (kh P w k) N) false) s) :
    wpAny (model P w) A (setSearch a (.ref x) (kh P w k) ad) Q E s := by
  have room := R.room
  obtain ⟨N, lim, out, bef⟩ := R.tab.free (by rw [List.length_map]; omega) (kh P w k)
  have big : N < 100000 := by
    have := R.mask.le
    unfold SetTable.turns at lim
    omega
  unfold setSearch
  refine look_from R T hu ad lim out bef qin (fun n => qout N n out bef) 100000 0 none rfl (Nat.zero_le _) (by omega) fun i e he ek => ?_
  have lt : i < t.place.toList.length := by
    rw [R.places]
    exact (List.getElem?_eq_some_iff.mp he).1
  have hj := List.getElem?_eq_getElem lt
  obtain ⟨d, d1, d2⟩ := R.tab.ahead out (i := i) (by rw [List.getElem?_map, he, ← ek]; rfl) hj
  exact ⟨d, Nat.zero_le _, d1, by rw [hj, d2]⟩
/-- x in such a set -/
theorem find_in (R : KSet P w s.heap a L es ep t) {x : Addr} {k : List Key} (T : IsK P w s.heap k x) (hu : A.units < cLine) {Q : Option Nat → Shared → Prop}
    (q : ∀ r : Option Nat, (r.isSome = true ↔ k ∈ L.map (·.2)) → Q r s) : wpAny (model P w) A (setFind a (.ref x) (kh P w k)) Q E s := by
  obtain ⟨o, ho, ex, dat⟩ := R.here
  unfold setFind setFindIn
  refine wpAny_bind (wpAny_setState_of ho dat R.fits ?_)
  dsimp only
  refine wp_if_neg (by simp [byScan, Value.scannable]) ?_
  try refine wpAny_bind (wpAny_pure ?_)
  refine wpAny_bind (look R T hu false (fun inn r hr => ?_) fun N n _ _ => ?_)
  · dsimp only
    exact wpAny_pure (q r ⟨fun _ => inn, fun _ => hr rfl⟩)
  · dsimp only
    exact wpAny_pure (q none ⟨fun z => (nomatch z), fun z => absurd z n⟩)
end
end Nm
set_option maxRecDepth 100000
set_option maxHeartbeats 4000000
/-! a tuple put into a set of tuples of keys -/
namespace Nm
open PySem PySem.Spec PyProof.Rows L2
theorem new_mask : SetTable.sizeAbove (SetTable.grown 5) = 32 ∧ SetTable.sizeAbove (SetTable.grown 19) = 128 ∧ SetTable.sizeAbove (SetTable.grown 77) = 512 ∧ SetTable.sizeAbove (SetTable.grown 307) = 2048 ∧ SetTable.sizeAbove (SetTable.grown 1229) = 8192 := by decide +kernel
/-- how a table grows -/
theorem grows {m n : Nat} (h : MaskIn m) (few : n * 5 < m * 3) (full : (n + 1) * 5 ≥ m * 3) (le : n + 1 ≤ 4900) :
    ∃ M, SetTable.sizeAbove (SetTable.grown (n + 1)) - 1 = M ∧ MaskIn M ∧ SetTable.sizeAbove (SetTable.grown (n + 1)) ≤ 8192 ∧ (n + 1) * 5 < M * 3 := by
  obtain ⟨a1, a2, a3, a4, a5⟩ := new_mask
  rcases h with rfl | rfl | rfl | rfl | rfl | rfl
  · obtain rfl : n = 4 := by omega
    exact ⟨31, by rw [a1], .inr (.inl rfl), by rw [a1]; decide, by decide⟩
  · obtain rfl : n = 18 := by omega
    exact ⟨127, by rw [a2], .inr (.inr (.inl rfl)), by rw [a2]; decide, by decide⟩
  · obtain rfl : n = 76 := by omega
    exact ⟨511, by rw [a3], .inr (.inr (.inr (.inl rfl))), by rw [a3]; decide, by decide⟩
  · obtain rfl : n = 306 := by omega
    exact ⟨2047, by rw [a4], .inr (.inr (.inr (.inr (.inl rfl)))), by rw [a4]; decide, by decide⟩
  · obtain rfl : n = 1228 := by omega
    exact ⟨8191, by rw [a5], .inr (.inr (.inr (.inr (.inr rfl)))), by rw [a5]; decide, by decide⟩
  · omega
section
variable {P : Program} {w : World} {A : Around} {E : Value → Shared → Prop} {s : Shared}
theorem isK_but {h h' : Heap} {k : List Key} {a b : Addr} {o : Obj} {es : Array (Int × Value)} {ep : Nat} {t : SetTable} (T : IsK P w h k b) (ho : h.get? a = some o) (dat : o.data = .set es ep t) (sb : Heap.SameBut a h h') : IsK P w h' k b := by
  obtain ⟨u, its, cnt, hu, cl, ud, itk⟩ := T
  refine ⟨u, its, cnt, (sb.2 b fun e => ?_).trans hu, cl, ud, itk⟩
  subst e
  rw [ho] at hu
  cases hu
  rw [dat] at ud
  cases ud
theorem rowsK_put (L : List (Addr × List Key)) (i : Nat) (x : Addr) (k : List Key) : rowsK P w (L.take i ++ (x, k) :: L.drop i) = (rowsK P w L).take i ++ (kh P w k, Value.ref x) :: (rowsK P w L).drop i := by
  unfold rowsK
  rw [List.map_append, List.map_cons, List.map_take, List.map_drop]
/-- the rows in another order -/
theorem rowsK_order {L : List (Addr × List Key)} {es : Array (Int × Value)} {ord : Array Nat} (hr : es.toList = rowsK P w L) (pm : ord.toList.Perm (List.range L.length)) :
    ∃ L', (ord.filterMap (es[·]?)).toList = rowsK P w L' ∧ L'.Perm L ∧ (L'.map fun e => kh P w e.2) = ord.toList.map fun i => (es.map (·.1)).getD i 0 := by
  have sz : es.size = L.length := by rw [← Array.length_toList, hr, rowsK_len]
  have row : ∀ (i : Nat) e, L[i]? = some e → es[i]? = some (kh P w e.2, Value.ref e.1) := fun i e h => by
    rw [← Array.getElem?_toList, hr]
    show (L.map _)[i]? = _
    rw [List.getElem?_map, h]
    rfl
  have walk : ∀ js : List Nat, (∀ j ∈ js, j < L.length) → ∃ L', js.filterMap (fun i => es[i]?) = rowsK P w L' ∧ js.filterMap (fun i => L[i]?) = L' ∧ (L'.map fun e => kh P w e.2) = js.map fun i => (es.map (·.1)).getD i 0 := by
    intro js
    induction js with
    | nil => exact fun _ => ⟨[], rfl, rfl, rfl⟩
    | cons j js ih =>
      intro below
      obtain ⟨L', b1, b2, b3⟩ := ih fun i m => below i (List.mem_cons_of_mem _ m)
      obtain ⟨e, he⟩ : ∃ e, L[j]? = some e := ⟨_, List.getElem?_eq_getElem (below j List.mem_cons_self)⟩
      refine ⟨e :: L', by rw [List.filterMap_cons_some (row j e he), b1]; rfl, by rw [List.filterMap_cons_some he, b2], ?_⟩
      rw [List.map_cons, List.map_cons, b3]
      congr 1
      rw [Array.getD_eq_getD_getElem?, Array.getElem?_map, row j e he]
      rfl
  obtain ⟨L', b1, b2, b3⟩ := walk ord.toList fun j m => List.mem_range.mp (pm.mem_iff.mp m)
  refine ⟨L', by simpa using b1, ?_, b3⟩
  have all : ∀ n, n ≤ L.length → (List.range n).filterMap (fun i => L[i]?) = L.take n := by
    intro n
    induction n with
    | zero => exact fun _ => rfl
    | succ n ih =>
      intro le
      rw [List.range_succ, List.filterMap_append, ih (by omega), List.take_add_one, List.filterMap_cons_some (List.getElem?_eq_getElem le), List.getElem?_eq_getElem le]
      rfl
  rw [← b2]
  refine (pm.filterMap _).trans ?_
  rw [all _ (Nat.le_refl _), List.take_length]
variable {a : Addr} {L : List (Addr × List Key)} {es : Array (Int × Value)} {ep : Nat} {t : SetTable}
/-- the table laid anew -/
theorem laid_new {o : Obj} (ho : s.heap.get? a = some o) (ex : o.ExactSet) (dat : o.data = .set es ep t) (rows : es.toList = rowsK P w L) (tab : Tab t (L.map fun e => kh P w e.2)) (le : L.length ≤ t.mask) (nd : (L.map (·.2)).Nodup)
    (tups : ∀ e ∈ L, IsK P w s.heap e.2 e.1) {want M : Nat} (hM : SetTable.sizeAbove want - 1 = M) (mk : MaskIn M) (lim : SetTable.sizeAbove want ≤ 8192) (room : L.length * 5 < M * 3) {Q : Unit → Shared → Prop}
    (q : ∀ h' L' es' ep' t', Heap.SameBut a s.heap h' → KSet P w h' a L' es' ep' t' → L'.Perm L → Q () { s with heap := h' }) : wpAny (model P w) A (setRelay a want) Q E s := by
  have sz : es.size = L.length := by rw [← Array.length_toList, rows, rowsK_len]
  have pl := tab.many
  rw [List.length_map] at pl
  have fits : t.fits es.size = true := by
    unfold SetTable.fits SetTable.fill
    rw [tab.clean]
    simp
    omega
  obtain ⟨t', ord, e, pm, T, em, _, _⟩ := lay_new t (hs := es.map (·.1)) (want := want) hM mk.pow (by rw [Array.size_map, sz]; omega)
  rw [Array.size_map, sz] at pm
  obtain ⟨L', r1, r2, r3⟩ := rowsK_order (P := P) (w := w) rows pm
  rw [← r3] at T
  have sz' : (ord.filterMap (es[·]?)).size = es.size := by rw [← Array.length_toList, r1, rowsK_len, r2.length_eq, sz]
  rw [setRelay_eq]
  refine wpAny_bind (wpAny_setState_of ho dat fits ?_)
  dsimp only
  refine wp_if_neg (by rw [sizeLine_eq]; omega) ?_
  try refine wpAny_bind (wpAny_pure ?_)
  rw [e]
  dsimp only
  refine wpAny_bind ?_
  refine wp_if_neg (by rw [sz']; simp) ?_
  try refine wpAny_bind (wpAny_pure ?_)
  refine wpAny_pure ?_
  dsimp only
  have few : L.length < 4920 := by
    have := mk.le
    omega
  refine wpAny_storeSet_of ho dat ?_ (by rw [sz', sz, sizeLine_eq]; omega)
  have sb : Heap.SameBut a s.heap (s.heap.update a (Obj.putSet (ord.filterMap (es[·]?)) t')) := Heap.SameBut.update ..
  refine q _ L' (ord.filterMap (es[·]?)) (ep + 1) t' sb ⟨⟨_, store_at ho dat, ⟨ex.1, ex.2.1, ex.2.2⟩, rfl⟩, r1, T, (r2.map (·.2)).nodup_iff.mpr nd, fun u m => isK_but (tups u (r2.mem_iff.mp m)) ho dat sb, by rw [em]; exact mk, by rw [r2.length_eq, em]; exact room⟩ r2
/-- adding -/
theorem put_in (R : KSet P w s.heap a L es ep t) {x : Addr} {k : List Key} (T : IsK P w s.heap k x) (hu : A.units < cLine) (few : L.length + 1 ≤ 4900) {Q : Bool → Shared → Prop}
    (q : ∀ b h' L' es' ep' t', Heap.SameBut a s.heap h' → KSet P w h' a L' es' ep' t' → (k ∈ L.map (·.2) → L' = L) → (k ∉ L.map (·.2) → L'.Perm ((x, k) :: L)) → Q b { s with heap := h' }) :
    wpAny (model P w) A (setAddHashed a (.ref x) (kh P w k)) Q E s := by
  obtain ⟨o, ho, ex, dat⟩ := R.here
  have sz := R.size
  have room := R.room
  unfold setAddHashed
  refine wpAny_holding ?_
  rw [show (100000 : Nat) = 99999 + 1 from rfl, setAddHashedIn_succ]
  refine wpAny_bind (wpAny_setState_of ho dat R.fits ?_)
  dsimp only
  refine wp_if_neg (by simp [byScan, Value.scannable]) ?_
  try refine wpAny_bind (wpAny_pure ?_)
  refine wpAny_bind (look R T hu true (fun inn r _ => ?_) fun N nin out bef => ?_)
  · dsimp only
    exact wpAny_pure (q false s.heap L es ep t (Heap.SameBut.refl a s.heap) R (fun _ => rfl) fun z => absurd inn z)
  · dsimp only
    refine wpAny_bind (wpAny_setState_of ho dat R.fits ?_)
    dsimp only
    obtain ⟨c1, c2, c3⟩ := R.tab.more out bef
    have em : (t.put (way t.mask (kh P w k) N)).1.mask = t.mask := rfl
    generalize hpt : t.put (way t.mask (kh P w k) N) = pt at c2 c3 em ⊢
    have ep2 : pt.2 = SetTable.below t.place (way t.mask (kh P w k) N) := by rw [← hpt]; rfl
    obtain ⟨t1, pos⟩ := pt
    dsimp only at c2 c3 em ep2 ⊢
    subst ep2
    generalize hpos : SetTable.below t.place (way t.mask (kh P w k) N) = pos at *
    have rows1 : (SetTable.insertAt es pos (kh P w k, Value.ref x)).toList = rowsK P w (L.take pos ++ (x, k) :: L.drop pos) := by
      rw [SetTable.toList_insertAt, rowsK_put, R.rows]
    have pm : (L.take pos ++ (x, k) :: L.drop pos).Perm ((x, k) :: L) := by
      have z := List.perm_middle (a := (x, k)) (l₁ := L.take pos) (l₂ := L.drop pos)
      rw [List.take_append_drop] at z
      exact z
    have len : (L.take pos ++ (x, k) :: L.drop pos).length = L.length + 1 := pm.length_eq
    have hs : (L.take pos ++ (x, k) :: L.drop pos).map (fun e => kh P w e.2) = (L.map fun e => kh P w e.2).take pos ++ kh P w k :: (L.map fun e => kh P w e.2).drop pos := by
      rw [List.map_append, List.map_cons, List.map_take, List.map_drop]
    rw [← hs] at c2
    have nd1 : ((L.take pos ++ (x, k) :: L.drop pos).map (·.2)).Nodup := (pm.map (·.2)).nodup_iff.mpr (List.nodup_cons.mpr ⟨nin, R.nd⟩)
    have sz1 : (SetTable.insertAt es pos (kh P w k, Value.ref x)).size = L.length + 1 := by rw [← Array.length_toList, rows1, rowsK_len, len]
    generalize SetTable.insertAt es pos (kh P w k, Value.ref x) = es1 at rows1 sz1 ⊢
    generalize L.take pos ++ (x, k) :: L.drop pos = L1 at pm len c2 nd1 rows1
    -- the rest, however the field stands
    have rest : ∀ t2 : SetTable, Tab t2 (L1.map fun e => kh P w e.2) → t2.mask = t.mask → t2.fill = L.length + 1 →
        wpAny (model P w) A (do
            storeSet a es1 t2
            if !false && t2.tooFull then setRelay a (SetTable.grown (es.size + 1))
            return true) Q E s := fun t2 T2 m2 f2 => by
      refine wpAny_bind (wpAny_storeSet_of ho dat ?_ (by rw [sz1, sizeLine_eq]; omega))
      have sb : Heap.SameBut a s.heap (s.heap.update a (Obj.putSet es1 t2)) := Heap.SameBut.update ..
      have ho1 := store_at (es' := es1) (t' := t2) ho dat
      generalize s.heap.update a (Obj.putSet es1 t2) = h1 at sb ho1 ⊢
      have tups1 : ∀ e ∈ L1, IsK P w h1 e.2 e.1 := fun e m => by
        rcases List.mem_cons.mp (pm.mem_iff.mp m) with rfl | m
        · exact isK_but T ho dat sb
        · exact isK_but (R.tups e m) ho dat sb
      by_cases full : t2.tooFull = true
      · have hf := full
        unfold SetTable.tooFull at hf
        rw [decide_eq_true_eq, f2, m2] at hf
        obtain ⟨M, g1, g2, g3, g4⟩ := grows R.mask room hf few
        first
          | (refine wpAny_bind ?_; refine wp_if_pos (by simp [full]) ?_)
          | (refine wp_if_pos (by simp [full]) ?_; refine wpAny_bind ?_)
        rw [sz]
        refine laid_new (s := { s with heap := h1 }) ho1 ⟨ex.1, ex.2.1, ex.2.2⟩ rfl rows1 T2 (by rw [len, m2]; have := R.mask.le; rcases R.mask with e | e | e | e | e | e <;> omega) nd1 tups1 g1 g2 g3 (by rw [len]; exact g4) ?_
        intro h2 L2 es2 ep2 t3 sb2 R2 pm2
        exact wpAny_pure (q true h2 L2 es2 ep2 t3 (sb.trans sb2) R2 (fun z => absurd z nin) fun _ => pm2.trans pm)
      · first
          | refine wp_if_neg (by simp [full]) ?_
          | (refine wpAny_bind ?_; refine wp_if_neg (by simp [full]) ?_; refine wpAny_pure ?_)
        have hf := full
        unfold SetTable.tooFull at hf
        rw [decide_eq_true_eq, f2, m2] at hf
        exact wpAny_pure (q true h1 L1 es1 (ep + 1) t2 sb ⟨⟨_, ho1, ⟨ex.1, ex.2.1, ex.2.2⟩, rfl⟩, rows1, T2, nd1, tups1, by rw [m2]; exact R.mask, by rw [len, m2]; omega⟩ (fun z => absurd z nin) fun _ => pm)
    by_cases pl : t1.plain = true
    · first
        | (refine wpAny_bind ?_; refine wp_if_pos pl ?_)
        | (refine wp_if_pos pl ?_; refine wpAny_bind ?_)
      refine hash_of T fun r => ?_
      cases r with
      | true =>
        simp only [if_true]
        exact rest t1 c2 em (by rw [c3, List.length_map])
      | false =>
        simp only [Bool.false_eq_true, if_false]
        exact rest { t1 with plain := false } ⟨c2.up, c2.clean, c2.many, c2.pow, c2.low, c2.led⟩ em (by show t1.fill = _; rw [c3, List.length_map])
    · first
        | (refine wpAny_bind ?_; refine wp_if_neg pl ?_; refine wpAny_pure ?_)
        | (refine wp_if_neg pl ?_; refine wpAny_bind (wpAny_pure ?_))
        | (refine wp_if_neg pl ?_)
      simp only [if_true]
      exact rest t1 c2 em (by rw [c3, List.length_map])
end
end Nm
set_option maxRecDepth 100000
set_option maxHeartbeats 4000000
/-! sets of tuples of keys as objects: set(), x in them, .add(x) -/
namespace Nm
open PySem PySem.Spec PyProof.Rows L2
/-- such a set, the tuples left out -/
structure KBare (P : Program) (w : World) (h : Heap) (a : Addr) (L : List (Addr × List Key)) : Prop where
  ex : ∃ (es : Array (Int × Value)) (ep : Nat) (t : SetTable), (∃ o, h.get? a = some o ∧ o.ExactSet ∧ o.data = .set es ep t) ∧ es.toList = rowsK P w L ∧ Tab t (L.map fun e => kh P w e.2) ∧ (L.map (·.2)).Nodup ∧ MaskIn t.mask ∧ L.length * 5 < t.mask * 3
theorem KSet.bare {P : Program} {w : World} {h : Heap} {a : Addr} {L : List (Addr × List Key)} {es : Array (Int × Value)} {ep : Nat} {t : SetTable} (R : KSet P w h a L es ep t) : KBare P w h a L := ⟨es, ep, t, R.here, R.rows, R.tab, R.nd, R.mask, R.room⟩
theorem KBare.set {P : Program} {w : World} {h : Heap} {a : Addr} {L : List (Addr × List Key)} (R : KBare P w h a L) (T : ∀ e ∈ L, IsK P w h e.2 e.1) : ∃ es ep t, KSet P w h a L es ep t := by
  obtain ⟨es, ep, t, c1, c2, c3, c4, c5, c6⟩ := R
  exact ⟨es, ep, t, c1, c2, c3, c4, T, c5, c6⟩
def KSetO (P : Program) (w : World) (a : Addr) (L : List (Addr × List Key)) : HO := .ext fun h => KBare P w h a L
theorem kset_obj {P : Program} {w : World} {H : Hp} {h : Heap} {a : Addr} {L : List (Addr × List Key)} (R : KBare P w h a L) : ObjOk P w H h a (KSetO P w a L) := by
  refine ⟨R, ?_, fun h1 h2 p k => ?_⟩
  · obtain ⟨_, _, _, ⟨o, ho, _⟩, _⟩ := R
    exact ⟨o, ho⟩
  · obtain ⟨es, ep, t, ⟨o, ho, r⟩, q⟩ := (show KBare P w h1 a L from p)
    exact ⟨es, ep, t, ⟨o, k o ho, r⟩, q⟩
theorem kbare_typeIs {P : Program} {w : World} {s : Shared} {a : Addr} {L : List (Addr × List Key)} (R : KBare P w s.heap a L) : s.TypeIs (.ref a) "set" := by
  obtain ⟨_, _, _, ⟨o, ho, ex, _⟩, _⟩ := R
  exact ⟨o, ho, ex.1⟩
theorem kbare_noDict {P : Program} {w : World} {h : Heap} {a : Addr} {L : List (Addr × List Key)} (R : KBare P w h a L) : ∀ b, Value.ref a = .ref b → ∃ u, h.get? b = some u ∧ u.dict = none := by
  obtain ⟨_, _, _, ⟨o, ho, ex, _⟩, _⟩ := R
  intro b e
  cases e
  exact ⟨o, ho, ex.2.1⟩
/-- the tuples of such a set stand -/
def KIn (H : Hp) (L : List (Addr × List Key)) : Prop := ∀ e ∈ L, H e.1 = some (.tup (e.2.map kV))
section
variable {X : Cx} {pins : List (Addr × Obj)} {σ : L2.St} {H : Hp} {s : Shared}
theorem kset_get {a : Addr} {L : List (Addr × List Key)} (I : Inv X pins σ H s) (ha : H a = some (KSetO X.prog X.w a L)) : KBare X.prog X.w s.heap a L := (I.hok a _ ha).1
theorem key_is {u : Addr} {k : List Key} (I : Inv X pins σ H s) (hu : H u = some (.tup (k.map kV))) : IsK X.prog X.w s.heap k u := key_of I.hok hu
/-- set() -/
def rSetKT (P : Program) (w : World) : List V → Hp → VK → Prop := fun xs H Q => xs = [] ∧ ∀ p, H p = none → Q (.ref p) (upd H p (KSetO P w p []))
theorem cr_setKT : CallR X (.type "set") (rSetKT X.prog X.w) := by
  intro pins s σ H xs us Q I r h
  obtain ⟨rfl, q⟩ := h
  cases r
  refine setR_new fun _ => ?_
  refine ⟨.ref _, upd H s.heap.objs.size (KSetO X.prog X.w s.heap.objs.size []), I.laid (t' := s.toks) (fun b u e => Heap.get?_push_of_some _ e) (Nat.le_refl _) (kset_obj ?_), rfl, q _ (I.hok.fresh (Nat.le_refl _))⟩
  refine ⟨#[], 0, .fresh 0 0 (!X.w.params.followText "set-order"), ⟨_, Heap.get?_push_size _ rfl, ⟨rfl, rfl, rfl⟩, rfl⟩, rfl, ⟨List.Pairwise.nil, rfl, rfl, ⟨3, rfl⟩, fun x m => ?_, fun i h j e => ?_⟩, List.nodup_nil, .inl rfl, by show 0 * 5 < 7 * 3; decide⟩
  · cases m
  · simp at e
/-- u in a -/
def rInKT (P : Program) (w : World) : V → V → Hp → VK → Prop := fun x y H Q => ∃ (u a : Addr) (k : List Key) (L : List (Addr × List Key)), x = .ref u ∧ y = .ref a ∧ H u = some (.tup (k.map kV)) ∧ H a = some (KSetO P w a L) ∧ KIn H L ∧ ∀ b : Bool, (b = true ↔ k ∈ L.map (·.2)) → Q (.bl b) H
theorem or_inKT (room : X.A.units + 1 < cLine) : OpR X (compareOp .In) (rInKT X.prog X.w) := by
  intro pins s σ H x y v u' Q I rx ry h
  obtain ⟨u, a, k, L, rfl, rfl, hu, ha, kin, q⟩ := h
  cases rx
  cases ry
  have R0 := kset_get I ha
  have ty := kbare_typeIs R0
  obtain ⟨es, ep, t, R⟩ := R0.set fun e m => key_is I (kin e m)
  have T := key_is I hu
  show wpAny _ _ (do return Value.bool (← contains (.ref a) (.ref u))) _ _ s
  refine wpAny_bind ?_
  unfold contains
  try with_reducible refine wpAny_holding ?_
  refine wpAny_bind (wpAny_specialOf ty F.slot_set_contains.lookup ?_)
  refine wp_if_neg (by rw [beq_builtin_none]; exact Bool.false_ne_true) ?_
  refine wpAny_bind (wpAny_callSpecialUnlessNone?_slot (name := Str.ofString "__contains__") ty F.slot_set_contains (wpAny_call_entry F.slot_set_contains ty entry_set_contains ?_ (F.args_set_contains_2 _ _)))
  unfold Builtin.«frozenset.__contains__» Builtin.Frozenset.oneOther
  simp only [List.isEmpty_nil, bind_assoc]
  unfold Builtin.Frozenset.addrOf Builtin.Frozenset.withSetAsKey setContains
  refine wpAny_bind (wpAny_pure ?_)
  try dsimp only
  refine wpAny_bind (wpAny_pure ?_)
  try dsimp only
  refine wpAny_bind (wpAny_tryCatch (wpAny_holding (wpAny_bind (wpAny_pyHash_tuple room T ?_))))
  refine wpAny_bind (find_in (s := { s with toks := s.toks + (k.length + 1) }) R T room fun r hr => wpAny_pure ?_)
  show wpAny _ _ (ret (Value.bool r.isSome)) _ _ _
  exact wpAny_pure ⟨_, rfl, wpAny_truthy_bool (wpAny_pure ⟨.bl r.isSome, H, I.tok _, rfl, q _ hr⟩)⟩
/-- a.add(u), u not in a -/
def rAddKT (P : Program) (w : World) : V → List V → Hp → VK → Prop := fun x xs H Q => ∃ (a u : Addr) (k : List Key) (L : List (Addr × List Key)), x = .ref a ∧ xs = [.ref u] ∧ H u = some (.tup (k.map kV)) ∧ H a = some (KSetO P w a L) ∧ KIn H L ∧ k ∉ L.map (·.2) ∧ L.length + 1 ≤ 4900 ∧
  ∀ L', L'.Perm ((u, k) :: L) → Q .non (upd H a (KSetO P w a L'))
theorem mt_addKT (room : X.A.units + 1 < cLine) : MtR X "set.add" (rAddKT X.prog X.w) := by
  intro pins s σ H x xs v us Q I rx rxs h
  obtain ⟨a, u, k, L, rfl, rfl, hu, ha, kin, nin, few, q⟩ := h
  cases rx
  rw [Vals.ref1 rxs]
  have R0 := kset_get I ha
  obtain ⟨es, ep, t, R⟩ := R0.set fun e m => key_is I (kin e m)
  have T := key_is I hu
  refine wpAny_call_entry F.slot_set_add (kbare_typeIs R0) F.entry_set_add ?_ (F.args_set_add_2 _ _)
  unfold Builtin.«set.add» Builtin.Frozenset.oneOther
  simp only [List.isEmpty_nil, bind_assoc]
  unfold Builtin.Frozenset.addrOf setAdd
  refine wpAny_bind (wpAny_pure ?_)
  try dsimp only
  refine wpAny_bind (wpAny_pure ?_)
  try dsimp only
  refine wpAny_bind (wpAny_holding (wpAny_bind (wpAny_pyHash_tuple room T ?_)))
  refine put_in (s := { s with toks := s.toks + (k.length + 1) }) R T room few fun b h' L' es' ep' t' sb R' _ out => ?_
  show wpAny _ _ (ret Value.none) _ _ _
  refine wpAny_pure ⟨_, rfl, .non, upd H a (KSetO X.prog X.w a L'), I.write (e := a) (t' := s.toks + (k.length + 1)) (by rw [ha]; trivial) (.inl rfl) (fun b u hb hu => (sb.2 b hb).trans hu) ?_ (kset_obj R'.bare), rfl, q L' (out nin)⟩
  obtain ⟨o, ho, _⟩ := R'.here
  exact ⟨o, ho⟩
def tAddKT (P : Program) (w : World) (to : TE) (t : TA) : TE := fun σ H Q => to σ H fun x H1 => (∃ a L, x = V.ref a ∧ H1 a = some (KSetO P w a L)) ∧ t σ H1 fun xs H2 => rAddKT P w x xs H2 Q
variable {o e : Expr} {es : List Expr} {to : TE} {t : TA} {apos cpos : Pos}
theorem pe_addKT (room : X.A.units + 1 < cLine) (ho : PE X o to) (ha : PA X (e :: es) t)
    (b1 : attributeBase o "add" X.env (eval o X.env) = eval o X.env := by rfl)
    (b2 : ((backTo cpos (starEach (e :: es) X.env)).all (fun x => !x.1) && (backToKw cpos (keywordEach [] X.env)).all (fun x => x.1.isSome) && decide ((e :: es).length + ([] : List Keyword).length + (if ([] : List Keyword).isEmpty then 0 else 1) < 30)) = true := by rfl)
    (b3 : (apos.endLine == cpos.line) = true := by rfl) (b4 : starEach (e :: es) X.env = (false, eval e X.env) :: starEach es X.env := by rfl) (b5 : (backTo cpos (starEach es X.env)).any (·.1) = false := by rfl) :
    PE X (.Call (.Attribute o "add" apos) (e :: es) [] cpos) (tAddKT X.prog X.w to t) := by
  refine ⟨fun pins s σ H Q I h => wpAny_Call_method_late b1 b2 b3 rfl (thn (ho.run pins s σ H _ I h) fun v s1 ⟨x, H1, I1, r1, ty, q1⟩ => ?_)⟩
  obtain ⟨a, L, rfl, hka⟩ := ty
  have R := kset_get I1 hka
  cases r1
  refine ⟨"set", "set.add", F.plainAttrs_set, F.slot_set_add, F.type_set_add, kbare_typeIs R, kbare_noDict R, ?_⟩
  have run := ha.run cpos pins s1 σ H1 _ I1 q1
  rw [b4] at run ⊢
  refine Calls.callWith_builtin (by show (false || (backTo cpos (starEach es X.env)).any (·.1)) = false; rw [b5] <;> rfl) (Calls.evalArgs_plain (thn run fun us s2 ⟨vs, H2, I2, r2, q2⟩ => ?_))
  exact mt_addKT room pins s2 σ H2 (.ref a) vs (.ref a) us Q I2 rfl r2 q2
end
end Nm
set_option maxRecDepth 100000
set_option maxHeartbeats 4000000
namespace Nm
open PySem L2
theorem KIn.same {H H' : Hp} {L : List (Addr × List Key)} (h : KIn H L) (s : Same H H') : KIn H' L := fun e m => s _ _ (h e m)
section
variable {P : Program} {w : World} {K : PySem.W.Frag} {mg : Str → Option Value} {base : Heap}
/-! ### need_ties -/
abbrev nNT : List Str := ["ties", "names", "spots", "at", "tie", "spot"]
theorem scNT : FnScope nNT ["ties", "names"] (defScope sNeedTies) := ⟨rfl, rfl, rfl, by decide +kernel, rfl, by decide +kernel, by decide +kernel⟩
theorem ok_needT {f : Addr} {fd : FuncData} (F : Fun K "need_ties" "need_ties" sNeedTies f fd) (T : TxtH mg) (Gs : Def P w K mg base "tie_spot" ["tie", "names"] 3 spSpot) : FnOk P w K mg base CX0 4 f fd ["ties", "names"] spNeedT := by
  obtain ⟨fs, fds, Gs, ms, ks, bs⟩ := Gs.ex
  refine F.ok scNT (fun vs H Q E h => ?_) (fun cdv A outer s H vs Q E hr h => ?_)
  · obtain ⟨_, _, _, _, _, rfl, _⟩ := h
    rfl
  · obtain ⟨p, d, tl, nm, kvs, rfl, ⟨ts, hp, pr⟩, hd, hk, hok, hnd, htl, k⟩ := h
    have hu := hu_of hr
    refine ⟨_, pss_cons (ps_set (i := 2) scNT.nd rfl (Or.inl rfl) (pe_callTy0 cr_setKT (by rfl) T.set (by decide +kernel)))
      (pss_one (ps_for PassesOwn.never rfl (pi_enum (by rfl) T.enumerate (pa_cons (pv 0) pa_nil)) (pg_tup rfl (pgs_cons (pg_name (i := 3) scNT.nd rfl (.inl rfl)) (pgs_cons (pg_name (i := 4) scNT.nd rfl (.inl rfl)) pgs_nil)))
        (pss_cons (ps_set (i := 5) scNT.nd rfl (Or.inl rfl) (pe_call Gs hr (by rfl) ms ks bs .nil pass0 (pa_cons (pv 4) (pa_cons (pv 1) pa_nil))))
        (pss_cons (ps_if (PW.pt (pw_or (pt_cmp (pc_isN (pv 5))) (pw_or1 (pt_cmpR (or_inKT hu) (pv 5) (pv 2) (by rfl))))) (pss_one ps_never) pss_nil)
        (pss_one (ps_expr (pe_addKT hu (pv 2) (pa_cons (pv 5) pa_nil)))))))), ?_⟩
    refine ⟨rfl, fun sp hsp => ?_⟩
    have s1 := same_new (o := KSetO P w sp []) hsp
    have hsp1 : (upd H sp (KSetO P w sp [])) sp = some (KSetO P w sp []) := upd_same
    refine ⟨_, rfl, p, _, rfl, SqL.of (s1 _ _ hp), ?_⟩
    refine for_it (walk_enum (xs := ts.map V.ref)) (fun i σ H2 => ∃ v3 v4 v5 L, σ = [some (.ref p), some (.ref d), some (.ref sp), v3, v4, v5] ∧ H2 sp = some (KSetO P w sp L) ∧ KIn H2 L ∧ (∀ e ∈ L, e.2 ∈ (tl.map TieV.spot).take i) ∧ L.length = i ∧ Same H H2)
      ⟨none, none, none, [], rfl, hsp1, (fun e m => (List.not_mem_nil m).elim), (fun e m => (List.not_mem_nil m).elim), rfl, s1⟩ (fun i σ H2 _ ⟨_, _, _, _, _, _, _, _, _, h⟩ => SqL.of (h _ _ hp)) ?_ ?_
    · rintro i x σ H2 H3 hi ⟨v3, v4, v5, L, rfl, hsp2, kin, hL, hlen, s2⟩ ⟨tp, x1, y1, rfl, htp, rfl, e1, e2⟩
      rw [List.length_map] at hi
      have e2 : (ts.map V.ref)[i]? = some y1 := e2
      rw [List.getElem?_map] at e2
      obtain ⟨t, ht, rfl⟩ := Option.map_eq_some_iff.mp e2
      cases e1
      obtain ⟨tv, htv, htt⟩ := paired_get pr ht
      have s3 : Same H2 (upd H2 tp (.tup [V.int (i : Nat), V.ref t])) := same_new htp
      have htp3 : (upd H2 tp (.tup [V.int (i : Nat), V.ref t])) tp = some (.tup [V.int (i : Nat), V.ref t]) := upd_same
      generalize upd H2 tp (.tup [V.int (i : Nat), V.ref t]) = H3 at *
      refine ⟨tp, _, rfl, SqT.of htp3, rfl, _, _, rfl, _, _, rfl, rfl, ?_⟩
      refine ⟨_, rfl, _, rfl, t, d, tv, nm, kvs, rfl, s3 _ _ (s2 _ _ htt), s3 _ _ (s2 _ _ hd), hk, hok tv (List.mem_of_getElem? htv), fun r H4 hr0 hr4 s4 => ?_⟩
      have s34 := s3.trans s4
      have hsp4 := s34 _ _ hsp2
      have kin4 := kin.same s34
      have nin : tv.spot ∉ L.map (·.2) := fun m => by
        obtain ⟨e, he, ee⟩ := List.mem_map.mp m
        have h1 := hL e he
        rw [ee] at h1
        obtain ⟨j, hj⟩ := List.getElem?_of_mem h1
        rw [List.getElem?_take] at hj
        split at hj
        · rename_i lt
          have h2 : (tl.map TieV.spot)[i]? = some tv.spot := by rw [List.getElem?_map, htv]; rfl
          have := (List.getElem?_inj (List.getElem?_eq_some_iff.mp hj).1 hnd).mp (hj.trans h2.symm)
          omega
        · cases hj
      have hn : decide (V.ref r = V.non) = false := decide_eq_false (fun z => by cases z)
      refine ⟨_, rfl, _, rfl, ?_⟩
      rw [hn]
      refine iteF ?_
      refine ⟨_, rfl, _, rfl, r, sp, tv.spot, L, rfl, rfl, hr4, hsp4, kin4, fun b hb => ⟨_, rfl, ?_⟩⟩
      have hb0 : b = false := by
        cases b with
        | false => rfl
        | true => exact absurd (hb.mp rfl) nin
      subst hb0
      refine iteF ?_
      have hil : i < tl.length := (List.getElem?_eq_some_iff.mp htv).1
      refine ⟨_, rfl, ⟨sp, L, rfl, hsp4⟩, _, rfl, sp, r, tv.spot, L, rfl, rfl, hr4, hsp4, kin4, nin, by omega, fun L' pm => ?_⟩
      have nsp : H sp = none := hsp
      refine ⟨_, _, _, L', rfl, upd_same, fun e m => ?_, fun e m => ?_, by rw [pm.length_eq, List.length_cons, hlen], fun b o e => ?_⟩
      · have he : H4 e.1 = some (.tup (e.2.map kV)) := by
          rcases List.mem_cons.mp (pm.mem_iff.mp m) with rfl | m
          · exact hr4
          · exact kin4 e m
        rw [upd_ne (ne_of he hsp4 (by intro z; cases z))]
        exact he
      · rw [List.take_add_one, show (tl.map TieV.spot)[i]? = some tv.spot by rw [List.getElem?_map, htv]; rfl]
        rcases List.mem_cons.mp (pm.mem_iff.mp m) with rfl | m
        · exact List.mem_append_right _ (by simp)
        · exact List.mem_append_left _ (hL e m)
      · rw [upd_ne (ne_of_none e hsp)]
        exact s34 _ _ (s2 b o e)
    · rintro σ H2 ⟨v3, v4, v5, L, rfl, hsp2, kin, hL, hlen, s2⟩
      exact k H2 s2
end
end Nm
set_option maxRecDepth 100000
set_option maxHeartbeats 8000000
/-! what the top has written, and the law -/
namespace Nm
open PySem PySem.Spec PyProof.Rows L2 LamX
section
variable {P : Program} {w : World} {K : PySem.W.Frag} {mg : Str → Option Value} {base : Heap}
theorem def_mk {x : Str} {ps : List Str} {k : Nat} {sp : Sp} {f : Addr} {fd : FuncData} (G : FnOk P w K mg base CX0 k f fd ps sp) (a : mg x = some (.ref f)) (kp : PySem.W.keepIn K (.ref f) = true) (b : Binds K fd ps []) : Def P w K mg base x ps k sp := ⟨f, fd, G, a, kp, b⟩
theorem defx_mk {x : Str} {ps : List Str} {k : Nat} {sp : Sp} {f : Addr} {fd : FuncData} (G : FnOk P w K mg base (L2.CX P w) k f fd ps sp) (a : mg x = some (.ref f)) (kp : PySem.W.keepIn K (.ref f) = true) (b : Binds K fd ps []) : DefX P w K mg base x ps k sp := ⟨f, fd, G, a, kp, b⟩
/-- a code object's fields as its head's word asks for them -/
def hdV (vs : Array Value) (c P : Addr) : Bool := (match (vs[11]? : Option Value) with | some (.ref P') => P' == P | _ => false) &&
  (match vs.getD 18 .none with | .str _ _ => true | _ => false) && (match vs.getD 7 .none with | .int _ _ => true | _ => false) &&
  (match vs.getD 9 .none with | .bool _ => true | _ => false) && (match vs.getD 10 .none with | .int _ _ => true | _ => false) && c != P
theorem hdV_ok {c PT : Addr} {dd : Option Addr} {vs : Array Value} {sl : Array (Option Value)} (l : K.lookup c = some ⟨.type "code", dd, .fields vs, sl⟩) (h : hdV vs c PT = true) : PySem.W.codeHdIn K c PT = true := by
  unfold PySem.W.codeHdIn
  rw [l]
  exact h
theorem exm_self {C : Addr} {cd : PySem.ClassData} (b : PySem.W.subIn K (.ref C) (.type "BaseException") = some true) (d : PySem.W.clsIn K C = some cd) (t : PySem.W.typeIn K (.ref C) = some (.type "type")) (s : PySem.W.subIn K (.ref C) (.ref C) = some true) : PySem.W.exmOne K (.ref C) (.ref C) = some true := by
  have kc : PySem.W.kitCls K (.ref C) (.ref C) = some true := by
    show (if ((PySem.W.clsIn K C).isSome && PySem.W.typeIn K (.ref C) == some (.type "type")) = true then PySem.W.subIn K (.ref C) (.ref C) else none) = some true
    rw [d, t, s]
    rfl
  unfold PySem.W.exmOne
  rw [b, kc]
  rfl
theorem hdV_11 {c PT : Addr} {vs : Array Value} (h : hdV vs c PT = true) : vs[11]? = some (.ref PT) := by
  unfold hdV at h
  simp only [Bool.and_eq_true] at h
  obtain ⟨⟨⟨⟨⟨e1, _⟩, _⟩, _⟩, _⟩, _⟩ := h
  split at e1
  · rename_i P' h11
    rw [h11, beq_iff_eq.mp e1]
  · cases e1
end
theorem all_mk {l : PySem.W.OpenLaw} {w : World} {K : PySem.W.Frag} {h : Heap} {mg : Str → Option Value} {fa C CB c PT : Addr} (X : K.In h) (G : h.Ns mainGlobals mg) (hfa : mg "law" = some (.ref fa)) (own : OwnTab K fa h)
    {f_isw : Addr} {kV_isw dc_isw pm_isw cd_isw ct_isw : Value} {an_isw : Option Addr} {oc_isw : Value} {od_isw : Option Addr} {sl_isw : Array (Option Value)} (a_isw : PySem.W.nsIn K mainGlobals "is_word" = some (some (.ref f_isw))) (l_isw : K.lookup f_isw = some ⟨oc_isw, od_isw, .func (PySem.W.fnOf "is_word" "is_word" (defArgs sIsWord) (defBody sIsWord) (defScope sIsWord) .none kV_isw dc_isw pm_isw an_isw cd_isw ct_isw), sl_isw⟩) (c_isw : PySem.W.codeIn K cd_isw "is_word" = true) (k_isw : PySem.W.keepIn K (.ref f_isw) = true)
    {f_isi : Addr} {kV_isi dc_isi pm_isi cd_isi ct_isi : Value} {an_isi : Option Addr} {oc_isi : Value} {od_isi : Option Addr} {sl_isi : Array (Option Value)} (a_isi : PySem.W.nsIn K mainGlobals "is_integer" = some (some (.ref f_isi))) (l_isi : K.lookup f_isi = some ⟨oc_isi, od_isi, .func (PySem.W.fnOf "is_integer" "is_integer" (defArgs sIsInteger) (defBody sIsInteger) (defScope sIsInteger) .none kV_isi dc_isi pm_isi an_isi cd_isi ct_isi), sl_isi⟩) (c_isi : PySem.W.codeIn K cd_isi "is_integer" = true) (k_isi : PySem.W.keepIn K (.ref f_isi) = true)
    {f_isn : Addr} {kV_isn dc_isn pm_isn cd_isn ct_isn : Value} {an_isn : Option Addr} {oc_isn : Value} {od_isn : Option Addr} {sl_isn : Array (Option Value)} (a_isn : PySem.W.nsIn K mainGlobals "is_number" = some (some (.ref f_isn))) (l_isn : K.lookup f_isn = some ⟨oc_isn, od_isn, .func (PySem.W.fnOf "is_number" "is_number" (defArgs sIsNumber) (defBody sIsNumber) (defScope sIsNumber) .none kV_isn dc_isn pm_isn an_isn cd_isn ct_isn), sl_isn⟩) (c_isn : PySem.W.codeIn K cd_isn "is_number" = true) (k_isn : PySem.W.keepIn K (.ref f_isn) = true)
    {f_ke : Addr} {kV_ke dc_ke pm_ke cd_ke ct_ke : Value} {an_ke : Option Addr} {oc_ke : Value} {od_ke : Option Addr} {sl_ke : Array (Option Value)} (a_ke : PySem.W.nsIn K mainGlobals "kept" = some (some (.ref f_ke))) (l_ke : K.lookup f_ke = some ⟨oc_ke, od_ke, .func (PySem.W.fnOf "kept" "kept" (defArgs sKept) (defBody sKept) (defScope sKept) .none kV_ke dc_ke pm_ke an_ke cd_ke ct_ke), sl_ke⟩) (c_ke : PySem.W.codeIn K cd_ke "kept" = true) (k_ke : PySem.W.keepIn K (.ref f_ke) = true)
    {f_po : Addr} {kV_po dc_po pm_po cd_po ct_po : Value} {an_po : Option Addr} {oc_po : Value} {od_po : Option Addr} {sl_po : Array (Option Value)} (a_po : PySem.W.nsIn K mainGlobals "places_over" = some (some (.ref f_po))) (l_po : K.lookup f_po = some ⟨oc_po, od_po, .func (PySem.W.fnOf "places_over" "places_over" (defArgs sPlacesOver) (defBody sPlacesOver) (defScope sPlacesOver) .none kV_po dc_po pm_po an_po cd_po ct_po), sl_po⟩) (c_po : PySem.W.codeIn K cd_po "places_over" = true) (k_po : PySem.W.keepIn K (.ref f_po) = true)
    {f_nn : Addr} {kV_nn dc_nn pm_nn cd_nn ct_nn : Value} {an_nn : Option Addr} {oc_nn : Value} {od_nn : Option Addr} {sl_nn : Array (Option Value)} (a_nn : PySem.W.nsIn K mainGlobals "need_numbers" = some (some (.ref f_nn))) (l_nn : K.lookup f_nn = some ⟨oc_nn, od_nn, .func (PySem.W.fnOf "need_numbers" "need_numbers" (defArgs sNeedNumbers) (defBody sNeedNumbers) (defScope sNeedNumbers) .none kV_nn dc_nn pm_nn an_nn cd_nn ct_nn), sl_nn⟩) (c_nn : PySem.W.codeIn K cd_nn "need_numbers" = true) (k_nn : PySem.W.keepIn K (.ref f_nn) = true)
    {f_lu : Addr} {kV_lu dc_lu pm_lu cd_lu ct_lu : Value} {an_lu : Option Addr} {oc_lu : Value} {od_lu : Option Addr} {sl_lu : Array (Option Value)} (a_lu : PySem.W.nsIn K mainGlobals "led_up" = some (some (.ref f_lu))) (l_lu : K.lookup f_lu = some ⟨oc_lu, od_lu, .func (PySem.W.fnOf "led_up" "led_up" (defArgs sLedUp) (defBody sLedUp) (defScope sLedUp) .none kV_lu dc_lu pm_lu an_lu cd_lu ct_lu), sl_lu⟩) (c_lu : PySem.W.codeIn K cd_lu "led_up" = true) (k_lu : PySem.W.keepIn K (.ref f_lu) = true)
    {f_ld : Addr} {kV_ld dc_ld pm_ld cd_ld ct_ld : Value} {an_ld : Option Addr} {oc_ld : Value} {od_ld : Option Addr} {sl_ld : Array (Option Value)} (a_ld : PySem.W.nsIn K mainGlobals "led_down" = some (some (.ref f_ld))) (l_ld : K.lookup f_ld = some ⟨oc_ld, od_ld, .func (PySem.W.fnOf "led_down" "led_down" (defArgs sLedDown) (defBody sLedDown) (defScope sLedDown) .none kV_ld dc_ld pm_ld an_ld cd_ld ct_ld), sl_ld⟩) (c_ld : PySem.W.codeIn K cd_ld "led_down" = true) (k_ld : PySem.W.keepIn K (.ref f_ld) = true)
    {f_nw : Addr} {kV_nw dc_nw pm_nw cd_nw ct_nw : Value} {an_nw : Option Addr} {oc_nw : Value} {od_nw : Option Addr} {sl_nw : Array (Option Value)} (a_nw : PySem.W.nsIn K mainGlobals "need_word" = some (some (.ref f_nw))) (l_nw : K.lookup f_nw = some ⟨oc_nw, od_nw, .func (PySem.W.fnOf "need_word" "need_word" (defArgs sNeedWord) (defBody sNeedWord) (defScope sNeedWord) .none kV_nw dc_nw pm_nw an_nw cd_nw ct_nw), sl_nw⟩) (c_nw : PySem.W.codeIn K cd_nw "need_word" = true) (k_nw : PySem.W.keepIn K (.ref f_nw) = true)
    {f_no : Addr} {kV_no dc_no pm_no cd_no ct_no : Value} {an_no : Option Addr} {oc_no : Value} {od_no : Option Addr} {sl_no : Array (Option Value)} (a_no : PySem.W.nsIn K mainGlobals "need_once" = some (some (.ref f_no))) (l_no : K.lookup f_no = some ⟨oc_no, od_no, .func (PySem.W.fnOf "need_once" "need_once" (defArgs sNeedOnce) (defBody sNeedOnce) (defScope sNeedOnce) .none kV_no dc_no pm_no an_no cd_no ct_no), sl_no⟩) (c_no : PySem.W.codeIn K cd_no "need_once" = true) (k_no : PySem.W.keepIn K (.ref f_no) = true)
    {f_np : Addr} {kV_np dc_np pm_np cd_np ct_np : Value} {an_np : Option Addr} {oc_np : Value} {od_np : Option Addr} {sl_np : Array (Option Value)} (a_np : PySem.W.nsIn K mainGlobals "need_places" = some (some (.ref f_np))) (l_np : K.lookup f_np = some ⟨oc_np, od_np, .func (PySem.W.fnOf "need_places" "need_places" (defArgs sNeedPlaces) (defBody sNeedPlaces) (defScope sNeedPlaces) .none kV_np dc_np pm_np an_np cd_np ct_np), sl_np⟩) (c_np : PySem.W.codeIn K cd_np "need_places" = true) (k_np : PySem.W.keepIn K (.ref f_np) = true)
    {f_ts : Addr} {kV_ts dc_ts pm_ts cd_ts ct_ts : Value} {an_ts : Option Addr} {oc_ts : Value} {od_ts : Option Addr} {sl_ts : Array (Option Value)} (a_ts : PySem.W.nsIn K mainGlobals "tie_spot" = some (some (.ref f_ts))) (l_ts : K.lookup f_ts = some ⟨oc_ts, od_ts, .func (PySem.W.fnOf "tie_spot" "tie_spot" (defArgs sTieSpot) (defBody sTieSpot) (defScope sTieSpot) .none kV_ts dc_ts pm_ts an_ts cd_ts ct_ts), sl_ts⟩) (c_ts : PySem.W.codeIn K cd_ts "tie_spot" = true) (k_ts : PySem.W.keepIn K (.ref f_ts) = true)
    {f_nt : Addr} {kV_nt dc_nt pm_nt cd_nt ct_nt : Value} {an_nt : Option Addr} {oc_nt : Value} {od_nt : Option Addr} {sl_nt : Array (Option Value)} (a_nt : PySem.W.nsIn K mainGlobals "need_ties" = some (some (.ref f_nt))) (l_nt : K.lookup f_nt = some ⟨oc_nt, od_nt, .func (PySem.W.fnOf "need_ties" "need_ties" (defArgs sNeedTies) (defBody sNeedTies) (defScope sNeedTies) .none kV_nt dc_nt pm_nt an_nt cd_nt ct_nt), sl_nt⟩) (c_nt : PySem.W.codeIn K cd_nt "need_ties" = true) (k_nt : PySem.W.keepIn K (.ref f_nt) = true)
    {f_ot : Addr} {kV_ot dc_ot pm_ot cd_ot ct_ot : Value} {an_ot : Option Addr} {oc_ot : Value} {od_ot : Option Addr} {sl_ot : Array (Option Value)} (a_ot : PySem.W.nsIn K mainGlobals "ordered_ties" = some (some (.ref f_ot))) (l_ot : K.lookup f_ot = some ⟨oc_ot, od_ot, .func (PySem.W.fnOf "ordered_ties" "ordered_ties" (defArgs sOrderedTies) (defBody sOrderedTies) (defScope sOrderedTies) .none kV_ot dc_ot pm_ot an_ot cd_ot ct_ot), sl_ot⟩) (c_ot : PySem.W.codeIn K cd_ot "ordered_ties" = true) (k_ot : PySem.W.keepIn K (.ref f_ot) = true)
    {f_oc : Addr} {kV_oc dc_oc pm_oc cd_oc ct_oc : Value} {an_oc : Option Addr} {oc_oc : Value} {od_oc : Option Addr} {sl_oc : Array (Option Value)} (a_oc : PySem.W.nsIn K mainGlobals "_law_open_cells" = some (some (.ref f_oc))) (l_oc : K.lookup f_oc = some ⟨oc_oc, od_oc, .func (PySem.W.fnOf "_law_open_cells" "_law_open_cells" (defArgs sOpenCells) (defBody sOpenCells) (defScope sOpenCells) .none kV_oc dc_oc pm_oc an_oc cd_oc ct_oc), sl_oc⟩) (c_oc : PySem.W.codeIn K cd_oc "_law_open_cells" = true) (k_oc : PySem.W.keepIn K (.ref f_oc) = true)
    {f_pk : Addr} {kV_pk dc_pk pm_pk cd_pk ct_pk : Value} {an_pk : Option Addr} {oc_pk : Value} {od_pk : Option Addr} {sl_pk : Array (Option Value)} (a_pk : PySem.W.nsIn K mainGlobals "_law_pick" = some (some (.ref f_pk))) (l_pk : K.lookup f_pk = some ⟨oc_pk, od_pk, .func (PySem.W.fnOf "_law_pick" "_law_pick" (defArgs sPick) (defBody sPick) (defScope sPick) .none kV_pk dc_pk pm_pk an_pk cd_pk ct_pk), sl_pk⟩) (c_pk : PySem.W.codeIn K cd_pk "_law_pick" = true) (k_pk : PySem.W.keepIn K (.ref f_pk) = true)
    {f_ao : Addr} {kV_ao dc_ao pm_ao cd_ao ct_ao : Value} {an_ao : Option Addr} {oc_ao : Value} {od_ao : Option Addr} {sl_ao : Array (Option Value)} (a_ao : PySem.W.nsIn K mainGlobals "_law_any_order" = some (some (.ref f_ao))) (l_ao : K.lookup f_ao = some ⟨oc_ao, od_ao, .func (PySem.W.fnOf "_law_any_order" "_law_any_order" (defArgs sAnyOrder) (defBody sAnyOrder) (defScope sAnyOrder) .none kV_ao dc_ao pm_ao an_ao cd_ao ct_ao), sl_ao⟩) (c_ao : PySem.W.codeIn K cd_ao "_law_any_order" = true) (k_ao : PySem.W.keepIn K (.ref f_ao) = true)
    {f_ch : Addr} {kV_ch dc_ch pm_ch cd_ch ct_ch : Value} {an_ch : Option Addr} {oc_ch : Value} {od_ch : Option Addr} {sl_ch : Array (Option Value)} (a_ch : PySem.W.nsIn K mainGlobals "_law_choice_of" = some (some (.ref f_ch))) (l_ch : K.lookup f_ch = some ⟨oc_ch, od_ch, .func (PySem.W.fnOf "_law_choice_of" "_law_choice_of" (defArgs sChoiceOf) (defBody sChoiceOf) (defScope sChoiceOf) .none kV_ch dc_ch pm_ch an_ch cd_ch ct_ch), sl_ch⟩) (c_ch : PySem.W.codeIn K cd_ch "_law_choice_of" = true) (k_ch : PySem.W.keepIn K (.ref f_ch) = true)
    {f_sh : Addr} {kV_sh dc_sh pm_sh cd_sh ct_sh : Value} {an_sh : Option Addr} {oc_sh : Value} {od_sh : Option Addr} {sl_sh : Array (Option Value)} (a_sh : PySem.W.nsIn K mainGlobals "_law_shape_pairs" = some (some (.ref f_sh))) (l_sh : K.lookup f_sh = some ⟨oc_sh, od_sh, .func (PySem.W.fnOf "_law_shape_pairs" "_law_shape_pairs" (defArgs sShapePairs) (defBody sShapePairs) (defScope sShapePairs) .none kV_sh dc_sh pm_sh an_sh cd_sh ct_sh), sl_sh⟩) (c_sh : PySem.W.codeIn K cd_sh "_law_shape_pairs" = true) (k_sh : PySem.W.keepIn K (.ref f_sh) = true)
    {f_dw : Addr} {kV_dw dc_dw pm_dw cd_dw ct_dw : Value} {an_dw : Option Addr} {oc_dw : Value} {od_dw : Option Addr} {sl_dw : Array (Option Value)} (a_dw : PySem.W.nsIn K mainGlobals "_law_draw_world" = some (some (.ref f_dw))) (l_dw : K.lookup f_dw = some ⟨oc_dw, od_dw, .func (PySem.W.fnOf "_law_draw_world" "_law_draw_world" (defArgs sDrawWorld) (defBody sDrawWorld) (defScope sDrawWorld) .none kV_dw dc_dw pm_dw an_dw cd_dw ct_dw), sl_dw⟩) (c_dw : PySem.W.codeIn K cd_dw "_law_draw_world" = true) (k_dw : PySem.W.keepIn K (.ref f_dw) = true)
    {f_ma : Addr} {kV_ma dc_ma pm_ma cd_ma ct_ma : Value} {an_ma : Option Addr} {oc_ma : Value} {od_ma : Option Addr} {sl_ma : Array (Option Value)} (a_ma : PySem.W.nsIn K mainGlobals "_law_made" = some (some (.ref f_ma))) (l_ma : K.lookup f_ma = some ⟨oc_ma, od_ma, .func (PySem.W.fnOf "_law_made" "_law_made" (defArgs sMade) (defBody sMade) (defScope sMade) .none kV_ma dc_ma pm_ma an_ma cd_ma ct_ma), sl_ma⟩) (c_ma : PySem.W.codeIn K cd_ma "_law_made" = true) (k_ma : PySem.W.keepIn K (.ref f_ma) = true)
    {f_wh : Addr} {kV_wh dc_wh pm_wh cd_wh ct_wh : Value} {an_wh : Option Addr} {oc_wh : Value} {od_wh : Option Addr} {sl_wh : Array (Option Value)} (a_wh : PySem.W.nsIn K mainGlobals "_law_is_whole" = some (some (.ref f_wh))) (l_wh : K.lookup f_wh = some ⟨oc_wh, od_wh, .func (PySem.W.fnOf "_law_is_whole" "_law_is_whole" (defArgs sIsWhole) (defBody sIsWhole) (defScope sIsWhole) .none kV_wh dc_wh pm_wh an_wh cd_wh ct_wh), sl_wh⟩) (c_wh : PySem.W.codeIn K cd_wh "_law_is_whole" = true) (k_wh : PySem.W.keepIn K (.ref f_wh) = true)
    {f_pa : Addr} {kV_pa dc_pa pm_pa cd_pa ct_pa : Value} {an_pa : Option Addr} {oc_pa : Value} {od_pa : Option Addr} {sl_pa : Array (Option Value)} (a_pa : PySem.W.nsIn K mainGlobals "_law_parts" = some (some (.ref f_pa))) (l_pa : K.lookup f_pa = some ⟨oc_pa, od_pa, .func (PySem.W.fnOf "_law_parts" "_law_parts" (defArgs sParts) (defBody sParts) (defScope sParts) .none kV_pa dc_pa pm_pa an_pa cd_pa ct_pa), sl_pa⟩) (c_pa : PySem.W.codeIn K cd_pa "_law_parts" = true) (k_pa : PySem.W.keepIn K (.ref f_pa) = true)
    {f_se : Addr} {kV_se dc_se pm_se cd_se ct_se : Value} {an_se : Option Addr} {oc_se : Value} {od_se : Option Addr} {sl_se : Array (Option Value)} (a_se : PySem.W.nsIn K mainGlobals "_law_seated" = some (some (.ref f_se))) (l_se : K.lookup f_se = some ⟨oc_se, od_se, .func (PySem.W.fnOf "_law_seated" "_law_seated" (defArgs sSeated) (defBody sSeated) (defScope sSeated) .none kV_se dc_se pm_se an_se cd_se ct_se), sl_se⟩) (c_se : PySem.W.codeIn K cd_se "_law_seated" = true) (k_se : PySem.W.keepIn K (.ref f_se) = true)
    {f_ov : Addr} {kV_ov dc_ov pm_ov cd_ov ct_ov : Value} {an_ov : Option Addr} {oc_ov : Value} {od_ov : Option Addr} {sl_ov : Array (Option Value)} (a_ov : PySem.W.nsIn K mainGlobals "_law_over" = some (some (.ref f_ov))) (l_ov : K.lookup f_ov = some ⟨oc_ov, od_ov, .func (PySem.W.fnOf "_law_over" "_law_over" (defArgs sOver) (defBody sOver) (defScope sOver) .none kV_ov dc_ov pm_ov an_ov cd_ov ct_ov), sl_ov⟩) (c_ov : PySem.W.codeIn K cd_ov "_law_over" = true) (k_ov : PySem.W.keepIn K (.ref f_ov) = true)
    {f_co : Addr} {kV_co dc_co pm_co cd_co ct_co : Value} {an_co : Option Addr} {oc_co : Value} {od_co : Option Addr} {sl_co : Array (Option Value)} (a_co : PySem.W.nsIn K mainGlobals "_law_copied_over" = some (some (.ref f_co))) (l_co : K.lookup f_co = some ⟨oc_co, od_co, .func (PySem.W.fnOf "_law_copied_over" "_law_copied_over" (defArgs sCopiedOver) (defBody sCopiedOver) (defScope sCopiedOver) .none kV_co dc_co pm_co an_co cd_co ct_co), sl_co⟩) (c_co : PySem.W.codeIn K cd_co "_law_copied_over" = true) (k_co : PySem.W.keepIn K (.ref f_co) = true)
    {f_di : Addr} {kV_di dc_di pm_di cd_di ct_di : Value} {an_di : Option Addr} {oc_di : Value} {od_di : Option Addr} {sl_di : Array (Option Value)} (a_di : PySem.W.nsIn K mainGlobals "_law_dict" = some (some (.ref f_di))) (l_di : K.lookup f_di = some ⟨oc_di, od_di, .func (PySem.W.fnOf "_law_dict" "_law_dict" (defArgs sDict) (defBody sDict) (defScope sDict) .none kV_di dc_di pm_di an_di cd_di ct_di), sl_di⟩) (c_di : PySem.W.codeIn K cd_di "_law_dict" = true) (k_di : PySem.W.keepIn K (.ref f_di) = true)
    {f_ab : Addr} {kV_ab dc_ab pm_ab cd_ab ct_ab : Value} {an_ab : Option Addr} {oc_ab : Value} {od_ab : Option Addr} {sl_ab : Array (Option Value)} (a_ab : PySem.W.nsIn K mainGlobals "_law_above" = some (some (.ref f_ab))) (l_ab : K.lookup f_ab = some ⟨oc_ab, od_ab, .func (PySem.W.fnOf "_law_above" "_law_above" (defArgs sAbove) (defBody sAbove) (defScope sAbove) .none kV_ab dc_ab pm_ab an_ab cd_ab ct_ab), sl_ab⟩) (c_ab : PySem.W.codeIn K cd_ab "_law_above" = true) (k_ab : PySem.W.keepIn K (.ref f_ab) = true)
    {f_lo : Addr} {kV_lo dc_lo pm_lo cd_lo ct_lo : Value} {an_lo : Option Addr} {oc_lo : Value} {od_lo : Option Addr} {sl_lo : Array (Option Value)} (a_lo : PySem.W.nsIn K mainGlobals "_law_loose_world" = some (some (.ref f_lo))) (l_lo : K.lookup f_lo = some ⟨oc_lo, od_lo, .func (PySem.W.fnOf "_law_loose_world" "_law_loose_world" (defArgs sLooseWorld) (defBody sLooseWorld) (defScope sLooseWorld) .none kV_lo dc_lo pm_lo an_lo cd_lo ct_lo), sl_lo⟩) (c_lo : PySem.W.codeIn K cd_lo "_law_loose_world" = true) (k_lo : PySem.W.keepIn K (.ref f_lo) = true)
    {f_ad : Addr} {kV_ad dc_ad pm_ad cd_ad ct_ad : Value} {an_ad : Option Addr} {oc_ad : Value} {od_ad : Option Addr} {sl_ad : Array (Option Value)} (a_ad : PySem.W.nsIn K mainGlobals "_law_any_dict" = some (some (.ref f_ad))) (l_ad : K.lookup f_ad = some ⟨oc_ad, od_ad, .func (PySem.W.fnOf "_law_any_dict" "_law_any_dict" (defArgs sAnyDict) (defBody sAnyDict) (defScope sAnyDict) .none kV_ad dc_ad pm_ad an_ad cd_ad ct_ad), sl_ad⟩) (c_ad : PySem.W.codeIn K cd_ad "_law_any_dict" = true) (k_ad : PySem.W.keepIn K (.ref f_ad) = true)
    {f_ca : Addr} {kV_ca dc_ca pm_ca cd_ca ct_ca : Value} {an_ca : Option Addr} {oc_ca : Value} {od_ca : Option Addr} {sl_ca : Array (Option Value)} (a_ca : PySem.W.nsIn K mainGlobals "_law_caught" = some (some (.ref f_ca))) (l_ca : K.lookup f_ca = some ⟨oc_ca, od_ca, .func (PySem.W.fnOf "_law_caught" "_law_caught" (defArgs sCaught) (defBody sCaught) (defScope sCaught) .none kV_ca dc_ca pm_ca an_ca cd_ca ct_ca), sl_ca⟩) (c_ca : PySem.W.codeIn K cd_ca "_law_caught" = true) (k_ca : PySem.W.keepIn K (.ref f_ca) = true)
    {f_nd : Addr} {kV_nd dc_nd pm_nd cd_nd ct_nd : Value} {an_nd : Option Addr} {oc_nd : Value} {od_nd : Option Addr} {sl_nd : Array (Option Value)} (a_nd : PySem.W.nsIn K mainGlobals "_law_numbers_due" = some (some (.ref f_nd))) (l_nd : K.lookup f_nd = some ⟨oc_nd, od_nd, .func (PySem.W.fnOf "_law_numbers_due" "_law_numbers_due" (defArgs sNumbersDue) (defBody sNumbersDue) (defScope sNumbersDue) .none kV_nd dc_nd pm_nd an_nd cd_nd ct_nd), sl_nd⟩) (c_nd : PySem.W.codeIn K cd_nd "_law_numbers_due" = true) (k_nd : PySem.W.keepIn K (.ref f_nd) = true)
    {f_dd : Addr} {kV_dd dc_dd pm_dd cd_dd ct_dd : Value} {an_dd : Option Addr} {oc_dd : Value} {od_dd : Option Addr} {sl_dd : Array (Option Value)} (a_dd : PySem.W.nsIn K mainGlobals "_law_down_due" = some (some (.ref f_dd))) (l_dd : K.lookup f_dd = some ⟨oc_dd, od_dd, .func (PySem.W.fnOf "_law_down_due" "_law_down_due" (defArgs sDownDue) (defBody sDownDue) (defScope sDownDue) .none kV_dd dc_dd pm_dd an_dd cd_dd ct_dd), sl_dd⟩) (c_dd : PySem.W.codeIn K cd_dd "_law_down_due" = true) (k_dd : PySem.W.keepIn K (.ref f_dd) = true)
    {f_ne : Addr} {kV_ne dc_ne pm_ne cd_ne ct_ne : Value} {an_ne : Option Addr} {oc_ne : Value} {od_ne : Option Addr} {sl_ne : Array (Option Value)} (a_ne : PySem.W.nsIn K mainGlobals "_law_near" = some (some (.ref f_ne))) (l_ne : K.lookup f_ne = some ⟨oc_ne, od_ne, .func (PySem.W.fnOf "_law_near" "_law_near" (defArgs sNear) (defBody sNear) (defScope sNear) .none kV_ne dc_ne pm_ne an_ne cd_ne ct_ne), sl_ne⟩) (c_ne : PySem.W.codeIn K cd_ne "_law_near" = true) (k_ne : PySem.W.keepIn K (.ref f_ne) = true)
    {f_mi : Addr} {kV_mi dc_mi pm_mi cd_mi ct_mi : Value} {an_mi : Option Addr} {oc_mi : Value} {od_mi : Option Addr} {sl_mi : Array (Option Value)} (a_mi : PySem.W.findIn K (.ref C) "__init__" = some (some (.ref f_mi))) (i_mi : PySem.W.isFn K (.ref f_mi) = true) (l_mi : K.lookup f_mi = some ⟨oc_mi, od_mi, .func (PySem.W.fnOf "__init__" "Web.__init__" (defArgs sWebInit) (defBody sWebInit) (defScope sWebInit) .none kV_mi dc_mi pm_mi an_mi cd_mi ct_mi), sl_mi⟩) (c_mi : PySem.W.codeIn K cd_mi "Web.__init__" = true) (k_mi : PySem.W.keepIn K (.ref f_mi) = true)
    {f_mp : Addr} {kV_mp dc_mp pm_mp cd_mp ct_mp : Value} {an_mp : Option Addr} {oc_mp : Value} {od_mp : Option Addr} {sl_mp : Array (Option Value)} (a_mp : PySem.W.findIn K (.ref C) "places" = some (some (.ref f_mp))) (i_mp : PySem.W.isFn K (.ref f_mp) = true) (l_mp : K.lookup f_mp = some ⟨oc_mp, od_mp, .func (PySem.W.fnOf "places" "Web.places" (defArgs sWebPlaces) (defBody sWebPlaces) (defScope sWebPlaces) .none kV_mp dc_mp pm_mp an_mp cd_mp ct_mp), sl_mp⟩) (c_mp : PySem.W.codeIn K cd_mp "Web.places" = true) (k_mp : PySem.W.keepIn K (.ref f_mp) = true)
    {f_ml : Addr} {kV_ml dc_ml pm_ml cd_ml ct_ml : Value} {an_ml : Option Addr} {oc_ml : Value} {od_ml : Option Addr} {sl_ml : Array (Option Value)} (a_ml : PySem.W.findIn K (.ref C) "__len__" = some (some (.ref f_ml))) (i_ml : PySem.W.isFn K (.ref f_ml) = true) (l_ml : K.lookup f_ml = some ⟨oc_ml, od_ml, .func (PySem.W.fnOf "__len__" "Web.__len__" (defArgs sWebLen) (defBody sWebLen) (defScope sWebLen) .none kV_ml dc_ml pm_ml an_ml cd_ml ct_ml), sl_ml⟩) (c_ml : PySem.W.codeIn K cd_ml "Web.__len__" = true) (k_ml : PySem.W.keepIn K (.ref f_ml) = true)
    {kV_la dc_la pm_la ct_la : Value} {an_la : Option Addr} {oc_la : Value} {od_la : Option Addr} {sl_la : Array (Option Value)} {f_la : Addr} (a_la : PySem.W.nsIn K mainGlobals "law" = some (some (.ref f_la))) (l_la : K.lookup f_la = some ⟨oc_la, od_la, .func (PySem.W.fnOf "law" "law" (defArgs sLaw) (defBody sLaw) (defScope sLaw) .none kV_la dc_la pm_la an_la (.ref c) ct_la), sl_la⟩) (c_la : PySem.W.codeIn K (.ref c) "law" = true) (k_la : PySem.W.keepIn K (.ref f_la) = true)
    {dd_c : Option Addr} {vs_c : Array Value} {sl_c : Array (Option Value)} (l_c : K.lookup c = some ⟨.type "code", dd_c, .fields vs_c, sl_c⟩) (v_11 : vs_c[11]? = some (.ref PT)) (hd_c : hdV vs_c c PT = true) (n_t : K.lookup PT = none)
    {f_bi cda cc : Addr} {kV_bi dc_bi pm_bi ct_bi : Value} {an_bi : Option Addr} {oc_bi : Value} {od_bi : Option Addr} {sl_bi : Array (Option Value)} (a_bi : PySem.W.findIn K (.ref CB) "__init__" = some (some (.ref f_bi))) (t_bi : PySem.W.typeIn K (.ref f_bi) = some (.type "function"))
    (l_bi : K.lookup f_bi = some ⟨oc_bi, od_bi, .func (PySem.W.ksFn "__init__" "BadNumber.__init__" (defArgs sBadNumberInit) (defBody sBadNumberInit) (defScope sBadNumberInit) .none kV_bi dc_bi pm_bi an_bi (.ref cda) ct_bi cc), sl_bi⟩) (c_bi : PySem.W.codeIn K (.ref cda) "BadNumber.__init__" = true)
    {ccl : Value} {cdd : Option Addr} {vs_b : Array Value} {ccs : Array (Option Value)} (l_b : K.lookup cda = some ⟨ccl, cdd, .fields vs_b, ccs⟩) {file : Str} {tf : Tok} (v_b : vs_b[2]? = some (.str file tf)) (fi_b : ((l.prog.main.file : Str) == file) = true)
    {cl : Value} {cld : Option Addr} {csl : Array (Option Value)} (l_cc : K.lookup cc = some ⟨cl, cld, .cell (some (.ref CB)), csl⟩) {cdB : PySem.ClassData} (d_B : PySem.W.clsIn K CB = some cdB) (m_B : PySem.W.mroIn K CB (.ref CB) = some true) (sV : PySem.W.subIn K (.ref CB) (.type "ValueError") = some true)
    (su_B : PySem.W.ks_superIn K CB CB "__init__" = some (some (.builtin "ValueError.__init__"))) (opq : PySem.W.nsIn K PySem.cStatics "thirdparty.any" = some none) (top_s : (l.prog.main.scope.names.lookup ("super" : Str)).isSome = false)
    {nm_B q_B : Str} {N_B : Addr} {bs_B : List Value} {bm_B : List Value} {sn_B sub_B ab_B col_B dd_B k0_B k1_B k2_B k3_B k5_B : _} (l_B : K.lookup CB = some (excClassObj nm_B q_B CB N_B bs_B bm_B true sn_B sub_B ab_B col_B dd_B k0_B k1_B k2_B k3_B k5_B "ValueError.__new__")) (r_B : PySem.HandSPX.refsVE bm_B = true)
    (sa_B : PySem.W.findIn K (.ref CB) "__setattr__" = some (some (.builtin "object.__setattr__"))) (ex_B : PySem.W.subIn K (.ref CB) (.type "BaseException") = some true) (ty_B : PySem.W.typeIn K (.ref CB) = some (.type "type")) (kp_B : PySem.W.keepIn K (.ref CB) = true) (sb_B : PySem.W.subIn K (.ref CB) (.ref CB) = some true)
    (ga_B : PySem.W.findIn K (.ref CB) "__getattribute__" = some (some (.builtin "BaseException.__getattribute__"))) (gg_B : PySem.W.findIn K (.ref CB) "__getattr__" = some none) (hd_B : PySem.W.hasDictIn K CB = true) (nu_B : PySem.W.findIn K (.ref CB) "number" = some none) (z_B : PySem.W.nsIn K mainGlobals "BadNumber" = some (some (.ref CB)))
    (z_len : PySem.W.nsIn K mainGlobals "len" = some none)
    (z_int : PySem.W.nsIn K mainGlobals "int" = some none)
    (z_list : PySem.W.nsIn K mainGlobals "list" = some none)
    (z_range : PySem.W.nsIn K mainGlobals "range" = some none)
    (z_abs : PySem.W.nsIn K mainGlobals "abs" = some none)
    (z_sorted : PySem.W.nsIn K mainGlobals "sorted" = some none)
    (z_dict : PySem.W.nsIn K mainGlobals "dict" = some none)
    (z_enumerate : PySem.W.nsIn K mainGlobals "enumerate" = some none)
    (z_str : PySem.W.nsIn K mainGlobals "str" = some none)
    (z_max : PySem.W.nsIn K mainGlobals "max" = some none)
    (z_min : PySem.W.nsIn K mainGlobals "min" = some none)
    (z_set : PySem.W.nsIn K mainGlobals "set" = some none)
    (z_sum : PySem.W.nsIn K mainGlobals "sum" = some none)
    (z_zip : PySem.W.nsIn K mainGlobals "zip" = some none)
    (z_isinstance : PySem.W.nsIn K mainGlobals "isinstance" = some none)
    (z_all : PySem.W.nsIn K mainGlobals "all" = some none)
    (z_bool : PySem.W.nsIn K mainGlobals "bool" = some none)
    (z_tuple : PySem.W.nsIn K mainGlobals "tuple" = some none)
    (z_repr : PySem.W.nsIn K mainGlobals "repr" = some none)
    (z_super : PySem.W.nsIn K mainGlobals "super" = some none)
    {tl td : Tok} (z_letters : PySem.W.nsIn K mainGlobals "LETTERS" = some (some (.str "abcdefghijklmnopqrstuvwxyz" tl))) (z_digits : PySem.W.nsIn K mainGlobals "DIGITS" = some (some (.str "0123456789" td)))
    (z_C : PySem.W.nsIn K mainGlobals "Web" = some (some (.ref C))) (pg : PySem.W.plainGet K C Str.empty = true) (hd : PySem.W.hasDictIn K C = true) (po : PySem.W.plainOver K C = true) (sa : PySem.W.findIn K (.ref C) "__setattr__" = some (some (.builtin "object.__setattr__"))) (mk : PySem.W.makesIn K C = true) (kc : PySem.W.keepIn K (.ref C) = true)
    (nCo : PySem.W.findIn K (.ref C) "_colour_of" = some none) (nNa : PySem.W.findIn K (.ref C) "_names" = some none) (nTi : PySem.W.findIn K (.ref C) "_ties" = some none) (nWi : PySem.W.findIn K (.ref C) "_width_of" = some none) :
    LawAtG l w K CX0 63 "_law_script" mg fa h := by
  have e := hfa.symm.trans (PySem.W.mg_of X G a_la)
  cases e
  have none_ := fun {x : Str} (z : PySem.W.nsIn K mainGlobals x = some none) => PySem.W.mg_none_of X G z
  have TA : TxtA mg := ⟨none_ z_len, none_ z_int⟩
  have TB : TxtB mg := ⟨TA, none_ z_list, none_ z_range, none_ z_abs⟩
  have TC : TxtC mg := ⟨TB, none_ z_sorted⟩
  have TD : TxtD mg := ⟨TC, none_ z_dict, none_ z_enumerate, none_ z_str⟩
  have TE : TxtE mg := ⟨TD, none_ z_max, none_ z_min, none_ z_set, none_ z_sum⟩
  have TF : TxtF mg := ⟨TE, none_ z_zip⟩
  have TG : TxtG mg := ⟨TF, none_ z_isinstance, none_ z_all, none_ z_bool, ⟨tl, PySem.W.mg_of X G z_letters⟩, ⟨td, PySem.W.mg_of X G z_digits⟩⟩
  have TH : TxtH mg := ⟨TG, none_ z_tuple⟩
  have TN : TxtN mg := ⟨TH, none_ z_repr⟩
  have TW : TxtW K mg C := ⟨TH, ⟨pg, hd, po, sa⟩, nCo, nNa, nTi, nWi⟩
  have TM : TxtM K mg C f_mi := ⟨TW, PySem.W.mg_of X G z_C, ⟨mk, a_mi, i_mi, kc⟩⟩
  have XF : XfC K CB := ⟨ga_B, gg_B, ex_B, hd_B⟩
  have mB := PySem.W.mg_of X G z_B
  have TK : TxtK4 K mg C f_mi CB := ⟨TM, none_ z_repr, mB, XF, nu_B, exm_self ex_B d_B ty_B sb_B⟩
  have OX : OexC K CB := ⟨⟨_, _, _, _, _, _, _, _, _, _, _, _, _, _, _, l_B, r_B⟩, sa_B, ex_B, ty_B, kp_B⟩
  have SF : SupF l.prog K CB f_bi cda cc _ "BadNumber.__init__" sBadNumberInit "self" := ⟨OX, ⟨_, _, _, _, _, _, _, _, rfl, l_bi⟩, ⟨_, rfl, rfl⟩, ⟨_, _, _, _, _, _, l_b, v_b, fi_b⟩, c_bi, ⟨_, _, _, l_cc⟩, ⟨_, d_B⟩, m_B, sV, su_B, opq, top_s⟩
  have F_isw := fun_mk (st := sIsWord) l_isw c_isw k_isw
  have b_isw := F_isw.binds (ps := ["value"]) fun _ _ _ _ _ _ us hl => match us, hl with | [_], _ => rfl
  have m_isw := PySem.W.mg_of X G a_isw
  have F_isi := fun_mk (st := sIsInteger) l_isi c_isi k_isi
  have b_isi := F_isi.binds (ps := ["value"]) fun _ _ _ _ _ _ us hl => match us, hl with | [_], _ => rfl
  have m_isi := PySem.W.mg_of X G a_isi
  have F_isn := fun_mk (st := sIsNumber) l_isn c_isn k_isn
  have b_isn := F_isn.binds (ps := ["value", "least"]) fun _ _ _ _ _ _ us hl => match us, hl with | [_, _], _ => rfl
  have m_isn := PySem.W.mg_of X G a_isn
  have F_ke := fun_mk (st := sKept) l_ke c_ke k_ke
  have b_ke := F_ke.binds (ps := ["value"]) fun _ _ _ _ _ _ us hl => match us, hl with | [_], _ => rfl
  have m_ke := PySem.W.mg_of X G a_ke
  have F_po := fun_mk (st := sPlacesOver) l_po c_po k_po
  have b_po := F_po.binds (ps := ["over", "web", "folding"]) fun _ _ _ _ _ _ us hl => match us, hl with | [_, _, _], _ => rfl
  have m_po := PySem.W.mg_of X G a_po
  have F_nn := fun_mk (st := sNeedNumbers) l_nn c_nn k_nn
  have b_nn := F_nn.binds (ps := ["web", "colouring"]) fun _ _ _ _ _ _ us hl => match us, hl with | [_, _], _ => rfl
  have m_nn := PySem.W.mg_of X G a_nn
  have F_lu := fun_mk (st := sLedUp) l_lu c_lu k_lu
  have b_lu := F_lu.binds (ps := ["over", "web", "folding", "colouring"]) fun _ _ _ _ _ _ us hl => match us, hl with | [_, _, _, _], _ => rfl
  have m_lu := PySem.W.mg_of X G a_lu
  have F_ld := fun_mk (st := sLedDown) l_ld c_ld k_ld
  have b_ld := F_ld.binds (ps := ["over", "web", "folding", "colouring"]) fun _ _ _ _ _ _ us hl => match us, hl with | [_, _, _, _], _ => rfl
  have m_ld := PySem.W.mg_of X G a_ld
  have F_nw := fun_mk (st := sNeedWord) l_nw c_nw k_nw
  have b_nw := F_nw.binds (ps := ["value"]) fun _ _ _ _ _ _ us hl => match us, hl with | [_], _ => rfl
  have m_nw := PySem.W.mg_of X G a_nw
  have F_no := fun_mk (st := sNeedOnce) l_no c_no k_no
  have b_no := F_no.binds (ps := ["names"]) fun _ _ _ _ _ _ us hl => match us, hl with | [_], _ => rfl
  have m_no := PySem.W.mg_of X G a_no
  have F_np := fun_mk (st := sNeedPlaces) l_np c_np k_np
  have b_np := F_np.binds (ps := ["places"]) fun _ _ _ _ _ _ us hl => match us, hl with | [_], _ => rfl
  have m_np := PySem.W.mg_of X G a_np
  have F_ts := fun_mk (st := sTieSpot) l_ts c_ts k_ts
  have b_ts := F_ts.binds (ps := ["tie", "names"]) fun _ _ _ _ _ _ us hl => match us, hl with | [_, _], _ => rfl
  have m_ts := PySem.W.mg_of X G a_ts
  have F_nt := fun_mk (st := sNeedTies) l_nt c_nt k_nt
  have b_nt := F_nt.binds (ps := ["ties", "names"]) fun _ _ _ _ _ _ us hl => match us, hl with | [_, _], _ => rfl
  have m_nt := PySem.W.mg_of X G a_nt
  have F_ot := fun_mk (st := sOrderedTies) l_ot c_ot k_ot
  have b_ot := F_ot.binds (ps := ["ties", "names"]) fun _ _ _ _ _ _ us hl => match us, hl with | [_, _], _ => rfl
  have m_ot := PySem.W.mg_of X G a_ot
  have F_oc := fun_mk (st := sOpenCells) l_oc c_oc k_oc
  have b_oc := F_oc.binds (ps := ["_law_script"]) fun _ _ _ _ _ _ us hl => match us, hl with | [_], _ => rfl
  have m_oc := PySem.W.mg_of X G a_oc
  have F_pk := fun_mk (st := sPick) l_pk c_pk k_pk
  have b_pk := F_pk.binds (ps := ["_law_source", "_law_many"]) fun _ _ _ _ _ _ us hl => match us, hl with | [_, _], _ => rfl
  have m_pk := PySem.W.mg_of X G a_pk
  have F_ao := fun_mk (st := sAnyOrder) l_ao c_ao k_ao
  have b_ao := F_ao.binds (ps := ["_law_source", "_law_items"]) fun _ _ _ _ _ _ us hl => match us, hl with | [_, _], _ => rfl
  have m_ao := PySem.W.mg_of X G a_ao
  have F_ch := fun_mk (st := sChoiceOf) l_ch c_ch k_ch
  have b_ch := F_ch.binds (ps := ["_law_source", "_law_items"]) fun _ _ _ _ _ _ us hl => match us, hl with | [_, _], _ => rfl
  have m_ch := PySem.W.mg_of X G a_ch
  have F_sh := fun_mk (st := sShapePairs) l_sh c_sh k_sh
  have b_sh := F_sh.binds (ps := ["_law_source", "_law_count"]) fun _ _ _ _ _ _ us hl => match us, hl with | [_, _], _ => rfl
  have m_sh := PySem.W.mg_of X G a_sh
  have F_dw := fun_mk (st := sDrawWorld) l_dw c_dw k_dw
  have b_dw := F_dw.binds (ps := ["_law_source", "_law_most"]) fun _ _ _ _ _ _ us hl => match us, hl with | [_, _], _ => rfl
  have m_dw := PySem.W.mg_of X G a_dw
  have F_ma := fun_mk (st := sMade) l_ma c_ma k_ma
  have b_ma := F_ma.binds (ps := ["_law_source", "_law_world"]) fun _ _ _ _ _ _ us hl => match us, hl with | [_, _], _ => rfl
  have m_ma := PySem.W.mg_of X G a_ma
  have F_wh := fun_mk (st := sIsWhole) l_wh c_wh k_wh
  have b_wh := F_wh.binds (ps := ["_law_value"]) fun _ _ _ _ _ _ us hl => match us, hl with | [_], _ => rfl
  have m_wh := PySem.W.mg_of X G a_wh
  have F_pa := fun_mk (st := sParts) l_pa c_pa k_pa
  have b_pa := F_pa.binds (ps := ["_law_world"]) fun _ _ _ _ _ _ us hl => match us, hl with | [_], _ => rfl
  have m_pa := PySem.W.mg_of X G a_pa
  have F_se := fun_mk (st := sSeated) l_se c_se k_se
  have b_se := F_se.binds (ps := ["_law_source", "_law_world", "_law_led"]) fun _ _ _ _ _ _ us hl => match us, hl with | [_, _, _], _ => rfl
  have m_se := PySem.W.mg_of X G a_se
  have F_ov := fun_mk (st := sOver) l_ov c_ov k_ov
  have b_ov := F_ov.binds (ps := ["_law_source", "_law_world", "_law_numbers"]) fun _ _ _ _ _ _ us hl => match us, hl with | [_, _, _], _ => rfl
  have m_ov := PySem.W.mg_of X G a_ov
  have F_co := fun_mk (st := sCopiedOver) l_co c_co k_co
  have b_co := F_co.binds (ps := ["_law_source", "_law_world"]) fun _ _ _ _ _ _ us hl => match us, hl with | [_, _], _ => rfl
  have m_co := PySem.W.mg_of X G a_co
  have F_di := fun_mk (st := sDict) l_di c_di k_di
  have b_di := F_di.binds (ps := ["_law_source", "_law_over_here", "_law_web", "_law_led"]) fun _ _ _ _ _ _ us hl => match us, hl with | [_, _, _, _], _ => rfl
  have m_di := PySem.W.mg_of X G a_di
  have F_ab := fun_mk (st := sAbove) l_ab c_ab k_ab
  have b_ab := F_ab.binds (ps := ["_law_led", "_law_many"]) fun _ _ _ _ _ _ us hl => match us, hl with | [_, _], _ => rfl
  have m_ab := PySem.W.mg_of X G a_ab
  have F_lo := fun_mk (st := sLooseWorld) l_lo c_lo k_lo
  have b_lo := F_lo.binds (ps := ["_law_source"]) fun _ _ _ _ _ _ us hl => match us, hl with | [_], _ => rfl
  have m_lo := PySem.W.mg_of X G a_lo
  have F_ad := fun_mk (st := sAnyDict) l_ad c_ad k_ad
  have b_ad := F_ad.binds (ps := ["_law_source", "_law_told"]) fun _ _ _ _ _ _ us hl => match us, hl with | [_, _], _ => rfl
  have m_ad := PySem.W.mg_of X G a_ad
  have F_ca := fun_mk (st := sCaught) l_ca c_ca k_ca
  have b_ca := F_ca.binds (ps := ["_law_ask"]) fun _ _ _ _ _ _ us hl => match us, hl with | [_], _ => rfl
  have m_ca := PySem.W.mg_of X G a_ca
  have F_nd := fun_mk (st := sNumbersDue) l_nd c_nd k_nd
  have b_nd := F_nd.binds (ps := ["_law_value", "_law_many"]) fun _ _ _ _ _ _ us hl => match us, hl with | [_, _], _ => rfl
  have m_nd := PySem.W.mg_of X G a_nd
  have F_dd := fun_mk (st := sDownDue) l_dd c_dd k_dd
  have b_dd := F_dd.binds (ps := ["_law_above_here", "_law_value"]) fun _ _ _ _ _ _ us hl => match us, hl with | [_, _], _ => rfl
  have m_dd := PySem.W.mg_of X G a_dd
  have F_ne := fun_mk (st := sNear) l_ne c_ne k_ne
  have b_ne := F_ne.binds (ps := ["_law_source", "_law_numbers"]) fun _ _ _ _ _ _ us hl => match us, hl with | [_, _], _ => rfl
  have m_ne := PySem.W.mg_of X G a_ne
  have F_mi := fun_mk (st := sWebInit) l_mi c_mi k_mi
  have b_mi := F_mi.binds (ps := ["self", "places", "ties"]) fun _ _ _ _ _ _ us hl => match us, hl with | [_, _, _], _ => rfl
  have F_mp := fun_mk (st := sWebPlaces) l_mp c_mp k_mp
  have b_mp := F_mp.binds (ps := ["self"]) fun _ _ _ _ _ _ us hl => match us, hl with | [_], _ => rfl
  have F_ml := fun_mk (st := sWebLen) l_ml c_ml k_ml
  have b_ml := F_ml.binds (ps := ["self"]) fun _ _ _ _ _ _ us hl => match us, hl with | [_], _ => rfl
  have F_la := fun_mk (st := sLaw) l_la c_la k_la
  have b_bi : Binds K (PySem.W.ksFn "__init__" "BadNumber.__init__" (defArgs sBadNumberInit) (defBody sBadNumberInit) (defScope sBadNumberInit) .none kV_bi dc_bi pm_bi an_bi (.ref cda) ct_bi cc) ["self", "number"] [] := .all fun us hl => match us, hl with | [_, _], _ => rfl
  have ht := own c PT _ _ _ _ _ _ l_la rfl rfl l_c v_11
  refine ⟨PySem.W.fnOf "law" "law" (defArgs sLaw) (defBody sLaw) (defScope sLaw) .none kV_la dc_la pm_la an_la (.ref c) ct_la, [(c, PT)], spLaw4 K PT, fun p hp => by rw [List.mem_singleton.mp hp]; exact ht, fun p hp => by rw [List.mem_singleton.mp hp]; exact n_t, fun p hp => by rw [List.mem_singleton.mp hp]; exact PySem.W.codeHd_of_K X (hdV_ok l_c hd_c), (fun s v => .of_eq rfl), fun H a ns hl hT hS => ⟨a, ns, rfl, hS, hl, hT _ (List.mem_singleton.mpr rfl), fun _ => rfl⟩, fun base _ _ tb => ?_⟩
  have TBc := tb _ (List.mem_singleton.mpr rfl)
  have G_pk := def_mk (ok_pick (P := l.prog) (w := w) (base := base) F_pk TA) m_pk k_pk b_pk
  have G_pz := def_mk (ok_pickZ (P := l.prog) (w := w) (base := base) F_pk TA) m_pk k_pk b_pk
  have G_ao := def_mk (ok_any F_ao TB G_pk) m_ao k_ao b_ao
  have G_ch := def_mk (ok_choice F_ch TB G_pk) m_ch k_ch b_ch
  have G_oc := def_mk (ok_open (P := l.prog) (w := w) (base := base) F_oc TB) m_oc k_oc b_oc
  have G_sh := def_mk (ok_shape F_sh TB G_pk) m_sh k_sh b_sh
  have G_dw := def_mk (ok_draw F_dw TB G_pk G_ao G_sh G_ch) m_dw k_dw b_dw
  have G_lo := def_mk (ok_loose F_lo TB G_pk G_dw) m_lo k_lo b_lo
  have G_pa := def_mk (ok_parts (P := l.prog) (w := w) (base := base) F_pa TC) m_pa k_pa b_pa
  have G_se := def_mk (ok_seat F_se TD G_ao) m_se k_se b_se
  have G_ov := def_mk (ok_over F_ov TD G_pz G_pa G_se) m_ov k_ov b_ov
  have G_co := def_mk (ok_copied F_co TE G_pk G_pa G_ov) m_co k_co b_co
  have G_ad := def_mk (ok_anyDict F_ad TF G_ao) m_ad k_ad b_ad
  have G_di := def_mk (ok_dict F_di TF G_ad) m_di k_di b_di
  have G_ab := def_mk (ok_above (P := l.prog) (w := w) (base := base) F_ab TF) m_ab k_ab b_ab
  have G_isw := def_mk (ok_word (P := l.prog) (w := w) (base := base) F_isw TG) m_isw k_isw b_isw
  have G_isi := def_mk (ok_integer (P := l.prog) (w := w) (base := base) F_isi TG) m_isi k_isi b_isi
  have G_ii := def_mk (ok_int (P := l.prog) (w := w) (base := base) F_isi TG) m_isi k_isi b_isi
  have G_isn := def_mk (ok_number F_isn G_isi) m_isn k_isn b_isn
  have G_in := def_mk (ok_num F_isn G_ii) m_isn k_isn b_isn
  have G_nw := def_mk (ok_needW F_nw TG G_isw) m_nw k_nw b_nw
  have G_no := def_mk (ok_once (P := l.prog) (w := w) (base := base) F_no TG) m_no k_no b_no
  have G_np := def_mk (ok_needP F_np TG G_nw G_no) m_np k_np b_np
  have G_ts := def_mk (ok_spot F_ts TH G_isw G_isn) m_ts k_ts b_ts
  have G_nt := def_mk (ok_needT F_nt TH G_ts) m_nt k_nt b_nt
  have G_ot := def_mk (ok_ord (P := l.prog) (w := w) (base := base) F_ot TH) m_ot k_ot b_ot
  have O_mi := ok_webI F_mi TW G_np G_nt G_ot
  have Q_mp : MethD l.prog w K mg base C "places" ["self"] 1 (spPlaces C) := ⟨f_mp, _, ok_places F_mp TW, ⟨a_mp, i_mp, k_mp⟩, b_mp⟩
  have G_po := def_mk (ok_placesOver F_po TW Q_mp) m_po k_po b_po
  have G_ma := def_mk (ok_made F_ma TM G_pk G_ao O_mi b_mi) m_ma k_ma b_ma
  have G_ke := def_mk (ok_kept (P := l.prog) (w := w) (base := base) F_ke TH) m_ke k_ke b_ke
  have TBN : TxtBN l.prog w K mg base C CB := ⟨TW, mB, OX, XF, nu_B, ⟨f_bi, _, a_bi, t_bi, ok_badI SF XF nu_B (none_ z_super) G_ke, b_bi⟩, ⟨f_ml, _, ⟨a_ml, i_ml, k_ml⟩, ok_len F_ml TW, b_ml⟩⟩
  have G_nn := defx_mk (ok_needN F_nn TBN G_in) m_nn k_nn b_nn
  have G_lu := defx_mk (ok_up F_lu TW G_nn Q_mp) m_lu k_lu b_lu
  have G_ld := defx_mk (ok_down F_ld TW G_nn Q_mp G_po) m_ld k_ld b_ld
  have G_wh := def_mk (ok_whole (P := l.prog) (w := w) (base := base) F_wh TG) m_wh k_wh b_wh
  have G_nd := def_mk (ok_nDue F_nd TN G_wh) m_nd k_nd b_nd
  have G_dd := def_mk (ok_dDue (P := l.prog) (w := w) (base := base) F_dd TN) m_dd k_dd b_dd
  have G_ne := def_mk (ok_near F_ne TH G_pk G_ch) m_ne k_ne b_ne
  refine run_law F_la (fun cdv oc od kV doc pm an ct osl lk => ?_) TK TBc F_ca m_ca b_ca G_oc G_lo G_co G_ma G_di G_ab G_pk G_ch G_ne G_nd G_dd G_lu G_ld
  rw [l_la] at lk
  cases lk
  rfl
end Nm
open PySem PySem.W PyProof.Rows in
set_option maxRecDepth 100000 in
set_option maxHeartbeats 0 in
theorem PySem.Challenge.cw_namelessly_k24_colourings_led_holds : PySem.Challenge.rw_namelessly_k24_colourings_led.Holds := by
  w_on; o_law; k_head; (case hw => w_witness2)
  k_fill
  refine Nm.walk_G (l := PySem.Challenge.rw_namelessly_k24_colourings_led) (n := 63) (x := "_law_script") (CX := fun _ => L2.CX0) rfl (by decide) rfl (by decide +kernel) (fun w h Y => PySem.W.km_in_of Y) ?F (fun _ _ _ _ _ z => z)
  case F =>
    intro w mg fa h _ KX G hmg own
    refine' Nm.all_mk KX G hmg own ?a_isw ?l_isw ?c_isw ?k_isw ?a_isi ?l_isi ?c_isi ?k_isi ?a_isn ?l_isn ?c_isn ?k_isn ?a_ke ?l_ke ?c_ke ?k_ke ?a_po ?l_po ?c_po ?k_po ?a_nn ?l_nn ?c_nn ?k_nn ?a_lu ?l_lu ?c_lu ?k_lu ?a_ld ?l_ld ?c_ld ?k_ld ?a_nw ?l_nw ?c_nw ?k_nw ?a_no ?l_no ?c_no ?k_no ?a_np ?l_np ?c_np ?k_np ?a_ts ?l_ts ?c_ts ?k_ts ?a_nt ?l_nt ?c_nt ?k_nt ?a_ot ?l_ot ?c_ot ?k_ot ?a_oc ?l_oc ?c_oc ?k_oc ?a_pk ?l_pk ?c_pk ?k_pk ?a_ao ?l_ao ?c_ao ?k_ao ?a_ch ?l_ch ?c_ch ?k_ch ?a_sh ?l_sh ?c_sh ?k_sh ?a_dw ?l_dw ?c_dw ?k_dw ?a_ma ?l_ma ?c_ma ?k_ma ?a_wh ?l_wh ?c_wh ?k_wh ?a_pa ?l_pa ?c_pa ?k_pa ?a_se ?l_se ?c_se ?k_se ?a_ov ?l_ov ?c_ov ?k_ov ?a_co ?l_co ?c_co ?k_co ?a_di ?l_di ?c_di ?k_di ?a_ab ?l_ab ?c_ab ?k_ab ?a_lo ?l_lo ?c_lo ?k_lo ?a_ad ?l_ad ?c_ad ?k_ad ?a_ca ?l_ca ?c_ca ?k_ca ?a_nd ?l_nd ?c_nd ?k_nd ?a_dd ?l_dd ?c_dd ?k_dd ?a_ne ?l_ne ?c_ne ?k_ne ?a_mi ?i_mi ?l_mi ?c_mi ?k_mi ?a_mp ?i_mp ?l_mp ?c_mp ?k_mp ?a_ml ?i_ml ?l_ml ?c_ml ?k_ml ?a_la ?l_la ?c_la ?k_la ?l_c ?v_11 ?hd_c ?n_t ?a_bi ?t_bi ?l_bi ?c_bi ?l_b ?v_b ?fi_b ?l_cc ?d_B ?m_B ?sV ?su_B ?opq ?top_s ?l_B ?r_B ?sa_B ?ex_B ?ty_B ?kp_B ?sb_B ?ga_B ?gg_B ?hd_B ?nu_B ?z_B ?z_len ?z_int ?z_list ?z_range ?z_abs ?z_sorted ?z_dict ?z_enumerate ?z_str ?z_max ?z_min ?z_set ?z_sum ?z_zip ?z_isinstance ?z_all ?z_bool ?z_tuple ?z_repr ?z_super ?z_letters ?z_digits ?z_C ?pg ?hd ?po ?sa ?mk ?kc ?nCo ?nNa ?nTi ?nWi
    (case z_C => k_is)
    (case z_B => k_is)
    (case a_isw => k_is)
    (case l_isw => k_is)
    (case c_isw => k_is)
    (case k_isw => k_is)
    (case a_isi => k_is)
    (case l_isi => k_is)
    (case c_isi => k_is)
    (case k_isi => k_is)
    (case a_isn => k_is)
    (case l_isn => k_is)
    (case c_isn => k_is)
    (case k_isn => k_is)
    (case a_ke => k_is)
    (case l_ke => k_is)
    (case c_ke => k_is)
    (case k_ke => k_is)
    (case a_po => k_is)
    (case l_po => k_is)
    (case c_po => k_is)
    (case k_po => k_is)
    (case a_nn => k_is)
    (case l_nn => k_is)
    (case c_nn => k_is)
    (case k_nn => k_is)
    (case a_lu => k_is)
    (case l_lu => k_is)
    (case c_lu => k_is)
    (case k_lu => k_is)
    (case a_ld => k_is)
    (case l_ld => k_is)
    (case c_ld => k_is)
    (case k_ld => k_is)
    (case a_nw => k_is)
    (case l_nw => k_is)
    (case c_nw => k_is)
    (case k_nw => k_is)
    (case a_no => k_is)
    (case l_no => k_is)
    (case c_no => k_is)
    (case k_no => k_is)
    (case a_np => k_is)
    (case l_np => k_is)
    (case c_np => k_is)
    (case k_np => k_is)
    (case a_ts => k_is)
    (case l_ts => k_is)
    (case c_ts => k_is)
    (case k_ts => k_is)
    (case a_nt => k_is)
    (case l_nt => k_is)
    (case c_nt => k_is)
    (case k_nt => k_is)
    (case a_ot => k_is)
    (case l_ot => k_is)
    (case c_ot => k_is)
    (case k_ot => k_is)
    (case a_oc => k_is)
    (case l_oc => k_is)
    (case c_oc => k_is)
    (case k_oc => k_is)
    (case a_pk => k_is)
    (case l_pk => k_is)
    (case c_pk => k_is)
    (case k_pk => k_is)
    (case a_ao => k_is)
    (case l_ao => k_is)
    (case c_ao => k_is)
    (case k_ao => k_is)
    (case a_ch => k_is)
    (case l_ch => k_is)
    (case c_ch => k_is)
    (case k_ch => k_is)
    (case a_sh => k_is)
    (case l_sh => k_is)
    (case c_sh => k_is)
    (case k_sh => k_is)
    (case a_dw => k_is)
    (case l_dw => k_is)
    (case c_dw => k_is)
    (case k_dw => k_is)
    (case a_ma => k_is)
    (case l_ma => k_is)
    (case c_ma => k_is)
    (case k_ma => k_is)
    (case a_wh => k_is)
    (case l_wh => k_is)
    (case c_wh => k_is)
    (case k_wh => k_is)
    (case a_pa => k_is)
    (case l_pa => k_is)
    (case c_pa => k_is)
    (case k_pa => k_is)
    (case a_se => k_is)
    (case l_se => k_is)
    (case c_se => k_is)
    (case k_se => k_is)
    (case a_ov => k_is)
    (case l_ov => k_is)
    (case c_ov => k_is)
    (case k_ov => k_is)
    (case a_co => k_is)
    (case l_co => k_is)
    (case c_co => k_is)
    (case k_co => k_is)
    (case a_di => k_is)
    (case l_di => k_is)
    (case c_di => k_is)
    (case k_di => k_is)
    (case a_ab => k_is)
    (case l_ab => k_is)
    (case c_ab => k_is)
    (case k_ab => k_is)
    (case a_lo => k_is)
    (case l_lo => k_is)
    (case c_lo => k_is)
    (case k_lo => k_is)
    (case a_ad => k_is)
    (case l_ad => k_is)
    (case c_ad => k_is)
    (case k_ad => k_is)
    (case a_ca => k_is)
    (case l_ca => k_is)
    (case c_ca => k_is)
    (case k_ca => k_is)
    (case a_nd => k_is)
    (case l_nd => k_is)
    (case c_nd => k_is)
    (case k_nd => k_is)
    (case a_dd => k_is)
    (case l_dd => k_is)
    (case c_dd => k_is)
    (case k_dd => k_is)
    (case a_ne => k_is)
    (case l_ne => k_is)
    (case c_ne => k_is)
    (case k_ne => k_is)
    (case a_mi => k_is)
    (case i_mi => k_is)
    (case l_mi => k_is)
    (case c_mi => k_is)
    (case k_mi => k_is)
    (case a_mp => k_is)
    (case i_mp => k_is)
    (case l_mp => k_is)
    (case c_mp => k_is)
    (case k_mp => k_is)
    (case a_ml => k_is)
    (case i_ml => k_is)
    (case l_ml => k_is)
    (case c_ml => k_is)
    (case k_ml => k_is)
    (case a_la => k_is)
    (case l_la => k_is)
    (case c_la => k_is)
    (case k_la => k_is)
    (case l_c => k_is)
    (case v_11 => rfl)
    (case hd_c => rfl)
    (case n_t => kernel_rfl)
    (case a_bi => k_is)
    (case t_bi => k_is)
    (case l_bi => k_is)
    (case c_bi => k_is)
    (case l_b => k_is)
    (case v_b => rfl)
    (case fi_b => decide +kernel)
    (case l_cc => k_is)
    (case d_B => k_is)
    (case m_B => k_is)
    (case sV => k_is)
    (case su_B => ks_is)
    (case opq => k_is)
    (case top_s => decide +kernel)
    (case l_B => k_is)
    (case r_B => decide +kernel)
    (case sa_B => k_is)
    (case ex_B => k_is)
    (case ty_B => k_is)
    (case kp_B => k_is)
    (case sb_B => k_is)
    (case ga_B => k_is)
    (case gg_B => k_is)
    (case hd_B => k_is)
    (case nu_B => k_is)
    (case z_len => k_is)
    (case z_int => k_is)
    (case z_list => k_is)
    (case z_range => k_is)
    (case z_abs => k_is)
    (case z_sorted => k_is)
    (case z_dict => k_is)
    (case z_enumerate => k_is)
    (case z_str => k_is)
    (case z_max => k_is)
    (case z_min => k_is)
    (case z_set => k_is)
    (case z_sum => k_is)
    (case z_zip => k_is)
    (case z_isinstance => k_is)
    (case z_all => k_is)
    (case z_bool => k_is)
    (case z_tuple => k_is)
    (case z_repr => k_is)
    (case z_super => k_is)
    (case z_letters => k_is)
    (case z_digits => k_is)
    (case pg => k_is)
    (case hd => k_is)
    (case po => k_is)
    (case sa => k_is)
    (case mk => k_is)
    (case kc => k_is)
    (case nCo => k_is)
    (case nNa => k_is)
    (case nTi => k_is)
    (case nWi => k_is)
