import PyProof.Rows.All
import Wide.All
import OpenK.AllK
import Wide.FinOn
import HandS.ForMost
import PySem.Challenge.RW_namelessly_k01_webs_made
import HandS.ExcInit
import HandS.ExcField
import HandS.FStr
import KE.KExcSuper
import HandS.Evl
import HandS.Style
import HandS.StrMore
import HandS.Sort
import HandS.SortRule
import HandS.Walk
import HandS.Conv
import HandS.Zip
import HandS.IsInst
import HandS.SetKeys
import HandS.Zip0
import KE.KDictZip
import HandS.DictComp
import OpenK.KOps
import HandS.DeepEq
import KE.KEqDict
import PyProof.CallFns
import PyProof.NeKinds
import PyProof.InstEq
import HandS.OwnEq
import HandS.Codes
import PyProof.ListNew
import KE.KExcInit
import HandS.Exc
import HandS.Dict
import PyProof.ReprHeads
import PyProof.FString4
import HandS.TupSets
import HandS.RaiseMore
import PyProof.ReprDict
import PyProof.ReprRoads
import PyProof.ReprHeadsEmpty
import HandS.EndTab
import HandS.EndOwn
import HandS.Lambda
import PyProof.EqAt
import KE.KeyNested
import KE.SortData
import HandS.SetTxt0
import HandS.Set
import HandS.Strs
import PyProof.Rows.SortShellAny
import HandS.SetFor
import HandS.Keys
import HandS.TryOnly
import PyProof.Rows.StrMeet
import KE.KIntText
import HandS.Text
import HandS.ListItems
import KE.KDictWalk
import KE.KDictCopyH
import HandS.Deep
import HandS.Defaults
import PyProof.DictUpdate
import KE.KDictList
import PyProof.Draws
import PyProof.EnumMake
import HandS.TryMany
import KE.GoesSet
import HandS.More
set_option Elab.async false
set_option autoImplicit true
set_option maxRecDepth 100000
set_option maxHeartbeats 4000000
/-! The text by places -/
namespace Nm
open PySem L2
def top (i : Nat) : Stmt := PySem.Challenge.pw_namelessly_k01_webs_made.main.body.getD i (.Pass ⟨0, 0, 0, 0⟩)
abbrev sIsWord : Stmt := top 3
abbrev sIsInteger : Stmt := top 4
abbrev sIsNumber : Stmt := top 5
abbrev sKept : Stmt := top 6
abbrev sBadNameInit : Stmt := inClass (top 9) 0
abbrev sTwiceToldInit : Stmt := inClass (top 10) 0
abbrev sBadTieInit : Stmt := inClass (top 11) 0
abbrev sBadNumberInit : Stmt := inClass (top 12) 0
abbrev sNeedWord : Stmt := top 16
abbrev sNeedOnce : Stmt := top 17
abbrev sNeedPlaces : Stmt := top 18
abbrev sTieSpot : Stmt := top 19
abbrev sNeedTies : Stmt := top 20
abbrev sOrderedTies : Stmt := top 21
abbrev sWebInit : Stmt := inClass (top 22) 0
abbrev sWebPlaces : Stmt := inClass (top 22) 1
abbrev sWebColour : Stmt := inClass (top 22) 2
abbrev sWebTies : Stmt := inClass (top 22) 3
abbrev sWebKinds : Stmt := inClass (top 22) 4
abbrev sWebColours : Stmt := inClass (top 22) 5
abbrev sWebHas : Stmt := inClass (top 22) 7
abbrev sWebLen : Stmt := inClass (top 22) 8
abbrev sPen : Stmt := top 24
abbrev sFresh : Stmt := top 25
abbrev sDraw : Stmt := top 26
abbrev sOneOf : Stmt := top 27
abbrev sWhole : Stmt := top 28
abbrev sOdd : Stmt := top 29
abbrev sLawIsWord : Stmt := top 30
abbrev sWords : Stmt := top 31
abbrev sRaw : Stmt := top 32
abbrev sTold : Stmt := top 33
abbrev sValue : Stmt := top 34
abbrev sTies : Stmt := top 35
abbrev sIs : Stmt := top 36
abbrev sNoWord : Stmt := top 37
abbrev sOutcome : Stmt := top 38
abbrev sTieDue : Stmt := top 39
abbrev sDueWay : Stmt := top 40
abbrev sSpoiltPlace : Stmt := top 41
abbrev sSpoiltTie : Stmt := top 42
abbrev sLaw : Stmt := top 43
end Nm
set_option autoImplicit true
set_option maxRecDepth 100000
set_option maxHeartbeats 4000000
/-! super().__init__(e) in the __init__ of an own exception over ValueError -/
namespace Nm
open PySem PySem.Spec PyProof.Rows L2
section
variable {X : Cx} {pins : List (Addr × Obj)} {σ : L2.St} {H : Hp} {s : Shared} {a C dx u : Addr} {fs : List (Str × V)} {E : Value → Shared → Prop} {A : Around}
/-- super().__init__, bound at u, called: nothing of it is told -/
theorem mw_call {us : List Value} {Q : Value → Shared → Prop} (T : OexC X.K C) (I : Inv X pins σ H s) (hu : s.heap.get? u = some (PySem.W.kxs_mw "ValueError.__init__" a)) (e : H a = some (exo a C (some dx))) (hl : us.length ≤ sizeLine)
    (h : ∀ s', Inv X pins σ H s' → Q .none s') : wpAny (model X.prog X.w) A (call (.ref u) us) Q E s := by
  obtain ⟨nm, q, N, bs, bm, sn, sub, ab, col, dd, k0, k1, k2, k3, k5, hC, hbm⟩ := T.cls
  obtain ⟨t1, ho⟩ := exo_at I.hok e
  have fin : ∀ h', (∀ b o, b ≠ a → s.heap.get? b = some o → h'.get? b = some o) → h'.get? a = some ({ cls := .ref C, dict := some dx, data := .fields #[.ref s.heap.objs.size, .none, .none, .none, .bool false, .none] } : Obj) → Inv X pins σ H { s with heap := h', toks := s.toks } := fun h' k e' => by
    have J := I.write (t' := s.toks) (x := a) (e := a) (o := exo a C (some dx)) (by rw [e]; exact True.intro) (.inl rfl) k ⟨_, e'⟩ (exo_ok e')
    have eu : upd H a (exo a C (some dx)) = H := by
      funext b
      by_cases hb : b = a
      · rw [hb, upd_same, e]
      · rw [upd_ne hb]
    rw [eu] at J
    exact J
  have hCC := I.kIn _ _ hC
  obtain ⟨hp, g, d, t, os⟩ := s
  refine wpAny_call (codeAny_of_tree ?_)
  show wpAny _ A.in1 (callAny (.ref u) ⟨us, []⟩) _ _ _
  simp only [callAny]
  refine wpAny_bind (wpAny_load hu ?_)
  simp only [PySem.W.kxs_mw, show (Value.type "method-wrapper" == Value.type "method" || Value.type "method-wrapper" == Value.type "builtin_function_or_method" || Value.type "method-wrapper" == Value.type "method-wrapper") = true by decide, if_true]
  refine PySem.W.KFB.if_so (by decide) ?_
  refine wpAny_bind (PySem.W.check_bound_init F.excBase_ValueError.toExcCallFacts hCC ho rfl ?_)
  refine wpAny_bind (wpAny_pure (wpAny_pure ?_))
  refine ⟨plainId_quiet F.excBase_ValueError.init.plain _, codeAny_builtin F.excBase_ValueError.initEntry ?_⟩
  exact PySem.W.exc_init_tree (cls := .ref C) (t0 := t1) (dv := some dx) (c2 := .none) (c3 := .none) (b4 := .bool false) ho hl fun h' k e' _ => h _ (fin h' k e')
end
/-- what the written part says of the class at C, its __init__ at f, the code at cda, the cell __class__ at cc -/
structure SupF (P : Program) (K : PySem.W.Frag) (C f cda cc : Addr) (fd : FuncData) (qual : Str) (st : Stmt) (a0 : Str) : Prop where
  oex : OexC K C
  lk : ∃ oc od kV doc pm an ct osl, fd = PySem.W.ksFn "__init__" qual (defArgs st) (defBody st) (defScope st) .none kV doc pm an (.ref cda) ct cc ∧ K.lookup f = some ⟨oc, od, .func fd, osl⟩
  hd : ∃ ar, ((defArgs st).posonlyargs ++ (defArgs st).args).head? = some ar ∧ ar.arg = a0
  code : ∃ ccl cdd vs ccs file tf, K.lookup cda = some ⟨ccl, cdd, .fields vs, ccs⟩ ∧ vs[2]? = some (.str file tf) ∧ ((P.main.file : Str) == file) = true
  recd : PySem.W.codeIn K (.ref cda) qual = true
  cell : ∃ cl cld csl, K.lookup cc = some ⟨cl, cld, .cell (some (.ref C)), csl⟩
  cd : ∃ cd, PySem.W.clsIn K C = some cd
  sub : PySem.W.mroIn K C (.ref C) = some true
  subV : PySem.W.subIn K (.ref C) (.type "ValueError") = some true
  sup : PySem.W.ks_superIn K C C "__init__" = some (some (.builtin "ValueError.__init__"))
  opq : PySem.W.nsIn K cStatics "thirdparty.any" = some none
  top : (P.main.scope.names.lookup ("super" : Str)).isSome = false
section
variable {X : Cx} {pins : List (Addr × Obj)} {σ : L2.St} {H : Hp} {s : Shared} {a C dx f cda cc L : Addr} {fd : FuncData} {qual a0 : Str} {st : Stmt}
/-- super().__init__(e ..), the code known -/
theorem sup_expr {body : List Stmt} {e : Expr} {es : List Expr} {ta : TA} {i : Nat} {p0 p1 p2 pos : Pos} {Q : Value → Shared → Prop} {pl : Sem Bool} (F : SupF X.prog X.K C f cda cc fd qual st a0)
    (hX : X.env = PySem.W.ksEnv qual (defScope st) L f (.ref cda) cc) (hms : X.mg "super" = none)
    (hks : (defScope st).names.lookup ("super" : Str) = some .globalImplicit) (hkc : (defScope st).names.lookup ("__class__" : Str) = some .free) (hN : X.N[i]? = some a0) (hka : (defScope st).names.lookup a0 = some .local) (ha : PA X (e :: es) ta)
    (I : Inv X pins σ H s) (hσ : σ[i]? = some (some (.ref a))) (hH : H a = some (exo a C (some dx)))
    (q : ta σ H fun vs H1 => vs.length ≤ 1000 ∧ H1 a = some (exo a C (some dx)) ∧ ∀ s', Inv X pins σ H1 s' → Q .none s')
    (he : starEach (e :: es) X.env = (false, eval e X.env) :: starEach es X.env := by rfl) (hpl : (backTo pos (starEach es X.env)).any (·.1) = false := by rfl)
    (hc : eval (.Call (.Attribute (.Call (.Name "super" p0) [] [] p1) "__init__" p2) (e :: es) [] pos) X.env = (do
      let ov ← attributeBase (.Call (.Name "super" p0) [] [] p1) "__init__" X.env (eval (.Call (.Name "super" p0) [] [] p1) X.env)
      standAt p2.atName
      let (f, first) ← holding [ov] (getMethod ov "__init__" pl)
      callWith pos f first (backTo pos (starEach (e :: es) X.env)) []) := by rfl) :
    _root_.PySem.wpAt (model X.prog X.w) X.A (.func body X.env) (eval (.Call (.Attribute (.Call (.Name "super" p0) [] [] p1) "__init__" p2) (e :: es) [] pos) X.env) Q X.xe s := by
  have KX := I.kIn
  obtain ⟨oc, od, kV, doc, pm, an, ct, osl, rfl, lk⟩ := F.lk
  obtain ⟨ar, har, hara⟩ := F.hd
  obtain ⟨ccl, cdd, vs, ccs, file, tf, hcode, hvs, hfile⟩ := F.code
  obtain ⟨cl, cld, csl, hcell⟩ := F.cell
  obtain ⟨cd, hcd⟩ := F.cd
  obtain ⟨oD, hD1, hD2⟩ : ∃ oD, s.heap.get? C = some oD ∧ oD.data = .cls cd := by
    unfold PySem.W.clsIn at hcd
    split at hcd
    · rename_i c d cd' sl ho
      cases hcd
      exact ⟨_, KX _ _ ho, rfl⟩
    · cases hcd
  obtain ⟨t1, ho⟩ := exo_at I.hok hH
  obtain ⟨mb, hmb, hmv⟩ := I.mod.blt
  have naC : a ≠ C := fun z => by
    rw [z, hD1] at ho
    cases ho
    cases hD2
  refine PySem.ks_wpAt_MethodCall (pl := pl) ?_ hc
  rw [hX]
  obtain ⟨hp, g, d, t, os⟩ := s
  refine PySem.ks_wpAt_super_base (env := PySem.W.ksEnv qual (defScope st) L f (.ref cda) cc) hks hkc (by decide) rfl (KX _ _ lk) rfl har rfl (KX _ _ hcode) rfl hvs hfile F.top ?_
  have hk : (defScope st).kind = .function := by
    have z := I.ok.kind
    rw [hX] at z
    exact z
  refine PySem.W.ks_loadName_global (env := PySem.W.ksEnv qual (defScope st) L f (.ref cda) cc) hk hks (PySem.Calls.loadGlobal_builtin (env := PySem.W.ksEnv qual (defScope st) L f (.ref cda) cc) (I.mod.glob.keeps I.bk) hms (hmb.keeps I.bk) ((hmv _ (by decide)).trans PyProof.Rows.Boot.«super») ⟨rfl, ?_⟩)
  refine wpAny_loadName_free (env := PySem.W.ksEnv qual (defScope st) L f (.ref cda) cc) hk hkc rfl ⟨_, KX _ _ hcell, rfl⟩ ?_
  obtain ⟨m, hn, hl⟩ := I.loc
  obtain ⟨u0, r0, l0⟩ := hl i a0 (.ref a) hN hσ (by rw [hX]; exact .inl hka)
  obtain rfl : u0 = Value.ref a := r0
  rw [hX] at l0 hn
  have hm0 : m a0 = some (.ref a) := by
    rcases l0 with ⟨_, z⟩ | ⟨z, _⟩
    · exact z
    · have z' : (defScope st).names.lookup a0 = some .cell ∨ (defScope st).names.lookup a0 = some .free := z
      rw [hka] at z'
      rcases z' with z' | z' <;> cases z'
  rw [hara]
  refine wpAny_loadName_local (env := PySem.W.ksEnv qual (defScope st) L f (.ref cda) cc) hk hka hn hm0 ?_
  refine PySem.ks_wpAny_isType_cls hD1 hD2 ⟨rfl, ?_⟩
  refine PySem.ks_wpAny_call_super hD1 hD2 ho rfl (fun c z => by cases z) (PySem.W.looks_mroIn KX F.sub) (fun h' e' k => ?_)
  have I1 : Inv X pins σ H ⟨h', g, d, t, os⟩ := I.kept (t' := t) k
  have KX1 := I1.kIn
  have ho1 := k _ _ ho
  have LT : PySem.W.Looks (model X.prog X.w) h' (typeOf (.ref a)) (.ref C) := fun A Q E s k q => wpAny_typeOf_ref (k _ _ ho1) q
  have hfs := F.sup
  unfold PySem.W.ks_superIn at hfs
  rw [hcd] at hfs
  refine PySem.W.kxs_getMethod PySem.W.kxs_ValueError e' (PySem.W.looks_opaque KX1 F.opq) (l₀ := cd.mro) (fun A Q E s k q => wpAny_bind ((PySem.W.looks_clsIn KX1 hcd) A _ E s k (wpAny_pure q))) rfl KX1 hfs (LT.andThen (PySem.W.looks_subIn KX1 F.subV)) naC (by decide) ?_
  have I2 : Inv X pins σ H ⟨h'.push (PySem.W.kxs_mw "ValueError.__init__" a), g, d, t + 1, os⟩ := I1.kept (t' := t + 1) fun b o z => Heap.get?_push_of_some _ z
  have I3 : Inv X ((h'.objs.size, PySem.W.kxs_mw "ValueError.__init__" a) :: pins) σ H ⟨h'.push (PySem.W.kxs_mw "ValueError.__init__" a), g, d, t + 1, os⟩ := I2.pins_of fun p hp => by
    rcases List.mem_cons.mp hp with z | z
    · subst z
      exact ⟨Heap.get?_push_at rfl rfl, I1.hok.fresh (Nat.le_refl _), Nat.ne_of_gt I1.lt, I1.nofs (Nat.le_refl _), fun v z => by cases z⟩
    · exact I2.pin p (List.mem_append_right _ z)
  show wpAny _ _ (callWith pos (.ref h'.objs.size) [] (backTo pos (starEach (e :: es) (PySem.W.ksEnv qual (defScope st) L f (.ref cda) cc))) []) _ _ _
  rw [← hX]
  have HA : wpAny (model X.prog X.w) X.A (spliced (backTo pos (starEach (e :: es) X.env))) (fun us s1 => PySem.W.KxsAt "ValueError.__init__" h'.objs.size a s1.heap ∧ wpAny (model X.prog X.w) X.A (call (.ref h'.objs.size) us) Q X.xe s1) X.xe ⟨h'.push (PySem.W.kxs_mw "ValueError.__init__" a), g, d, t + 1, os⟩ := by
    refine thn (ha.run pos _ _ σ H _ I3 q) fun us s1 hs1 => ?_
    obtain ⟨vs, H1, I4, r, hl1, hH1, kq⟩ := hs1
    have pu := (I4.pin (h'.objs.size, PySem.W.kxs_mw "ValueError.__init__" a) (List.mem_append_right _ List.mem_cons_self)).1
    exact ⟨pu, mw_call F.oex I4 pu hH1 (by rw [← Paired.length r, sizeLine_eq]; omega) fun s' J => kq s' (J.pins_of fun p hp => J.pin p (List.mem_append_right _ (List.mem_cons_of_mem _ hp)))⟩
  rw [he] at HA ⊢
  refine PySem.W.kxs_callWith (i := "ValueError.__init__") (x := a) (by show (false || (backTo pos (starEach es X.env)).any (·.1)) = false; rw [hpl]; rfl) ?_
  exact PySem.Calls.evalArgs_plain HA
end
/-- the context of such an __init__ -/
def supCx (P : Program) (w : World) (K : PySem.W.Frag) (mg : Str → Option Value) (base : Heap) (N : List Str) (qual : Str) (scope : Scope) (f cda cc : Addr) (A : Around) (outer : List Env) (s : Shared) (H : Hp) (E : XK) : Cx where
  prog := P
  w := w
  K := K
  mg := mg
  base := base
  A := A.deeper (PySem.W.ksEnv qual scope s.heap.objs.size f (.ref cda) cc)
  N := N
  s_0 := s
  H_0 := H
  env := PySem.W.ksEnv qual scope s.heap.objs.size f (.ref cda) cc
  outer := outer
  stack := PySem.W.ksEnv qual scope s.heap.objs.size f (.ref cda) cc :: outer
  ex := []
  fn := fun _ => false
  calm := true
  pn := []
  xe := fun e s' => wpAny (model P w) (A.deeper (PySem.W.ksEnv qual scope s.heap.objs.size f (.ref cda) cc)) (leaving (PySem.W.ksEnv qual scope s.heap.objs.size f (.ref cda) cc) e) (fun _ s'' => CX0 outer H s E e s'') (fun e' s'' => CX0 outer H s E e' s'') s'
/-- what such an __init__'s scope must be -/
structure SupS (p0 p1 : Str) (sc : Scope) : Prop where
  kind : sc.kind = .function
  co : sc.isCoroutine = false
  gen : sc.isGenerator = false
  ne : p0 ≠ p1
  l0 : sc.names.lookup p0 = some .local
  l1 : sc.names.lookup p1 = some .local
  nocell : ∀ x ∈ sc.names, x.2 ≠ .cell
  free : ∀ x ∈ sc.names, x.2 = .free → x.1 = ("__class__" : Str)
  sup : sc.names.lookup ("super" : Str) = some .globalImplicit
  cls : sc.names.lookup ("__class__" : Str) = some .free
section
variable {P : Program} {w : World} {K : PySem.W.Frag} {mg : Str → Option Value} {base : Heap} {A : Around} {outer : List Env} {s : Shared} {H : Hp} {E : XK} {C f cda cc : Addr} {fd : FuncData} {qual p0 p1 : Str} {st : Stmt}
theorem sup_start {h₁ : Heap} {tk : Nat} {x0 x1 : V} {u0 u1 : Value} (S : SupS p0 p1 (defScope st)) (hd : A.handled = none) (e0 : Env0 P w K mg base A outer s H) (hc : ∃ cl cld csl, K.lookup cc = some ⟨cl, cld, .cell (some (.ref C)), csl⟩) (r0 : RelV x0 u0) (r1 : RelV x1 u1)
    (hns : h₁.Ns s.heap.objs.size fun x => [(p0, u0), (p1, u1)].reverse.lookup x) (hk : ∀ b o, s.heap.get? b = some o → h₁.get? b = some o) :
    Inv (supCx P w K mg base [p0, p1] qual (defScope st) f cda cc A outer s H E) [] (start [p0, p1] [x0, x1]) H { s with heap := h₁, toks := tk } := by
  obtain ⟨cl, cld, csl, hcell⟩ := hc
  have hbc := e0.bs _ _ (e0.mod.kin _ _ hcell)
  have noA : ∀ b : Addr, b ∉ (supCx P w K mg base [p0, p1] qual (defScope st) f cda cc A outer s H E).ex := fun b z => absurd (show b ∈ ([] : List Addr) from z) (by simp)
  have cl1 : ∀ {y : Str} {c : Addr}, List.lookup y [(("__class__" : Str), cc)] = some c → y = "__class__" ∧ c = cc := fun {y c} e => by
    have hm := PySem.mem_of_lookup e
    rw [List.mem_singleton] at hm
    cases hm
    exact ⟨rfl, rfl⟩
  refine ⟨⟨e0.mod, S.kind, rfl, rfl, Nat.le_refl _, fun y z c h1 h2 => ?_, fun y hy => ?_, fun y c z _ => (Bool.false_ne_true z).elim, fun _ => hd, Around.frames_deeper e0.frames, .inr ⟨rfl, rfl⟩, fun b z => absurd z (noA b), e0.bs, e0.bsz, fun b _ _ => noA b, fun b z => absurd z (noA b), e0.funs, e0.frf⟩,
    rfl, e0.bare, Un.kept hk, ⟨_, hns, fun i y v h1 h2 h3 => ?_⟩, fun y c h => ?_, e0.hok.fresh (Nat.le_refl _), fun y c h => ?_, fun p hp => absurd (show p ∈ ([] : List (Addr × Obj)) from hp) (by simp), e0.hok.kept hk, rfl⟩
  · exact (cl1 h1).1.trans (cl1 h2).1.symm
  · have hy : (defScope st).names.lookup y = some .cell ∨ (defScope st).names.lookup y = some .free := hy
    rcases hy with hy | hy
    · exact absurd rfl (S.nocell _ (PySem.mem_of_lookup hy))
    · have := S.free _ (PySem.mem_of_lookup hy) rfl
      obtain rfl : y = "__class__" := this
      exact ⟨cc, rfl⟩
  · have h1 : ([p0, p1] : List Str)[i]? = some y := h1
    have h2 : ([some x0, some x1] : List (Option V))[i]? = some (some v) := h2
    have n01 := S.ne
    match i, h1, h2 with
    | 0, h1, h2 =>
      cases h1
      cases h2
      exact ⟨u0, r0, .inl ⟨S.l0, by simp [List.lookup, (show (p0 == p1) = false from by simpa using n01)]⟩⟩
    | 1, h1, h2 =>
      cases h1
      cases h2
      exact ⟨u1, r1, .inl ⟨S.l1, by simp [List.lookup]⟩⟩
    | (n + 2), h1, h2 => simp at h1
  · obtain ⟨_, rfl⟩ := cl1 h
    exact ⟨_, _, hk _ _ hbc.1, rfl⟩
  · obtain ⟨_, rfl⟩ := cl1 h
    exact hbc.2
/-- THE RULE: def __init__(p0, p1): one statement; super().__init__(e ..) -/
theorem sup_def {sp : Sp} {k : Nat} {s1 : Stmt} {e : Expr} {es : List Expr} {q0 q1 q2 q3 q4 : Pos} (F : SupF P K C f cda cc fd qual st p0) (S : SupS p0 p1 (defScope st)) (hms : mg "super" = none)
    (hb : defBody st = [s1, .Expr (.Call (.Attribute (.Call (.Name "super" q0) [] [] q1) "__init__" q2) (e :: es) [] q3) q4]) (len : ∀ vs H Q E, sp vs H Q E → vs.length = 2)
    (hbody : ∀ (A : Around) (outer : List Env) (s : Shared) (H : Hp) (vs : List V) (Q : VK) (E : XK), Room k (A.deeper (PySem.W.ksEnv qual (defScope st) s.heap.objs.size f (.ref cda) cc)) → sp vs H Q E →
      ∃ (a : Addr) (t : TS) (ta : TA), PS (supCx P w K mg base [p0, p1] qual (defScope st) f cda cc A outer s H E) s1 t ∧ PA (supCx P w K mg base [p0, p1] qual (defScope st) f cda cc A outer s H E) (e :: es) ta ∧
        t { nx := fun σ H' => σ[0]? = some (some (.ref a)) ∧ ∃ dx, H' a = some (exo a C (some dx)) ∧ ∀ R : List V → Hp → Prop, (∀ vs H1, vs.length ≤ 1000 → H1 a = some (exo a C (some dx)) → Q .non H1 → R vs H1) → ta σ H' R, rt := fun _ _ => False } (start [p0, p1] vs) H)
    (hsw : ∀ env : Env, swapsWith (.Call (.Attribute (.Call (.Name "super" q0) [] [] q1) "__init__" q2) (e :: es) [] q3) none q4.line env = pure false := by intro env; rfl)
    {pl : Sem Bool} (he : ∀ env : Env, starEach (e :: es) env = (false, eval e env) :: starEach es env := by intro env; rfl) (hpl : ∀ env : Env, (backTo q3 (starEach es env)).any (·.1) = false := by intro env; rfl)
    (hc : ∀ env : Env, eval (.Call (.Attribute (.Call (.Name "super" q0) [] [] q1) "__init__" q2) (e :: es) [] q3) env = (do
      let ov ← attributeBase (.Call (.Name "super" q0) [] [] q1) "__init__" env (eval (.Call (.Name "super" q0) [] [] q1) env)
      standAt q2.atName
      let (f, first) ← holding [ov] (getMethod ov "__init__" pl)
      callWith q3 f first (backTo q3 (starEach (e :: es) env)) []) := by intro env; rfl) : FnOk P w K mg base CX0 (k + 1) f fd [p0, p1] sp := by
  refine ⟨len, fun A outer s H args us vs Q E hr e0 hbd r hsp => ?_⟩
  have F' := F
  obtain ⟨oc, od, kV, doc, pm, an, ct, osl, rfl, lk⟩ := F'.lk
  have KX : K.In s.heap := e0.mod.kin.keeps fun b o e => (e0.bs b o e).1
  have lim : s.heap.NoLimit := e0.mod.nolimit.keeps fun b o e => (e0.bs b o e).1
  have hl2 := len _ _ _ _ hsp
  obtain ⟨a, t, ta, h1, h2, hq⟩ := hbody A outer s H vs Q E (hr.deeper _) hsp
  match vs, us, r, hl2 with
  | [x0, x1], [u0, u1], .cons r0 (.cons r1 .nil), _ =>
    refine PySem.ks_codeAny_call_defAt (binds := [(p0, u0), (p1, u1)]) hr.depth (KX _ _ lk) rfl lim (PySem.W.codeRec_of KX F.recd) rfl hbd S.nocell (fun x hx => ?_) (fun h₁ hns hk₁ => ?_) S.co S.gen S.kind
    · rcases List.mem_cons.mp hx with z | z
      · subst z
        exact S.l0
      · rw [List.mem_singleton] at z
        subst z
        exact S.l1
    · have I := sup_start (qual := qual) (f := f) (cda := cda) (E := E) (tk := s.toks + 2) S hr.hd e0 F.cell r0 r1 hns hk₁
      have hrun := h1.run [] _ _ H _ I hq
      show _root_.PySem.wpAt (model P w) (A.deeper (PySem.W.ksEnv qual (defScope st) s.heap.objs.size f (.ref cda) cc)) (.func (defBody st) (PySem.W.ksEnv qual (defScope st) s.heap.objs.size f (.ref cda) cc)) (execs (defBody st) (PySem.W.ksEnv qual (defScope st) s.heap.objs.size f (.ref cda) cc)) _ _ _
      generalize defBody st = bd at hb ⊢
      rw [show execs bd (PySem.W.ksEnv qual (defScope st) s.heap.objs.size f (.ref cda) cc) = execs [s1, .Expr (.Call (.Attribute (.Call (.Name "super" q0) [] [] q1) "__init__" q2) (e :: es) [] q3) q4] (PySem.W.ksEnv qual (defScope st) s.heap.objs.size f (.ref cda) cc) from by rw [hb]]
      refine PySem.ks_wpAt_execs_cons (PySem.wpAt_of_wpAny (wpAny_mono hrun (fun fl s' hs => ?_) fun e s' hs => hs))
      cases fl with
      | next =>
        obtain ⟨σ', H', J, hσ, dx, hH, hta⟩ := hs
        refine PySem.ks_wpAt_execs_cons (PySem.ks_wpAt_Expr_any (sup_expr (pl := pl) F rfl hms S.sup S.cls (i := 0) rfl S.l0 h2 J hσ hH (hta _ fun vs H1 hl hH1 q => ⟨hl, hH1, fun s2 J2 => ?_⟩) (he _) (hpl _) (hc _)) (hi := J.quiet) (hs := hsw _))
        exact PySem.wpAt_of_wpAny (wpAny_execs_nil ⟨.non, H1, J2.os, J2.bare, J2.base, J2.hok, rfl, q⟩)
      | brk =>
        obtain ⟨_, _, _, z⟩ := hs
        exact False.elim z
      | cont =>
        obtain ⟨_, _, _, z⟩ := hs
        exact False.elim z
      | ret u =>
        obtain ⟨_, _, _, _, _, z⟩ := hs
        exact False.elim z
end
end Nm
set_option autoImplicit true
set_option maxRecDepth 100000
set_option maxHeartbeats 4000000
namespace Nm
open PySem L2
/-! ### the source of draws -/
def srcD (c : Addr) (left mixed turn : Int) : List (Key × V) :=
  [(Sum.inr "cells", V.ref c), (Sum.inr "left", V.int left), (Sum.inr "mixed", V.int mixed), (Sum.inr "turn", V.int turn)]
structure SrcOk (H : Hp) (s c : Addr) (cs : List Int) (left mixed turn : Int) : Prop where
  ds : H s = some (.dK (srcD c left mixed turn))
  dc : H c = some (.lst (cs.map V.int))
  nn : ∀ x ∈ cs, 0 ≤ x
  len : cs.length ≤ 63
  l0 : 0 ≤ left
  m0 : 0 ≤ mixed
  m1 : mixed < 2147483629
  t0 : 0 ≤ turn
def Src (H : Hp) (s c : Addr) : Prop := ∃ cs left mixed turn, SrcOk H s c cs left mixed turn
/-- all but the source stays -/
def Kp (s c : Addr) (H H' : Hp) : Prop := ∀ b o, H b = some o → b ≠ s → b ≠ c → H' b = some o
theorem Kp.refl {s c : Addr} (H : Hp) : Kp s c H H := fun _ _ h _ _ => h
theorem Kp.trans {s c : Addr} {H H1 H2 : Hp} (a : Kp s c H H1) (b : Kp s c H1 H2) : Kp s c H H2 := fun x o h h1 h2 => b x o (a x o h h1 h2) h1 h2
theorem Kp.same {s c : Addr} {H H1 : Hp} (a : Same H H1) : Kp s c H H1 := fun x o h _ _ => a x o h
theorem Kp.new {s c : Addr} {H H1 : Hp} (a : Kp s c H H1) {p : Addr} {o : HO} (h : H1 p = none) : Kp s c H (upd H1 p o) := fun x u e h1 h2 => by
  have := a x u e h1 h2
  rw [upd_ne (ne_of_none this h)]
  exact this
theorem Src.upd {H : Hp} {s c p : Addr} {o : HO} (S : Src H s c) (h1 : p ≠ s) (h2 : p ≠ c) : Src (upd H p o) s c := by
  obtain ⟨cs, l, m, t, S⟩ := S
  exact ⟨cs, l, m, t, ⟨by rw [upd_ne h1.symm]; exact S.ds, by rw [upd_ne h2.symm]; exact S.dc, S.nn, S.len, S.l0, S.m0, S.m1, S.t0⟩⟩
theorem Src.same {H H' : Hp} {s c : Addr} (S : Src H s c) (e : Same H H') : Src H' s c := by
  obtain ⟨cs, l, m, t, S⟩ := S
  exact ⟨cs, l, m, t, ⟨e _ _ S.ds, e _ _ S.dc, S.nn, S.len, S.l0, S.m0, S.m1, S.t0⟩⟩
theorem Src.ne {H : Hp} {s c p : Addr} (S : Src H s c) (h : H p = none) : p ≠ s ∧ p ≠ c := by
  obtain ⟨cs, l, m, t, S⟩ := S
  exact ⟨(ne_of_none S.ds h).symm, (ne_of_none S.dc h).symm⟩
theorem Src.new {H : Hp} {s c p : Addr} {o : HO} (S : Src H s c) (h : H p = none) : Src (L2.upd H p o) s c := S.upd (S.ne h).1 (S.ne h).2
theorem tyes {σ : St} {H : Hp} {A B : Hp → Prop} (h : A H) : tYes σ H (fun b H3 => if b = true then A H3 else B H3) := by
  show (if true = true then A H else B H)
  rw [if_pos rfl]
  exact h
/-- what is new since H, and stays where only the source changes -/
theorem Kp.off {H H1 : Hp} {s c p : Addr} {o : HO} (a : Kp s c H H1) (h : H p = none) : Kp s c H (L2.upd H1 p o) := fun b u e h1 h2 => by
  rw [upd_ne (ne_of_none e h)]
  exact a b u e h1 h2
theorem Kp.free {H H1 : Hp} {s c p : Addr} (a : Kp s c H H1) (S : Src H1 s c) (h : H1 p = none) : H p = none := by
  cases q : H p with
  | none => rfl
  | some o =>
    obtain ⟨n1, n2⟩ := S.ne h
    rw [a p o q n1 n2] at h
    cases h
theorem same_new {H : Hp} {p : Addr} {o : HO} (h : H p = none) : Same H (upd H p o) := fun x u e => by
  rw [upd_ne (ne_of_none e h)]
  exact e
theorem k1 : ¬ (("cells" : Str) = "left") := by decide +kernel
theorem k2 : ¬ (("cells" : Str) = "mixed") := by decide +kernel
theorem k3 : ¬ (("cells" : Str) = "turn") := by decide +kernel
theorem k4 : ¬ (("left" : Str) = "mixed") := by decide +kernel
theorem k5 : ¬ (("left" : Str) = "turn") := by decide +kernel
theorem k6 : ¬ (("mixed" : Str) = "turn") := by decide +kernel
section
variable {c : Addr} {l m t : Int}
end
/-! ### _law_pick -/
structure TxtA (mg : Str → Option Value) : Prop where
  len : mg "len" = none
  int : mg "int" = none
section
variable {P : Program} {w : World} {K : PySem.W.Frag} {mg : Str → Option Value} {base : Heap}
end
end Nm
set_option autoImplicit true
set_option maxRecDepth 100000
set_option maxHeartbeats 4000000
namespace Nm
open PySem L2
structure TxtB (mg : Str → Option Value) : Prop extends TxtA mg where
  list : mg "list" = none
  range : mg "range" = none
  abs : mg "abs" = none
/-- a def that stands under a name of the module, with its promise -/
structure Def (P : Program) (w : World) (K : PySem.W.Frag) (mg : Str → Option Value) (base : Heap) (x : Str) (ps : List Str) (k : Nat) (sp : Sp) : Prop where
  ex : ∃ f fd, FnOk P w K mg base CX0 k f fd ps sp ∧ mg x = some (.ref f) ∧ PySem.W.keepIn K (.ref f) = true ∧ Binds K fd ps []
section
variable {P : Program} {w : World} {K : PySem.W.Frag} {mg : Str → Option Value} {base : Heap}
theorem erase_perm {α : Type} {y : α} : ∀ {zs : List α} {i : Nat}, zs[i]? = some y → ([y] ++ zs.eraseIdx i).Perm zs
  | z :: zs, 0, h => by
    simp at h
    subst h
    exact List.Perm.refl _
  | z :: zs, i + 1, h => by
    simp at h
    have := erase_perm (zs := zs) (i := i) h
    show (y :: z :: zs.eraseIdx i).Perm (z :: zs)
    exact (List.Perm.swap z y _).trans (this.cons z)
/-! ### _law_any_order -/
end
end Nm
set_option autoImplicit true
set_option maxRecDepth 100000
set_option maxHeartbeats 4000000
/-! Rules that the layer lacks -/
namespace Nm
open PySem PySem.Spec PyProof.Rows L2
section
variable {X : Cx}
end
end Nm
set_option autoImplicit true
set_option maxRecDepth 100000
set_option maxHeartbeats 4000000
namespace Nm
open PySem L2
theorem Kp.seq {K : PySem.W.Frag} {s c a : Addr} {H H' : Hp} {xs : List V} (e : Kp s c H H') (h1 : a ≠ s) (h2 : a ≠ c) (h : SqL K H a xs) : SqL K H' a xs := by
  rcases h with (h | ⟨o, h⟩) | h
  · exact .inl (.inl (e _ _ h h1 h2))
  · exact .inl (.inr ⟨o, e _ _ h h1 h2⟩)
  · exact .inr h
section
variable {P : Program} {w : World} {K : PySem.W.Frag} {mg : Str → Option Value} {base : Heap}
/-! ### _law_choice_of -/
/-! ### _law_open_cells -/
end
end Nm
set_option autoImplicit true
set_option maxRecDepth 100000
set_option maxHeartbeats 4000000
namespace Nm
open PySem L2
/-- each of xs is a pair of numbers i < j below n -/
def PairsAt (n : Int) (H : Hp) (xs : List V) : Prop := ∀ v ∈ xs, ∃ t i j, v = V.ref t ∧ H t = some (.tup [.int i, .int j]) ∧ 0 ≤ i ∧ i < j ∧ j < n
theorem PairsAt.same {n : Int} {H H' : Hp} {xs : List V} (h : PairsAt n H xs) (e : Same H H') : PairsAt n H' xs := fun v hv => by
  obtain ⟨t, i, j, a, b, c⟩ := h v hv
  exact ⟨t, i, j, a, e _ _ b, c⟩
theorem PairsAt.kp {n : Int} {H H' : Hp} {xs : List V} {s c : Addr} (h : PairsAt n H xs) (S : Src H s c) (e : Kp s c H H') : PairsAt n H' xs := fun v hv => by
  obtain ⟨t, i, j, a, b, r⟩ := h v hv
  obtain ⟨cs, l, m, tt, S⟩ := S
  exact ⟨t, i, j, a, e _ _ b (ne_of b S.ds (by intro z; cases z)) (ne_of b S.dc (by intro z; cases z)), r⟩
theorem PairsAt.snoc {n : Int} {H : Hp} {xs : List V} {t : Addr} {i j : Int} (h : PairsAt n H xs) (e : H t = some (.tup [.int i, .int j])) (h0 : 0 ≤ i) (h1 : i < j) (h2 : j < n) : PairsAt n H (xs ++ [.ref t]) := fun v hv => by
  rcases List.mem_append.mp hv with q | q
  · exact h v q
  · rw [List.mem_singleton] at q
    exact ⟨t, i, j, q, e, h0, h1, h2⟩
theorem PairsAt.sub {n : Int} {H : Hp} {xs ys : List V} (h : PairsAt n H xs) (e : ∀ v ∈ ys, v ∈ xs) : PairsAt n H ys := fun v hv => h v (e v hv)
section
variable {P : Program} {w : World} {K : PySem.W.Frag} {mg : Str → Option Value} {base : Heap}
/-! ### _law_shape_pairs -/
end
end Nm
set_option autoImplicit true
set_option maxRecDepth 100000
set_option maxHeartbeats 4000000
namespace Nm
open PySem L2
theorem nx {H : Hp} {p q : Addr} {o : HO} (h : upd H p o q = none) : q ≠ p ∧ H q = none := by
  by_cases e : q = p
  · subst e; rw [upd_same] at h; cases h
  · rw [upd_ne e] at h; exact ⟨e, h⟩
theorem cut_upto (xs : List V) (n : Nat) : cutV xs none (some (n : Int)) = xs.take n := by
  unfold cutV
  have e1 : HT.sIx xs.length 0 none = 0 := rfl
  have e2 : HT.sIx xs.length xs.length (some (n : Int)) = min n xs.length := by
    unfold HT.sIx
    simp
    try omega
  rw [e1, e2]
  simp
section
variable {κ : Type} [DecidableEq κ]
theorem keys_put (kvs : List (κ × V)) (k : κ) (v : V) : (putK kvs k v).map (·.1) = if k ∈ kvs.map (·.1) then kvs.map (·.1) else kvs.map (·.1) ++ [k] := by
  unfold putK
  by_cases h : (kvs.any fun kv => decide (kv.1 = k)) = true
  · have hm : k ∈ kvs.map (·.1) := by
      obtain ⟨kv, h1, h2⟩ := List.any_eq_true.mp h
      exact List.mem_map.mpr ⟨kv, h1, of_decide_eq_true h2⟩
    rw [if_pos h, if_pos hm, List.map_map]
    refine List.map_congr_left fun kv _ => ?_
    show (if kv.1 = k then (kv.1, v) else kv).1 = kv.1
    split <;> rfl
  · have hm : ¬ k ∈ kvs.map (·.1) := fun hm => by
      obtain ⟨kv, h1, h2⟩ := List.mem_map.mp hm
      exact h (List.any_eq_true.mpr ⟨kv, h1, decide_eq_true h2⟩)
    rw [if_neg h, if_neg hm, List.map_append]
    rfl
theorem val_of_mem : ∀ {kvs : List (κ × V)} {k : κ} {v : V}, (kvs.map (·.1)).Nodup → (k, v) ∈ kvs → valV kvs k = some v
  | kv :: r, k, v, nd, h => by
    rw [List.map_cons, List.nodup_cons] at nd
    rcases List.mem_cons.mp h with e | e
    · subst e
      exact valV_pos rfl
    · have hne : ¬ kv.1 = k := fun z => nd.1 (z ▸ List.mem_map.mpr ⟨(k, v), e, rfl⟩)
      rw [valV_neg hne]
      exact val_of_mem nd.2 e
theorem nodup_put {kvs : List (κ × V)} (k : κ) (v : V) (h : (kvs.map (·.1)).Nodup) : ((putK kvs k v).map (·.1)).Nodup := by
  rw [keys_put]
  split
  · exact h
  · rename_i hn
    rw [List.nodup_append]
    refine ⟨h, by simp, fun a ha b hb => ?_⟩
    rw [List.mem_singleton] at hb
    subst hb
    exact fun e => hn (e ▸ ha)
theorem mem_put {kvs : List (κ × V)} {k : κ} {v : V} {p : κ × V} (h : p ∈ putK kvs k v) : p = (k, v) ∨ (p ∈ kvs ∧ p.1 ≠ k) := by
  unfold putK at h
  by_cases h0 : (kvs.any fun kv => decide (kv.1 = k)) = true
  · rw [if_pos h0] at h
    obtain ⟨kv, h1, h2⟩ := List.mem_map.mp h
    by_cases e : kv.1 = k
    · rw [if_pos e] at h2
      left
      rw [← h2, e]
    · rw [if_neg e] at h2
      right
      subst h2
      exact ⟨h1, e⟩
  · rw [if_neg h0] at h
    rcases List.mem_append.mp h with q | q
    · right
      refine ⟨q, fun e => h0 (List.any_eq_true.mpr ⟨p, q, decide_eq_true e⟩)⟩
    · left
      exact List.mem_singleton.mp q
end
end Nm
set_option autoImplicit true
set_option maxRecDepth 100000
set_option maxHeartbeats 4000000
namespace Nm
open PySem L2
/-! ### words, ties, worlds -/
def letB (z : Str) : Str := Txt.rstripChars z "0123456789"
def isWordB (z : Str) : Bool := decide (z.length ≤ 100) && decide (1 ≤ (letB z).length) && decide ((letB z).length ≤ 8) && decide (z.length ≤ (letB z).length + 4) && (letB z).cps.toList.all (fun c => decide (c ∈ ("abcdefghijklmnopqrstuvwxyz" : Str).cps.toList))
def TieK (n : Nat) (k : List Key) : Prop := ∃ (i j : Nat) (kd : Str), k = [Sum.inl (i : Int), Sum.inl (j : Int), Sum.inr kd] ∧ i < j ∧ j < n ∧ isWordB kd = true
structure Ties (n m : Nat) (kvs : List (List Key × V)) : Prop where
  key : ∀ kv ∈ kvs, TieK n kv.1
  val : ∀ kv ∈ kvs, ∃ x : Nat, kv.2 = V.int (x : Int) ∧ 1 ≤ x ∧ x ≤ m
  nd : (kvs.map (·.1)).Nodup
theorem Ties.nil (n m : Nat) : Ties n m [] := ⟨fun _ h => (List.not_mem_nil h).elim, fun _ h => (List.not_mem_nil h).elim, List.nodup_nil⟩
theorem Ties.put {n m : Nat} {kvs : List (List Key × V)} (h : Ties n m kvs) {k : List Key} {x : Nat} (hk : TieK n k) (h1 : 1 ≤ x) (h2 : x ≤ m) : Ties n m (putK kvs k (V.int (x : Int))) := by
  refine ⟨fun kv hm => ?_, fun kv hm => ?_, nodup_put _ _ h.nd⟩
  · rcases mem_put hm with e | e
    · rw [e]; exact hk
    · exact h.key kv e.1
  · rcases mem_put hm with e | e
    · rw [e]; exact ⟨x, rfl, h1, h2⟩
    · exact h.val kv e.1
/-- all but the source and one thing more stays -/
def Kp3 (s c t : Addr) (H H' : Hp) : Prop := ∀ b o, H b = some o → b ≠ s → b ≠ c → b ≠ t → H' b = some o
theorem Kp3.refl {s c t : Addr} (H : Hp) : Kp3 s c t H H := fun _ _ h _ _ _ => h
theorem Kp3.kp {s c t : Addr} {H H1 H2 : Hp} (a : Kp3 s c t H H1) (b : Kp s c H1 H2) : Kp3 s c t H H2 := fun x o h h1 h2 h3 => b x o (a x o h h1 h2 h3) h1 h2
theorem Kp3.off {s c t : Addr} {H H1 : Hp} {p : Addr} {o : HO} (a : Kp3 s c t H H1) (h : H1 p = none) : Kp3 s c t H (upd H1 p o) := fun x u e h1 h2 h3 => by
  have := a x u e h1 h2 h3
  rw [upd_ne (ne_of_none this h)]
  exact this
theorem Kp3.put {s c t : Addr} {H H1 : Hp} {o : HO} (a : Kp3 s c t H H1) : Kp3 s c t H (upd H1 t o) := fun x u e h1 h2 h3 => by
  rw [upd_ne h3]
  exact a x u e h1 h2 h3
theorem PairsAt.put {n : Int} {H : Hp} {xs : List V} {t : Addr} {o u : HO} (h : PairsAt n H xs) (e : H t = some u) (hu : ∀ ys, u ≠ .tup ys) : PairsAt n (upd H t o) xs := fun v hv => by
  obtain ⟨q, i, j, a, b, r⟩ := h v hv
  refine ⟨q, i, j, a, ?_, r⟩
  rw [upd_ne (ne_of b e (fun z => hu _ z.symm))]
  exact b
/-- a list of one to three words, new since H -/
def WordL (H0 H : Hp) (v : V) : Prop := ∃ e es, v = V.ref e ∧ H0 e = none ∧ H e = some (.lst (List.map V.str es)) ∧ 1 ≤ es.length ∧ es.length ≤ 3 ∧ ∀ x ∈ es, isWordB x = true
theorem WordL.kp {H0 H H' : Hp} {s c : Addr} {v : V} (S : Src H0 s c) (h : WordL H0 H v) (k : Kp s c H H') : WordL H0 H' v := by
  obtain ⟨e, es, a, b, d, r⟩ := h
  obtain ⟨n1, n2⟩ := S.ne b
  exact ⟨e, es, a, b, k _ _ d n1 n2, r⟩
theorem WordL.same {H0 H H' : Hp} {v : V} (h : WordL H0 H v) (k : Same H H') : WordL H0 H' v := by
  obtain ⟨e, es, a, b, d, r⟩ := h
  exact ⟨e, es, a, b, k _ _ d, r⟩
theorem WordL.mk {H0 H : Hp} {l : Addr} (es : List Str) (h0 : Same H0 H) (h : H l = none) (h1 : (decide (1 ≤ es.length) && decide (es.length ≤ 3) && es.all isWordB) = true) : WordL H0 (upd H l (.lst (es.map V.str))) (.ref l) := by
  simp only [Bool.and_eq_true, decide_eq_true_eq, List.all_eq_true] at h1
  exact ⟨l, es, rfl, h0.free h, upd_same, h1.1.1, h1.1.2, h1.2⟩
def worldD (a b t : Addr) : List (Key × V) := [(Sum.inr "names", V.ref a), (Sum.inr "colours", V.ref b), (Sum.inr "ties", V.ref t)]
structure WorldOk (H : Hp) (s c wd a b t : Addr) (nm cl : List Str) (kvs : List (List Key × V)) : Prop where
  d : H wd = some (.dK (worldD a b t))
  hn : H a = some (.lst (nm.map V.str))
  hc : H b = some (.lst (cl.map V.str))
  ht : H t = some (.dT kvs)
  ds : wd ≠ s ∧ wd ≠ c
  as : a ≠ s ∧ a ≠ c
  bs : b ≠ s ∧ b ≠ c
  ts : t ≠ s ∧ t ≠ c
  nn : nm.Nodup
  nw : ∀ x ∈ nm, isWordB x = true
  cw : ∀ x ∈ cl, isWordB x = true
  cn : cl.length = nm.length
  n1 : 1 ≤ nm.length
theorem WorldOk.kp {H H' : Hp} {s c wd a b t : Addr} {nm cl : List Str} {kvs : List (List Key × V)} (W : WorldOk H s c wd a b t nm cl kvs) (e : Kp s c H H') : WorldOk H' s c wd a b t nm cl kvs :=
  ⟨e _ _ W.d W.ds.1 W.ds.2, e _ _ W.hn W.as.1 W.as.2, e _ _ W.hc W.bs.1 W.bs.2, e _ _ W.ht W.ts.1 W.ts.2, W.ds, W.as, W.bs, W.ts, W.nn, W.nw, W.cw, W.cn, W.n1⟩
theorem WorldOk.same {H H' : Hp} {s c wd a b t : Addr} {nm cl : List Str} {kvs : List (List Key × V)} (W : WorldOk H s c wd a b t nm cl kvs) (e : Same H H') : WorldOk H' s c wd a b t nm cl kvs := W.kp (Kp.same e)
theorem w1 : ¬ (("names" : Str) = "colours") := by decide +kernel
theorem w2 : ¬ (("names" : Str) = "ties") := by decide +kernel
theorem w3 : ¬ (("colours" : Str) = "ties") := by decide +kernel
section
variable {a b t : Addr}
end
section
variable {P : Program} {w : World} {K : PySem.W.Frag} {mg : Str → Option Value} {base : Heap}
/-! ### _law_draw_world -/
end
end Nm
set_option autoImplicit true
set_option maxRecDepth 100000
set_option maxHeartbeats 4000000
/-! sorted of a list of tuples of ints and texts, the first of each an int: a rearrangement -/
namespace Nm
open PySem PySem.Spec PyProof.Rows L2
/-- two rows of keys that are of one kind place by place -/
inductive SameK : List Key → List Key → Prop
  | nil : SameK [] []
  | int {i j : Int} {r q : List Key} : SameK r q → SameK (Sum.inl i :: r) (Sum.inl j :: q)
  | str {x y : Str} {r q : List Key} : SameK r q → SameK (Sum.inr x :: r) (Sum.inr y :: q)
def IsRow (h : Heap) (v : Value) (ks : List Key) : Prop := ∃ a o its n, v = .ref a ∧ h.get? a = some o ∧ o.cls = .type "tuple" ∧ o.data = .seq (List.toArray its) n ∧ Vals (ks.map kV) its
theorem IsRow.keeps {h h' : Heap} {v : Value} {ks : List Key} (p : IsRow h v ks) (k : ∀ b o, h.get? b = some o → o.cls = .type "tuple" → h'.get? b = some o) : IsRow h' v ks := by
  obtain ⟨a, o, its, n, e, ho, hc, hd⟩ := p
  exact ⟨a, o, its, n, e, k _ _ ho hc, hc, hd⟩
section
variable {prog : Program} {w : World} {A : Around} {E : Value → Shared → Prop} {s : Shared}
theorem firsts_row {h : Heap} {k : Value → Int × List Key} : ∀ {vs : List Value}, (∀ v ∈ vs, IsRow h v (Sum.inl (k v).1 :: (k v).2)) → ∃ fs : List Value, PySem.W.KatTups h vs fs ∧ fs.length = vs.length ∧ ∀ f ∈ fs, ∃ x t, f = Value.int x t
  | [], _ => ⟨[], PySem.W.KatTups.nil, rfl, fun _ hm => by simp at hm⟩
  | v :: vs, hp => by
    obtain ⟨fs, h1, h2, h3⟩ := firsts_row (vs := vs) fun v' hm => hp v' (List.mem_cons_of_mem _ hm)
    obtain ⟨a, o, its, n, e, ho, hc, hd, hv⟩ := hp v (List.mem_cons_self ..)
    subst e
    cases hv with
    | cons r1 t1 =>
      obtain ⟨t, rfl⟩ := r1
      refine ⟨.int (k (.ref a)).1 t :: fs, PySem.W.KatTups.cons ho hc hd rfl h1, by rw [List.length_cons, List.length_cons, h2], fun f hm => ?_⟩
      rcases List.mem_cons.mp hm with rfl | hm
      · exact ⟨_, t, rfl⟩
      · exact h3 f hm
end
section
variable {X : Cx}
end
end Nm
set_option autoImplicit true
set_option maxRecDepth 100000
set_option maxHeartbeats 4000000
/-! sorted of a list of tuples of ints and texts, the first of each an int: in order -/
namespace Nm
open PySem PySem.Spec PyProof.Rows L2
def keyLt : Key → Key → Bool
  | .inl a, .inl b => decide (a < b)
  | .inr x, .inr y => decide (x.cps.toList < y.cps.toList)
  | .inl _, .inr _ => true
  | .inr _, .inl _ => false
def lexK : List Key → List Key → Bool
  | [], [] => false
  | [], _ :: _ => true
  | _ :: _, [] => false
  | a :: r, b :: q => if a = b then lexK r q else keyLt a b
theorem lexK_eq {a b : Key} {r q : List Key} (h : a = b) : lexK (a :: r) (b :: q) = lexK r q := by
  rw [lexK, if_pos h]
theorem lexK_ne {a b : Key} {r q : List Key} (h : ¬ a = b) : lexK (a :: r) (b :: q) = keyLt a b := by
  rw [lexK, if_neg h]
theorem str_eq {x y : Str} (h : x.cps.toList = y.cps.toList) : x = y := by
  cases x
  cases y
  simp at h
  simp [h]
theorem keyLt_anti : ∀ {a b : Key}, keyLt a b = false → keyLt b a = false → a = b
  | .inl a, .inl b, h1, h2 => by
    have h1 := of_decide_eq_false h1
    have h2 := of_decide_eq_false h2
    congr 1
    omega
  | .inr x, .inr y, h1, h2 => by
    have h1 := of_decide_eq_false h1
    have h2 := of_decide_eq_false h2
    rw [List.not_lt] at h1 h2
    rw [str_eq (List.le_antisymm h2 h1)]
  | .inl _, .inr _, h1, _ => by cases h1
  | .inr _, .inl _, _, h2 => by cases h2
theorem keyLt_asym : ∀ {a b : Key}, keyLt a b = true → keyLt b a = false
  | .inl a, .inl b, h => by
    have h := of_decide_eq_true h
    exact decide_eq_false (by omega)
  | .inr x, .inr y, h => by
    have h := of_decide_eq_true h
    exact decide_eq_false (List.lt_asymm h)
  | .inl _, .inr _, _ => rfl
  | .inr _, .inl _, h => by cases h
theorem keyLt_tr : ∀ {a b c : Key}, keyLt b a = false → keyLt c b = false → keyLt c a = false
  | .inl a, .inl b, .inl c, h1, h2 => by
    have h1 := of_decide_eq_false h1
    have h2 := of_decide_eq_false h2
    exact decide_eq_false (by omega)
  | .inr x, .inr y, .inr z, h1, h2 => by
    have h1 := of_decide_eq_false h1
    have h2 := of_decide_eq_false h2
    refine decide_eq_false ?_
    rw [List.not_lt] at *
    exact List.le_trans h1 h2
  | .inl _, .inl _, .inr _, _, _ => rfl
  | .inl _, .inr _, .inr _, _, _ => rfl
  | .inl _, .inr _, .inl _, _, h2 => by cases h2
  | .inr _, .inl _, _, h1, _ => by cases h1
  | .inr _, .inr _, .inl _, _, h2 => by cases h2
theorem lexK_asym : ∀ {x y : List Key}, lexK x y = true → lexK y x = false
  | [], [], h => by cases h
  | [], _ :: _, _ => rfl
  | _ :: _, [], h => by cases h
  | a :: r, b :: q, h => by
    unfold lexK at h ⊢
    by_cases e : a = b
    · rw [if_pos e] at h
      rw [if_pos e.symm]
      exact lexK_asym h
    · rw [if_neg e] at h
      rw [if_neg (fun z => e z.symm)]
      exact keyLt_asym h
theorem lexK_anti : ∀ {x y : List Key}, lexK x y = false → lexK y x = false → x = y
  | [], [], _, _ => rfl
  | [], _ :: _, h, _ => by cases h
  | _ :: _, [], _, h => by cases h
  | a :: r, b :: q, h1, h2 => by
    unfold lexK at h1 h2
    by_cases e : a = b
    · rw [if_pos e] at h1
      rw [if_pos e.symm] at h2
      rw [e, lexK_anti h1 h2]
    · rw [if_neg e] at h1
      rw [if_neg (fun z => e z.symm)] at h2
      exact absurd (keyLt_anti h1 h2) e
theorem lexK_tr : ∀ {x y z : List Key}, lexK y x = false → lexK z y = false → lexK z x = false
  | [], _, [], _, _ => rfl
  | [], _, _ :: _, _, _ => rfl
  | _ :: _, [], _, h, _ => by cases h
  | _ :: _, _ :: _, [], _, h => by cases h
  | a :: r, b :: q, c :: p, h1, h2 => by
    unfold lexK at h1 h2 ⊢
    by_cases e1 : b = a
    · subst e1
      rw [if_pos rfl] at h1
      by_cases e2 : c = b
      · rw [if_pos e2] at h2 ⊢
        exact lexK_tr h1 h2
      · rw [if_neg e2] at h2 ⊢
        exact h2
    · rw [if_neg e1] at h1
      by_cases e2 : c = b
      · subst e2
        rw [if_neg e1]
        exact h1
      · rw [if_neg e2] at h2
        by_cases e3 : c = a
        · subst e3
          exact absurd (keyLt_anti h1 h2) e1
        · rw [if_neg e3]
          exact keyLt_tr h1 h2
theorem swo_lexK {α : Type} (k : α → List Key) : SrtO.Swo fun v u => lexK (k v) (k u) := ⟨fun _ _ h => lexK_asym h, fun _ _ _ h1 h2 => lexK_tr h1 h2⟩
/-- two sorted lists of the same keys are one -/
theorem sorted_one : ∀ {l m : List (List Key)}, l.Pairwise (fun x y => lexK y x = false) → m.Pairwise (fun x y => lexK y x = false) → l.Perm m → l = m
  | [], m, _, _, h => (List.Perm.eq_nil h.symm).symm
  | x :: l, [], _, _, h => absurd h.length_eq (by simp)
  | x :: l, y :: m, hl, hm, h => by
    have h1 : lexK x y = false := by
      rcases List.mem_cons.mp (h.mem_iff.mp (List.mem_cons_self (a := x) (l := l))) with e | hx
      · rw [e]; exact (swo_lexK (fun z => z)).refl y
      · exact (List.pairwise_cons.mp hm).1 x hx
    have h2 : lexK y x = false := by
      rcases List.mem_cons.mp (h.mem_iff.mpr (List.mem_cons_self (a := y) (l := m))) with e | hy
      · rw [e]; exact (swo_lexK (fun z => z)).refl x
      · exact (List.pairwise_cons.mp hl).1 y hy
    have e := lexK_anti h1 h2
    subst e
    rw [sorted_one (List.pairwise_cons.mp hl).2 (List.pairwise_cons.mp hm).2 h.cons_inv]
section
variable {prog : Program} {w : World} {A : Around} {E : Value → Shared → Prop} {s : Shared}
theorem lex_cmp : ∀ {ks qs : List Key} {its jts : List Value} (i : Nat), SameK ks qs → Vals (ks.map kV) its → Vals (qs.map kV) jts → 0 < i → PySem.W.KatLex prog w A true false (fun r s' => s' = s ∧ r = lexK ks qs) (its.zip jts) i s
  | _, _, _, _, i, .nil, .nil, .nil, _ => PySem.W.kat_nil ⟨rfl, rfl⟩
  | _, _, _, _, i, .int (i := x) (j := y) (r := r) (q := q) sk, .cons r1 t1, .cons r2 t2, hi => by
    obtain ⟨t, rfl⟩ := r1
    obtain ⟨u, rfl⟩ := r2
    have ih := lex_cmp (i + 1) sk t1 t2 (Nat.succ_pos _)
    by_cases e : x = y
    · have el : lexK (Sum.inl x :: r) (Sum.inl y :: q) = lexK r q := lexK_eq (by rw [e])
      rw [el]
      refine PySem.W.kat_cons (SeqAt.EqAt.int_int x t y u prog w _ _ ?_)
      exact PySem.W.kat_go (fun _ => PySem.W.kat_yes ih) (fun e1 => absurd e (by simpa using e1))
    · have el : lexK (Sum.inl x :: r) (Sum.inl y :: q) = decide (x < y) := lexK_ne (fun z => e (Sum.inl.inj z))
      rw [el]
      refine PySem.W.kat_cons (SeqAt.EqAt.int_int x t y u prog w _ _ ?_)
      exact PySem.W.kat_go (fun e1 => absurd (by simpa using e1) e) (fun _ => PySem.W.kat_no (TS.oneLt_ints _ ⟨rfl, rfl⟩))
  | _, _, _, _, i, .str (x := x) (y := y) (r := r) (q := q) sk, .cons r1 t1, .cons r2 t2, hi => by
    obtain ⟨t, rfl⟩ := r1
    obtain ⟨u, rfl⟩ := r2
    have ih := lex_cmp (i + 1) sk t1 t2 (Nat.succ_pos _)
    by_cases e : x = y
    · have el : lexK (Sum.inr x :: r) (Sum.inr y :: q) = lexK r q := lexK_eq (by rw [e])
      rw [el]
      refine PySem.W.kat_cons (SeqAt.EqAt.str_str x t y u prog w _ _ ?_)
      exact PySem.W.kat_go (fun _ => PySem.W.kat_yes ih) (fun e1 => absurd e (by simpa using e1))
    · have el : lexK (Sum.inr x :: r) (Sum.inr y :: q) = decide (x.cps.toList < y.cps.toList) := lexK_ne (fun z => e (Sum.inr.inj z))
      rw [el]
      refine PySem.W.kat_cons (SeqAt.EqAt.str_str x t y u prog w _ _ ?_)
      refine PySem.W.kat_go (fun e1 => absurd (by simpa using e1) e) (fun _ => PySem.W.kat_no ?_)
      have hi0 : (true && i == 0) = false := by simp; omega
      rw [hi0]
      exact PySem.W.kat_one _ _ (PyProof.Rows.lt_str (Q := PySem.W.BoolBack (fun r s' => s' = s ∧ r = decide (x.cps.toList < y.cps.toList))) (show s = s ∧ decide (x.cps.toList < y.cps.toList) = decide (x.cps.toList < y.cps.toList) from ⟨rfl, rfl⟩))
theorem same_len : ∀ {ks qs : List Key}, SameK ks qs → ks.length = qs.length
  | _, _, .nil => rfl
  | _, _, .int h => by simp [same_len h]
  | _, _, .str h => by simp [same_len h]
/-- the whole row -/
def rowK (k : Int × List Key) : List Key := Sum.inl k.1 :: k.2
theorem row_cmp {vs : List Value} {k : Value → Int × List Key} (hp : ∀ v ∈ vs, IsRow s.heap v (rowK (k v))) (hs : ∀ v ∈ vs, ∀ u ∈ vs, SameK (k v).2 (k u).2) : SrtO.Cmp prog w A s (tuples' true) (fun p => p.1 ∈ vs) (SrtO.lt2 fun v u => lexK (rowK (k v)) (rowK (k u))) := by
  intro p q hm hm'
  obtain ⟨a, o, its, n, e, ho, hc, hd, hv⟩ := hp _ hm
  obtain ⟨a', o', jts, n', e', ho', hc', hd', hv'⟩ := hp _ hm'
  have sk := hs _ hm _ hm'
  show wpAny (model prog w) A (keyLt' (tuples' true) p.1 q.1) (fun r s' => s' = s ∧ r = lexK (rowK (k p.1)) (rowK (k q.1))) (fun _ _ => False) s
  generalize hkp : k p.1 = kp at *
  generalize hkq : k q.1 = kq at *
  rw [e, e']
  obtain ⟨x, ks⟩ := kp
  obtain ⟨y, qs⟩ := kq
  have hlen : its.length = jts.length := by
    rw [← hv.length, ← hv'.length]
    have := same_len sk
    simp [rowK, this]
  refine PySem.W.kat_lt ho hd ho' hd' ?_
  have hf : decide ((List.toArray its).size < (List.toArray jts).size) = false := by simp [hlen]
  rw [hf]
  cases hv with
  | cons r1 t1 =>
    cases hv' with
    | cons r2 t2 =>
      obtain ⟨t, rfl⟩ := r1
      obtain ⟨u, rfl⟩ := r2
      have ih := lex_cmp (prog := prog) (w := w) (A := A) (s := s) 1 sk t1 t2 (by decide)
      by_cases e : x = y
      · have el : lexK (rowK (x, ks)) (rowK (y, qs)) = lexK ks qs := lexK_eq (by rw [e])
        rw [el]
        refine PySem.W.kat_cons (SeqAt.EqAt.int_int x t y u prog w _ _ ?_)
        exact PySem.W.kat_go (fun _ => PySem.W.kat_yes ih) (fun e1 => absurd e (by simpa using e1))
      · have el : lexK (rowK (x, ks)) (rowK (y, qs)) = decide (x < y) := lexK_ne (fun z => e (Sum.inl.inj z))
        rw [el]
        refine PySem.W.kat_cons (SeqAt.EqAt.int_int x t y u prog w _ _ ?_)
        exact PySem.W.kat_go (fun e1 => absurd (by simpa using e1) e) (fun _ => PySem.W.kat_no (TS.oneLt_ints _ ⟨rfl, rfl⟩))
theorem rows_sortableO {a : Addr} {vs : List Value} {k : Value → Int × List Key} (h0 : 0 < vs.length) (hp : ∀ v ∈ vs, IsRow s.heap v (rowK (k v))) (hs : ∀ v ∈ vs, ∀ u ∈ vs, SameK (k v).2 (k u).2) (ha : ∀ o, s.heap.get? a = some o → o.cls ≠ .type "tuple") : SrtO.SortableO prog w A s a vs fun v u => lexK (rowK (k v)) (rowK (k u)) := by
  intro h' keep
  have hp' : ∀ v ∈ vs, IsRow h' v (rowK (k v)) := fun v hm => (hp v hm).keeps fun b o e c => keep b o (fun z => by subst z; exact ha o e c) e
  obtain ⟨fs, h1, h2, h3⟩ := firsts_row hp'
  refine ⟨tuples' true, fun Q E hq => ?_, row_cmp (s := { s with heap := h' }) hp' hs⟩
  refine PySem.W.kat_kind (T := .type "int") h1 (by omega) (fun f hm => ?_) (by rfl) ?_
  · obtain ⟨x, t, rfl⟩ := h3 f hm
    exact PySem.W.Looks.now
  · have e : (Value.type "int" != Value.type "tuple") = true := by decide +kernel
    rw [e]
    exact hq
theorem sorted_rowsO {l : Addr} {vs : List Value} {k : Value → Int × List Key} {Q : Value → Shared → Prop} (hl : s.heap.IsList l vs.toArray) (hz : vs.length ≤ sizeLine) (hp : ∀ v ∈ vs, IsRow s.heap v (rowK (k v))) (hs : ∀ v ∈ vs, ∀ u ∈ vs, SameK (k v).2 (k u).2)
    (h : ∀ (h' : Heap) (d : Addr) (out : List Value), SrtO.Srtd (fun v u => lexK (rowK (k v)) (rowK (k u))) out → out.Perm vs → (∀ b o, s.heap.get? b = some o → h'.get? b = some o) → s.heap.objs.size ≤ d → (∃ n, h'.get? d = some (seqObj "list" out.toArray n)) → Q (.ref d) { s with heap := h' }) :
    wpAny (model prog w) A (call (.builtin "sorted") [.ref l]) Q E s := by
  refine SrtO.sorted_ord (swo_lexK fun v => rowK (k v)) hl hz (fun h2 h₁ a ha kk => ?_) fun out hs' hb => ?_
  · refine rows_sortableO (s := { s with heap := h₁ }) (by omega) (fun v hm => (hp v hm).keeps fun b o e _ => (kk b o e).2) hs fun o e => ?_
    have e' : some o = some (seqObj "list" vs.toArray 0) := e.symm.trans ha
    cases e'
    intro c
    exact absurd (Value.type.inj c) (by decide)
  · exact h _ _ out hs' hb.perm (fun b o e => sortedAll_old e) (Nat.le_succ _) (sortedAll_at s.heap vs out.toArray)
end
/-- sorted(xs): a new list of the same tuples, in order -/
def rSortedO (K : PySem.W.Frag) : List V → Hp → VK → Prop := fun vs H Q => ∃ a xs, ∃ k : V → Int × List Key, vs = [V.ref a] ∧ SqL K H a xs ∧ (∀ x ∈ xs, ∃ t, x = V.ref t ∧ H t = some (.tup ((rowK (k x)).map kV))) ∧ (∀ x ∈ xs, ∀ y ∈ xs, SameK (k x).2 (k y).2) ∧
  ∀ ys p, ys.Pairwise (fun x y => lexK (rowK (k y)) (rowK (k x)) = false) → ys.Perm xs → H p = none → Q (.ref p) (upd H p (.lst ys))
section
variable {X : Cx}
theorem cr_sortedO : CallR X (.builtin "sorted") (rSortedO X.K) := by
  intro pins s σ H vs us Q I r h
  obtain ⟨a, xs, k, rfl, hs, hx, hk, q⟩ := h
  obtain ⟨its, rv, hl, hz⟩ := I.list hs
  obtain ⟨u, rfl, ru⟩ := vals1 r
  obtain rfl : u = Value.ref a := ru
  obtain ⟨e1, e2⟩ := refs_back rv fun x m => by
    obtain ⟨t, e, _⟩ := hx x m
    exact ⟨t, e⟩
  have inx : ∀ v ∈ its, backV v ∈ xs := fun v hv => by rw [e1]; exact List.mem_map.mpr ⟨_, hv, rfl⟩
  refine sorted_rowsO (k := fun u => k (backV u)) hl.isList (by rw [← rv.length]; exact hz) (fun v hv => ?_) (fun v hv u hu => hk _ (inx v hv) _ (inx u hu)) fun h' d out hsr hp k' hd hn => ?_
  · obtain ⟨t, rfl⟩ := e2 v hv
    obtain ⟨t', e, ht⟩ := hx _ (inx _ hv)
    cases e
    obtain ⟨_, its2, r2, o, ho, hc, n, hd⟩ := I.hok _ _ ht
    exact ⟨t, o, its2, n, rfl, ho, hc, hd, r2⟩
  · have h3 : ∀ u ∈ out, ∃ a, u = Value.ref a := fun u hu => e2 u (hp.mem_iff.mp hu)
    obtain ⟨n, hn⟩ := hn
    refine ⟨.ref d, upd H d (.lst (out.map backV)), I.laid (t' := s.toks) k' hd ⟨?_, out, n, vals_back h3, hn⟩, rfl, q _ d ?_ ?_ (I.hok.fresh hd)⟩
    · rw [List.length_map, hp.length_eq, ← rv.length]; exact hz
    · exact List.pairwise_map.mpr hsr
    · rw [e1]; exact hp.map backV
end
end Nm
set_option autoImplicit true
set_option maxRecDepth 100000
set_option maxHeartbeats 4000000
namespace Nm
open PySem L2
/-- ints that are places -/
abbrev natV (l : List Nat) : List V := l.map fun (i : Nat) => V.int (i : Int)
/-- the keys of a dict of ties, each by its own tuple -/
def KeyL (H : Hp) (kvs : List (List Key × V)) (ys : List V) : Prop := ∀ y ∈ ys, ∃ b k v, y = V.ref b ∧ H b = some (.tup (List.map kV k)) ∧ (k, v) ∈ kvs
theorem KeyL.same {H H' : Hp} {kvs : List (List Key × V)} {ys : List V} (h : KeyL H kvs ys) (e : Same H H') : KeyL H' kvs ys := fun y hy => by
  obtain ⟨b, k, v, a1, a2, a3⟩ := h y hy
  exact ⟨b, k, v, a1, e _ _ a2, a3⟩
theorem KeyL.kp {H H' : Hp} {kvs : List (List Key × V)} {ys : List V} {s c : Addr} (h : KeyL H kvs ys) (S : Src H s c) (e : Kp s c H H') : KeyL H' kvs ys := fun y hy => by
  obtain ⟨b, k, v, a1, a2, a3⟩ := h y hy
  obtain ⟨cs, l, m, tt, S⟩ := S
  exact ⟨b, k, v, a1, e _ _ a2 (ne_of a2 S.ds (by intro z; cases z)) (ne_of a2 S.dc (by intro z; cases z)), a3⟩
theorem KeyL.put {H : Hp} {kvs : List (List Key × V)} {ys : List V} {t : Addr} {o u : HO} (h : KeyL H kvs ys) (e : H t = some u) (hu : ∀ zs, u ≠ .tup zs) : KeyL (upd H t o) kvs ys := fun y hy => by
  obtain ⟨b, k, v, a1, a2, a3⟩ := h y hy
  refine ⟨b, k, v, a1, ?_, a3⟩
  rw [upd_ne (ne_of a2 e (fun z => hu _ z.symm))]
  exact a2
theorem KeyL.tie {H : Hp} {n m : Nat} {kvs : List (List Key × V)} {ys : List V} (h : KeyL H kvs ys) (T : Ties n m kvs) {y : V} (hy : y ∈ ys) : ∃ (b : Addr) (i j x : Nat) (kd : Str), y = V.ref b ∧ H b = some (.tup [.int (i : Int), .int (j : Int), .str kd]) ∧ ([Sum.inl (i : Int), Sum.inl (j : Int), Sum.inr kd], V.int (x : Int)) ∈ kvs ∧ i < j ∧ j < n ∧ isWordB kd = true ∧ 1 ≤ x ∧ x ≤ m := by
  obtain ⟨b, k, v, a1, a2, a3⟩ := h y hy
  obtain ⟨i, j, kd, e, h1, h2, h3⟩ := T.key _ a3
  obtain ⟨x, e2, h4, h5⟩ := T.val _ a3
  have e' : k = [Sum.inl (i : Int), Sum.inl (j : Int), Sum.inr kd] := e
  have e2' : v = V.int (x : Int) := e2
  subst e' e2'
  exact ⟨b, i, j, x, kd, a1, a2, a3, h1, h2, h3, h4, h5⟩
/-- one tie of the parts: what has the number of its far end gets that of its near end -/
def stepP (ps : List Nat) (k : List Key) : List Nat := match k with
  | [Sum.inl i, Sum.inl j, Sum.inr _] => ps.map fun z => if z = (ps[j.toNat]?).getD 0 then (ps[i.toNat]?).getD 0 else z
  | _ => ps
def PartsRel (n : Nat) (kvs : List (List Key × V)) (ps : List Nat) : Prop := ∃ ks : List (List Key), ks.Pairwise (fun x y => lexK y x = false) ∧ ks.Perm (kvs.map (·.1)) ∧ ps = ks.foldl stepP (List.range n)
theorem PartsRel.one {n : Nat} {kvs : List (List Key × V)} {ps qs : List Nat} (h1 : PartsRel n kvs ps) (h2 : PartsRel n kvs qs) : ps = qs := by
  obtain ⟨ks, a1, a2, a3⟩ := h1
  obtain ⟨ks', b1, b2, b3⟩ := h2
  rw [a3, b3, sorted_one a1 b1 (a2.trans b2.symm)]
structure TxtC (mg : Str → Option Value) : Prop extends TxtB mg where
  sorted : mg "sorted" = none
section
variable {P : Program} {w : World} {K : PySem.W.Frag} {mg : Str → Option Value} {base : Heap}
/-! ### _law_parts -/
end
end Nm
set_option autoImplicit true
set_option maxRecDepth 100000
set_option maxHeartbeats 4000000
/-! how wide all ties of a world are together -/
namespace Nm
open PySem L2
def wOf : V → Nat
  | .int i => i.toNat
  | _ => 0
def totW (kvs : List (List Key × V)) : Nat := (kvs.map fun kv => wOf kv.2).sum
theorem len_le_tot : ∀ {kvs : List (List Key × V)}, (∀ kv ∈ kvs, ∃ x : Nat, kv.2 = V.int (x : Int) ∧ 1 ≤ x) → kvs.length ≤ totW kvs
  | [], _ => Nat.le_refl _
  | p :: r, h => by
    have ih := len_le_tot (kvs := r) fun kv hm => h kv (List.mem_cons_of_mem _ hm)
    obtain ⟨x, e, h1⟩ := h p List.mem_cons_self
    have e2 : totW (p :: r) = wOf p.2 + totW r := rfl
    rw [e2, e, List.length_cons]
    show r.length + 1 ≤ (x : Int).toNat + totW r
    omega
theorem Ties.len {n m : Nat} {kvs : List (List Key × V)} (T : Ties n m kvs) : kvs.length ≤ totW kvs := len_le_tot fun kv hm => by
  obtain ⟨x, h1, h2, _⟩ := T.val kv hm
  exact ⟨x, h1, h2⟩
end Nm
set_option autoImplicit true
set_option maxRecDepth 100000
set_option maxHeartbeats 4000000
/-! sums over the ties of a world, each as often as it is wide -/
namespace Nm
open PySem L2
def Sg (f : List Key → Nat) (kvs : List (List Key × V)) : Nat := (kvs.map fun kv => wOf kv.2 * f kv.1).sum
theorem Sg.nil (f : List Key → Nat) : Sg f [] = 0 := rfl
theorem Sg.cons (f : List Key → Nat) (kv : List Key × V) (r : List (List Key × V)) : Sg f (kv :: r) = wOf kv.2 * f kv.1 + Sg f r := rfl
theorem Sg.congr {f g : List Key → Nat} {kvs : List (List Key × V)} (h : ∀ kv ∈ kvs, f kv.1 = g kv.1) : Sg f kvs = Sg g kvs := by
  unfold Sg
  congr 1
  exact List.map_congr_left fun kv hm => by rw [h kv hm]
theorem Sg.perm {f : List Key → Nat} {a b : List (List Key × V)} (h : a.Perm b) : Sg f a = Sg f b := (h.map _).sum_nat
/-- where a place is led -/
def lf (led : List Nat) (x : Nat) : Nat := (led[x]?).getD 0
/-! ### keys by other numbers -/
end Nm
set_option autoImplicit true
set_option maxRecDepth 100000
set_option maxHeartbeats 4000000
namespace Nm
open PySem L2
section
variable {κ : Type} [DecidableEq κ]
theorem val_none_of {kvs : List (κ × V)} {k : κ} (h : k ∉ kvs.map (·.1)) : valV kvs k = none := by
  cases e : valV kvs k with
  | none => rfl
  | some v => exact absurd (valV_in e) h
end
def natOf : V → Nat
  | .int x => x.toNat
  | _ => 0
theorem paired_snoc {α β : Type} {F : α → β → Prop} : ∀ {l : List α} {m : List β} {a : α} {b : β}, Paired F l m → F a b → Paired F (l ++ [a]) (m ++ [b])
  | _, _, _, _, .nil, h => .cons h .nil
  | _, _, _, _, .cons r t, h => .cons r (paired_snoc t h)
structure TxtD (mg : Str → Option Value) : Prop extends TxtC mg where
  dict : mg "dict" = none
  enumerate : mg "enumerate" = none
  str : mg "str" = none
section
variable {P : Program} {w : World} {K : PySem.W.Frag} {mg : Str → Option Value} {base : Heap}
/-! ### _law_seated -/
end
end Nm
set_option autoImplicit true
set_option maxRecDepth 100000
set_option maxHeartbeats 4000000
/-! the copies of a place, and their ties -/
namespace Nm
open PySem L2
section
variable {κ : Type} [DecidableEq κ]
end
def SeatsOk (kvS : List (List Key × V)) (led : List Nat) (ok : Nat → Nat → Prop) : Prop := ∀ p u, ok p u → ∃ idx : Nat, led[idx]? = some p ∧ valV kvS [Sum.inl (p : Int), Sum.inl (u : Int)] = some (V.int (idx : Int))
theorem SeatsOk.put {kvS : List (List Key × V)} {led : List Nat} {ok ok' : Nat → Nat → Prop} (h : SeatsOk kvS led ok) {i j : Nat} (e : ∀ p u, ok' p u → ok p u ∨ (p = i ∧ u = j)) :
    SeatsOk (putK kvS [Sum.inl (i : Int), Sum.inl (j : Int)] (V.int (led.length : Int))) (led ++ [i]) ok' := by
  intro p u hp
  rw [valV_put]
  by_cases hk : ([Sum.inl (p : Int), Sum.inl (u : Int)] : List Key) = [Sum.inl (i : Int), Sum.inl (j : Int)]
  · rw [if_pos hk]
    have hpi : p = i := by
      have := Sum.inl.inj (List.cons.inj hk).1
      omega
    exact ⟨led.length, by rw [hpi]; simp, rfl⟩
  · rw [if_neg hk]
    rcases e p u hp with z | ⟨z1, z2⟩
    · obtain ⟨idx, h1, h2⟩ := h p u z
      exact ⟨idx, by rw [List.getElem?_append_left (List.getElem?_eq_some_iff.mp h1).1]; exact h1, h2⟩
    · subst z1 z2
      exact absurd rfl hk
/-- the seat of a copy -/
def sf (kvS : List (List Key × V)) (p u : Nat) : Nat := natOf ((valV kvS [Sum.inl (p : Int), Sum.inl (u : Int)]).getD .non)
theorem sf_of {kvS : List (List Key × V)} {p u idx : Nat} (h : valV kvS [Sum.inl (p : Int), Sum.inl (u : Int)] = some (V.int (idx : Int))) : sf kvS p u = idx := by
  unfold sf
  rw [h]
  exact Int.toNat_natCast idx
/-- each place stands for one copy -/
structure SeatsX (kvS : List (List Key × V)) (led : List Nat) (ok : Nat → Nat → Prop) : Prop where
  cov : ∀ x p : Nat, led[x]? = some p → ∃ u, ok p u ∧ sf kvS p u = x
  inj : ∀ p u v, ok p u → ok p v → sf kvS p u = sf kvS p v → u = v
theorem SeatsX.nil (ok : Nat → Nat → Prop) (h : ∀ p u, ¬ ok p u) : SeatsX [] [] ok := ⟨(fun x p e => by cases e), fun p u _ o => absurd o (h p u)⟩
theorem SeatsX.mono {kvS : List (List Key × V)} {led : List Nat} {ok ok' : Nat → Nat → Prop} (h : SeatsX kvS led ok) (e : ∀ p u, ok p u → ok' p u) (e2 : ∀ p u, ok' p u → ok p u) : SeatsX kvS led ok' :=
  ⟨fun x p hx => by obtain ⟨u, a, b⟩ := h.cov x p hx; exact ⟨u, e p u a, b⟩, fun p u v a b => h.inj p u v (e2 p u a) (e2 p v b)⟩
theorem SeatsX.put {kvS : List (List Key × V)} {led : List Nat} {ok ok' : Nat → Nat → Prop} (h : SeatsX kvS led ok) (S : SeatsOk kvS led ok) {i j : Nat} (n : ¬ ok i j) (e : ∀ p u, ok' p u → ok p u ∨ (p = i ∧ u = j)) (e2 : ∀ p u, ok p u → ok' p u) (e3 : ok' i j) :
    SeatsX (putK kvS [Sum.inl (i : Int), Sum.inl (j : Int)] (V.int (led.length : Int))) (led ++ [i]) ok' := by
  have old : ∀ p u, ok p u → sf (putK kvS [Sum.inl (i : Int), Sum.inl (j : Int)] (V.int (led.length : Int))) p u = sf kvS p u ∧ sf kvS p u < led.length := fun p u o => by
    obtain ⟨idx, h1, h2⟩ := S p u o
    have hk : ¬ ([Sum.inl (p : Int), Sum.inl (u : Int)] : List Key) = [Sum.inl (i : Int), Sum.inl (j : Int)] := fun z => by
      have z1 := Sum.inl.inj (List.cons.inj z).1
      have z2 := Sum.inl.inj (List.cons.inj (List.cons.inj z).2).1
      have z1 : p = i := by omega
      have z2 : u = j := by omega
      subst z1 z2
      exact n o
    refine ⟨?_, by rw [sf_of h2]; exact (List.getElem?_eq_some_iff.mp h1).1⟩
    unfold sf
    rw [valV_put, if_neg hk]
  have new : sf (putK kvS [Sum.inl (i : Int), Sum.inl (j : Int)] (V.int (led.length : Int))) i j = led.length := by
    unfold sf
    rw [valV_put, if_pos rfl]
    exact Int.toNat_natCast _
  refine ⟨fun x p hx => ?_, fun p u v a b hs => ?_⟩
  · by_cases c : x < led.length
    · rw [List.getElem?_append_left c] at hx
      obtain ⟨u, a, b⟩ := h.cov x p hx
      exact ⟨u, e2 p u a, by rw [(old p u a).1]; exact b⟩
    · have hl := (List.getElem?_eq_some_iff.mp hx).1
      rw [List.length_append, List.length_singleton] at hl
      have hx' : x = led.length := by omega
      subst hx'
      rw [List.getElem?_append_right (Nat.le_refl _), Nat.sub_self] at hx
      have : i = p := by simpa using hx
      subst this
      exact ⟨j, e3, new⟩
  · rcases e p u a with a1 | ⟨a1, a2⟩ <;> rcases e p v b with b1 | ⟨b1, b2⟩
    · rw [(old p u a1).1, (old p v b1).1] at hs
      exact h.inj p u v a1 b1 hs
    · subst b1 b2
      rw [(old p u a1).1, new] at hs
      have := (old p u a1).2
      omega
    · subst a1 a2
      rw [(old p v b1).1, new] at hs
      have := (old p v b1).2
      omega
    · omega
/-! ### sums -/
end Nm
set_option autoImplicit true
set_option maxRecDepth 100000
set_option maxHeartbeats 4000000
namespace Nm
open PySem L2
theorem Ties.mono {n m m' : Nat} {kvs : List (List Key × V)} (h : Ties n m kvs) (e : m ≤ m') : Ties n m' kvs := ⟨h.key, fun kv hm => by
  obtain ⟨x, a, b, c⟩ := h.val kv hm
  exact ⟨x, a, b, by omega⟩, h.nd⟩
section
variable {P : Program} {w : World} {K : PySem.W.Frag} {mg : Str → Option Value} {base : Heap}
/-! ### _law_over -/
end
end Nm
set_option autoImplicit true
set_option maxRecDepth 100000
set_option maxHeartbeats 4000000
namespace Nm
open PySem PySem.Spec PyProof.Rows L2
end Nm
set_option autoImplicit true
set_option maxRecDepth 100000
set_option maxHeartbeats 4000000
namespace Nm
open PySem L2
structure TxtE (mg : Str → Option Value) : Prop extends TxtD mg where
  max : mg "max" = none
  min : mg "min" = none
  set : mg "set" = none
  sum : mg "sum" = none
end Nm
set_option autoImplicit true
set_option maxRecDepth 100000
set_option maxHeartbeats 4000000
namespace Nm
open PySem L2
structure TxtF (mg : Str → Option Value) : Prop extends TxtE mg where
  zip : mg "zip" = none
section
variable {P : Program} {w : World} {K : PySem.W.Frag} {mg : Str → Option Value} {base : Heap}
/-! ### _law_any_dict -/
/-! ### _law_dict -/
end
end Nm
set_option autoImplicit true
set_option maxRecDepth 100000
set_option maxHeartbeats 4000000
namespace Nm
open PySem L2
structure TxtG (mg : Str → Option Value) : Prop extends TxtF mg where
  isinstance : mg "isinstance" = none
  all : mg "all" = none
  bool : mg "bool" = none
  letters : ∃ t, mg "LETTERS" = some (.str "abcdefghijklmnopqrstuvwxyz" t)
  digits : ∃ t, mg "DIGITS" = some (.str "0123456789" t)
section
variable {P : Program} {w : World} {K : PySem.W.Frag} {mg : Str → Option Value} {base : Heap}
/-! ### is_word, is_number -/
def spWord : Sp := fun vs H Q _ => ∃ z : Str, vs = [.str z] ∧ isWordB z = true ∧ ∀ H', Same H H' → Q (.bl true) H'
abbrev nWord : List Str := ["value", "letters", "letter"]
theorem scWord : FnScope nWord ["value"] (defScope sIsWord) := ⟨rfl, rfl, rfl, by decide +kernel, rfl, by decide +kernel, by decide +kernel⟩
theorem ok_word {f : Addr} {fd : FuncData} (F : Fun K "is_word" "is_word" sIsWord f fd) (T : TxtG mg) : FnOk P w K mg base CX0 1 f fd ["value"] spWord := by
  obtain ⟨tl, Tl⟩ := T.letters
  obtain ⟨td, Td⟩ := T.digits
  refine F.ok scWord (fun vs H Q E h => ?_) (fun cdv A outer s H vs Q E hr h => ?_)
  · obtain ⟨_, rfl, _⟩ := h
    rfl
  · obtain ⟨z, rfl, hz, k⟩ := h
    refine ⟨_, pss_cons (ps_if (pt_not (pt_val (pe_callB call_isi (by rfl) T.isinstance (by decide +kernel) (pa_cons (pv 0) (pa_cons (pe_bltn (v := .ty "str") (by rfl) T.str (by decide +kernel) rfl) pa_nil))))) (pss_one (ps_ret pe_bl)) pss_nil)
      (pss_cons (ps_set (i := 1) scWord.nd rfl (Or.inl rfl) (pe_bm PySem.F.plainAttrs_str PySem.F.slot_str_rstrip PySem.F.type_str_rstrip mt_rstripChars (pv 0) (pa_cons (pe_glob (v := .str "0123456789") (by rfl) Td ⟨_, rfl⟩) pa_nil)))
      (pss_cons (ps_if (PW.pt (pw_or (pt_not (pt_chain op_le op_le pe_int (pe_callB call_len_str (by rfl) T.len PySem.boot_len (pa_cons (pv 1) pa_nil)) pe_int)) (pw_or1 (pt_cmpR op_gt (pe_op op_sub (pe_callB call_len_str (by rfl) T.len PySem.boot_len (pa_cons (pv 0) pa_nil)) (pe_callB call_len_str (by rfl) T.len PySem.boot_len (pa_cons (pv 1) pa_nil))) pe_int (nomark _))))) (pss_one (ps_ret pe_bl)) pss_nil)
      (pss_one (ps_ret (pe_callB (cr_all rfl) (by rfl) T.all (by decide +kernel) (pa_cons (pe_lc (own := [("letter", 2)]) (g := gName 2) (tt := tYes) rfl scWord.nd (pi_str (pv 1))
          (blkOk_by (N := nWord) (sc := defScope sIsWord) (by decide +kernel)) (fun _ _ _ _ _ => pg_name (i := 2) scWord.nd rfl (Or.inl rfl)) (fun _ _ _ _ _ => pts_nil)
          (fun _ _ _ _ _ => pe_cmpR op_in_sign (pv 2) (pe_glob (v := .str "abcdefghijklmnopqrstuvwxyz") (by rfl) Tl ⟨_, rfl⟩) (by rfl))) pa_nil)))))), ?_⟩
    unfold isWordB at hz
    simp only [Bool.and_eq_true, decide_eq_true_eq, List.all_eq_true] at hz
    obtain ⟨⟨⟨⟨h100, h1⟩, h8⟩, h4⟩, hall⟩ := hz
    refine ⟨_, rfl, _, _, _, _, true, rfl, ClsV.ty "str", TyX.base (TyOf.str z), kit_ty (by decide +kernel), _, rfl, iteF ?_⟩
    refine ⟨_, rfl, ?_, _, _, rfl, rfl, Evl.sz_of (by omega), ?_⟩
    · rfl
    refine ⟨_, rfl, _, rfl, Evl.sz_of (show (letB z).length ≤ 100000 by omega), _, _, rfl, rfl, _, rfl, ?_⟩
    have c1 : decide ((1 : Int) ≤ ((letB z).length : Int)) = true := decide_eq_true (by omega)
    have c2 : decide (((letB z).length : Int) ≤ 8) = true := decide_eq_true (by omega)
    have c3 : decide ((4 : Int) < (z.length : Int) - ((letB z).length : Int)) = false := decide_eq_false (by omega)
    show (if decide ((1 : Int) ≤ ((letB z).length : Int)) = true then _ else _)
    rw [if_pos c1]
    refine ⟨_, _, rfl, rfl, _, rfl, ?_⟩
    show (if (!decide (((letB z).length : Int) ≤ 8)) = true then _ else _)
    rw [c2]
    refine iteF ?_
    refine ⟨_, rfl, _, rfl, Evl.sz_of (by omega), _, rfl, _, rfl, Evl.sz_of (show (letB z).length ≤ 100000 by omega), _, _, rfl, rfl, _, _, rfl, rfl, _, rfl, ?_⟩
    show (if decide ((4 : Int) < (z.length : Int) - ((letB z).length : Int)) = true then _ else _)
    rw [c3]
    refine iteF ?_
    refine ⟨_, rfl, letB z, rfl, fun D hD => ?_⟩
    refine lc_it walk_str (fun i H1 => ∃ bs : List Bool, H1 D = some (.lst (bs.map V.bl)) ∧ bs.length = i ∧ (∀ b ∈ bs, b = true) ∧ Same H H1) ⟨[], upd_same, rfl, (fun b hb => (List.not_mem_nil hb).elim), same_new hD⟩ (fun _ _ _ _ => trivial) ?_ ?_
    · rintro i x H1 H2 hi ⟨bs, hD1, hbl, hbt, s1⟩ ⟨rfl, c, hc, rfl⟩
      have hi8 : i < 8 := by
        have : (letB z).cps.size = (letB z).length := rfl
        omega
      have hcm : c ∈ (letB z).cps.toList := by
        rw [← Array.getElem?_toList] at hc
        exact List.mem_of_getElem? hc
      have hin : decide (c ∈ ("abcdefghijklmnopqrstuvwxyz" : Str).cps.toList) = true := decide_eq_true (hall c hcm)
      refine ⟨rfl, tyes ?_⟩
      refine ⟨_, rfl, c, _, rfl, rfl, _, hD1, Evl.sz_lt (by rw [List.length_map]; omega), bs ++ [true], ?_, by simp [hbl], ?_, fun b o e => ?_⟩
      · rw [upd_same, List.map_append, hin]
        rfl
      · intro b hb
        rcases List.mem_append.mp hb with q | q
        · exact hbt b q
        · exact List.mem_singleton.mp q
      · rw [upd_ne (ne_of_none e hD)]
        exact s1 b o e
    · rintro H1 ⟨bs, hD1, hbl, hbt, s1⟩
      refine ⟨D, bs, rfl, SqL.of hD1, ?_⟩
      have : bs.all id = true := List.all_eq_true.mpr fun b hb => hbt b hb
      rw [this]
      exact k H1 s1
def spInteger : Sp := fun vs H Q _ => ∃ i : Int, vs = [.int i] ∧ Q (.bl true) H
theorem scInteger : FnScope ["value"] ["value"] (defScope sIsInteger) := ⟨rfl, rfl, rfl, by decide +kernel, rfl, by decide +kernel, by decide +kernel⟩
theorem ok_integer {f : Addr} {fd : FuncData} (F : Fun K "is_integer" "is_integer" sIsInteger f fd) (T : TxtG mg) : FnOk P w K mg base CX0 1 f fd ["value"] spInteger := by
  refine F.ok scInteger (fun vs H Q E h => ?_) (fun cdv A outer s H vs Q E hr h => ?_)
  · obtain ⟨_, rfl, _⟩ := h
    rfl
  · obtain ⟨i, rfl, k⟩ := h
    refine ⟨_, pss_one (ps_ret (pe_and (pe_callB call_isi (by rfl) T.isinstance (by decide +kernel) (pa_cons (pv 0) (pa_cons (pe_bltn (v := .ty "int") (by rfl) T.int (by decide +kernel) rfl) pa_nil)))
      (pe_one (pe_not (pe_callB call_isi (by rfl) T.isinstance (by decide +kernel) (pa_cons (pv 0) (pa_cons (pe_bltn (v := .ty "bool") (by rfl) T.bool (by decide +kernel) rfl) pa_nil))))))), ?_⟩
    refine ⟨_, rfl, _, _, _, _, true, rfl, ClsV.ty "int", TyX.base (TyOf.int i), kit_ty (by decide +kernel), _, rfl, iteT ?_⟩
    exact ⟨_, rfl, _, _, _, _, false, rfl, ClsV.ty "bool", TyX.base (TyOf.int i), kit_ty (by decide +kernel), _, rfl, k⟩
def spNumber : Sp := fun vs H Q _ => ∃ i l : Int, vs = [.int i, .int l] ∧ Q (.bl (decide (l ≤ i))) H
theorem scNumber : FnScope ["value", "least"] ["value", "least"] (defScope sIsNumber) := ⟨rfl, rfl, rfl, by decide +kernel, rfl, by decide +kernel, by decide +kernel⟩
theorem ok_number {f : Addr} {fd : FuncData} (F : Fun K "is_number" "is_number" sIsNumber f fd) (Gi : Def P w K mg base "is_integer" ["value"] 1 spInteger) : FnOk P w K mg base CX0 2 f fd ["value", "least"] spNumber := by
  obtain ⟨fi, fdi, Gi, mi, ki, bi⟩ := Gi.ex
  refine F.ok scNumber (fun vs H Q E h => ?_) (fun cdv A outer s H vs Q E hr h => ?_)
  · obtain ⟨_, _, rfl, _⟩ := h
    rfl
  · obtain ⟨i, l, rfl, k⟩ := h
    refine ⟨_, pss_one (ps_ret (pe_and (pe_call Gi hr (by rfl) mi ki bi .nil pass0 (pa_cons (pv 0) pa_nil)) (pe_one (pe_cmpR op_ge (pv 0) (pv 1) (nomark _))))), ?_⟩
    refine ⟨_, rfl, i, rfl, _, rfl, iteT ?_⟩
    exact ⟨_, rfl, _, rfl, _, _, rfl, rfl, k⟩
end
end Nm
set_option autoImplicit true
set_option maxRecDepth 100000
set_option maxHeartbeats 4000000
namespace Nm
open PySem L2
/-- a list of pairs (name, colour) stands at p -/
def PlacesAt (H : Hp) (p : Addr) (nm cl : List Str) : Prop := ∃ ts : List Addr, H p = some (.lst (ts.map V.ref)) ∧ ts.length = nm.length ∧ ∀ (i : Nat) (t : Addr), ts[i]? = some t → ∃ x y, nm[i]? = some x ∧ cl[i]? = some y ∧ H t = some (.tup [.str x, .str y])
section
variable {P : Program} {w : World} {K : PySem.W.Frag} {mg : Str → Option Value} {base : Heap}
/-! ### need_word -/
def spNeedW : Sp := fun vs H Q _ => ∃ x : Str, vs = [.str x] ∧ isWordB x = true ∧ ∀ H', Same H H' → Q .non H'
abbrev nNW : List Str := ["value"]
theorem scNW : FnScope nNW ["value"] (defScope sNeedWord) := ⟨rfl, rfl, rfl, by decide +kernel, rfl, by decide +kernel, by decide +kernel⟩
theorem ok_needW {f : Addr} {fd : FuncData} (F : Fun K "need_word" "need_word" sNeedWord f fd) (_T : TxtG mg) (Gw : Def P w K mg base "is_word" ["value"] 1 spWord) : FnOk P w K mg base CX0 2 f fd ["value"] spNeedW := by
  obtain ⟨fw, fdw, Gw, mw, kw, bw⟩ := Gw.ex
  refine F.ok scNW (fun vs H Q E h => ?_) (fun cdv A outer s H vs Q E hr h => ?_)
  · obtain ⟨_, rfl, _⟩ := h
    rfl
  · obtain ⟨x, rfl, hx, k⟩ := h
    refine ⟨_, pss_one (ps_if (pt_not (pt_val (pe_call Gw hr (by rfl) mw kw bw .nil pass0 (pa_cons (pv 0) pa_nil)))) (pss_one ps_never) pss_nil), ?_⟩
    refine ⟨_, rfl, x, rfl, hx, fun H2 s2 => ⟨_, rfl, iteF ?_⟩⟩
    exact k H2 s2
/-! ### need_once -/
def spOnce : Sp := fun vs H Q _ => ∃ (p : Addr) (nm : List Str), vs = [.ref p] ∧ H p = some (.lst (nm.map V.str)) ∧ nm.length ≤ 1000 ∧ nm.Nodup ∧ ∀ H', Same H H' → Q .non H'
abbrev nNO : List Str := ["names", "told", "name"]
theorem scNO : FnScope nNO ["names"] (defScope sNeedOnce) := ⟨rfl, rfl, rfl, by decide +kernel, rfl, by decide +kernel, by decide +kernel⟩
theorem ok_once {f : Addr} {fd : FuncData} (F : Fun K "need_once" "need_once" sNeedOnce f fd) (T : TxtG mg) : FnOk P w K mg base CX0 1 f fd ["names"] spOnce := by
  refine F.ok scNO (fun vs H Q E h => ?_) (fun cdv A outer s H vs Q E hr h => ?_)
  · obtain ⟨_, _, rfl, _⟩ := h
    rfl
  · obtain ⟨p, nm, rfl, hp, h1000, nd, k⟩ := h
    refine ⟨_, pss_cons (ps_set (i := 1) scNO.nd rfl (Or.inl rfl) (pe_callTy0 cr_set0K (by rfl) T.set (by decide +kernel)))
      (pss_one (ps_for PassesOwn.never rfl (pi_list (pv 0)) (pg_name (i := 2) scNO.nd rfl (.inl rfl))
        (pss_cons (ps_if (pt_cmpR or_sinK (pv 2) (pv 1) (by rfl)) (pss_one ps_never) pss_nil)
        (pss_one (ps_expr (pe_saddK (pv 1) (pa_cons (pv 2) pa_nil))))))), ?_⟩
    refine ⟨rfl, fun se hse => ?_⟩
    have s2 := same_new (o := SetK P w se (fun _ => false) 0) hse
    refine ⟨_, rfl, p, rfl, ⟨_, SqL.of (s2 _ _ hp)⟩, ?_⟩
    refine for_list (xs := nm.map V.str) (fun i σ H2 => ∃ v2 S n, σ = [some (.ref p), some (.ref se), v2] ∧ H2 se = some (SetK P w se S n) ∧ n ≤ i ∧ (∀ k, S k = true → ∃ x ∈ nm.take i, k = Sum.inr x) ∧ Same H H2)
      ⟨none, fun _ => false, 0, rfl, upd_same, Nat.le_refl _, (fun k h => by cases h), s2⟩ (fun i σ H2 _ ⟨_, _, _, _, _, _, _, h⟩ => SqL.of (h _ _ hp)) ?_ ?_
    · rintro i v σ H2 hi ⟨v2, S, n, rfl, hS, hn, hSk, s3⟩
      have hil := (List.getElem?_eq_some_iff.mp hi).1
      rw [List.length_map] at hil
      rw [List.getElem?_map] at hi
      obtain ⟨x, hx, rfl⟩ := Option.map_eq_some_iff.mp hi
      have hxS : S (Sum.inr x) = false := by
        cases e : S (Sum.inr x) with
        | false => rfl
        | true =>
          obtain ⟨x', hx', e'⟩ := hSk _ e
          cases e'
          obtain ⟨j, hj⟩ := List.getElem?_of_mem hx'
          rw [List.getElem?_take] at hj
          split at hj
          · rename_i hji
            have h1 := (List.getElem?_eq_some_iff.mp hj).1
            have h2 := (List.getElem?_eq_some_iff.mp hx).1
            have : j = i := (List.getElem?_inj h1 nd).mp (hj.trans hx.symm)
            omega
          · cases hj
      refine ⟨_, rfl, _, rfl, Sum.inr x, se, S, n, rfl, rfl, hS, _, rfl, ?_⟩
      show (if (if false = true then !S (Sum.inr x) else S (Sum.inr x)) = true then _ else _)
      rw [hxS]
      refine iteF ?_
      refine ⟨_, rfl, ⟨se, S, n, rfl, hS⟩, _, rfl, se, Sum.inr x, S, n, rfl, rfl, hS, by unfold scanBound; omega, ?_⟩
      refine ⟨_, _, _, rfl, upd_same, ?_, ?_, fun b o e => ?_⟩
      · split <;> omega
      · intro k' hk'
        rw [List.take_add_one, hx]
        by_cases e : k' = Sum.inr x
        · exact ⟨x, by simp, e⟩
        · have : S k' = true := by simpa [e] using hk'
          obtain ⟨x', h1, h2⟩ := hSk k' this
          exact ⟨x', List.mem_append_left _ h1, h2⟩
      · rw [upd_ne (ne_of_none e hse)]
        exact s3 b o e
    · rintro σ H2 ⟨v2, S, n, rfl, hS, hn, hSk, s3⟩
      exact k H2 s3
/-! ### need_places -/
def spNeedP : Sp := fun vs H Q _ => ∃ (p : Addr) (nm cl : List Str), vs = [.ref p] ∧ PlacesAt H p nm cl ∧ 1 ≤ nm.length ∧ nm.length ≤ 1000 ∧ nm.Nodup ∧ (∀ x ∈ nm, isWordB x = true) ∧ (∀ x ∈ cl, isWordB x = true) ∧ ∀ H', Same H H' → Q .non H'
abbrev nNP : List Str := ["places", "name", "colour", "_"]
theorem scNP : FnScope nNP ["places"] (defScope sNeedPlaces) := ⟨rfl, rfl, rfl, by decide +kernel, rfl, by decide +kernel, by decide +kernel⟩
theorem ok_needP {f : Addr} {fd : FuncData} (F : Fun K "need_places" "need_places" sNeedPlaces f fd) (T : TxtG mg) (Gw : Def P w K mg base "need_word" ["value"] 2 spNeedW) (Go : Def P w K mg base "need_once" ["names"] 1 spOnce) : FnOk P w K mg base CX0 3 f fd ["places"] spNeedP := by
  obtain ⟨fw, fdw, Gw, mw, kw, bw⟩ := Gw.ex
  obtain ⟨fo, fdo, Go, mo, ko, bo⟩ := Go.ex
  refine F.ok scNP (fun vs H Q E h => ?_) (fun cdv A outer s H vs Q E hr h => ?_)
  · obtain ⟨_, _, _, rfl, _⟩ := h
    rfl
  · obtain ⟨p, nm, cl, rfl, ⟨ts, hp, htl, hts⟩, h1, h1000, nd, hnw, hcw, k⟩ := h
    have hr1 := hr.mono (by decide : 1 ≤ 2)
    refine ⟨_, pss_cons (ps_if (pt_cmpR op_eq (pe_callB call_len_seq (by rfl) T.len PySem.boot_len (pa_cons (pv 0) pa_nil)) pe_int (nomark _)) (pss_one ps_never) pss_nil)
      (pss_cons (ps_for PassesOwn.never rfl (pi_list (pv 0)) (pg_tup rfl (pgs_cons (pg_name (i := 1) scNP.nd rfl (.inl rfl)) (pgs_cons (pg_name (i := 2) scNP.nd rfl (.inl rfl)) pgs_nil)))
        (pss_cons (ps_expr (pe_call Gw hr (by rfl) mw kw bw .nil pass0 (pa_cons (pv 1) pa_nil)))
        (pss_one (ps_expr (pe_call Gw hr (by rfl) mw kw bw .nil pass0 (pa_cons (pv 2) pa_nil))))))
      (pss_one (ps_expr (pe_call Go hr1 (by rfl) mo ko bo .nil pass0 (pa_cons (pe_lc (own := [("name", 1), ("_", 3)]) (g := gTup K 2 (gCons (gName 1) (gCons (gName 3) gNil))) (tt := tYes) (te := tVar 1) rfl scNP.nd (pi_list (pv 0)) (blkOk_by (N := nNP) (sc := defScope sNeedPlaces) (by decide +kernel))
          (fun _ _ _ _ _ => pg_tup rfl (pgs_cons (pg_name (i := 1) scNP.nd rfl (Or.inl rfl)) (pgs_cons (pg_name (i := 3) scNP.nd rfl (Or.inl rfl)) pgs_nil))) (fun _ _ _ _ _ => pts_nil) (fun _ _ _ _ _ => pv 1)) pa_nil))))), ?_⟩
    refine ⟨_, rfl, p, _, rfl, .inl (SqL.of hp), rfl, _, rfl, ?_⟩
    refine ite2 (fun h => ?_) (fun _ => ?_)
    · have h := of_decide_eq_true h
      injection h with h
      rw [List.length_map] at h
      omega
    refine ⟨_, rfl, p, rfl, ⟨_, SqL.of hp⟩, ?_⟩
    refine for_list (xs := ts.map V.ref) (fun i σ H1 => ∃ v1 v2, σ = [some (.ref p), v1, v2, none] ∧ Same H H1) ⟨none, none, rfl, Same.refl H⟩ (fun i σ H1 _ ⟨_, _, _, h⟩ => SqL.of (h _ _ hp)) ?_ ?_
    · rintro i v σ H1 hi ⟨v1, v2, rfl, s1⟩
      rw [List.getElem?_map] at hi
      obtain ⟨t, ht, rfl⟩ := Option.map_eq_some_iff.mp hi
      obtain ⟨x, y, hx, hy, htt⟩ := hts i t ht
      refine ⟨t, _, rfl, SqT.of (s1 _ _ htt), rfl, _, _, rfl, _, _, rfl, rfl, ?_⟩
      refine ⟨_, rfl, x, rfl, hnw x (List.mem_of_getElem? hx), fun H2 s2 => ?_⟩
      refine ⟨_, rfl, y, rfl, hcw y (List.mem_of_getElem? hy), fun H3 s3 => ?_⟩
      exact ⟨_, _, rfl, (s1.trans s2).trans s3⟩
    rintro σ H1 ⟨v1, v2, rfl, s1⟩
    refine ⟨_, rfl, p, rfl, ⟨_, SqL.of (s1 _ _ hp)⟩, fun D hD => ?_⟩
    have hp1 := s1 _ _ hp
    refine lc_list (xs := ts.map V.ref) (fun i H4 => H4 D = some (.lst ((nm.take i).map V.str)) ∧ Same H1 H4) ⟨upd_same, same_new hD⟩ (fun i H4 _ h => SqL.of (h.2 _ _ hp1)) ?_ ?_
    · rintro i x H4 hx ⟨hD4, s4⟩
      have hi := (List.getElem?_eq_some_iff.mp hx).1
      rw [List.length_map] at hi
      rw [List.getElem?_map] at hx
      obtain ⟨t, ht, rfl⟩ := Option.map_eq_some_iff.mp hx
      obtain ⟨x, y, hx, hy, htt'⟩ := hts i t ht
      refine ⟨t, _, rfl, SqT.of (s4 _ _ (s1 _ _ htt')), rfl, _, _, rfl, _, _, rfl, rfl, rfl, tyes ?_⟩
      refine ⟨_, rfl, _, hD4, Evl.sz_lt (by rw [List.length_map, List.length_take]; omega), ?_, fun b o e => ?_⟩
      · rw [upd_same, List.take_add_one, hx, List.map_append]
        rfl
      · rw [upd_ne (ne_of_none e hD)]
        exact s4 b o e
    · rintro H4 ⟨hD4, s4⟩
      rw [List.length_map, htl, List.take_of_length_le (Nat.le_refl _)] at hD4
      exact ⟨D, nm, rfl, hD4, h1000, nd, fun H5 s5 => k H5 ((s1.trans s4).trans s5)⟩
end
end Nm
set_option autoImplicit true
set_option maxRecDepth 100000
set_option maxHeartbeats 4000000
/-! min and max of two texts -/
namespace Nm
open PySem PySem.Spec PyProof.Rows L2
section
variable {prog : Program} {w : World} {A : Around} {E : Value → Shared → Prop} {s : Shared}
def two (a b : Value) : Array Value := #[a, b]
theorem two_at {a b : Value} {i : Nat} {v : Value} (h : (two a b)[i]? = some v) : (i = 0 ∧ v = a) ∨ (i = 1 ∧ v = b) := by
  match i, h with
  | 0, h => left; simpa [two, eq_comm] using h
  | 1, h => right; simpa [two, eq_comm] using h
  | i + 2, h => simp [two] at h
def strAt (x y : Str) (i : Nat) : Str := if i = 0 then x else y
theorem two_str {x y : Str} {t u : Tok} {i : Nat} {v : Value} (h : (two (.str x t) (.str y u))[i]? = some v) : ∃ t', v = .str (strAt x y i) t' := by
  rcases two_at h with ⟨rfl, rfl⟩ | ⟨rfl, rfl⟩
  · exact ⟨t, rfl⟩
  · exact ⟨u, rfl⟩
theorem min_two_strs {x y : Str} {t u : Tok} {Q : Value → Shared → Prop} (hh : A.handled = none)
    (h : ∀ h' tk, (∀ c o, s.heap.get? c = some o → h'.get? c = some o) → Q (if y.cps.toList < x.cps.toList then .str y u else .str x t) { s with heap := h', toks := tk }) :
    wpAny (model prog w) A (call (.builtin "min") [.str x t, .str y u]) Q E s := by
  have hT : (s.heap.push { cls := .type "tuple", data := .seq #[.str x t, .str y u] }).IsTuple s.heap.objs.size (two (.str x t) (.str y u)) := ⟨_, Heap.get?_push_size _ rfl, rfl, 0, rfl⟩
  refine call_min_two (wpAny_pyIter_tuple hT ?_)
  have hsz : (s.heap.push { cls := .type "tuple", data := .seq #[.str x t, .str y u] }).objs.size = s.heap.objs.size + 1 := Heap.size_push ..
  refine ⟨_, [_, s.heap.objs.size], [_], _, _, _, fun i j => decide ((strAt x y i).cps.toList < (strAt x y j).cps.toList), rfl, Walks.tuple (A := A.in1) hh _ s.heap.objs.size (by rw [hsz]; exact Nat.ne_of_lt (Nat.lt_succ_self _)) (two (.str x t) (.str y u)),
    ⟨⟨_, Heap.get?_push_size _ rfl, rfl, rfl⟩, hT.push _⟩, fun c hc => ?_, by simp [two], ?_, fun v h' tk hP hk => ?_⟩
  · show c < ((s.heap.push _).push _).objs.size
    rw [Heap.size_push, hsz]
    rcases List.mem_cons.mp hc with rfl | hc
    · rw [hsz]; exact Nat.lt_succ_self _
    · rcases List.mem_cons.mp hc with rfl | hc
      · exact Nat.lt_succ_of_lt (Nat.lt_succ_self _)
      · cases hc
  · intro i j vi vj s' Q' E' hi hj hq
    obtain ⟨t1, rfl⟩ := two_str hi
    obtain ⟨t2, rfl⟩ := two_str hj
    exact lt_str (t := t1) (u := t2) hq
  · have hold : ∀ c o, s.heap.get? c = some o → h'.get? c = some o := fun c o e => by
      refine hk c o (fun hm => ?_) (Heap.get?_push_of_some _ (Heap.get?_push_of_some _ e))
      rcases List.mem_cons.mp hm with e1 | hm
      · have := Heap.lt_size e; rw [e1, hsz] at this; exact Nat.lt_irrefl _ (Nat.lt_of_succ_lt this)
      · cases hm
    have := h h' tk hold
    have hv : v = if y.cps.toList < x.cps.toList then Value.str y u else Value.str x t := by
      have hP' : (two (.str x t) (.str y u))[argBest (fun i j => decide ((strAt x y i).cps.toList < (strAt x y j).cps.toList)) 1]? = some v := hP
      by_cases hba : y.cps.toList < x.cps.toList
      · have e : argBest (fun i j => decide ((strAt x y i).cps.toList < (strAt x y j).cps.toList)) 1 = 1 := by simp [argBest, strAt, hba]
        rw [e] at hP'
        rw [if_pos hba]
        simpa [two] using hP'.symm
      · have e : argBest (fun i j => decide ((strAt x y i).cps.toList < (strAt x y j).cps.toList)) 1 = 0 := by simp [argBest, strAt, hba]
        rw [e] at hP'
        rw [if_neg hba]
        simpa [two] using hP'.symm
    rw [hv]; exact this
theorem max_two_strs {x y : Str} {t u : Tok} {Q : Value → Shared → Prop} (hh : A.handled = none)
    (h : ∀ h' tk, (∀ c o, s.heap.get? c = some o → h'.get? c = some o) → Q (if x.cps.toList < y.cps.toList then .str y u else .str x t) { s with heap := h', toks := tk }) :
    wpAny (model prog w) A (call (.builtin "max") [.str x t, .str y u]) Q E s := by
  have hT : (s.heap.push { cls := .type "tuple", data := .seq #[.str x t, .str y u] }).IsTuple s.heap.objs.size (two (.str x t) (.str y u)) := ⟨_, Heap.get?_push_size _ rfl, rfl, 0, rfl⟩
  refine call_max_two (wpAny_pyIter_tuple hT ?_)
  have hsz : (s.heap.push { cls := .type "tuple", data := .seq #[.str x t, .str y u] }).objs.size = s.heap.objs.size + 1 := Heap.size_push ..
  refine ⟨_, [_, s.heap.objs.size], [_], _, _, _, fun i j => decide ((strAt x y j).cps.toList < (strAt x y i).cps.toList), rfl, Walks.tuple (A := A.in1) hh _ s.heap.objs.size (by rw [hsz]; exact Nat.ne_of_lt (Nat.lt_succ_self _)) (two (.str x t) (.str y u)),
    ⟨⟨_, Heap.get?_push_size _ rfl, rfl, rfl⟩, hT.push _⟩, fun c hc => ?_, by simp [two], ?_, fun v h' tk hP hk => ?_⟩
  · show c < ((s.heap.push _).push _).objs.size
    rw [Heap.size_push, hsz]
    rcases List.mem_cons.mp hc with rfl | hc
    · rw [hsz]; exact Nat.lt_succ_self _
    · rcases List.mem_cons.mp hc with rfl | hc
      · exact Nat.lt_succ_of_lt (Nat.lt_succ_self _)
      · cases hc
  · intro i j vi vj s' Q' E' hi hj hq
    obtain ⟨t1, rfl⟩ := two_str hi
    obtain ⟨t2, rfl⟩ := two_str hj
    exact PySem.P.gt_str (t := t1) (u := t2) hq
  · have hold : ∀ c o, s.heap.get? c = some o → h'.get? c = some o := fun c o e => by
      refine hk c o (fun hm => ?_) (Heap.get?_push_of_some _ (Heap.get?_push_of_some _ e))
      rcases List.mem_cons.mp hm with e1 | hm
      · have := Heap.lt_size e; rw [e1, hsz] at this; exact Nat.lt_irrefl _ (Nat.lt_of_succ_lt this)
      · cases hm
    have := h h' tk hold
    have hv : v = if x.cps.toList < y.cps.toList then Value.str y u else Value.str x t := by
      have hP' : (two (.str x t) (.str y u))[argBest (fun i j => decide ((strAt x y j).cps.toList < (strAt x y i).cps.toList)) 1]? = some v := hP
      by_cases hba : x.cps.toList < y.cps.toList
      · have e : argBest (fun i j => decide ((strAt x y j).cps.toList < (strAt x y i).cps.toList)) 1 = 1 := by simp [argBest, strAt, hba]
        rw [e] at hP'
        rw [if_pos hba]
        simpa [two] using hP'.symm
      · have e : argBest (fun i j => decide ((strAt x y j).cps.toList < (strAt x y i).cps.toList)) 1 = 0 := by simp [argBest, strAt, hba]
        rw [e] at hP'
        rw [if_neg hba]
        simpa [two] using hP'.symm
    rw [hv]; exact this
end
def minS (x y : Str) : Str := if y.cps.toList < x.cps.toList then y else x
def maxS (x y : Str) : Str := if x.cps.toList < y.cps.toList then y else x
section
variable {X : Cx}
theorem call_min2S (hc : X.calm = true) : CallR X (.builtin "min") (fun xs H Q => ∃ x y, xs = [.str x, .str y] ∧ Q (.str (minS x y)) H) := by
  intro pins s σ H xs us Q I r h
  obtain ⟨x, y, rfl, q⟩ := h
  obtain ⟨u, w', rfl, ⟨t, rfl⟩, ⟨t', rfl⟩⟩ := vals2 r
  refine min_two_strs (I.ok.hd hc) fun h' tk k => ⟨_, H, I.kept k, ?_, q⟩
  unfold minS
  by_cases hj : y.cps.toList < x.cps.toList
  · rw [if_pos hj, if_pos hj]; exact ⟨_, rfl⟩
  · rw [if_neg hj, if_neg hj]; exact ⟨_, rfl⟩
theorem call_max2S (hc : X.calm = true) : CallR X (.builtin "max") (fun xs H Q => ∃ x y, xs = [.str x, .str y] ∧ Q (.str (maxS x y)) H) := by
  intro pins s σ H xs us Q I r h
  obtain ⟨x, y, rfl, q⟩ := h
  obtain ⟨u, w', rfl, ⟨t, rfl⟩, ⟨t', rfl⟩⟩ := vals2 r
  refine max_two_strs (I.ok.hd hc) fun h' tk k => ⟨_, H, I.kept k, ?_, q⟩
  unfold maxS
  by_cases hj : x.cps.toList < y.cps.toList
  · rw [if_pos hj, if_pos hj]; exact ⟨_, rfl⟩
  · rw [if_neg hj, if_neg hj]; exact ⟨_, rfl⟩
end
end Nm
set_option autoImplicit true
set_option maxRecDepth 100000
set_option maxHeartbeats 4000000
namespace Nm
open PySem L2
theorem val_ex : ∀ {kvs : List (Key × V)} {k : Key}, k ∈ kvs.map (·.1) → ∃ v, valV kvs k = some v
  | kv :: r, k, h => by
    by_cases e : kv.1 = k
    · exact ⟨_, valV_pos e⟩
    · rw [valV_neg e]
      rw [List.map_cons] at h
      rcases List.mem_cons.mp h with z | z
      · exact absurd z.symm e
      · exact val_ex z
/-- a tie as it is told -/
structure TieV where
  x : Str
  y : Str
  kd : Str
  w : Int
def TieV.tup (t : TieV) : List V := [.str t.x, .str t.y, .str t.kd, .int t.w]
structure TieV.Ok (t : TieV) (nm : List Str) : Prop where
  hx : t.x ∈ nm
  hy : t.y ∈ nm
  ne : t.x ≠ t.y
  kw : isWordB t.kd = true
  w1 : 1 ≤ t.w
/-- the spot of a tie -/
def TieV.spot (t : TieV) : List Key := [Sum.inr (minS t.x t.y), Sum.inr (maxS t.x t.y), Sum.inr t.kd]
section
variable {P : Program} {w : World} {K : PySem.W.Frag} {mg : Str → Option Value} {base : Heap}
/-! ### tie_spot -/
def spSpot : Sp := fun vs H Q _ => ∃ (t d : Addr) (tv : TieV) (nm : List Str) (kvs : List (Key × V)), vs = [.ref t, .ref d] ∧ H t = some (.tup tv.tup) ∧ H d = some (.dK kvs) ∧ kvs.map (·.1) = nm.map Sum.inr ∧ tv.Ok nm ∧
  ∀ (r : Addr) (H' : Hp), H r = none → H' r = some (.tup (tv.spot.map kV)) → Same H H' → Q (.ref r) H'
abbrev nSp : List Str := ["tie", "names", "one", "other", "kind", "width"]
theorem scSp : FnScope nSp ["tie", "names"] (defScope sTieSpot) := ⟨rfl, rfl, rfl, by decide +kernel, rfl, by decide +kernel, by decide +kernel⟩
structure TxtH (mg : Str → Option Value) : Prop extends TxtG mg where
  tuple : mg "tuple" = none
theorem ok_spot {f : Addr} {fd : FuncData} (F : Fun K "tie_spot" "tie_spot" sTieSpot f fd) (T : TxtH mg) (Gw : Def P w K mg base "is_word" ["value"] 1 spWord) (Gn : Def P w K mg base "is_number" ["value", "least"] 2 spNumber) : FnOk P w K mg base CX0 3 f fd ["tie", "names"] spSpot := by
  obtain ⟨fw, fdw, Gw, mw, kw, bw⟩ := Gw.ex
  obtain ⟨fn, fdn, Gn, mn, kn, bn⟩ := Gn.ex
  refine F.ok scSp (fun vs H Q E h => ?_) (fun cdv A outer s H vs Q E hr h => ?_)
  · obtain ⟨_, _, _, _, _, rfl, _⟩ := h
    rfl
  · obtain ⟨t, d, tv, nm, kvs, rfl, ht, hd, hk, ok, k⟩ := h
    have hu := hu_of hr
    refine ⟨_, pss_cons (ps_if (PW.pt (pw_or (pt_not (pt_val (pe_callB call_isi (by rfl) T.isinstance (by decide +kernel) (pa_cons (pv 0) (pa_cons (pe_bltn (v := .ty "tuple") (by rfl) T.tuple (by decide +kernel) rfl) pa_nil))))) (pw_or1 (pt_cmpR op_ne (pe_callB call_len_seq (by rfl) T.len PySem.boot_len (pa_cons (pv 0) pa_nil)) pe_int (nomark _))))) (pss_one (ps_ret pe_non)) pss_nil)
      (pss_cons (ps_asg (pv 0) (pg_tup rfl (pgs_cons (pg_name (i := 2) scSp.nd rfl (.inl rfl)) (pgs_cons (pg_name (i := 3) scSp.nd rfl (.inl rfl)) (pgs_cons (pg_name (i := 4) scSp.nd rfl (.inl rfl)) (pgs_cons (pg_name (i := 5) scSp.nd rfl (.inl rfl)) pgs_nil))))))
      (pss_cons (ps_if (PW.pt (pw_or (pt_not (pt_val (pe_callB call_isi (by rfl) T.isinstance (by decide +kernel) (pa_cons (pv 2) (pa_cons (pe_bltn (v := .ty "str") (by rfl) T.str (by decide +kernel) rfl) pa_nil))))) (pw_or (pt_not (pt_val (pe_callB call_isi (by rfl) T.isinstance (by decide +kernel) (pa_cons (pv 3) (pa_cons (pe_bltn (v := .ty "str") (by rfl) T.str (by decide +kernel) rfl) pa_nil))))) (pw_or1 (pt_cmpR op_eq (pv 2) (pv 3) (nomark _)))))) (pss_one (ps_ret pe_non)) pss_nil)
      (pss_cons (ps_if (PW.pt (pw_or (pt_cmp (pc_dnotin hu (pv 2) (pv 1))) (pw_or1 (pt_cmp (pc_dnotin hu (pv 3) (pv 1)))))) (pss_one (ps_ret pe_non)) pss_nil)
      (pss_cons (ps_if (PW.pt (pw_or (pt_not (pt_val (pe_call Gw (hr.mono (by decide)) (by rfl) mw kw bw .nil pass0 (pa_cons (pv 4) pa_nil)))) (pw_or1 (pt_not (pt_val (pe_call Gn hr (by rfl) mn kn bn .nil pass0 (pa_cons (pv 5) (pa_cons pe_int pa_nil)))))))) (pss_one (ps_ret pe_non)) pss_nil)
      (pss_one (ps_ret (pe_tup (pa_cons (pe_callB (call_min2S rfl) (by rfl) T.min (by decide +kernel) (pa_cons (pv 2) (pa_cons (pv 3) pa_nil))) (pa_cons (pe_callB (call_max2S rfl) (by rfl) T.max (by decide +kernel) (pa_cons (pv 2) (pa_cons (pv 3) pa_nil))) (pa_cons (pv 4) pa_nil)))))))))), ?_⟩
    refine ⟨_, rfl, _, _, _, _, true, rfl, ClsV.ty "tuple", TyX.base (TyOf.tup ht), kit_ty (by decide +kernel), _, rfl, iteF ?_⟩
    refine ⟨_, rfl, t, _, rfl, .inr (SqT.of ht), rfl, _, rfl, iteF ?_⟩
    refine ⟨_, rfl, t, _, rfl, SqT.of ht, rfl, _, _, rfl, _, _, rfl, _, _, rfl, _, _, rfl, rfl, ?_⟩
    refine ⟨_, rfl, _, _, _, _, true, rfl, ClsV.ty "str", TyX.base (TyOf.str _), kit_ty (by decide +kernel), _, rfl, iteF ?_⟩
    refine ⟨_, rfl, _, _, _, _, true, rfl, ClsV.ty "str", TyX.base (TyOf.str _), kit_ty (by decide +kernel), _, rfl, iteF ?_⟩
    have hne : decide (V.str tv.x = V.str tv.y) = false := decide_eq_false (fun e => ok.ne (by injection e))
    refine ⟨_, rfl, _, rfl, rfl, _, rfl, ?_⟩
    rw [hne]
    refine iteF ?_
    have there : ∀ z, z ∈ nm → ∃ v, valV kvs (Sum.inr z) = some v := fun z hz => val_ex (by rw [hk]; exact List.mem_map.mpr ⟨z, hz, rfl⟩)
    obtain ⟨vx, hvx⟩ := there tv.x ok.hx
    obtain ⟨vy, hvy⟩ := there tv.y ok.hy
    refine ⟨_, rfl, _, rfl, d, some vx, rfl, (by rw [← hvx]; exact DGet.k (k := Sum.inr tv.x) hd), _, rfl, iteF ?_⟩
    refine ⟨_, rfl, _, rfl, d, some vy, rfl, (by rw [← hvy]; exact DGet.k (k := Sum.inr tv.y) hd), _, rfl, iteF ?_⟩
    refine ⟨_, rfl, tv.kd, rfl, ok.kw, fun H1 s1 => ⟨_, rfl, iteF ?_⟩⟩
    have hw1 : decide ((1 : Int) ≤ tv.w) = true := decide_eq_true ok.w1
    refine ⟨_, rfl, tv.w, 1, rfl, _, rfl, ?_⟩
    rw [hw1]
    refine iteF ?_
    refine ⟨_, rfl, _, rfl, _, _, rfl, _, rfl, _, rfl, _, _, rfl, _, rfl, (by show 3 ≤ sizeLine; decide), fun r hr => ?_⟩
    exact k r _ (s1.free hr) upd_same (s1.trans (same_new hr))
end
end Nm
set_option autoImplicit true
set_option maxRecDepth 100000
set_option maxHeartbeats 4000000
/-! for i, x in enumerate(a tuple) -/
namespace Nm
open PySem PySem.Spec PyProof.Rows L2
open PySem.AutoSeq1 (wpAny_loadPart')
/-- the call of the type -/
theorem en_new (l : Addr) (xs : Array Value) (n : Nat) (dd : Option Addr) (sl : Array (Option Value)) :
    Meets (Builtin.«enumerate.__new__» ⟨[.type "enumerate", .ref l], []⟩) (fun _ R s => s.heap.get? l = some { cls := .type "tuple", dict := dd, data := .seq xs n, slots := sl } ∧
      R (.ok (.ret (.ref (s.heap.push { cls := .type "tuple_iterator", data := .fields #[.ref l, .int 0 0] }).objs.size)))
        { s with heap := (s.heap.push { cls := .type "tuple_iterator", data := .fields #[.ref l, .int 0 0] }).push { cls := .type "enumerate", data := .fields #[.none, .bool false, .ref s.heap.objs.size, rawInt 0, .none, .none] } }) :=
  .of_wp fun prog w A R s h => by
    obtain ⟨hp, g, d, tk, os⟩ := s; obtain ⟨ht0, h⟩ := h
    have hsub := sub_enumerate
    have hT : Heap.IsTuple (Shared.heap ⟨hp, g, d, tk, os⟩) l xs := ⟨_, ht0, rfl, n, rfl⟩
    wp_walk using wpAny_loadPart' ht0
    refine wpAny_stack_any fun st => wpAny_pure ?_
    split
    · rename_i c _ _ _ _ _
      cases (c == Value.type "enumerate")
      · wp_walk using wpAny_loadPart' ht0, wpAny_pyIter_tuple hT
        exact ⟨_, rfl, h⟩
      · wp_walk using wpAny_loadPart' ht0, wpAny_pyIter_tuple hT
        exact ⟨_, rfl, h⟩
    · wp_walk using wpAny_loadPart' ht0, wpAny_pyIter_tuple hT
      exact ⟨_, rfl, h⟩
section
variable {prog : Program} {w : World} {A : Around} {E : Value → Shared → Prop} {s : Shared}
theorem en_call {l : Addr} {xs : Array Value} {Q : Value → Shared → Prop} (hT : s.heap.IsTuple l xs)
    (h : ∀ h', IsEnum h' (s.heap.objs.size + 1) s.heap.objs.size 0 .none → h'.IsTupleIter s.heap.objs.size l 0 → h'.objs.size = s.heap.objs.size + 2 →
      (∀ b o, s.heap.get? b = some o → h'.get? b = some o) → Q (.ref (s.heap.objs.size + 1)) { s with heap := h' }) : wpAny (model prog w) A (call (.type "enumerate") [.ref l]) Q E s := by
  obtain ⟨⟨c, dd, dt, sl⟩, hl, hc, n, hd⟩ := hT
  replace hc : c = .type "tuple" := hc
  replace hd : dt = .seq xs n := hd
  subst hc hd
  refine callType_new F.called_enumerate (by decide) (F.typeCall_enumerate_1 _) (F.newCall_enumerate_1 _) (fun obj => F.args_object_init_2 obj _) F.entry_enumerate_new (en_new l xs n dd sl) ⟨hl, ?_⟩
  have hz : (s.heap.push { cls := .type "tuple_iterator", data := .fields #[.ref l, .int 0 0] }).objs.size = s.heap.objs.size + 1 := Heap.size_push ..
  show _ ∧ _
  rw [hz]
  have he : IsEnum ((s.heap.push { cls := .type "tuple_iterator", data := .fields #[.ref l, .int 0 0] }).push
      { cls := .type "enumerate", data := .fields #[.none, .bool false, .ref s.heap.objs.size, rawInt 0, .none, .none] }) (s.heap.objs.size + 1) s.heap.objs.size 0 .none := by
    have := Heap.get?_push_size (s.heap.push { cls := .type "tuple_iterator", data := .fields #[.ref l, .int 0 0] })
      (o := { cls := .type "enumerate", data := .fields #[.none, .bool false, .ref s.heap.objs.size, rawInt 0, .none, .none] }) rfl
    rw [hz] at this; exact this
  exact ⟨⟨_, he, rfl⟩, h _ he ⟨_, Heap.get?_push_of_some _ (Heap.get?_push_size _ rfl), rfl, rfl⟩ (by rw [Heap.size_push, hz]) fun b o x => Heap.get?_push_of_some _ (Heap.get?_push_of_some _ x)⟩
/-- one turn -/
theorem en_next {e it l : Addr} {i : Nat} {xs : Array Value} {x old : Value} {Q : Value → Shared → Prop} (he : IsEnum s.heap e it i old) (hit : s.heap.IsTupleIter it l i) (hl : s.heap.IsTuple l xs) (hx : xs[i]? = some x) (hne : e ≠ it)
    (hQ : ∀ h', IsEnumOut h' e it ((i : Int) + 1) x s.heap.objs.size → h'.IsTupleIter it l (i + 1) → h'.get? s.heap.objs.size = some { cls := .type "tuple", data := .seq #[.int i s.toks, x] } → h'.objs.size = s.heap.objs.size + 1 →
      (∀ b o, b ≠ e → b ≠ it → s.heap.get? b = some o → h'.get? b = some o) → Q (.ref s.heap.objs.size) { s with heap := h', toks := s.toks + 1 }) :
    wpAny (model prog w) A (Builtin.«enumerate.__next__» ⟨[.ref e], []⟩) (fun fin s' => ∃ v, fin = .done (.ret v) ∧ Q v s') E s := by
  obtain ⟨hp, g, d, tk, os⟩ := s
  show wpAny _ _ (field (.ref e) 2 >>= _) _ _ _
  refine wpAny_bind (wpAny_field he rfl (x := .ref it) rfl (wpAny_bind (RZ.nextOf_tuple_item hit hl hx fun h₁ hit₁ hs₁ => ?_)))
  replace hs₁ : Heap.SameBut it hp h₁ := hs₁
  have he₁ : IsEnum h₁ e it i old := (hs₁.2 e hne).trans he
  show wpAny _ _ (field (.ref e) 3 >>= _) _ _ ⟨h₁, g, d, tk, os⟩
  refine wpAny_bind (wpAny_field he₁ rfl (x := rawInt i) rfl ?_)
  show wpAny _ _ (field (.ref e) 4 >>= _) _ _ ⟨h₁, g, d, tk, os⟩
  refine wpAny_bind (wpAny_field he₁ rfl (x := .none) rfl ?_)
  show wpAny _ _ (mkInt i >>= _) _ _ ⟨h₁, g, d, tk, os⟩
  refine wpAny_bind (wpAny_mkInt ?_)
  show wpAny _ _ (setField (.ref e) 3 (rawInt ((i : Int) + 1)) >>= _) _ _ ⟨h₁, g, d, tk + 1, os⟩
  refine wpAny_bind (wpAny_setField_rec he₁ (by simp) fun h₂ he₂ hs₂ => ?_)
  replace hs₂ : Heap.SameBut e h₁ h₂ := hs₂
  replace he₂ : IsEnum h₂ e it ((i : Int) + 1) old := he₂
  show wpAny _ _ (setField (.ref e) 4 .none >>= _) _ _ ⟨h₂, g, d, tk + 1, os⟩
  refine wpAny_bind (wpAny_setField_rec he₂ (by simp) fun h₃ he₃ hs₃ => ?_)
  replace hs₃ : Heap.SameBut e h₂ h₃ := hs₃
  replace he₃ : IsEnum h₃ e it ((i : Int) + 1) old := he₃
  show wpAny _ _ (newTuple [.int i tk, x] >>= _) _ _ ⟨h₃, g, d, tk + 1, os⟩
  refine wpAny_bind (wpAny_newTuple ?_)
  have he₄ : IsEnum (h₃.push { cls := .type "tuple", data := .seq #[.int i tk, x] }) e it ((i : Int) + 1) old := Heap.get?_push_of_some _ he₃
  generalize hh₄ : h₃.push { cls := .type "tuple", data := .seq #[.int i tk, x] } = h₄ at he₄
  have hsz : h₃.objs.size = hp.objs.size := by rw [hs₃.1, hs₂.1, hs₁.1]
  have hel : e < hp.objs.size := Heap.lt_size he
  have ht₄ : h₄.get? hp.objs.size = some { cls := .type "tuple", data := .seq #[.int i tk, x] } := by rw [← hh₄, ← hsz]; exact Heap.get?_push_size _ rfl
  have hz₄ : h₄.objs.size = hp.objs.size + 1 := by rw [← hh₄, Heap.size_push, hsz]
  have hk₄ : ∀ b o, b ≠ e → b ≠ it → hp.get? b = some o → h₄.get? b = some o := fun b o hbe hbi hb => by
    rw [← hh₄]; exact Heap.get?_push_of_some _ (hs₃.extBut b o hbe (hs₂.extBut b o hbe (hs₁.extBut b o hbi hb)))
  have hit₄ : h₄.IsTupleIter it l (i + 1) := by
    rw [← hh₄]; obtain ⟨o, ho, r⟩ := (hit₁.extBut hs₂.extBut (Ne.symm hne)).extBut hs₃.extBut (Ne.symm hne); exact ⟨o, Heap.get?_push_of_some _ ho, r⟩
  show wpAny _ _ (Builtin.SmallTypes.ownedTupleIsFree (.ref e) >>= _) _ _ ⟨h₄, g, d, tk + 1, os⟩
  rw [hsz]
  clear hh₄ he₃ hs₃ he₂ hs₂ he₁ hs₁ hit₁ hsz h₃ h₂ h₁
  refine wpAny_bind ?_
  unfold Builtin.SmallTypes.ownedTupleIsFree
  refine wpAny_bind (wpAny_field he₄ rfl (x := .none) rfl (wpAny_pure ?_))
  simp only [if_true]
  refine wpAny_bind (wpAny_rule ?_)
  refine wpAny_bind (wpAny_field he₄ rfl (x := old) rfl ?_)
  refine wpAny_bind (wpAny_setField_rec he₄ (by simp) fun h₅ he₅ hs₅ => ?_)
  replace hs₅ : Heap.SameBut e h₄ h₅ := hs₅
  replace he₅ : IsEnum h₅ e it ((i : Int) + 1) x := he₅
  show wpAny _ _ (Builtin.SmallTypes.ownedTupleHandOut (.ref e) (.ref hp.objs.size) >>= _) _ _ ⟨h₅, g, d, tk + 1, os⟩
  refine wpAny_bind ?_
  unfold Builtin.SmallTypes.ownedTupleHandOut
  refine wpAny_bind (wpAny_setField_rec he₅ (by simp) fun h₆ he₆ hs₆ => ?_)
  replace hs₆ : Heap.SameBut e h₅ h₆ := hs₆
  replace he₆ : IsEnumOut h₆ e it ((i : Int) + 1) x hp.objs.size := he₆
  refine wpAny_setField_rec he₆ (by simp) fun h₇ he₇ hs₇ => ?_
  replace hs₇ : Heap.SameBut e h₆ h₇ := hs₇
  replace he₇ : IsEnumOut h₇ e it ((i : Int) + 1) x hp.objs.size := he₇
  refine wpAny_bind (wpAny_letGo (wpAny_pure ⟨_, rfl, hQ h₇ he₇ ?_ ?_ ?_ ?_⟩))
  · exact ((hit₄.extBut hs₅.extBut (Ne.symm hne)).extBut hs₆.extBut (Ne.symm hne)).extBut hs₇.extBut (Ne.symm hne)
  · exact hs₇.extBut _ _ (Nat.ne_of_gt hel) (hs₆.extBut _ _ (Nat.ne_of_gt hel) (hs₅.extBut _ _ (Nat.ne_of_gt hel) ht₄))
  · rw [hs₇.1, hs₆.1, hs₅.1, hz₄]
  · exact fun b o hbe hbi hb => hs₇.extBut b o hbe (hs₆.extBut b o hbe (hs₅.extBut b o hbe (hk₄ b o hbe hbi hb)))
theorem en_item {e it l : Addr} {i : Nat} {xs : Array Value} {x old : Value} {Q : Option Value → Shared → Prop} (he : IsEnum s.heap e it i old) (hit : s.heap.IsTupleIter it l i) (hl : s.heap.IsTuple l xs) (hx : xs[i]? = some x) (hne : e ≠ it)
    (hQ : ∀ h', IsEnumOut h' e it ((i : Int) + 1) x s.heap.objs.size → h'.IsTupleIter it l (i + 1) → h'.get? s.heap.objs.size = some { cls := .type "tuple", data := .seq #[.int i s.toks, x] } → h'.objs.size = s.heap.objs.size + 1 →
      (∀ b o, b ≠ e → b ≠ it → s.heap.get? b = some o → h'.get? b = some o) → Q (some (.ref s.heap.objs.size)) { s with heap := h', toks := s.toks + 1 }) : wpAny (model prog w) A (pyNext (.ref e)) Q E s := by
  have hT : s.TypeIs (.ref e) "enumerate" := ⟨_, he, rfl⟩
  unfold pyNext
  exact wpAny_bind (wpAny_attempt (wpAny_callSpecial?_slot (name := Str.ofString "__next__") hT F.slot_enumerate_next (wpAny_call_entry F.slot_enumerate_next hT F.entry_enumerate_next
    (en_next he hit hl hx hne fun h' a b c d k => wpAny_pure (hQ h' a b c d k)) (F.args_enumerate_next_1 _))))
theorem en_end {e it l : Addr} {i : Nat} {xs : Array Value} {old : Value} {Q : Option Value → Shared → Prop} (hh : A.handled = none) (he : IsEnum s.heap e it i old) (hit : s.heap.IsTupleIter it l i) (hl : s.heap.IsTuple l xs) (hx : xs[i]? = none)
    (hQ : ∀ h', Heap.ExtBut it s.heap h' → Q none { s with heap := h' }) : wpAny (model prog w) A (pyNext (.ref e)) Q E s := by
  have hT : s.TypeIs (.ref e) "enumerate" := ⟨_, he, rfl⟩
  unfold pyNext
  refine wpAny_bind (wpAny_attempt (wpAny_callSpecial?_slot (name := Str.ofString "__next__") hT F.slot_enumerate_next (wpAny_call_entry F.slot_enumerate_next hT F.entry_enumerate_next ?_ (F.args_enumerate_next_1 _))))
  show wpAny _ _ (field (.ref e) 2 >>= _) _ _ _
  refine wpAny_bind (wpAny_field he rfl (x := .ref it) rfl (wpAny_bind (RZ.nextOf_tuple_end hh hit hl hx fun h' x he' hx' => ?_)))
  obtain ⟨o, ho, hc⟩ := hx'
  exact wpAny_bind (wpAny_isInstance (T := "StopIteration") (b := true) ⟨o, ho, hc⟩ isSubtype_stop (wpAny_pure (hQ _ he')))
end
/-- the tuple at a, each item in a new pair with its number -/
def ItT (K : PySem.W.Frag) (a : Addr) : It :=
  ⟨fun i H => ∃ (xs : List V) (x : V), SqT K H a xs ∧ xs[i]? = some x, fun i H v H' => ∃ T x, v = .ref T ∧ H T = none ∧ H' = upd H T (.tup [.int (i : Nat), x]) ∧ ∀ xs, SqT K H a xs → xs[i]? = some x, fun i H => ∃ xs : List V, SqT K H a xs ∧ xs.length ≤ i⟩
theorem turn_enT {P : Program} {w : World} {K : PySem.W.Frag} {elts : List Expr} {kk : Nat} {tpos : Pos} (a e it : Addr) :
    Turn P w K (.Tuple elts kk tpos) (ItT K a) [e, it] e (fun i h => (∃ old, IsEnum h e it ((i : Nat) : Int) old) ∧ h.IsTupleIter it a i ∧ e ≠ it) where
  mem := by simp
  obj := fun i h st b hb => by
    obtain ⟨⟨old, he⟩, ⟨o, ho, hc, hd⟩, _⟩ := st
    have e' : b = e ∨ b = it := by simpa using hb
    rcases e' with z | z
    · rw [z]; exact ⟨_, he, fun v q => nomatch q⟩
    · rw [z]; exact ⟨o, ho, fun v q => by rw [hd] at q; cases q⟩
  keep := fun i h h' st k => by
    obtain ⟨⟨old, he⟩, ⟨o, ho, r⟩, hne⟩ := st
    exact ⟨⟨old, k e (by simp) _ he⟩, ⟨o, k it (by simp) o ho, r⟩, hne⟩
  item := by
    intro X hP hw hK hc i pins s σ H E I hf st hg
    subst hP hw hK
    obtain ⟨⟨old, he⟩, hit, hne⟩ := st
    obtain ⟨xs, x, hq, hx⟩ := hg
    obtain ⟨its, rv, p, hz⟩ := I.tuple hq
    obtain ⟨u, hu, ru⟩ := rv.get hx
    have hel : e < s.heap.objs.size := Heap.lt_size he
    have hil : it < s.heap.objs.size := by obtain ⟨_, q, _⟩ := hit; exact Heap.lt_size q
    refine en_item (l := a) (xs := its.toArray) he hit p (x := u) (by simpa using hu) hne fun h' ho hit' hT hsz hk => ?_
    refine ⟨_, rfl, wpAny_letOwnedTupleGo_enum (s := { s with heap := h', toks := s.toks + 1 }) ho fun h'' he' sb => ?_⟩
    have hT2 : h''.get? s.heap.objs.size = some { cls := .type "tuple", data := .seq #[.int i s.toks, u] } := (sb.2 _ (Nat.ne_of_gt hel)).trans hT
    have new : ObjOk X.prog X.w (upd H s.heap.objs.size (.tup [.int (i : Nat), x])) h'' s.heap.objs.size (.tup [.int (i : Nat), x]) :=
      ⟨by show 2 ≤ sizeLine; decide, [.int i s.toks, u], .cons ⟨_, rfl⟩ (.cons ru .nil), ⟨_, hT2, rfl, _, rfl⟩⟩
    have I1 : Inv X pins σ (upd H s.heap.objs.size (.tup [.int (i : Nat), x])) { s with heap := h'', toks := s.toks + 1 } :=
      I.turnedNew (ch := [e, it]) (fun b ob hb q => (sb.2 b (fun z => hb (by simp [z]))).trans (hk b ob (fun z => hb (by simp [z])) (fun z => hb (by simp [z])) q)) hf (Nat.le_refl _) new
    have hit'' : h''.IsTupleIter it a (i + 1) := by
      obtain ⟨o, ho2, r⟩ := hit'
      exact ⟨o, (sb.2 it (Ne.symm hne)).trans ho2, r⟩
    refine ⟨.ref s.heap.objs.size, _, I1, rfl, ⟨_, x, rfl, I.hok.fresh (Nat.le_refl _), rfl, fun ys hy => by rw [I.tuple_inj hy hq]; exact hx⟩, ⟨⟨u, ?_⟩, hit'', hne⟩, fun b hb => ?_⟩
    · have e1 : ((i + 1 : Nat) : Int) = (i : Int) + 1 := by omega
      rw [e1]; exact he'
    · have hb' : b < s.heap.objs.size := by
        have e' : b = e ∨ b = it := by simpa using hb
        rcases e' with z | z <;> rw [z] <;> assumption
      rw [upd_ne (Nat.ne_of_lt hb')]
      exact (hf b hb).1
  done := by
    intro X hP hw hK hc i pins s σ H E I hf st hg
    subst hP hw hK
    obtain ⟨⟨old, he⟩, hit, hne⟩ := st
    obtain ⟨xs, hq, hx⟩ := hg
    obtain ⟨its, rv, p, hz⟩ := I.tuple hq
    obtain ⟨f0, f1, f2, f3, f4, f5⟩ := hf it (by simp)
    have hl := rv.length
    exact en_end (l := a) (xs := its.toArray) (I.ok.hd hc) he hit p (by simp; omega) fun h' eb => ⟨rfl, I.turned (t' := s.toks) (fun b o hb q => eb b o hb q) f0 f1 f3 f4 f5⟩
  self := fun A i s Q E st h => let ⟨⟨_, he⟩, _⟩ := st; wpAny_pyIter_enum he h
theorem walk_enT {K : PySem.W.Frag} {a : Addr} {xs : List V} : Walk (ItT K a) xs.length (fun H => SqT K H a xs) (YPair (fun i => some (.int (i : Nat))) (fun i => xs[i]?)) := by
  refine ⟨fun i _ hi q => ⟨xs, xs[i], q, by simp [hi]⟩, fun _ q => ⟨xs, q, Nat.le_refl _⟩, fun i H v H' _ q y => ?_⟩
  obtain ⟨T, x, h1, h2, h3, h4⟩ := y
  exact ⟨T, .int (i : Nat), x, h1, h2, h3, rfl, h4 xs q⟩
end Nm
set_option autoImplicit true
set_option maxRecDepth 100000
set_option maxHeartbeats 4000000
/-! dict(zip(a list, a list or a tuple)), of one length -/
namespace Nm
open PySem PySem.Spec PyProof.Rows L2
/-- at i an iterator over the list or tuple at l, k turns on -/
def It2 (h : Heap) (i l : Addr) (k : Nat) (ys : Array Value) : Prop := (h.IsListIter i l k ∧ h.IsList l ys) ∨ (h.IsTupleIter i l k ∧ h.IsTuple l ys)
theorem It2.there {h : Heap} {i l : Addr} {k : Nat} {ys : Array Value} (x : It2 h i l k ys) : (∃ o, h.get? i = some o) ∧ ∃ o, h.get? l = some o := by
  rcases x with ⟨⟨o, e, _⟩, ⟨u, f, _⟩⟩ | ⟨⟨o, e, _⟩, ⟨u, f, _⟩⟩ <;> exact ⟨⟨o, e⟩, ⟨u, f⟩⟩
theorem It2.goes {h h' : Heap} {i l : Addr} {k : Nat} {ys : Array Value} (x : It2 h i l k ys) (a : ∀ o, h.get? i = some o → h'.get? i = some o) (b : ∀ o, h.get? l = some o → h'.get? l = some o) : It2 h' i l k ys := by
  rcases x with ⟨⟨o, e, r⟩, ⟨u, f, q⟩⟩ | ⟨⟨o, e, r⟩, ⟨u, f, q⟩⟩
  · exact .inl ⟨⟨o, a o e, r⟩, ⟨u, b u f, q⟩⟩
  · exact .inr ⟨⟨o, a o e, r⟩, ⟨u, b u f, q⟩⟩
section
variable {P : Program} {w : World} {A : Around} {E : Value → Shared → Prop} {s : Shared} {z TI TO T i1 i2 l1 l2 : Addr} {xs ys : Array Value}
end
section
variable {X : Cx}
end
end Nm
set_option autoImplicit true
set_option maxRecDepth 100000
set_option maxHeartbeats 4000000
/-! zip of two, each a list or a tuple, in a for or a comprehension -/
namespace Nm
open PySem PySem.Spec PyProof.Rows L2 RZ
section
variable {P : Program} {w : World} {A : Around} {E : Value → Shared → Prop} {s : Shared} {z TI TO T i1 i2 l1 l2 : Addr} {xs ys : Array Value}
end
end Nm
set_option autoImplicit true
set_option maxRecDepth 100000
set_option maxHeartbeats 4000000
/-! zip of two, each a list or a tuple: as a rule -/
namespace Nm
open PySem PySem.Spec PyProof.Rows L2 RZ
section
variable {prog : Program} {w : World} {A : Around} {E : Value → Shared → Prop} {s : Shared} {z TI TO i1 i2 l1 l2 : Addr} {xs ys : Array Value}
end
/-- a list (k) or a tuple of these -/
def SqB (k : Bool) (K : PySem.W.Frag) (H : Hp) (a : Addr) (xs : List V) : Prop := match k with
  | true => SqL K H a xs
  | false => SqT K H a xs
end Nm
set_option autoImplicit false
set_option maxRecDepth 100000
set_option maxHeartbeats 4000000
/-! walks over a list or a tuple, whichever it is -/
namespace Nm
open PySem PySem.Spec PyProof.Rows L2
def sqO (k : Bool) (xs : List V) : HO := match k with
  | true => .lst xs
  | false => .tup xs
theorem SqB.of {k : Bool} {K : PySem.W.Frag} {H : Hp} {a : Addr} {xs : List V} (h : H a = some (sqO k xs)) : SqB k K H a xs := by
  cases k with
  | true => exact SqL.of h
  | false => exact SqT.of h
def ItB (k : Bool) (K : PySem.W.Frag) (a : Addr) : It := match k with
  | true => Itl K a
  | false => Itt K a
def iSq (k : Bool) (K : PySem.W.Frag) (tl : TE) : TI := fun σ H R => tl σ H fun x H1 => ∃ a, x = .ref a ∧ (∃ xs, SqB k K H1 a xs) ∧ R (ItB k K a) H1
theorem pi_sq {X : Cx} {tg : Expr} {l : Expr} {tl : TE} (k : Bool) (hl : PE X l tl) : PI X tg l (iSq k X.K tl) := by
  cases k with
  | true => exact pi_list hl
  | false => exact pi_tup hl
theorem walk_sq {k : Bool} {K : PySem.W.Frag} {a : Addr} {xs : List V} : Walk (ItB k K a) xs.length (fun H => SqB k K H a xs) (YAt xs) := by
  cases k with
  | true => exact walk_list
  | false => exact walk_tup
def ItE (k : Bool) (K : PySem.W.Frag) (a : Addr) : It := match k with
  | true => Ite K a
  | false => ItT K a
def iEnB (k : Bool) (K : PySem.W.Frag) (ta : TA) : TI := fun σ H R => ta σ H fun vs H1 => ∃ a xs, vs = [.ref a] ∧ SqB k K H1 a xs ∧ R (ItE k K a) H1
theorem pi_enB {X : Cx} {e : Expr} {ta : TA} {p pos tpos : Pos} {elts : List Expr} {kk : Nat} (k : Bool) (hg : Gl X "enumerate") (hm : X.mg "enumerate" = none) (ha : PA X [e] ta) (hs : starEach [e] X.env = [(false, eval e X.env)] := by rfl) :
    PI X (.Tuple elts kk tpos) (.Call (.Name "enumerate" p) [e] [] pos) (iEnB k X.K ta) := by
  refine ⟨fun pins s σ H R I h => ?_⟩
  refine Call_ (ld_blt I hg hm boot_enumerate (PyProof.Rows.callWith_type1 (thn (ha.run pos pins s σ H _ I h) fun us s1 ⟨vs, H1, I1, r1, q1⟩ => ?_) hs rfl))
  obtain ⟨a, xs, ex, hq, q⟩ := q1
  subst ex
  obtain ⟨u, rfl, ru⟩ := vals1 r1
  obtain rfl : u = Value.ref a := ru
  have bnd : ∀ b ∈ [s1.heap.objs.size + 1, s1.heap.objs.size], s1.heap.objs.size ≤ b := fun b hb => by
    have e' : b = s1.heap.objs.size + 1 ∨ b = s1.heap.objs.size := by simpa using hb
    omega
  cases k with
  | true =>
    obtain ⟨its, rv, p', hz⟩ := I1.list hq
    refine call_enumerate_list p'.isList fun h' he hit hsz hk => wpAny_pyIter_enum he ?_
    have I2 : Inv X pins σ H1 { s1 with heap := h' } := I1.kept (t' := s1.toks) hk
    exact ⟨s1.heap.objs.size + 1, [s1.heap.objs.size + 1, s1.heap.objs.size], _, _, H1, rfl, I2, turn_enum a (s1.heap.objs.size + 1) s1.heap.objs.size, ⟨⟨.none, he⟩, hit, Nat.succ_ne_self _⟩, fun b hb => I1.fpOk (bnd b hb) (I1.hok.fresh (bnd b hb)), q⟩
  | false =>
    obtain ⟨its, rv, p', hz⟩ := I1.tuple hq
    refine en_call (l := a) (xs := its.toArray) p' fun h' he hit hsz hk => wpAny_pyIter_enum he ?_
    have I2 : Inv X pins σ H1 { s1 with heap := h' } := I1.kept (t' := s1.toks) hk
    exact ⟨s1.heap.objs.size + 1, [s1.heap.objs.size + 1, s1.heap.objs.size], _, _, H1, rfl, I2, turn_enT a (s1.heap.objs.size + 1) s1.heap.objs.size, ⟨⟨.none, he⟩, hit, Nat.succ_ne_self _⟩, fun b hb => I1.fpOk (bnd b hb) (I1.hok.fresh (bnd b hb)), q⟩
theorem walk_enB {k : Bool} {K : PySem.W.Frag} {a : Addr} {xs : List V} : Walk (ItE k K a) xs.length (fun H => SqB k K H a xs) (YPair (fun i => some (.int (i : Nat))) (fun i => xs[i]?)) := by
  cases k with
  | true => exact walk_enum
  | false => exact walk_enT
end Nm
set_option autoImplicit true
set_option maxRecDepth 100000
set_option maxHeartbeats 4000000
/-! name = {k: v for ..}, the name a local -/
namespace Nm
open PySem PySem.Spec PyProof.Rows L2
section
variable {X : Cx}
theorem ps_setDc {n : Nat} {z : Str} {zp : Pos} {ke ve tg iter : PySem.Expr} {ifs : List PySem.Expr} {scp : Scope} {own : List (Str × Nat)} {pos spos : Pos} {wi : TI} {g : TG} {tt : TT} {tk tv : TE}
    (calm : X.calm = true) (nd : X.N.Nodup) (at_ : X.N[n]? = some z) (loc : X.env.scope.names.lookup z = some .local)
    (sw : swapsWith (.DictComp ke ve [⟨tg, iter, ifs, 0⟩] scp pos) (some (.Name z zp)) spos.line X.env = pure true) (wlk : PI X tg iter wi) (blk : BlkOk X.N X.env.scope scp own)
    (tgt : ∀ (s : Shared) (H : Hp) (C : Addr) (cs : List (Str × Addr)) (fp : List Addr), PG (X.blk s H scp (compEnvC scp cs C X.env) fp) tg g)
    (tst : ∀ (s : Shared) (H : Hp) (C : Addr) (cs : List (Str × Addr)) (fp : List Addr), PTs (X.blk s H scp (compEnvC scp cs C X.env) fp) ifs tt)
    (key : ∀ (s : Shared) (H : Hp) (C : Addr) (cs : List (Str × Addr)) (fp : List Addr), PE (X.blk s H scp (compEnvC scp cs C X.env) fp) ke tk)
    (val : ∀ (s : Shared) (H : Hp) (C : Addr) (cs : List (Str × Addr)) (fp : List Addr), PE (X.blk s H scp (compEnvC scp cs C X.env) fp) ve tv)
    (fold : ∀ x, foldedSetIterable iter X.env x = pure x := by intro _; rfl) :
    PS X (.Assign [.Name z zp] (.DictComp ke ve [⟨tg, iter, ifs, 0⟩] scp pos) spos) (tAsg (tDc wi g tt tk tv (own.map (·.2))) (gName n)) := by
  refine ⟨fun pins s σ H D I hyp => ?_⟩
  rw [exec_Assign_Name_used _ _ _ _ sw]
  refine wpAny_bind (wpAny_standAt (wpAny_bind ?_))
  show wpAny _ X.A (do let _ ← comprehension (.DictComp ke ve [⟨tg, iter, ifs, 0⟩] scp pos) scp X.env (firstIterPos [⟨tg, iter, ifs, 0⟩] pos) newDict false (eval iter X.env) (some (assign (.Name z zp) X.env))) _ _ s
  have hyp' : tDc wi g tt tk tv (own.map (·.2)) σ H (fun x H1 => gName n x σ H1 D.nx) := hyp
  have core := dc_core (pos := pos) (pos' := firstIterPos [⟨tg, iter, ifs, 0⟩] pos) (use := some (assign (.Name z zp) X.env)) (Qf := fun _ s' => SP X pins D .next s') calm nd I wlk blk tgt tst key val fold hyp' fun L C s' m H' I' q hn f => ?_
  · exact wpAny_bind (thn core fun _ s' hq => wpAny_pure (wpAny_pure hq))
  show wpAny _ _ (assign (.Name z zp) X.env (.ref L)) _ _ _
  refine wpAny_assign_Name (store_ok2 (v := V.ref L) I' nd at_ (.inl loc) rfl (fun s2 I2 ⟨a, sb, ha⟩ => ?_) (.inr loc))
  have ⟨f0, f1, f2, f3, f4, f5⟩ := f
  have haC : C ≠ a := ha.elim (fun e => e ▸ f1) (fun e w => f4 z a e w.symm)
  exact ⟨m, hn.sameBut sb haC, fun h3 sb3 => ⟨_, H', I2.turned (t' := s2.toks) (fun b o hb e => (sb3.2 b hb).trans e) f0 f1 f3 f4 f5, q⟩⟩
theorem sw_dict {ke ve : PySem.Expr} {gs : List Comprehension} {scp : Scope} {pos zp : Pos} {z : Str} {l : Nat} {env : Env} (hk : env.scope.kind = .function) (loc : env.scope.names.lookup z = some .local) (hl : (zp.line == pos.line) = true)
    (ha : (scp.names.any fun (n, k) => n == z && (k == .local || k == .cell)) = false) : swapsWith (.DictComp ke ve gs scp pos) (some (.Name z zp)) l env = pure true := by
  have kz : env.kindOf z = some .local := loc
  have hb : env.blockKind = .function := by
    unfold Env.blockKind
    rw [hk]
    rfl
  unfold swapsWith
  simp only [hb, kz, ha, Expr.pos, hl]
  rfl
end
end Nm
set_option autoImplicit true
set_option maxRecDepth 100000
set_option maxHeartbeats 4000000
namespace Nm
open PySem L2
/-- a dict comprehension over any walk: P by the turn and the heap, the new dict at D within -/
theorem dc_walk {J : It} {n : Nat} {G : Hp → Prop} {Y : Nat → Hp → V → Hp → Prop} (wk : Walk J n G Y) {g : TG} {tt : TT} {tk tv : TE} {vs : List Nat} {σ : L2.St} {H1 : Hp} {D : Addr} {Qd : Hp → Prop} (Pv : Nat → Hp → Prop) (h0 : Pv 0 (upd H1 D (.dK [])))
    (hG : ∀ i H, i ≤ n → Pv i H → G H)
    (hs : ∀ i x H H', i < n → Pv i H → Y i H x H' → g x (wipe σ vs) H' fun σ2 H2 => wipe σ2 vs = wipe σ vs ∧ tt σ2 H2 fun b H3 =>
      if b = true then tk σ2 H3 fun y H4 => tv σ2 H4 fun z H5 => ∃ kvs k, y = kV k ∧ H5 D = some (.dK kvs) ∧ kvs.length < sizeLine ∧ Pv (i + 1) (upd H5 D (.dK (putK kvs k z))) else Pv (i + 1) H3)
    (hd : ∀ H, Pv n H → Qd H) :
    ∃ W : Nat → Nat → Hp → Prop, (∃ m, W 0 m (upd H1 D (.dK []))) ∧ ∀ i m H, W i m H →
      (J.stop i H ∧ Qd H) ∨ (J.go i H ∧ ∃ Nx : Hp → Prop, (∀ H', Nx H' → ∃ m', m' < m ∧ W (i + 1) m' H') ∧ ∀ x H', J.yld i H x H' → g x (wipe σ vs) H' fun σ2 H2 => wipe σ2 vs = wipe σ vs ∧ tt σ2 H2 fun b H3 =>
        if b = true then tk σ2 H3 fun y H4 => tv σ2 H4 fun z H5 => ∃ kvs k, y = kV k ∧ H5 D = some (.dK kvs) ∧ kvs.length < sizeLine ∧ Nx (upd H5 D (.dK (putK kvs k z))) else Nx H3) := by
  refine ⟨fun i m H => m + i = n ∧ Pv i H, ⟨n, by omega, h0⟩, fun i m H ⟨e, p⟩ => ?_⟩
  have q := hG i H (by omega) p
  cases m with
  | zero =>
    obtain rfl : i = n := by omega
    exact .inl ⟨wk.stops H q, hd H p⟩
  | succ m => exact .inr ⟨wk.goes i H (by omega) q, Pv (i + 1), fun H' p' => ⟨m, by omega, by omega, p'⟩, fun x H' y => hs i x H H' (by omega) p (wk.yields i H x H' (by omega) q y)⟩
/-- names and their places -/
def numKV (nm : List Str) (i : Nat) : List (Key × V) := (nm.zipIdx.take i).map fun p => (Sum.inr p.1, V.int (p.2 : Int))
theorem num_step {nm : List Str} {i : Nat} {x : Str} (h : nm[i]? = some x) : numKV nm (i + 1) = numKV nm i ++ [(Sum.inr x, V.int (i : Int))] := by
  unfold numKV
  have e : nm.zipIdx[i]? = some (x, i) := by simp [h]
  rw [List.take_add_one, e, List.map_append]
  rfl
theorem num_keys (nm : List Str) (i : Nat) : (numKV nm i).map (·.1) = (nm.take i).map Sum.inr := by
  unfold numKV
  rw [List.map_map]
  have : nm.take i = (nm.zipIdx.take i).map (·.1) := by rw [List.map_take]; simp
  rw [this, List.map_map]
  rfl
theorem num_nd {nm : List Str} (nd : nm.Nodup) (i : Nat) : ((numKV nm i).map (·.1)).Nodup := by
  rw [num_keys]
  exact List.Pairwise.map _ (fun a b hab e => hab (Sum.inr.inj e)) ((List.take_sublist i nm).nodup nd)
theorem num_new {nm : List Str} (nd : nm.Nodup) {i : Nat} {x : Str} (h : nm[i]? = some x) : valV (numKV nm i) (Sum.inr x) = none := by
  refine val_none_of fun hm => ?_
  rw [num_keys] at hm
  obtain ⟨y, hy, e⟩ := List.mem_map.mp hm
  cases e
  obtain ⟨j, hj⟩ := List.getElem?_of_mem hy
  rw [List.getElem?_take] at hj
  split at hj
  · rename_i hji
    have h1 := (List.getElem?_eq_some_iff.mp hj).1
    have : j = i := (List.getElem?_inj h1 nd).mp (hj.trans h.symm)
    omega
  · cases hj
theorem num_at {nm : List Str} (nd : nm.Nodup) {i : Nat} {x : Str} (h : nm[i]? = some x) : valV (numKV nm nm.length) (Sum.inr x) = some (V.int (i : Int)) := by
  refine val_of_mem (num_nd nd _) ?_
  unfold numKV
  rw [List.take_of_length_le (by simp)]
  refine List.mem_map.mpr ⟨(x, i), ?_, rfl⟩
  rw [List.mem_zipIdx_iff_getElem?]
  exact h
/-- the row of a tie: its places, the lesser first, its kind, its width -/
structure RowV where
  i : Nat
  j : Nat
  kd : Str
  w : Int
def RowV.key (r : RowV) : Int × List Key := ((r.i : Int), [Sum.inl (r.j : Int), Sum.inr r.kd, Sum.inl r.w])
def RowV.tup (r : RowV) : List V := [.int (r.i : Int), .int (r.j : Int), .str r.kd, .int r.w]
/-- r is the row of t -/
def RowOf (nm : List Str) (t : TieV) (r : RowV) : Prop := ∃ a b, nm[a]? = some t.x ∧ nm[b]? = some t.y ∧ r.i = min a b ∧ r.j = max a b ∧ r.kd = t.kd ∧ r.w = t.w
/-- a list of ties stands at p -/
def TiesAt (H : Hp) (p : Addr) (tl : List TieV) : Prop := ∃ (kb : Bool) (ts : List Addr), H p = some (sqO kb (ts.map V.ref)) ∧ Paired (fun t tv => H t = some (.tup (TieV.tup tv))) ts tl
/-- the ordered ties: a list of tuples by rows in order -/
def OrdAt (H : Hp) (p : Addr) (nm : List Str) (rs : List RowV) : Prop := ∃ ts : List Addr, H p = some (.lst (ts.map V.ref)) ∧ Paired (fun t (r : RowV) => ∃ x y, nm[r.i]? = some x ∧ nm[r.j]? = some y ∧ H t = some (.tup [.str x, .str y, .str r.kd, .int r.w])) ts rs
def rowBack (H : Hp) : V → RowV
  | .ref b => (match H b with
    | some (.tup [.int i, .int j, .str kd, .int w]) => ⟨i.toNat, j.toNat, kd, w⟩
    | _ => ⟨0, 0, "", 0⟩)
  | _ => ⟨0, 0, "", 0⟩
theorem rowBack_of {H : Hp} {b : Addr} {r : RowV} (h : H b = some (.tup r.tup)) : rowBack H (.ref b) = r := by
  show (match H b with
    | some (.tup [.int i, .int j, .str kd, .int w]) => (⟨i.toNat, j.toNat, kd, w⟩ : RowV)
    | _ => ⟨0, 0, "", 0⟩) = r
  rw [h]
  cases r
  rfl
theorem rows_back {H : Hp} : ∀ {us : List Addr} {rw : List RowV}, Paired (fun u (r : RowV) => H u = some (.tup r.tup)) us rw → (us.map V.ref).map (rowBack H) = rw
  | _, _, .nil => rfl
  | _, _, .cons h t => by
    rw [List.map_cons, List.map_cons, rows_back t, rowBack_of h]
theorem paired_get {α β : Type} {F : α → β → Prop} : ∀ {l : List α} {m : List β} {i : Nat} {a : α}, Paired F l m → l[i]? = some a → ∃ b, m[i]? = some b ∧ F a b
  | _, _, _, _, .nil, h => by simp at h
  | _, _, 0, _, .cons r _, h => by
    simp at h
    subst h
    exact ⟨_, rfl, r⟩
  | _, _, i + 1, _, .cons _ t, h => by
    simp at h
    obtain ⟨b, h1, h2⟩ := paired_get t h
    exact ⟨b, by simpa using h1, h2⟩
theorem paired_mem {α β : Type} {F : α → β → Prop} {l : List α} {m : List β} {a : α} (h : Paired F l m) (hm : a ∈ l) : ∃ b ∈ m, F a b := by
  obtain ⟨i, hi⟩ := List.getElem?_of_mem hm
  obtain ⟨b, h1, h2⟩ := paired_get h hi
  exact ⟨b, List.mem_of_getElem? h1, h2⟩
theorem paired_back {α β : Type} {F : α → β → Prop} : ∀ {l : List α} {m : List β} {b : β}, Paired F l m → b ∈ m → ∃ a ∈ l, F a b
  | _, _, _, .nil, h => (List.not_mem_nil h).elim
  | _, _, b, .cons (a := a) r t, h => by
    rcases List.mem_cons.mp h with e | e
    · subst e
      exact ⟨a, List.mem_cons_self, r⟩
    · obtain ⟨a', h1, h2⟩ := paired_back t e
      exact ⟨a', List.mem_cons_of_mem _ h1, h2⟩
section
variable {P : Program} {w : World} {K : PySem.W.Frag} {mg : Str → Option Value} {base : Heap}
/-! ### ordered_ties -/
def spOrd : Sp := fun vs H Q _ => ∃ (p q : Addr) (nm : List Str) (tl : List TieV), vs = [.ref p, .ref q] ∧ TiesAt H p tl ∧ H q = some (.lst (nm.map V.str)) ∧ nm.Nodup ∧ nm.length ≤ 1000 ∧ tl.length ≤ 20000 ∧ (∀ t ∈ tl, t.Ok nm) ∧
  ∀ (r : Addr) (rs rw : List RowV) (H' : Hp), H r = none → Paired (RowOf nm) tl rw → rs.Perm rw → rs.Pairwise (fun x y => lexK (rowK y.key) (rowK x.key) = false) → OrdAt H' r nm rs → Same H H' → Q (.ref r) H'
abbrev nOrd : List Str := ["ties", "names", "numbers", "rows", "one", "other", "kind", "width", "first", "last", "at", "name"]
theorem scOrd : FnScope nOrd ["ties", "names"] (defScope sOrderedTies) := ⟨rfl, rfl, rfl, by decide +kernel, rfl, by decide +kernel, by decide +kernel⟩
theorem ok_ord {f : Addr} {fd : FuncData} (F : Fun K "ordered_ties" "ordered_ties" sOrderedTies f fd) (T : TxtH mg) : FnOk P w K mg base CX0 1 f fd ["ties", "names"] spOrd := by
  refine F.ok scOrd (fun vs H Q E h => ?_) (fun cdv A outer s H vs Q E hr h => ?_)
  · obtain ⟨_, _, _, _, rfl, _⟩ := h
    rfl
  · obtain ⟨p, q, nm, tl, rfl, ⟨kb, ts, hp, hts⟩, hq, nd, hn, htl, hok, k⟩ := h
    have hu := hu_of hr
    refine ⟨_, Evl.pss_cut (ps_setDc (n := 2) (own := [("at", 10), ("name", 11)]) (g := gTup K 2 (gCons (gName 10) (gCons (gName 11) gNil))) (tt := tYes) rfl scOrd.nd rfl rfl (sw_dict rfl rfl rfl (by decide +kernel)) (pi_enum (by rfl) T.enumerate (pa_cons (pv 1) pa_nil))
        (blkOk_by (N := nOrd) (sc := defScope sOrderedTies) (by decide +kernel)) (fun _ _ _ _ _ => pg_tup rfl (pgs_cons (pg_name (i := 10) scOrd.nd rfl (Or.inl rfl)) (pgs_cons (pg_name (i := 11) scOrd.nd rfl (Or.inl rfl)) pgs_nil))) (fun _ _ _ _ _ => pts_nil) (fun _ _ _ _ _ => pv 11) (fun _ _ _ _ _ => pv 10))
      (pss_cons (ps_set (i := 3) scOrd.nd rfl (Or.inl rfl) (pe_lst pa_nil))
      (Evl.pss_cut (ps_for PassesOwn.never rfl (pi_sq kb (pv 0)) (pg_tup rfl (pgs_cons (pg_name (i := 4) scOrd.nd rfl (.inl rfl)) (pgs_cons (pg_name (i := 5) scOrd.nd rfl (.inl rfl)) (pgs_cons (pg_name (i := 6) scOrd.nd rfl (.inl rfl)) (pgs_cons (pg_name (i := 7) scOrd.nd rfl (.inl rfl)) pgs_nil)))))
        (pss_cons (ps_set (i := 8) scOrd.nd rfl (Or.inl rfl) (pe_callB (call_min2 rfl) (by rfl) T.min (by decide +kernel) (pa_cons (pe_dget hu (pv 2) (pv 4) (fun _ _ => rfl)) (pa_cons (pe_dget hu (pv 2) (pv 5) (fun _ _ => rfl)) pa_nil))))
        (pss_cons (ps_set (i := 9) scOrd.nd rfl (Or.inl rfl) (pe_callB (call_max2 rfl) (by rfl) T.max (by decide +kernel) (pa_cons (pe_dget hu (pv 2) (pv 4) (fun _ _ => rfl)) (pa_cons (pe_dget hu (pv 2) (pv 5) (fun _ _ => rfl)) pa_nil))))
        (pss_one (ps_expr (pe_bm PySem.F.plainAttrs_list PySem.F.slot_list_append PySem.F.type_list_append mt_append (pv 3) (pa_cons (pe_tup (pa_cons (pv 8) (pa_cons (pv 9) (pa_cons (pv 6) (pa_cons (pv 7) pa_nil))))) pa_nil)))))))
      (pss_one (ps_ret (pe_lc (own := [("first", 8), ("last", 9), ("kind", 6), ("width", 7)]) (g := gTup K 4 (gCons (gName 8) (gCons (gName 9) (gCons (gName 6) (gCons (gName 7) gNil))))) (tt := tYes) (te := tTup (tCons (tOp (rIxL K) (tVar 1) (tVar 8)) (tCons (tOp (rIxL K) (tVar 1) (tVar 9)) (tCons (tVar 6) (tCons (tVar 7) tNil))))) rfl scOrd.nd (pi_list (pe_callB cr_sortedO (by rfl) T.sorted (by decide +kernel) (pa_cons (pv 3) pa_nil)))
          (blkOk_by (N := nOrd) (sc := defScope sOrderedTies) (by decide +kernel)) (fun _ _ _ _ _ => pg_tup rfl (pgs_cons (pg_name (i := 8) scOrd.nd rfl (Or.inl rfl)) (pgs_cons (pg_name (i := 9) scOrd.nd rfl (Or.inl rfl)) (pgs_cons (pg_name (i := 6) scOrd.nd rfl (Or.inl rfl)) (pgs_cons (pg_name (i := 7) scOrd.nd rfl (Or.inl rfl)) pgs_nil))))) (fun _ _ _ _ _ => pts_nil)
          (fun _ _ _ _ _ => by exact pe_tup (pa_cons (pe_ix ix_list (pv 1) (pv 8) (fun _ _ => rfl)) (pa_cons (pe_ix ix_list (pv 1) (pv 9) (fun _ _ => rfl)) (pa_cons (pv 6) (pa_cons (pv 7) pa_nil)))))))))), ?_⟩
    -- numbers
    refine ⟨fun σ H1 => ∃ nu, σ = [some (.ref p), some (.ref q), some (.ref nu), none, none, none, none, none, none, none, none, none] ∧ H1 nu = some (.dK (numKV nm nm.length)) ∧ Same H H1, ?_, ?_⟩
    · refine ⟨_, rfl, q, _, rfl, SqL.of hq, fun D hD => ?_⟩
      refine dc_walk (walk_enum (xs := nm.map V.str)) (fun i H1 => H1 D = some (.dK (numKV nm i)) ∧ Same H H1) ⟨upd_same, same_new hD⟩ (fun i H1 _ h => SqL.of (h.2 _ _ hq)) ?_ ?_
      · rintro i x H1 H2 hi ⟨hD1, s1⟩ ⟨T', x1, y1, rfl, hT, rfl, e1, e2⟩
        rw [List.length_map] at hi
        have e2 : (nm.map V.str)[i]? = some y1 := e2
        rw [List.getElem?_map] at e2
        obtain ⟨z, hz, rfl⟩ := Option.map_eq_some_iff.mp e2
        cases e1
        have sT := same_new (o := .tup [V.int (i : Nat), V.str z]) hT
        refine ⟨T', _, rfl, SqT.of upd_same, rfl, _, _, rfl, _, _, rfl, rfl, rfl, tyes ?_⟩
        refine ⟨_, rfl, _, rfl, _, Sum.inr z, rfl, sT _ _ hD1, Evl.sz_lt (by unfold numKV; simp; omega), ?_, fun b o e => ?_⟩
        · rw [upd_same, putK_new _ (num_new nd hz), num_step hz]
        · rw [upd_ne (ne_of_none e hD)]
          exact sT _ _ (s1 b o e)
      · rintro H1 ⟨hD1, s1⟩
        rw [List.length_map] at hD1
        exact ⟨D, rfl, hD1, s1⟩
    rintro σ H1 ⟨nu, rfl, hnu, s1⟩
    refine ⟨(by show 0 ≤ sizeLine; decide), fun ro hro => ?_⟩
    have s2 := s1.trans (same_new (o := .lst []) hro)
    have hnu2 := same_new (o := .lst []) hro _ _ hnu
    have hro2 : (upd H1 ro (.lst [])) ro = some (.lst (List.map V.ref [])) := upd_same
    have hro0 : H ro = none := s1.free hro
    generalize upd H1 ro (.lst []) = H2 at *
    have nnr : nu ≠ ro := ne_of hnu2 hro2 (by intro z; cases z)
    -- rows
    refine ⟨fun σ H3 => ∃ v4 v5 v6 v7 v8 v9 us rw, σ = [some (.ref p), some (.ref q), some (.ref nu), some (.ref ro), v4, v5, v6, v7, v8, v9, none, none] ∧ H3 ro = some (.lst (List.map V.ref us)) ∧ us.length = tl.length ∧ Paired (fun u (r : RowV) => H3 u = some (.tup r.tup)) us rw ∧ Paired (RowOf nm) tl rw ∧ Same H H3, ?_, ?_⟩
    · refine ⟨_, rfl, p, rfl, ⟨_, SqB.of (s2 _ _ hp)⟩, ?_⟩
      have htl2 : ts.length = tl.length := Paired.length hts
      refine for_it (walk_sq (k := kb) (xs := ts.map V.ref)) (fun i σ H3 => ∃ v4 v5 v6 v7 v8 v9 us rw, σ = [some (.ref p), some (.ref q), some (.ref nu), some (.ref ro), v4, v5, v6, v7, v8, v9, none, none] ∧ H3 ro = some (.lst (List.map V.ref us)) ∧ us.length = i ∧ Paired (fun u (r : RowV) => H3 u = some (.tup r.tup)) us rw ∧ Paired (RowOf nm) (tl.take i) rw ∧ H3 nu = some (.dK (numKV nm nm.length)) ∧ Same H H3)
        ⟨none, none, none, none, none, none, [], [], rfl, hro2, rfl, .nil, .nil, hnu2, s2⟩ (fun i σ H3 _ ⟨_, _, _, _, _, _, _, _, _, _, _, _, _, _, h⟩ => SqB.of (h _ _ hp)) ?_ ?_
      · rintro i v σ H4 H3 hi0 ⟨v4, v5, v6, v7, v8, v9, us, rw', rfl, hro3, hul, pu, pr, hnu3, s3⟩ ⟨rfl, hi⟩
        have hil := (List.getElem?_eq_some_iff.mp hi).1
        rw [List.length_map] at hil
        rw [List.getElem?_map] at hi
        obtain ⟨t, ht, rfl⟩ := Option.map_eq_some_iff.mp hi
        obtain ⟨tv, htv, htt⟩ := paired_get hts ht
        have ok := hok tv (List.mem_of_getElem? htv)
        obtain ⟨a, ha⟩ := List.getElem?_of_mem ok.hx
        obtain ⟨b, hb⟩ := List.getElem?_of_mem ok.hy
        have da : DGet H3 nu (V.str tv.x) (some (V.int (a : Int))) := by rw [← num_at nd ha]; exact DGet.k (k := Sum.inr tv.x) hnu3
        have db : DGet H3 nu (V.str tv.y) (some (V.int (b : Int))) := by rw [← num_at nd hb]; exact DGet.k (k := Sum.inr tv.y) hnu3
        refine ⟨t, _, rfl, SqT.of (s3 _ _ htt), rfl, _, _, rfl, _, _, rfl, _, _, rfl, _, _, rfl, rfl, ?_⟩
        refine ⟨_, rfl, _, rfl, nu, _, rfl, da, _, rfl, _, rfl, nu, _, rfl, db, _, _, rfl, ?_⟩
        refine ⟨_, rfl, _, rfl, nu, _, rfl, da, _, rfl, _, rfl, nu, _, rfl, db, _, _, rfl, ?_⟩
        refine ⟨_, rfl, .inl ⟨rfl, _, SqL.of hro3⟩, _, rfl, _, rfl, _, rfl, _, rfl, (by show 4 ≤ sizeLine; decide), fun u hu => ?_⟩
        have e1 : (if (b : Int) < (a : Int) then (b : Int) else (a : Int)) = ((min a b : Nat) : Int) := by split <;> omega
        have e2 : (if (b : Int) > (a : Int) then (b : Int) else (a : Int)) = ((max a b : Nat) : Int) := by split <;> omega
        rw [e1, e2]
        have su := same_new (o := .tup [V.int ((min a b : Nat) : Int), V.int ((max a b : Nat) : Int), V.str tv.kd, V.int tv.w]) hu
        have nur : u ≠ ro := fun e => by subst e; rw [hro3] at hu; cases hu
        refine ⟨ro, _, _, rfl, rfl, su _ _ hro3, Evl.sz_lt (by rw [List.length_map]; omega), ?_⟩
        refine ⟨_, _, _, _, _, _, us ++ [u], rw' ++ [⟨min a b, max a b, tv.kd, tv.w⟩], rfl, by rw [upd_same, List.map_append]; rfl, by simp [hul], ?_, ?_, by rw [upd_ne nnr]; exact su _ _ hnu3, fun b' o e => ?_⟩
        · refine paired_snoc (Paired.mapP pu fun u' r h => ?_) ?_
          · rw [upd_ne (ne_of h hro3 (by intro z; cases z))]
            exact su _ _ h
          · rw [upd_ne nur]
            exact upd_same
        · rw [List.take_add_one, htv]
          exact paired_snoc pr ⟨a, b, ha, hb, rfl, rfl, rfl, rfl⟩
        · rw [upd_ne (ne_of_none e hro0)]
          exact su _ _ (s3 b' o e)
      · rintro σ H3 ⟨v4, v5, v6, v7, v8, v9, us, rw', rfl, hro3, hul, pu, pr, hnu3, s3⟩
        rw [List.length_map] at hul pr
        rw [htl2, List.take_of_length_le (Nat.le_refl _)] at pr
        exact ⟨v4, v5, v6, v7, v8, v9, us, rw', rfl, hro3, by omega, pu, pr, s3⟩
    rintro σ H3 ⟨v4, v5, v6, v7, v8, v9, us, rw', rfl, hro3, hul, pu, pr, s3⟩
    have inr' : ∀ r ∈ rw', r.i < nm.length ∧ r.j < nm.length := fun r hr' => by
      obtain ⟨tv, _, a, b, ha, hb, e1, e2, _⟩ := paired_back pr hr'
      have h1 := (List.getElem?_eq_some_iff.mp ha).1
      have h2 := (List.getElem?_eq_some_iff.mp hb).1
      omega
    have isr : ∀ y ∈ us.map V.ref, ∃ u r, y = V.ref u ∧ H3 u = some (.tup (RowV.tup r)) ∧ r ∈ rw' ∧ rowBack H3 y = r := fun y hy => by
      obtain ⟨u, hu', rfl⟩ := List.mem_map.mp hy
      obtain ⟨r, hr', hur⟩ := paired_mem pu hu'
      exact ⟨u, r, rfl, hur, hr', rowBack_of hur⟩
    refine ⟨_, rfl, ro, us.map V.ref, fun v => (rowBack H3 v).key, rfl, SqL.of hro3, fun y hy => ?_, fun y hy z hz => .int (.str (.int .nil)), fun ys pp srt pm hpp => ?_⟩
    · obtain ⟨u, r, rfl, hur, _, e⟩ := isr y hy
      refine ⟨u, rfl, ?_⟩
      show H3 u = some (.tup ((rowK (rowBack H3 (V.ref u)).key).map kV))
      rw [e]
      exact hur
    have s4 := same_new (o := .lst ys) hpp
    have hq4 := s4 _ _ (s3 _ _ hq)
    have hyl : ys.length = tl.length := by rw [pm.length_eq, List.length_map]; exact hul
    refine ⟨pp, rfl, ⟨_, SqL.of upd_same⟩, fun D hD => ?_⟩
    have hD0 : H D = none := s3.free (s4.free hD)
    refine lc_list (xs := ys) (fun i H5 => ∃ os : List Addr, H5 D = some (.lst (os.map V.ref)) ∧ os.length = i ∧ Paired (fun t (r : RowV) => ∃ x y, nm[r.i]? = some x ∧ nm[r.j]? = some y ∧ H5 t = some (.tup [.str x, .str y, .str r.kd, .int r.w])) os ((ys.map (rowBack H3)).take i) ∧ Same (upd H3 pp (.lst ys)) H5)
      ⟨[], upd_same, rfl, .nil, same_new hD⟩ (fun i H5 _ ⟨_, _, _, _, h⟩ => SqL.of (h _ _ upd_same)) ?_ ?_
    · rintro i y H5 hi ⟨os, hD5, hol, po, s5⟩
      have hil := (List.getElem?_eq_some_iff.mp hi).1
      obtain ⟨u, r, rfl, hur, hrm, e⟩ := isr y (pm.subset (List.mem_of_getElem? hi))
      obtain ⟨hi1, hj1⟩ := inr' r hrm
      obtain ⟨x1, hx1⟩ : ∃ x1, nm[r.i]? = some x1 := ⟨_, List.getElem?_eq_getElem hi1⟩
      obtain ⟨y1, hy1⟩ : ∃ y1, nm[r.j]? = some y1 := ⟨_, List.getElem?_eq_getElem hj1⟩
      refine ⟨u, _, rfl, SqT.of (s5 _ _ (s4 _ _ hur)), rfl, _, _, rfl, _, _, rfl, _, _, rfl, _, _, rfl, rfl, rfl, tyes ?_⟩
      refine ⟨_, rfl, _, rfl, q, _, _, V.str x1, rfl, rfl, SqL.of (s5 _ _ hq4), atI_nat (by rw [List.getElem?_map, hx1]; rfl), _, rfl, _, rfl, q, _, _, V.str y1, rfl, rfl, SqL.of (s5 _ _ hq4), atI_nat (by rw [List.getElem?_map, hy1]; rfl), _, rfl, _, rfl, (by show 4 ≤ sizeLine; decide), fun o ho => ?_⟩
      have so := same_new (o := .tup [V.str x1, V.str y1, V.str r.kd, V.int r.w]) ho
      have noD : o ≠ D := fun e => by subst e; rw [hD5] at ho; cases ho
      refine ⟨_, so _ _ hD5, Evl.sz_lt (by rw [List.length_map]; omega), os ++ [o], by rw [upd_same, List.map_append]; rfl, by simp [hol], ?_, fun b' o' e' => ?_⟩
      · have e3 : (ys.map (rowBack H3))[i]? = some r := by rw [List.getElem?_map, hi, ← e]; rfl
        rw [List.take_add_one, e3]
        refine paired_snoc (Paired.mapP po fun t' r' ⟨x', y', h1, h2, h3⟩ => ⟨x', y', h1, h2, ?_⟩) ⟨x1, y1, hx1, hy1, by rw [upd_ne noD]; exact upd_same⟩
        rw [upd_ne (ne_of h3 hD5 (by intro z; cases z))]
        exact so _ _ h3
      · rw [upd_ne (ne_of_none e' hD)]
        exact so _ _ (s5 b' o' e')
    · rintro H5 ⟨os, hD5, hol, po, s5⟩
      rw [List.take_of_length_le (by simp)] at po
      refine k D (ys.map (rowBack H3)) rw' H5 hD0 pr ?_ ?_ ⟨os, hD5, po⟩ ((s3.trans s4).trans s5)
      · rw [← rows_back pu]
        exact pm.map _
      · exact List.pairwise_map.mpr srt
end
end Nm
set_option autoImplicit true
set_option maxRecDepth 100000
set_option maxHeartbeats 4000000
namespace Nm
open PySem L2
/-- what of the class is asked -/
structure TxtW (K : PySem.W.Frag) (mg : Str → Option Value) (C : Addr) : Prop extends TxtH mg where
  cl : Cls K C
  nCo : NoAttr K C "_colour_of"
  nNa : NoAttr K C "_names"
  nTi : NoAttr K C "_ties"
  nWi : NoAttr K C "_width_of"
/-- the fields of a web -/
def webF (dc q r wd : Addr) : List (Str × V) := [("_colour_of", .ref dc), ("_names", .ref q), ("_ties", .ref r), ("_width_of", .ref wd)]
/-- the dict of the colours -/
def colK (nm cl : List Str) : List (Key × V) := (nm.zip cl).map fun p => (Sum.inr p.1, V.str p.2)
theorem colK_keys {nm cl : List Str} (h : nm.length ≤ cl.length) : (colK nm cl).map (·.1) = nm.map Sum.inr := by
  unfold colK
  rw [List.map_map]
  have : nm = (nm.zip cl).map (·.1) := by rw [List.map_fst_zip h]
  conv => rhs; rw [this]
  rw [List.map_map]
  rfl
theorem colK_nd {nm cl : List Str} (h : nm.length ≤ cl.length) (nd : nm.Nodup) : ((colK nm cl).map (·.1)).Nodup := by
  rw [colK_keys h]
  exact List.Pairwise.map _ (fun a b hab e => hab (Sum.inr.inj e)) nd
theorem colK_at {nm cl : List Str} (h : nm.length ≤ cl.length) (nd : nm.Nodup) {i : Nat} {x y : Str} (hx : nm[i]? = some x) (hy : cl[i]? = some y) : valV (colK nm cl) (Sum.inr x) = some (V.str y) := by
  refine val_of_mem (colK_nd h nd) ?_
  unfold colK
  refine List.mem_map.mpr ⟨(x, y), ?_, rfl⟩
  refine List.mem_of_getElem? (i := i) ?_
  rw [List.getElem?_zip_eq_some]
  exact ⟨hx, hy⟩
/-- the dict of the widths -/
def widS (nm : List Str) (kv : List (List Key × V)) (r : RowV) : List (List Key × V) := putK (putK kv [Sum.inr ((nm[r.i]?).getD ""), Sum.inr ((nm[r.j]?).getD ""), Sum.inr r.kd] (.int r.w)) [Sum.inr ((nm[r.j]?).getD ""), Sum.inr ((nm[r.i]?).getD ""), Sum.inr r.kd] (.int r.w)
def widK (nm : List Str) (rs : List RowV) : List (List Key × V) := rs.foldl (widS nm) []
theorem widK_step {nm : List Str} {rs : List RowV} {i : Nat} {r : RowV} (h : rs[i]? = some r) : widK nm (rs.take (i + 1)) = widS nm (widK nm (rs.take i)) r := by
  unfold widK
  rw [List.take_add_one, h, Option.toList_some, List.foldl_append]
  rfl
/-- a web stands at p -/
structure WebX (C : Addr) (H : Hp) (p q dc r wd : Addr) (nm cl : List Str) (rs : List RowV) : Prop where
  hp : ∃ dx, H p = some (.ins C dx (webF dc q r wd))
  hq : H q = some (.lst (nm.map V.str))
  hdc : H dc = some (.dK (colK nm cl))
  hr : OrdAt H r nm rs
  hwd : H wd = some (.dT (widK nm rs))
theorem ext_tie {nm : List Str} {H H' : Hp} {r : Addr} {rs : List RowV} (h : OrdAt H r nm rs) (e : ∀ o, H r = some o → H' r = some o) (k : ∀ b xs, H b = some (.tup xs) → H' b = some (.tup xs)) : OrdAt H' r nm rs := by
  obtain ⟨ts, h1, h2⟩ := h
  exact ⟨ts, e _ h1, Paired.mapP h2 fun t r ⟨x, y, a, b, z⟩ => ⟨x, y, a, b, k _ _ z⟩⟩
theorem WebX.same {C : Addr} {H H' : Hp} {p q dc r wd : Addr} {nm cl : List Str} {rs : List RowV} (W : WebX C H p q dc r wd nm cl rs) (s : Same H H') : WebX C H' p q dc r wd nm cl rs := by
  obtain ⟨⟨dx, h1⟩, h2, h3, h4, h5⟩ := W
  exact ⟨⟨dx, s _ _ h1⟩, s _ _ h2, s _ _ h3, ext_tie h4 (fun _ => s _ _) (fun _ _ => s _ _), s _ _ h5⟩
/-- all but what stands at p is kept -/
def But (p : Addr) (H H' : Hp) : Prop := ∀ b o, H b = some o → b ≠ p → H' b = some o
theorem But.of {p : Addr} {H H' : Hp} (h : Same H H') : But p H H' := fun b o e _ => h b o e
theorem But.trans {p : Addr} {H H1 H2 : Hp} (a : But p H H1) (b : But p H1 H2) : But p H H2 := fun c o e n => b c o (a c o e n) n
theorem But.upd {p : Addr} {H : Hp} {o : HO} : But p H (upd H p o) := fun b u e n => by
  rw [upd_ne n]
  exact e
theorem nm_new {nm : List Str} (nd : nm.Nodup) {i : Nat} {x : Str} {kvs : List (Key × V)} (h : nm[i]? = some x) (hk : kvs.map (·.1) = (nm.take i).map Sum.inr) : valV kvs (Sum.inr x) = none := by
  refine val_none_of fun hm => ?_
  rw [hk, ← num_keys] at hm
  have z := num_new nd h
  obtain ⟨v, e⟩ := val_ex hm
  rw [z] at e
  cases e
theorem PlacesAt.but {H H' : Hp} {p pl : Addr} {nm cl : List Str} {C dx : Addr} {fs : List (Str × V)} (h : PlacesAt H pl nm cl) (hp : H p = some (.ins C dx fs)) (b : But p H H') : PlacesAt H' pl nm cl := by
  obtain ⟨ts, h1, h2, h3⟩ := h
  refine ⟨ts, b _ _ h1 (ne_of h1 hp (by intro z; cases z)), h2, fun i t ht => ?_⟩
  obtain ⟨x, y, hx, hy, e⟩ := h3 i t ht
  exact ⟨x, y, hx, hy, b _ _ e (ne_of e hp (by intro z; cases z))⟩
theorem TiesAt.but {H H' : Hp} {p q : Addr} {tl : List TieV} {C dx : Addr} {fs : List (Str × V)} (h : TiesAt H q tl) (hp : H p = some (.ins C dx fs)) (b : But p H H') : TiesAt H' q tl := by
  obtain ⟨kb, ts, h1, h2⟩ := h
  exact ⟨kb, ts, b _ _ h1 (ne_of h1 hp (by cases kb <;> (intro z; cases z))), Paired.mapP h2 fun t v e => b _ _ e (ne_of e hp (by intro z; cases z))⟩
section
variable {P : Program} {w : World} {K : PySem.W.Frag} {mg : Str → Option Value} {base : Heap}
/-! ### need_ties: what is asked of it -/
def spNeedT : Sp := fun vs H Q _ => ∃ (p d : Addr) (tl : List TieV) (nm : List Str) (kvs : List (Key × V)), vs = [.ref p, .ref d] ∧ TiesAt H p tl ∧ H d = some (.dK kvs) ∧ kvs.map (·.1) = nm.map Sum.inr ∧ (∀ t ∈ tl, t.Ok nm) ∧ (tl.map TieV.spot).Nodup ∧ tl.length ≤ 4800 ∧
  ∀ H', Same H H' → Q .non H'
/-! ### Web.__init__ -/
def spWebI (C : Addr) : Sp := fun vs H Q _ => ∃ (p dx pl tt : Addr) (nm cl : List Str) (tl : List TieV), vs = [.ref p, .ref pl, .ref tt] ∧ H p = some (.ins C dx []) ∧ PlacesAt H pl nm cl ∧ TiesAt H tt tl ∧ 1 ≤ nm.length ∧ nm.length ≤ 1000 ∧ nm.Nodup ∧ (∀ x ∈ nm, isWordB x = true) ∧ (∀ x ∈ cl, isWordB x = true) ∧
  (∀ t ∈ tl, t.Ok nm) ∧ (tl.map TieV.spot).Nodup ∧ tl.length ≤ 4800 ∧ ∀ (q dc r wd : Addr) (rs rw : List RowV) (H' : Hp), H q = none → H dc = none → H r = none → H wd = none → WebX C H' p q dc r wd nm cl rs → Paired (RowOf nm) tl rw → rs.Perm rw → rs.Pairwise (fun x y => lexK (rowK y.key) (rowK x.key) = false) → But p H H' → Q .non H'
abbrev nWI : List Str := ["self", "places", "ties", "one", "other", "kind", "width", "name", "colour", "_"]
theorem scWI : FnScope nWI ["self", "places", "ties"] (defScope sWebInit) := ⟨rfl, rfl, rfl, by decide +kernel, rfl, by decide +kernel, by decide +kernel⟩
theorem ok_webI {f C : Addr} {fd : FuncData} (F : Fun K "__init__" "Web.__init__" sWebInit f fd) (T : TxtW K mg C) (Gp : Def P w K mg base "need_places" ["places"] 3 spNeedP) (Gt : Def P w K mg base "need_ties" ["ties", "names"] 4 spNeedT) (Go : Def P w K mg base "ordered_ties" ["ties", "names"] 1 spOrd) :
    FnOk P w K mg base CX0 5 f fd ["self", "places", "ties"] (spWebI C) := by
  obtain ⟨fp, fdp, Gp, mp, kp, bp⟩ := Gp.ex
  obtain ⟨ft, fdt, Gt, mt, kt, bt⟩ := Gt.ex
  obtain ⟨fo, fdo, Go, mo, ko, bo⟩ := Go.ex
  refine F.ok scWI (fun vs H Q E h => ?_) (fun cdv A outer s H vs Q E hr h => ?_)
  · obtain ⟨_, _, _, _, _, _, _, rfl, _⟩ := h
    rfl
  · obtain ⟨p, dx, pl, tt, nm, cl, tl, rfl, hp, hpl, htt, h1, hn, nd, hnw, hcw, hok, hsp, htl, k⟩ := h
    have hcl : nm.length ≤ cl.length := by
      obtain ⟨ts, _, hl, ht⟩ := hpl
      have : 0 < ts.length := by omega
      obtain ⟨x, y, _, hy, _⟩ := ht (ts.length - 1) _ (List.getElem?_eq_getElem (by omega))
      have := (List.getElem?_eq_some_iff.mp hy).1
      omega
    have hu := hu_of hr
    have hr1 := hr.mono (by decide : 1 ≤ 4)
    have hr2 := hr.mono (by decide : 3 ≤ 4)
    refine ⟨_, pss_cons (ps_expr (pe_call Gp hr2 (by rfl) mp kp bp .nil pass0 (pa_cons (pv 1) pa_nil)))
      (Evl.pss_cut (ps_fld (pv 0) (pe_dc (own := [("name", 7), ("colour", 8)]) (g := gTup K 2 (gCons (gName 7) (gCons (gName 8) gNil))) (tt := tYes) rfl scWI.nd (pi_list (pv 1)) (blkOk_by (N := nWI) (sc := defScope sWebInit) (by decide +kernel))
          (fun _ _ _ _ _ => pg_tup rfl (pgs_cons (pg_name (i := 7) scWI.nd rfl (Or.inl rfl)) (pgs_cons (pg_name (i := 8) scWI.nd rfl (Or.inl rfl)) pgs_nil))) (fun _ _ _ _ _ => pts_nil) (fun _ _ _ _ _ => pv 7) (fun _ _ _ _ _ => pv 8)) rfl)
      (pss_cons (ps_expr (pe_call Gt hr (by rfl) mt kt bt .nil pass0 (pa_cons (pv 2) (pa_cons (pe_fld (pv 0) rfl) pa_nil))))
      (Evl.pss_cut (ps_fld (pv 0) (pe_lc (own := [("name", 7), ("_", 9)]) (g := gTup K 2 (gCons (gName 7) (gCons (gName 9) gNil))) (tt := tYes) (te := tVar 7) rfl scWI.nd (pi_list (pv 1)) (blkOk_by (N := nWI) (sc := defScope sWebInit) (by decide +kernel))
          (fun _ _ _ _ _ => pg_tup rfl (pgs_cons (pg_name (i := 7) scWI.nd rfl (Or.inl rfl)) (pgs_cons (pg_name (i := 9) scWI.nd rfl (Or.inl rfl)) pgs_nil))) (fun _ _ _ _ _ => pts_nil) (fun _ _ _ _ _ => pv 7)) rfl)
      (pss_cons (ps_fld (pv 0) (pe_call Go hr1 (by rfl) mo ko bo .nil pass0 (pa_cons (pv 2) (pa_cons (pe_fld (pv 0) rfl) pa_nil))) rfl)
      (pss_cons (ps_fld (pv 0) pe_dnewT rfl)
      (pss_one (ps_for PassesOwn.never rfl (pi_list (pe_fld (pv 0) rfl)) (pg_tup rfl (pgs_cons (pg_name (i := 3) scWI.nd rfl (.inl rfl)) (pgs_cons (pg_name (i := 4) scWI.nd rfl (.inl rfl)) (pgs_cons (pg_name (i := 5) scWI.nd rfl (.inl rfl)) (pgs_cons (pg_name (i := 6) scWI.nd rfl (.inl rfl)) pgs_nil)))))
        (pss_cons (ps_dput hu (pe_fld (pv 0) rfl) (pe_tup (pa_cons (pv 3) (pa_cons (pv 4) (pa_cons (pv 5) pa_nil)))) (pv 6) rfl)
        (pss_one (ps_dput hu (pe_fld (pv 0) rfl) (pe_tup (pa_cons (pv 4) (pa_cons (pv 3) (pa_cons (pv 5) pa_nil)))) (pv 6) rfl)))))))))), ?_⟩
    refine ⟨_, rfl, pl, nm, cl, rfl, hpl, h1, hn, nd, hnw, hcw, fun H1 s1 => ?_⟩
    have hp1 := s1 _ _ hp
    have b1 : But p H H1 := But.of s1
    -- the colours
    refine ⟨fun σ H2 => ∃ dc, σ = [some (.ref p), some (.ref pl), some (.ref tt), none, none, none, none, none, none, none] ∧ H dc = none ∧ H2 p = some (.ins C dx (putF "_colour_of" (.ref dc) [])) ∧ H2 dc = some (.dK (colK nm cl)) ∧ But p H H2, ?_, ?_⟩
    · obtain ⟨ts, hpl1, hlen, hts⟩ := hpl.but hp b1
      refine ⟨_, rfl, pl, rfl, ⟨_, SqL.of hpl1⟩, fun D hD => ?_⟩
      refine dc_walk (walk_list (xs := ts.map V.ref)) (fun i H2 => H2 D = some (.dK ((colK nm cl).take i)) ∧ Same H1 H2) ⟨upd_same, same_new hD⟩ (fun i H2 _ h => SqL.of (h.2 _ _ hpl1)) ?_ ?_
      · rintro i x H2 H3 hi ⟨hD2, s2⟩ ⟨rfl, hx⟩
        rw [List.length_map] at hi
        rw [List.getElem?_map] at hx
        obtain ⟨t, ht, rfl⟩ := Option.map_eq_some_iff.mp hx
        obtain ⟨x, y, hx, hy, htt'⟩ := hts i t ht
        refine ⟨t, _, rfl, SqT.of (s2 _ _ htt'), rfl, _, _, rfl, _, _, rfl, rfl, rfl, tyes ?_⟩
        have hk : ((colK nm cl).take i).map (·.1) = (nm.take i).map Sum.inr := by rw [List.map_take, colK_keys hcl, List.map_take]
        have hkl : ((colK nm cl).take i).length ≤ i := by rw [List.length_take]; omega
        have hci : (colK nm cl)[i]? = some (Sum.inr x, V.str y) := by
          unfold colK
          have hz : (nm.zip cl)[i]? = some (x, y) := by rw [List.getElem?_zip_eq_some]; exact ⟨hx, hy⟩
          rw [List.getElem?_map, hz]
          rfl
        refine ⟨_, rfl, _, rfl, _, Sum.inr x, rfl, hD2, Evl.sz_lt (by omega), ?_, fun b o e => ?_⟩
        · rw [upd_same, putK_new _ (nm_new nd hx hk), List.take_add_one, hci]
          rfl
        · rw [upd_ne (ne_of_none e hD)]
          exact s2 b o e
      · rintro H2 ⟨hD2, s2⟩
        rw [List.length_map, hlen, List.take_of_length_le (by unfold colK; rw [List.length_map, List.length_zip]; omega)] at hD2
        have hp2 := s2 _ _ hp1
        have npD : D ≠ p := ne_of hD2 hp2 (by intro z; cases z)
        refine ⟨_, rfl, p, C, dx, _, rfl, hp2, T.cl, T.nCo, (by show 0 < 1000; decide), D, rfl, s1.free hD, upd_same, by rw [upd_ne npD]; exact hD2, ?_⟩
        exact (b1.trans (But.of s2)).trans But.upd
    rintro σ H2 ⟨dc, rfl, hdc0, hp2, hdc2, b2⟩
    -- need_ties
    refine ⟨_, rfl, _, rfl, p, C, dx, _, _, rfl, hp2, T.cl, T.nCo, (by rw [lookup_putF, if_pos rfl]), tt, dc, tl, nm, colK nm cl, rfl, htt.but hp b2, hdc2, colK_keys hcl, hok, hsp, htl, fun H3 s3 => ?_⟩
    have hp3 := s3 _ _ hp2
    have b3 := b2.trans (But.of s3)
    have ndp : dc ≠ p := ne_of hdc2 hp2 (by intro z; cases z)
    -- the names
    refine ⟨fun σ H4 => ∃ q, σ = [some (.ref p), some (.ref pl), some (.ref tt), none, none, none, none, none, none, none] ∧ H4 p = some (.ins C dx (putF "_names" (.ref q) (putF "_colour_of" (.ref dc) []))) ∧ (H4 dc = some (.dK (colK nm cl)) ∧ dc ≠ p) ∧ H q = none ∧ H4 q = some (.lst (nm.map V.str)) ∧ But p H H4, ?_, ?_⟩
    · obtain ⟨ts, hpl3, hlen, hts⟩ := hpl.but hp b3
      refine ⟨_, rfl, pl, rfl, ⟨_, SqL.of hpl3⟩, fun D hD => ?_⟩
      refine lc_list (xs := ts.map V.ref) (fun i H4 => H4 D = some (.lst ((nm.take i).map V.str)) ∧ Same H3 H4) ⟨upd_same, same_new hD⟩ (fun i H4 _ h => SqL.of (h.2 _ _ hpl3)) ?_ ?_
      · rintro i x H4 hx ⟨hD4, s4⟩
        have hi := (List.getElem?_eq_some_iff.mp hx).1
        rw [List.length_map] at hi
        rw [List.getElem?_map] at hx
        obtain ⟨t, ht, rfl⟩ := Option.map_eq_some_iff.mp hx
        obtain ⟨x, y, hx, hy, htt'⟩ := hts i t ht
        refine ⟨t, _, rfl, SqT.of (s4 _ _ htt'), rfl, _, _, rfl, _, _, rfl, rfl, rfl, tyes ?_⟩
        refine ⟨_, rfl, _, hD4, Evl.sz_lt (by rw [List.length_map, List.length_take]; omega), ?_, fun b o e => ?_⟩
        · rw [upd_same, List.take_add_one, hx, List.map_append]
          rfl
        · rw [upd_ne (ne_of_none e hD)]
          exact s4 b o e
      · rintro H4 ⟨hD4, s4⟩
        rw [List.length_map, hlen, List.take_of_length_le (Nat.le_refl _)] at hD4
        have hp4 := s4 _ _ hp3
        have npD : D ≠ p := ne_of hD4 hp4 (by intro z; cases z)
        have hD0 : H D = none := by
          cases e : H D with
          | none => rfl
          | some o =>
            have := b3 D o e npD
            rw [hD] at this
            cases this
        refine ⟨_, rfl, p, C, dx, _, rfl, hp4, T.cl, T.nNa, Nat.lt_of_le_of_lt (length_putF _ _ _) (by show 1 < 1000; decide), D, rfl, upd_same, ⟨by rw [upd_ne ndp]; exact s4 _ _ (s3 _ _ hdc2), ndp⟩, hD0, by rw [upd_ne npD]; exact hD4, ?_⟩
        exact (b3.trans (But.of s4)).trans But.upd
    rintro σ H4 ⟨q, rfl, hp4, ⟨hdc4, ndp⟩, hq0, hq4, b4⟩
    generalize hfs1 : putF "_names" (V.ref q) (putF "_colour_of" (.ref dc) []) = fs at *
    have hfl : fs.length ≤ 2 := by
      rw [← hfs1]
      exact Nat.le_trans (length_putF _ _ _) (Nat.succ_le_succ (length_putF _ _ _))
    have hfn : fs.lookup ("_names" : Str) = some (.ref q) := by rw [← hfs1, lookup_putF, if_pos rfl]
    -- the ties in order
    refine ⟨_, rfl, _, rfl, p, C, dx, _, _, rfl, hp4, T.cl, T.nNa, hfn, tt, q, nm, tl, rfl, htt.but hp b4, hq4, nd, hn, (by omega), hok, fun r rs rw' H5 hr0 pr pm srt ho s5 => ?_⟩
    have hp5 := s5 _ _ hp4
    have b5 := b4.trans (But.of s5)
    refine ⟨_, rfl, p, C, dx, _, rfl, hp5, T.cl, T.nTi, (by omega), ?_⟩
    have hrl : rs.length = tl.length := by rw [pm.length_eq, ← Paired.length pr]
    have hr00 : H r = none := by
      cases e : H r with
      | none => rfl
      | some o =>
        by_cases z : r = p
        · rw [z, hp4] at hr0
          cases hr0
        · have := b4 r o e z
          rw [hr0] at this
          cases this
    have ho5 := ho
    obtain ⟨os, hos, hpr⟩ := ho
    have nrp : r ≠ p := ne_of hos hp5 (by intro z; cases z)
    have nqp : q ≠ p := ne_of hq4 hp4 (by intro z; cases z)
    generalize hfs2 : putF "_ties" (V.ref r) fs = fs2
    have hfl2 : fs2.length ≤ 3 := by have := length_putF "_ties" (V.ref r) fs; rw [hfs2] at this; omega
    have hft2 : fs2.lookup ("_ties" : Str) = some (.ref r) := by rw [← hfs2, lookup_putF, if_pos rfl]
    have b6 : But p H5 (upd H5 p (.ins C dx fs2)) := But.upd
    have hp6 : (upd H5 p (.ins C dx fs2)) p = some (.ins C dx fs2) := upd_same
    generalize upd H5 p (.ins C dx fs2) = H6 at *
    -- the widths
    intro wd hwd
    have s7 := same_new (o := .dT []) hwd
    have hwd7 : (upd H6 wd (.dT [])) wd = some (.dT []) := upd_same
    generalize upd H6 wd (.dT []) = H7 at *
    have hp7 := s7 _ _ hp6
    refine ⟨_, rfl, p, C, dx, _, rfl, hp7, T.cl, T.nWi, (by omega), ?_⟩
    generalize hfs3 : putF "_width_of" (V.ref wd) fs2 = fs3
    have hft3 : fs3.lookup ("_ties" : Str) = some (.ref r) := by rw [← hfs3, lookup_putF, if_neg (by decide +kernel)]; exact hft2
    have hfw3 : fs3.lookup ("_width_of" : Str) = some (.ref wd) := by rw [← hfs3, lookup_putF, if_pos rfl]
    have nwp : wd ≠ p := ne_of hwd7 hp7 (by intro z; cases z)
    have b8 : But p H7 (upd H7 p (.ins C dx fs3)) := But.upd
    have hp8 : (upd H7 p (.ins C dx fs3)) p = some (.ins C dx fs3) := upd_same
    generalize upd H7 p (.ins C dx fs3) = H8 at *
    have bb : But p H H8 := ((b5.trans b6).trans (But.of s7)).trans b8
    have b58 : But p H5 H8 := (b6.trans (But.of s7)).trans b8
    have hwd8 := b8 _ _ hwd7 nwp
    have hr8 := b58 _ _ hos nrp
    have hq8 := b58 _ _ (s5 _ _ hq4) nqp
    have hdc8 := b58 _ _ (s5 _ _ hdc4) ndp
    have ndw : dc ≠ wd := ne_of hdc8 hwd8 (by intro z; cases z)
    have hw0 : H wd = none := by
      cases e : H wd with
      | none => rfl
      | some o =>
        have := (b5.trans b6) wd o e nwp
        rw [hwd] at this
        cases this
    have nrw : r ≠ wd := ne_of hr8 hwd8 (by intro z; cases z)
    have nqw : q ≠ wd := ne_of hq8 hwd8 (by intro z; cases z)
    have hpr8 : Paired (fun t (r : RowV) => ∃ x y, nm[r.i]? = some x ∧ nm[r.j]? = some y ∧ H8 t = some (.tup [.str x, .str y, .str r.kd, .int r.w])) os rs := Paired.mapP hpr fun t r ⟨x, y, hx, hy, h⟩ => ⟨x, y, hx, hy, b58 _ _ h (ne_of h hp5 (by intro z; cases z))⟩
    refine ⟨_, rfl, p, C, dx, _, _, rfl, hp8, T.cl, T.nTi, hft3, r, rfl, ⟨_, SqL.of hr8⟩, ?_⟩
    refine for_list (xs := os.map V.ref) (fun i σ H9 => ∃ v3 v4 v5 v6, σ = [some (.ref p), some (.ref pl), some (.ref tt), v3, v4, v5, v6, none, none, none] ∧ H9 wd = some (.dT (widK nm (rs.take i))) ∧ (widK nm (rs.take i)).length ≤ 2 * i ∧ But wd H8 H9) ⟨none, none, none, none, rfl, hwd8, Nat.le_refl _, fun b o e _ => e⟩ (fun i σ H9 _ ⟨_, _, _, _, _, _, _, h⟩ => SqL.of (h _ _ hr8 nrw)) ?_ ?_
    · rintro i v σ H9 hi ⟨v3, v4, v5, v6, rfl, hwd9, hkl, b9⟩
      have hil := (List.getElem?_eq_some_iff.mp hi).1
      rw [List.length_map, Paired.length hpr, hrl] at hil
      rw [List.getElem?_map] at hi
      obtain ⟨t, ht, rfl⟩ := Option.map_eq_some_iff.mp hi
      obtain ⟨rv, hrv, x, y, hxi, hyj, htt8⟩ := paired_get hpr8 ht
      have est := widK_step (nm := nm) hrv
      unfold widS at est
      rw [hxi, hyj, Option.getD_some, Option.getD_some] at est
      generalize hkv0 : widK nm (rs.take i) = kv at hwd9 hkl est
      have nt : t ≠ wd := ne_of htt8 hwd8 (by intro z; cases z)
      have hp9 := b9 _ _ hp8 nwp.symm
      refine ⟨t, _, rfl, SqT.of (b9 _ _ htt8 nt), rfl, _, _, rfl, _, _, rfl, _, _, rfl, _, _, rfl, rfl, ?_⟩
      refine ⟨_, rfl, _, rfl, p, C, dx, _, _, rfl, hp9, T.cl, T.nWi, hfw3, _, rfl, _, rfl, _, rfl, (by show 3 ≤ sizeLine; decide), fun u hu' => ?_⟩
      have su := same_new (o := .tup [V.str x, V.str y, V.str rv.kd]) hu'
      have hu1 : (upd H9 u (.tup [V.str x, V.str y, V.str rv.kd])) u = some (.tup (List.map kV [Sum.inr x, Sum.inr y, Sum.inr rv.kd])) := upd_same
      generalize upd H9 u (.tup [V.str x, V.str y, V.str rv.kd]) = H10 at *
      refine ⟨wd, _, rfl, DPut.t (su _ _ hwd9) hu1 (Evl.sz_lt (by omega)), ?_⟩
      have l1 := length_putK kv [Sum.inr x, Sum.inr y, Sum.inr rv.kd] (V.int rv.w)
      generalize putK kv [Sum.inr x, Sum.inr y, Sum.inr rv.kd] (V.int rv.w) = kv1 at *
      have b11 : But wd H9 (upd H10 wd (.dT kv1)) := (But.of su).trans But.upd
      have hwd11 : (upd H10 wd (.dT kv1)) wd = some (.dT kv1) := upd_same
      generalize upd H10 wd (.dT kv1) = H11 at *
      refine ⟨_, rfl, _, rfl, p, C, dx, _, _, rfl, b11 _ _ hp9 nwp.symm, T.cl, T.nWi, hfw3, _, rfl, _, rfl, _, rfl, (by show 3 ≤ sizeLine; decide), fun u2 hu2 => ?_⟩
      have su2 := same_new (o := .tup [V.str y, V.str x, V.str rv.kd]) hu2
      have hu3 : (upd H11 u2 (.tup [V.str y, V.str x, V.str rv.kd])) u2 = some (.tup (List.map kV [Sum.inr y, Sum.inr x, Sum.inr rv.kd])) := upd_same
      generalize upd H11 u2 (.tup [V.str y, V.str x, V.str rv.kd]) = H12 at *
      refine ⟨wd, _, rfl, DPut.t (su2 _ _ hwd11) hu3 (Evl.sz_lt (by omega)), ?_⟩
      have l2 := length_putK kv1 [Sum.inr y, Sum.inr x, Sum.inr rv.kd] (V.int rv.w)
      exact ⟨_, _, _, _, rfl, by rw [upd_same, est], by rw [est]; omega, ((b9.trans b11).trans (But.of su2)).trans But.upd⟩
    · rintro σ H9 ⟨v3, v4, v5, v6, rfl, hwd9, hkl, b9⟩
      rw [List.length_map, Paired.length hpr, List.take_length] at hwd9
      have e3 : fs3 = webF dc q r wd := by
        rw [← hfs3, ← hfs2, ← hfs1]
        rfl
      refine k q dc r wd rs rw' H9 hq0 hdc0 hr00 hw0 ⟨⟨dx, by rw [← e3]; exact b9 _ _ hp8 nwp.symm⟩, b9 _ _ hq8 nqw, b9 _ _ hdc8 ndw, ?_, hwd9⟩ pr pm srt fun b o e hb => b9 _ _ (bb b o e hb) (ne_of_none e hw0)
      refine ext_tie ho5 (fun o e => b9 _ _ (b58 _ _ e nrp) nrw) (fun b xs e => ?_)
      have e8 := b58 _ _ e (ne_of e hp5 (by intro z; cases z))
      exact b9 _ _ e8 (ne_of e8 hwd8 (by intro z; cases z))
end
end Nm
set_option autoImplicit true
set_option maxRecDepth 100000
set_option maxHeartbeats 4000000
/-! x in o, o an instance whose class has its own __contains__ -/
namespace Nm
open PySem PySem.Spec PyProof.Rows L2
section
variable {X : Cx}
theorem spec_own {K : PySem.W.Frag} {M : Model} {A : Around} {s : Shared} {E : Value → Shared → Prop} {a C f : Addr} {ox : Obj} {od : Option Obj} {name : Str} {Q : Option Value → Shared → Prop} (KX : K.In s.heap) (J : PySem.W.InstAt s.heap a ox C od) (hs : PySem.W.findIn K (.ref C) name = some (some (.ref f)))
    (q : Q (some (.ref f)) s) : wpAny M A (specialOf (.ref a) name) Q E s := by
  unfold specialOf
  exact wpAny_bind (J.type.here ((PySem.W.looks_findIn KX hs).here q))
theorem has_own {k : Nat} {f C : Addr} {fd : FuncData} {ps : List Str} {sp : Sp} {CX : CXT} {E : XK} (F : FnOk X.prog X.w X.K X.mg X.base CX k f fd ps sp) (M : Meth X.K C "__contains__" f) (hr : Room k X.A) (hb : Binds X.K fd ps []) (hx : Passes CX X E)
    {pins : List (Addr × Obj)} {s : Shared} {σ : L2.St} {H : Hp} {x y : V} {v u : Value} {Q : Bool → Shared → Prop} (I : Inv X pins σ H s) (rx : RelV x v) (ry : RelV y u)
    (h : ∃ (a dx : Addr) (fs : List (Str × V)), y = .ref a ∧ H a = some (.ins C dx fs) ∧ sp [.ref a, x] H (fun v H1 => ∃ b : Bool, v = .bl b ∧ ∀ s1, Inv X pins σ H1 s1 → Q b s1) E) : wpAny (model X.prog X.w) X.A (contains u v) Q X.xe s := by
  obtain ⟨a, dx, fs, rfl, ha, h⟩ := h
  cases (show u = Value.ref a from ry)
  obtain ⟨mA, O, _⟩ := ins_get I.hok ha
  obtain ⟨od, J, _⟩ := O.look
  have fn : PySem.W.typeIn X.K (.ref f) = some (.type "function") := beq_iff_eq.mp M.fn
  have rr : Vals [V.ref a, x] [Value.ref a, v] := .cons rfl (.cons rx .nil)
  have hl : ([Value.ref a, v] : List Value).length = ps.length := by rw [← rr.length]; exact F.len _ _ _ _ h
  have b := hb s [.ref a, v] I.kIn (by rw [List.append_nil]; exact hl)
  rw [List.append_nil] at b
  unfold contains
  refine wpAny_holding ?_
  dsimp only [stdlibNamesSay?]
  refine wpAny_bind (spec_own I.kIn J M.at_ ?_)
  show wpAny _ _ (if (some (Value.ref f) == some Value.none) = true then _ else _) _ _ _
  rw [if_neg (by simp)]
  unfold callSpecialUnlessNone?
  refine wpAny_bind (wpAny_bind (spec_own I.kIn J M.at_ ?_))
  refine wpAny_holding (wpAny_bind ((PySem.W.bind_fn I.kIn _ fn).here ?_))
  show wpAny _ _ (if (Value.ref f == Value.none) = true then _ else _) _ _ _
  rw [if_neg (by simp)]
  refine wpAny_bind (wpAny_call (codeAny_mono (F.run X.A X.stack s H ⟨[.ref a, v], []⟩ [.ref a, v] [.ref a, x] _ E hr I.env0 b rr h) fun r s' hq => ?_))
  cases r with
  | error e => exact hx pins σ H s e s' I hq
  | ok fl =>
    cases fl with
    | ret u =>
      obtain ⟨w1, H', I', rv, b, rfl, q⟩ := I.after hq
      cases (show u = Value.bool b from rv)
      exact wpAny_pure (wpAny_truthy_bool (q _ I'))
    | next => exact False.elim hq
    | brk => exact False.elim hq
    | cont => exact False.elim hq
theorem op_notInOwn {k : Nat} {f C : Addr} {fd : FuncData} {ps : List Str} {sp : Sp} {CX : CXT} {E : XK} (F : FnOk X.prog X.w X.K X.mg X.base CX k f fd ps sp) (M : Meth X.K C "__contains__" f) (hr : Room k X.A) (hb : Binds X.K fd ps []) (hx : Passes CX X E) (mono : ∀ {vs H} {Q Q' : VK}, (∀ v H, Q v H → Q' v H) → sp vs H Q E → sp vs H Q' E) :
    OpR X (compareOp .NotIn) (fun x y H Q => ∃ (a dx : Addr) (fs : List (Str × V)), y = .ref a ∧ H a = some (.ins C dx fs) ∧ sp [.ref a, x] H (fun v H1 => ∃ b : Bool, v = .bl b ∧ Q (.bl (!b)) H1) E) := by
  intro pins s σ H x y v u Q I rx ry h
  obtain ⟨a, dx, fs, rfl, ha, h⟩ := h
  show wpAny _ _ (contains u v >>= fun b => (pure (Value.bool (!b)) : Sem Value)) _ _ _
  refine wpAny_bind (has_own F M hr hb hx I rx ry ⟨a, dx, fs, rfl, ha, mono (fun w1 H1 ⟨b, e, q⟩ => ⟨b, e, fun s1 I1 => wpAny_pure ⟨.bl (!b), H1, I1, rfl, q⟩⟩) h⟩)
end
end Nm
set_option autoImplicit true
set_option maxRecDepth 100000
set_option maxHeartbeats 4000000
namespace Nm
open PySem L2
/-- a method and its promise -/
structure MethD (P : Program) (w : World) (K : PySem.W.Frag) (mg : Str → Option Value) (base : Heap) (C : Addr) (m : Str) (ps : List Str) (k : Nat) (sp : Sp) : Prop where
  ex : ∃ f fd, FnOk P w K mg base CX0 k f fd ps sp ∧ Meth K C m f ∧ Binds K fd ps []
section
variable {P : Program} {w : World} {K : PySem.W.Frag} {mg : Str → Option Value} {base : Heap}
/-! ### Web.places -/
def spPlaces (C : Addr) : Sp := fun vs H Q _ => ∃ (p q dc r wd : Addr) (nm cl : List Str) (rs : List RowV), vs = [.ref p] ∧ WebX C H p q dc r wd nm cl rs ∧ nm.length ≤ 1000 ∧ ∀ (l : Addr) (H' : Hp), H l = none → H' l = some (.lst (nm.map V.str)) → Same H H' → Q (.ref l) H'
theorem scPl : FnScope ["self"] ["self"] (defScope sWebPlaces) := ⟨rfl, rfl, rfl, by decide +kernel, rfl, by decide +kernel, by decide +kernel⟩
theorem ok_places {f C : Addr} {fd : FuncData} (F : Fun K "places" "Web.places" sWebPlaces f fd) (T : TxtW K mg C) : FnOk P w K mg base CX0 1 f fd ["self"] (spPlaces C) := by
  refine F.ok scPl (fun vs H Q E h => ?_) (fun cdv A outer s H vs Q E hr h => ?_)
  · obtain ⟨_, _, _, _, _, _, _, _, rfl, _⟩ := h
    rfl
  · obtain ⟨p, q, dc, r, wd, nm, cl, rs, rfl, W, hn, k⟩ := h
    obtain ⟨dx, hp⟩ := W.hp
    refine ⟨_, pss_one (ps_ret (pe_callTy call_list_of (by rfl) T.list (by decide +kernel) (pa_cons (pe_fld (pv 0) rfl) pa_nil))), ?_⟩
    refine ⟨_, rfl, p, C, dx, _, _, rfl, hp, T.cl, T.nNa, rfl, ?_⟩
    exact ⟨q, _, rfl, .inl (SqL.of W.hq), fun r hr0 => k r _ hr0 upd_same (same_new hr0)⟩
/-! ### Web.ties -/
def spTies (C : Addr) : Sp := fun vs H Q _ => ∃ (p q dc r wd : Addr) (nm cl : List Str) (rs : List RowV), vs = [.ref p] ∧ WebX C H p q dc r wd nm cl rs ∧ ∀ (l : Addr) (H' : Hp), H l = none → OrdAt H' l nm rs → Same H H' → Q (.ref l) H'
theorem scTi : FnScope ["self"] ["self"] (defScope sWebTies) := ⟨rfl, rfl, rfl, by decide +kernel, rfl, by decide +kernel, by decide +kernel⟩
theorem ok_ties {f C : Addr} {fd : FuncData} (F : Fun K "ties" "Web.ties" sWebTies f fd) (T : TxtW K mg C) : FnOk P w K mg base CX0 1 f fd ["self"] (spTies C) := by
  refine F.ok scTi (fun vs H Q E h => ?_) (fun cdv A outer s H vs Q E hr h => ?_)
  · obtain ⟨_, _, _, _, _, _, _, _, rfl, _⟩ := h
    rfl
  · obtain ⟨p, q, dc, r, wd, nm, cl, rs, rfl, W, k⟩ := h
    obtain ⟨dx, hp⟩ := W.hp
    obtain ⟨ts, h1, h2⟩ := W.hr
    refine ⟨_, pss_one (ps_ret (pe_callTy call_list_of (by rfl) T.list (by decide +kernel) (pa_cons (pe_fld (pv 0) rfl) pa_nil))), ?_⟩
    refine ⟨_, rfl, p, C, dx, _, _, rfl, hp, T.cl, T.nTi, rfl, ?_⟩
    refine ⟨r, _, rfl, .inl (SqL.of h1), fun l hl0 => ?_⟩
    have s := same_new (o := .lst (ts.map V.ref)) hl0
    exact k l _ hl0 ⟨ts, upd_same, Paired.mapP h2 fun t r ⟨x, y, a, b, z⟩ => ⟨x, y, a, b, s _ _ z⟩⟩ s
/-! ### Web.__contains__, of a text -/
def spHas (C : Addr) : Sp := fun vs H Q _ => ∃ (p q dc r wd : Addr) (nm cl : List Str) (rs : List RowV) (z : Str), vs = [.ref p, .str z] ∧ WebX C H p q dc r wd nm cl rs ∧ nm.length ≤ cl.length ∧ Q (.bl (decide (z ∈ nm))) H
theorem spHas_mono {C : Addr} {E : XK} {vs : List V} {H : Hp} {Q Q' : VK} (m : ∀ v H, Q v H → Q' v H) (h : spHas C vs H Q E) : spHas C vs H Q' E := by
  obtain ⟨p, q, dc, r, wd, nm, cl, rs, z, rfl, W, hc, k⟩ := h
  exact ⟨p, q, dc, r, wd, nm, cl, rs, z, rfl, W, hc, m _ _ k⟩
theorem key_in {nm : List Str} {kc : List (Key × V)} (h : kc.map (·.1) = nm.map Sum.inr) (z : Str) : (valV kc (Sum.inr z)).isSome = decide (z ∈ nm) := by
  cases e : valV kc (Sum.inr z) with
  | some v =>
    have := valV_in e
    rw [h, List.mem_map] at this
    obtain ⟨y, hy, e2⟩ := this
    cases e2
    exact (decide_eq_true hy).symm
  | none =>
    have := valV_not e
    rw [h, List.mem_map] at this
    exact (decide_eq_false fun z1 => this ⟨z, z1, rfl⟩).symm
theorem scHas : FnScope ["self", "name"] ["self", "name"] (defScope sWebHas) := ⟨rfl, rfl, rfl, by decide +kernel, rfl, by decide +kernel, by decide +kernel⟩
theorem ok_has {f C : Addr} {fd : FuncData} (F : Fun K "__contains__" "Web.__contains__" sWebHas f fd) (T : TxtW K mg C) : FnOk P w K mg base CX0 1 f fd ["self", "name"] (spHas C) := by
  refine F.ok scHas (fun vs H Q E h => ?_) (fun cdv A outer s H vs Q E hr h => ?_)
  · obtain ⟨_, _, _, _, _, _, _, _, _, rfl, _⟩ := h
    rfl
  · obtain ⟨p, q, dc, r, wd, nm, cl, rs, z, rfl, W, hc, k⟩ := h
    obtain ⟨dx, hp⟩ := W.hp
    have hu := hu_of hr
    refine ⟨_, pss_one (ps_ret (pe_and (pe_callB call_isi (by rfl) T.isinstance (by decide +kernel) (pa_cons (pv 1) (pa_cons (pe_bltn (v := .ty "str") (by rfl) T.str (by decide +kernel) rfl) pa_nil)))
      (pe_one (pe_cmp (pc_din hu (pv 1) (pe_fld (pv 0) rfl)))))), ?_⟩
    refine ⟨_, rfl, _, _, _, _, true, rfl, ClsV.ty "str", TyX.base (TyOf.str z), kit_ty (by decide +kernel), _, rfl, iteT ?_⟩
    refine ⟨_, rfl, _, rfl, p, C, dx, _, _, rfl, hp, T.cl, T.nCo, rfl, dc, _, rfl, DGet.k (k := Sum.inr z) W.hdc, ?_⟩
    rw [key_in (colK_keys hc)]
    exact k
/-! ### Web.colour, of a name that is there -/
def spColour (C : Addr) : Sp := fun vs H Q _ => ∃ (p q dc r wd : Addr) (nm cl : List Str) (rs : List RowV) (i : Nat) (x y : Str), vs = [.ref p, .str x] ∧ WebX C H p q dc r wd nm cl rs ∧ nm.Nodup ∧ nm.length ≤ cl.length ∧ nm[i]? = some x ∧ cl[i]? = some y ∧ Q (.str y) H
theorem scCo : FnScope ["self", "name"] ["self", "name"] (defScope sWebColour) := ⟨rfl, rfl, rfl, by decide +kernel, rfl, by decide +kernel, by decide +kernel⟩
theorem pss_nope {X : Cx} {b : List Stmt} : PSs X b (fun _ _ _ => False) := ⟨fun _ _ _ _ _ _ h => h.elim⟩
theorem ok_colour {f C : Addr} {fd : FuncData} (F : Fun K "colour" "Web.colour" sWebColour f fd) (T : TxtW K mg C) (Gh : MethD P w K mg base C "__contains__" ["self", "name"] 1 (spHas C)) : FnOk P w K mg base CX0 2 f fd ["self", "name"] (spColour C) := by
  obtain ⟨fh, fdh, Gh, mh, bh⟩ := Gh.ex
  refine F.ok scCo (fun vs H Q E h => ?_) (fun cdv A outer s H vs Q E hr h => ?_)
  · obtain ⟨_, _, _, _, _, _, _, _, _, _, _, rfl, _⟩ := h
    rfl
  · obtain ⟨p, q, dc, r, wd, nm, cl, rs, i, x, y, rfl, W, nd, hc, hx, hy, k⟩ := h
    obtain ⟨dx, hp⟩ := W.hp
    have hu := hu_of hr
    refine ⟨_, pss_cons (ps_if (pt_cmpR (op_notInOwn Gh mh (hr.mono (by decide)) bh pass0 spHas_mono) (pv 1) (pv 0) (by rfl)) pss_nope pss_nil)
      (pss_one (ps_ret (pe_dget hu (pe_fld (pv 0) rfl) (pv 1) (fun _ _ => rfl)))), ?_⟩
    refine ⟨_, rfl, _, rfl, p, dx, _, rfl, hp, p, q, dc, r, wd, nm, cl, rs, x, rfl, W, hc, ?_⟩
    rw [decide_eq_true (List.mem_of_getElem? hx)]
    refine ⟨true, rfl, _, rfl, iteF ?_⟩
    exact ⟨_, rfl, p, C, dx, _, _, rfl, hp, T.cl, T.nCo, rfl, _, rfl, dc, _, rfl, (by rw [← colK_at hc nd hx hy]; exact DGet.k (k := Sum.inr x) W.hdc), k⟩
/-! ### Web.__len__ -/
def spLen (C : Addr) : Sp := fun vs H Q _ => ∃ (p q dc r wd : Addr) (nm cl : List Str) (rs : List RowV), vs = [.ref p] ∧ WebX C H p q dc r wd nm cl rs ∧ Q (.int (nm.length : Nat)) H
theorem scLen : FnScope ["self"] ["self"] (defScope sWebLen) := ⟨rfl, rfl, rfl, by decide +kernel, rfl, by decide +kernel, by decide +kernel⟩
theorem ok_len {f C : Addr} {fd : FuncData} (F : Fun K "__len__" "Web.__len__" sWebLen f fd) (T : TxtW K mg C) : FnOk P w K mg base CX0 1 f fd ["self"] (spLen C) := by
  refine F.ok scLen (fun vs H Q E h => ?_) (fun cdv A outer s H vs Q E hr h => ?_)
  · obtain ⟨_, _, _, _, _, _, _, _, rfl, _⟩ := h
    rfl
  · obtain ⟨p, q, dc, r, wd, nm, cl, rs, rfl, W, k⟩ := h
    obtain ⟨dx, hp⟩ := W.hp
    refine ⟨_, pss_one (ps_ret (pe_callB call_len_seq (by rfl) T.len PySem.boot_len (pa_cons (pe_fld (pv 0) rfl) pa_nil))), ?_⟩
    refine ⟨_, rfl, p, C, dx, _, _, rfl, hp, T.cl, T.nNa, rfl, ?_⟩
    refine ⟨q, _, rfl, .inl (SqL.of W.hq), ?_⟩
    rw [List.length_map]
    exact k
end
end Nm
set_option autoImplicit true
set_option maxRecDepth 100000
set_option maxHeartbeats 4000000
namespace Nm
open PySem L2
end Nm
set_option autoImplicit true
set_option maxRecDepth 100000
set_option maxHeartbeats 4000000
/-! != of two dicts of lists of texts, the same ones; repr of a bool -/
namespace Nm
open PySem PySem.Spec PyProof.Rows L2
section
variable {X : Cx} {pins : List (Addr × Obj)} {σ : L2.St} {H : Hp} {s : Shared}
/-- repr of a bool -/
theorem call_reprB : CallR X (.builtin "repr") (fun xs H Q => ∃ b : Bool, xs = [.bl b] ∧ Q (.str (if b then "True" else "False")) H) := by
  intro pins s σ H xs us Q I r h
  obtain ⟨b, rfl, q⟩ := h
  cases r with
  | cons r t =>
    cases t
    cases (show _ = Value.bool b from r)
    exact PySem.P.repr_of_bool ⟨.str (if b then "True" else "False"), H, I.tok _, ⟨_, rfl⟩, q⟩
end
end Nm
set_option autoImplicit true
set_option maxRecDepth 100000
set_option maxHeartbeats 4000000
/-! != of two lists of the same texts -/
namespace Nm
open PySem PySem.Spec PyProof.Rows L2
section
variable {X : Cx}
end
end Nm
set_option autoImplicit true
set_option maxRecDepth 100000
set_option maxHeartbeats 4000000
/-! x != y where the class has an own __eq__ and no own __ne__ -/
namespace Nm
open PySem PySem.Spec PyProof.Rows L2
section
variable {prog : Program} {w : World} {A : Around} {E : Value → Shared → Prop} {s : Shared} {K : PySem.W.Frag} {x y C D f : Addr} {ox oy : Obj} {od od' : Option Obj}
end
section
variable {X : Cx} {n : Nat}
end
end Nm
set_option autoImplicit true
set_option maxRecDepth 100000
set_option maxHeartbeats 4000000
/-! == of two webs that are alike -/
namespace Nm
open PySem PySem.Spec PyProof.Rows L2
section
variable {P : Program} {w : World} {K : PySem.W.Frag} {mg : Str → Option Value} {base : Heap}
end
end Nm
set_option autoImplicit true
set_option maxRecDepth 100000
set_option maxHeartbeats 4000000
/-! list(zip(xs, ys)) -/
namespace Nm
open PySem PySem.Spec PyProof.Rows L2
/-- a list of references as it stands -/
abbrev refsObj (ts : List Addr) (c : Nat) : Obj := { cls := .type "list", dict := none, data := .seq (ts.map Value.ref).toArray c, slots := #[] }
/-- a zip on its way into the list at S; g: the heap ahead of it all -/
structure ZL (g h : Heap) (z TI TO i1 i2 l1 l2 S : Addr) (xs ys : Array Value) (i : Nat) (ts : List Addr) (c : Nat) : Prop where
  base : ∀ b o, g.get? b = some o → h.get? b = some o
  size : g.objs.size ≤ h.objs.size
  ti : IsPair h TI (.ref i1) (.ref i2)
  a1 : h.IsListIter i1 l1 i
  a2 : h.IsListIter i2 l2 i
  b1 : h.IsList l1 xs
  b2 : h.IsList l2 ys
  to : ∃ u v, IsPair h TO u v
  st : IsZip h z TI TO .none ∨ ∃ T f oT, IsZipHeld h z TI TO T f ∧ h.get? T = some oT ∧ T ≠ z ∧ T ≠ i1 ∧ T ≠ i2 ∧ T ≠ S
  at_ : h.get? S = some (refsObj ts c)
  len : ts.length = i
  nd : ts.Nodup
  each : ∀ (j : Nat) t, ts[j]? = some t → ∃ x y, xs[j]? = some x ∧ ys[j]? = some y ∧ IsPair h t x y ∧ t ≠ z ∧ t ≠ TO ∧ t ≠ i1 ∧ t ≠ i2 ∧ t ≠ S ∧ g.objs.size ≤ t
/-- S stands apart -/
structure Off (g : Heap) (z TI TO i1 i2 l1 l2 S : Addr) : Prop where
  oz : S ≠ z
  oti : S ≠ TI
  oto : S ≠ TO
  oi1 : S ≠ i1
  oi2 : S ≠ i2
  ol1 : S ≠ l1
  ol2 : S ≠ l2
  nz : g.get? z = none
  nto : g.get? TO = none
  n1 : g.get? i1 = none
  n2 : g.get? i2 = none
  ns : g.get? S = none
section
variable {P : Program} {w : World} {A : Around} {E : Value → Shared → Prop} {R : Result → Shared → Prop} {g : Heap} {z TI TO i1 i2 l1 l2 S : Addr} {xs ys : Array Value}
/-- S changed -/
theorem ZL.lay {h h' : Heap} {i : Nat} {ts : List Addr} {c c' : Nat} (Z : ZL g h z TI TO i1 i2 l1 l2 S xs ys i ts c) (O : Off g z TI TO i1 i2 l1 l2 S) (k : ∀ b o, b ≠ S → h.get? b = some o → h'.get? b = some o) (le : h.objs.size ≤ h'.objs.size)
    (at_ : h'.get? S = some (refsObj ts c')) : ZL g h' z TI TO i1 i2 l1 l2 S xs ys i ts c' := by
  refine ⟨fun b o e => k b o (fun q => by subst q; rw [O.ns] at e; cases e) (Z.base b o e), Nat.le_trans Z.size le, k _ _ O.oti.symm Z.ti, Z.a1.at fun o e => k _ o O.oi1.symm e, Z.a2.at fun o e => k _ o O.oi2.symm e, Z.b1.at fun o e => k _ o O.ol1.symm e, Z.b2.at fun o e => k _ o O.ol2.symm e, let ⟨u, v, b⟩ := Z.to; ⟨u, v, k _ _ O.oto.symm b⟩, ?_, at_, Z.len, Z.nd, fun j t e => ?_⟩
  · rcases Z.st with a | ⟨T, f, oT, a, b, n1, n2, n3, n4⟩
    · exact .inl (k _ _ O.oz.symm a)
    · exact .inr ⟨T, f, oT, k _ _ O.oz.symm a, k _ _ n4 b, n1, n2, n3, n4⟩
  · obtain ⟨x, y, ex, ey, ep, n1, n2, n3, n4, n5, n6⟩ := Z.each j t e
    exact ⟨x, y, ex, ey, k _ _ n5 ep, n1, n2, n3, n4, n5, n6⟩
end
end Nm
set_option autoImplicit true
set_option maxRecDepth 100000
set_option maxHeartbeats 4000000
/-! list(zip(xs, ys)) as an expression -/
namespace Nm
open PySem PySem.Spec PyProof.Rows L2
section
variable {P : Program} {w : World} {A : Around} {E : Value → Shared → Prop} {R : Result → Shared → Prop} {g : Heap} {z TI TO i1 i2 l1 l2 S : Addr} {xs ys : Array Value} {s : Shared}
/-! ### the objects that come of it -/
variable {X : Cx} {pins : List (Addr × Obj)} {σ : L2.St} {H H' : Hp} {h' : Heap}
end
end Nm
set_option autoImplicit true
set_option maxRecDepth 100000
set_option maxHeartbeats 4000000
/-! spots of ties, by the places of their ends -/
namespace Nm
open PySem L2
theorem pair_mm {x y : Str} (h : x ≠ y) : (minS x y = x ∧ maxS x y = y) ∨ (minS x y = y ∧ maxS x y = x) := by
  unfold minS maxS
  by_cases a : x.cps.toList < y.cps.toList
  · rw [if_pos a, if_neg (List.lt_asymm a)]
    exact .inl ⟨rfl, rfl⟩
  · by_cases b : y.cps.toList < x.cps.toList
    · rw [if_neg a, if_pos b]
      exact .inr ⟨rfl, rfl⟩
    · exfalso
      have := List.le_antisymm (List.not_lt.mp b) (List.not_lt.mp a)
      apply h
      cases x
      cases y
      simp_all
theorem mm_comm {x y : Str} (h : x ≠ y) : minS x y = minS y x ∧ maxS x y = maxS y x := by
  unfold minS maxS
  by_cases a : x.cps.toList < y.cps.toList
  · rw [if_pos a, if_neg (List.lt_asymm a), if_pos a, if_neg (List.lt_asymm a)]
    exact ⟨rfl, rfl⟩
  · by_cases b : y.cps.toList < x.cps.toList
    · rw [if_neg a, if_pos b, if_neg a, if_pos b]
      exact ⟨rfl, rfl⟩
    · exfalso
      have := List.le_antisymm (List.not_lt.mp b) (List.not_lt.mp a)
      apply h
      cases x
      cases y
      simp_all
end Nm
set_option autoImplicit true
set_option maxRecDepth 100000
set_option maxHeartbeats 4000000
namespace Nm
open PySem L2
theorem rowOf_uniq {nm : List Str} (nd : nm.Nodup) {t : TieV} {r r' : RowV} (h : RowOf nm t r) (h' : RowOf nm t r') : r = r' := by
  obtain ⟨a, b, ha, hb, e1, e2, e3, e4⟩ := h
  obtain ⟨a', b', ha', hb', f1, f2, f3, f4⟩ := h'
  have : a = a' := (List.getElem?_inj (List.getElem?_eq_some_iff.mp ha).1 nd).mp (ha.trans ha'.symm)
  have : b = b' := (List.getElem?_inj (List.getElem?_eq_some_iff.mp hb).1 nd).mp (hb.trans hb'.symm)
  cases r
  cases r'
  simp only at e1 e2 e3 e4 f1 f2 f3 f4
  subst e1 e2 e3 e4 f1 f2 f3 f4
  subst a' b'
  rfl
theorem rows_uniq {nm : List Str} (nd : nm.Nodup) : ∀ {tl : List TieV} {rw rw' : List RowV}, Paired (RowOf nm) tl rw → Paired (RowOf nm) tl rw' → rw = rw'
  | _, _, _, .nil, .nil => rfl
  | _, _, _, .cons h t, .cons h' t' => by rw [rowOf_uniq nd h h', rows_uniq nd t t']
structure TxtM (K : PySem.W.Frag) (mg : Str → Option Value) (C f : Addr) : Prop extends TxtW K mg C where
  mgC : mg "Web" = some (.ref C)
  mkC : Mk K C f
section
variable {P : Program} {w : World} {K : PySem.W.Frag} {mg : Str → Option Value} {base : Heap}
/-! ### _law_made -/
end
end Nm
set_option autoImplicit true
set_option maxRecDepth 100000
set_option maxHeartbeats 4000000
/-! own __len__; the fields of an exception that is being made; defs that let exceptions out; kept; BadNumber.__init__ -/
namespace Nm
open PySem PySem.Spec PyProof.Rows L2
section
variable {X : Cx}
/-- o.f, o an exception that is being made -/
def tExoF (K : PySem.W.Frag) (f : Str) (te : TE) : TE := fun σ H Q => te σ H fun x H1 => ∃ (a C dx : Addr) (fs : List (Str × V)) (v : V), x = .ref a ∧ XfC K C ∧ PySem.W.findIn K (.ref C) f = some none ∧ H1 a = some (exo a C (some dx)) ∧ H1 dx = some (exd dx fs) ∧ fs.lookup f = some v ∧ Q v H1
theorem pe_exoF {e : Expr} {te : TE} {f : Str} {pos : Pos} (he : PE X e te) (hb : attributeBase e f X.env (eval e X.env) = eval e X.env := by rfl) : PE X (.Attribute e f pos) (tExoF X.K f te) := by
  refine ⟨fun pins s σ H Q I h => ?_⟩
  refine attr_of hb (thn (he.run pins s σ H _ I h) fun u s1 hh => ?_)
  obtain ⟨x, H1, I1, rx, a, C, dx, fs, v, ex, T, hno, ha, hd, hl, q⟩ := hh
  subst ex
  obtain rfl : u = Value.ref a := rx
  obtain ⟨t1, ho⟩ := exo_at I1.hok ha
  obtain ⟨mA, hns, hr⟩ := exd_at I1.hok hd
  obtain ⟨od, hod, hlk⟩ := lookIn_ns hns
  obtain ⟨w', hw, rw'⟩ := RelO.some_of (v := v) (o := mA f) (by rw [← hl]; exact hr f)
  have J : PySem.W.InstAt s1.heap a _ C (some od) := ⟨ho, rfl, rfl, hod⟩
  exact HandSPX.exc_get I1.kIn J T.ga T.gg T.exC (PySem.W.findObj_own T.hdC hno rfl (by rw [hlk, hw])) (handed_of rw') ⟨v, H1, I1.tok _, rw', q⟩
/-- a body that is never reached -/
theorem pss_no {b : List Stmt} : PSs X b (fun _ _ _ => False) := ⟨fun _ _ _ _ _ _ h => h.elim⟩
end
section
variable {P : Program} {w : World} {K : PySem.W.Frag} {mg : Str → Option Value} {base : Heap}
/-- a def that may let exceptions out -/
theorem okX {x qual : Str} {st : Stmt} {f : Addr} {fd : FuncData} {N ps : List Str} {k : Nat} {sp : Sp} (F : Fun K x qual st f fd) (S : FnScope N ps (defScope st)) (len : ∀ vs H Q E, sp vs H Q E → vs.length = ps.length)
    (hbody : ∀ (cdv : Value) (A : Around) (outer : List Env) (s : Shared) (H : Hp) (vs : List V) (Q : VK) (E : XK), Room k (A.deeper (envOfC qual (defScope st) s.heap.objs.size f cdv)) → sp vs H Q E →
      ∃ t, PSs (cxOf (L2.CX P w) P w K mg base N qual (defScope st) f cdv A outer s H E) (defBody st) t ∧ t { nx := fun _ H' => Q .non H', rt := Q } (start N vs) H) : FnOk P w K mg base (L2.CX P w) (k + 1) f fd ps sp := by
  obtain ⟨oc, od, kV, doc, pm, an, cdv, ct, osl, rfl, lk, hcd⟩ := F.ex
  exact fn_of lk hcd S len fun A outer s H vs Q E hr hsp => hbody cdv A outer s H vs Q E hr hsp
/-! ### kept, of a number or a text -/
structure TxtKe (mg : Str → Option Value) : Prop where
  isinstance : mg "isinstance" = none
  list : mg "list" = none
  tuple : mg "tuple" = none
  dict : mg "dict" = none

abbrev nKe : List Str := ["value", "part", "key"]
theorem scKe : FnScope ["value"] ["value"] (defScope sKept) := ⟨rfl, rfl, rfl, by decide +kernel, rfl, by decide +kernel, by decide +kernel⟩
end
section
variable {P : Program} {w : World} {K : PySem.W.Frag} {mg : Str → Option Value} {base : Heap}
/-! ### BadNumber.__init__ -/
end
section
variable {P : Program} {w : World} {K : PySem.W.Frag} {mg : Str → Option Value} {base : Heap}
/-! ### is_number of anything -/
inductive NumX (H : Hp) : V → Prop where
  | int (i : Int) : NumX H (.int i)
  | bl (b : Bool) : NumX H (.bl b)
  | non : NumX H .non
  | str (z : Str) : NumX H (.str z)
  | lst {a : Addr} {ys : List V} (e : H a = some (.lst ys)) : NumX H (.ref a)
  | tup {a : Addr} {ys : List V} (e : H a = some (.tup ys)) : NumX H (.ref a)
theorem NumX.ext {H H' : Hp} {x : V} (h : NumX H x) (s : Same H H') : NumX H' x := by
  cases h with
  | int i => exact .int i
  | bl b => exact .bl b
  | non => exact .non
  | str z => exact .str z
  | lst e => exact .lst (s _ _ e)
  | tup e => exact .tup (s _ _ e)
end
section
variable {P : Program} {w : World} {K : PySem.W.Frag} {mg : Str → Option Value} {base : Heap}
end
section
variable {X : Cx}
end
end Nm
set_option autoImplicit true
set_option maxRecDepth 100000
set_option maxHeartbeats 4000000
/-! exceptions over LookupError: self.name = .., super().__init__(f"..") -/
namespace Nm
open PySem PySem.Spec PyProof.Rows L2
abbrev leTail : List Value := [.type "LookupError", .type "Exception", .type "BaseException", .type "object"]
def LE (l : List Value) : Prop := ∃ cs : List Addr, l = cs.map Value.ref ++ leTail
theorem LE.has {l : List Value} (h : LE l) (X : String) : l.contains (.type X) = leTail.contains (.type X) := by
  obtain ⟨cs, rfl⟩ := h
  induction cs with
  | nil => rfl
  | cons c cs ih =>
    rw [List.map_cons, List.cons_append, List.contains_cons, ih]
    rfl
theorem LE.cons {l : List Value} (h : LE l) (c : Addr) : LE (.ref c :: l) := by
  obtain ⟨cs, rfl⟩ := h
  exact ⟨c :: cs, rfl⟩
theorem LE.ne {l : List Value} (h : LE l) : l.isEmpty = false := by
  obtain ⟨cs, rfl⟩ := h
  cases cs <;> rfl
section
open Builtin Builtin.ObjectAttr PySem.HandSPX
variable {prog : Program} {w : World} {A : Around} {R : Result → Shared → Prop} {hp : Heap} {g : Array GenState} {d : Drawn} {t : Nat} {os : OsState}
end
section
variable {X : Cx} {pins : List (Addr × Obj)} {σ : L2.St} {H : Hp} {s : Shared} {a C dx : Addr} {f : Str} {y : V} {u : Value} {fs : List (Str × V)} {E : Value → Shared → Prop} {A : Around}
end
section
variable {X : Cx} {o e : Expr} {es : List Expr} {to te : TE} {ta : TA} {f : Str} {p p' p1 p2 pos : Pos}
end
end Nm
set_option autoImplicit true
set_option maxRecDepth 100000
set_option maxHeartbeats 4000000
/-! super().__init__(e) in the __init__ of an own exception over LookupError -/
namespace Nm
open PySem PySem.Spec PyProof.Rows L2
section
variable {X : Cx} {pins : List (Addr × Obj)} {σ : L2.St} {H : Hp} {s : Shared} {a C dx f cda cc L : Addr} {fd : FuncData} {qual a0 : Str} {st : Stmt}
end
section
variable {P : Program} {w : World} {K : PySem.W.Frag} {mg : Str → Option Value} {base : Heap} {A : Around} {outer : List Env} {s : Shared} {H : Hp} {E : XK} {C f cda cc : Addr} {fd : FuncData} {qual p0 p1 : Str} {st : Stmt}
end
end Nm
set_option autoImplicit true
set_option maxRecDepth 100000
set_option maxHeartbeats 4000000
/-! repr of lists, tuples and dicts, where no repr is under way -/
namespace Nm
open PySem PySem.Spec PyProof.Rows L2
mutual
/-- the value shows this datum -/
inductive Sh (H : Hp) : V → PyData → Prop
  | non : Sh H .non .none
  | bl (b : Bool) : Sh H (.bl b) (.bool b)
  | int (i : Int) : Sh H (.int i) (.int i)
  | str (z : Str) : Sh H (.str z) (.str z)
  | lst {a : Addr} {xs : List V} {ds : List PyData} (e : H a = some (.lst xs)) (h : ShAll H xs ds) : Sh H (.ref a) (.list ds)
  | tup {a : Addr} {xs : List V} {ds : List PyData} (e : H a = some (.tup xs)) (h : ShAll H xs ds) : Sh H (.ref a) (.tuple ds)
inductive ShAll (H : Hp) : List V → List PyData → Prop
  | nil : ShAll H [] []
  | cons {x : V} {d : PyData} {xs : List V} {ds : List PyData} (h : Sh H x d) (t : ShAll H xs ds) : ShAll H (x :: xs) (d :: ds)
end
section
variable {H H' : Hp}
mutual
theorem Sh.ext {x : V} {d : PyData} (s : ∀ b o, H b = some o → H' b = some o) : Sh H x d → Sh H' x d
  | .non => .non
  | .bl b => .bl b
  | .int i => .int i
  | .str z => .str z
  | .lst e h => .lst (s _ _ e) (ShAll.ext s h)
  | .tup e h => .tup (s _ _ e) (ShAll.ext s h)
theorem ShAll.ext {xs : List V} {ds : List PyData} (s : ∀ b o, H b = some o → H' b = some o) : ShAll H xs ds → ShAll H' xs ds
  | .nil => .nil
  | .cons h t => .cons (Sh.ext s h) (ShAll.ext s t)
end
end
section
variable {X : Cx} {pins : List (Addr × Obj)} {σ : L2.St} {H : Hp} {s : Shared}
mutual
theorem sh_reads (I : Inv X pins σ H s) {x : V} {d : PyData} {u : Value} (r : RelV x u) : Sh H x d → ∃ as, Reads s.heap u d as
  | .non => by
    cases (show u = Value.none from r)
    exact ⟨_, .none⟩
  | .bl b => by
    cases (show u = Value.bool b from r)
    exact ⟨_, .bool b⟩
  | .int i => by
    obtain ⟨t, rfl⟩ := (show ∃ t, u = Value.int i t from r)
    exact ⟨_, .int i t⟩
  | .str z => by
    obtain ⟨t, rfl⟩ := (show ∃ t, u = Value.str z t from r)
    exact ⟨_, .str z t⟩
  | .lst (a := a) e h => by
    cases (show u = Value.ref a from r)
    obtain ⟨its, rv, p, hz⟩ := I.list (SqL.of e)
    obtain ⟨o, n, ho, hc, hd, hdat⟩ := p
    obtain ⟨as, ra⟩ := sh_readsAll I (us := its) rv h
    exact ⟨_, .list ho hc hdat (by simpa using ra)⟩
  | .tup (a := a) e h => by
    cases (show u = Value.ref a from r)
    obtain ⟨its, rv, p, hz⟩ := I.tuple (SqT.of e)
    obtain ⟨o, ho, hc, n, hdat⟩ := p
    obtain ⟨as, ra⟩ := sh_readsAll I (us := its) rv h
    exact ⟨_, .tuple ho hc hdat (by simpa using ra)⟩
theorem sh_readsAll (I : Inv X pins σ H s) {xs : List V} {ds : List PyData} {us : List Value} (r : Vals xs us) : ShAll H xs ds → ∃ as, ReadsAll s.heap us ds as
  | .nil => by
    cases r
    exact ⟨_, .nil⟩
  | .cons h t => by
    cases r with
    | cons r1 r2 =>
      obtain ⟨as, ra⟩ := sh_reads I r1 h
      obtain ⟨bs, rb⟩ := sh_readsAll I r2 t
      exact ⟨_, .cons ra rb⟩
end
/-- repr(x) of a list or a tuple: the text that shows it -/
def rRepr : List V → Hp → VK → Prop := fun xs H Q => ∃ (a : Addr) (d : PyData), xs = [.ref a] ∧ Sh H (.ref a) d ∧ d.showable = true ∧ d.hasDict = false ∧ d.depth ≤ 50 ∧ d.shown.length ≤ sizeLine ∧ Q (.str d.shown) H
theorem call_repr (hg : X.A.guards = some []) (hu : X.A.units + 64 < cLine) : CallR X (.builtin "repr") rRepr := by
  intro pins s σ H xs us Q I r h
  obtain ⟨a, d, rfl, hs, h1, h2, h3, h4, q⟩ := h
  obtain ⟨u, rfl, ru⟩ := vals1 r
  obtain ⟨as, hr⟩ := sh_reads I ru hs
  obtain rfl : u = Value.ref a := ru
  exact repr_of_reads' hr h1 (fun z => by rw [h2] at z; cases z) hg (by omega) (fun _ _ e => e) (fun h' u tk k => ⟨.str d.shown, H, I.kept (t' := tk) k, ⟨u, rfl⟩, q⟩) h4
end
end Nm
set_option autoImplicit true
set_option maxRecDepth 100000
set_option maxHeartbeats 4000000
/-! repr of a list of texts where nothing is known of what is under way: some text -/
namespace Nm
open PySem PySem.Sem PySem.Spec PyProof.Rows L2
section
variable {prog : Program} {w : World} {A : Around} {E : Value → Shared → Prop} {s : Shared} {a : Addr} {oa : Obj} {x : Value} {l : List Value} {na : Nat} {ts : List Str}
/-- it either says what the list holds or that it is under way -/
theorem any_head {M : Model} {Q : PySem.Fin → Shared → Prop} {o : Obj} {n b : Nat} (ho : s.heap.get? a = some o) (hod : o.data = .seq (x :: l).toArray n)
    (told : wpAny M A (do again (.builtin "list.__repr__.loop" ⟨[.ref a, rawInt 0, ← newList [], rawInt b], []⟩)) Q E s) (dots : wpAny M A (do rule "list.__repr__.in-itself"; retStr "[...]") Q E s) :
    wpAny M A (Builtin.listReprAt b ⟨[.ref a], []⟩) Q E s := by
  intro Γ p hΓ
  have a1 := told Γ p hΓ
  have a2 := dots Γ p hΓ
  unfold Builtin.listReprAt
  simp [slotArgs, Builtin.List.listItems, seqItems?, wp_load_of (h := ho), hod, PySem.stack]
  show wp M Γ (if (Γ.below.any _) = true then _ else _) _ _ p s
  split
  · exact a2
  · exact a1
end
end Nm
set_option autoImplicit true
set_option maxRecDepth 100000
set_option maxHeartbeats 4000000
/-! {x!r} in an f-string where nothing is known of what is under way: some short text -/
namespace Nm
open PySem PySem.Spec PyProof.Rows L2
open PySem.Sem (wp)
/-- what a list of shown items may say of itself: its text, or three dots -/
def MaySay (ws : List Str) (z : Str) : Prop := z = listText ws ∨ z = "[...]"
/-- the items and what each shows -/
def ShowsAll (P : Program) (w : World) (us : List Value) (ws : List Str) : Prop := ws.length = us.toArray.size ∧ ∀ (j : Nat) (v : Value), us.toArray[j]? = some v → ∃ z, ws[j]? = some z ∧ ReprIs P w v z
theorem obj_any {P : Program} {w : World} {B : Around} {Er : Value → Shared → Prop} {s : Shared} {at_ : Addr} {ob : Obj} {u : Value} {us : List Value} {n : Nat} {ws : List Str} {Q : Value → Shared → Prop}
    (ty : s.TypeIs (.ref at_) "list") (room : B.units < cLine) (get : s.heap.get? at_ = some ob) (dat : ob.data = .seq (u :: us).toArray n) (sh : ShowsAll P w (u :: us) ws) (sz : (listText ws).length ≤ sizeLine)
    (k : ∀ hp tk0 tk z, MaySay ws z → (∀ b o, s.heap.get? b = some o → hp.get? b = some o) → Q (.str z tk0) { s with heap := hp, toks := tk }) :
    wpAny (model P w) B (pyReprObj (.ref at_)) Q Er s := by
  unfold pyReprObj
  refine wpAny_bind (wpAny_cRoomFor room (wpAny_bind (wpAny_specialOf (name := Str.ofString "__repr__") ty PySem.F.slot_list_repr.lookup ?_)))
  refine wpAny_bind (m := callSpecialIfBound? (.ref at_) (Str.ofString "__repr__")) (wpAny_callSpecialIfBound?_slot (name := Str.ofString "__repr__") ty PySem.F.slot_list_repr ?_)
  refine wpAny_call (codeAny_call_builtin PySem.F.slot_list_repr.plain PySem.F.entry_list_repr ?_)
  refine PySem.F.slot_list_repr.check _ _ _ _ _ _ _ _ ty (PySem.F.args_list_repr_1 _) ?_
  refine any_head (M := model P w) (A := B.in1) (b := 0) get dat ?_ ?_
  · refine wpAny_bind (m := newList []) (wpAny_newObj_type (wpAny_pure ⟨PySem.F.quiet_list_repr_loop _, ?_⟩))
    have far : at_ ≠ s.heap.objs.size := Nat.ne_of_lt (Heap.lt_size get)
    refine codeAny_list_repr_start far sh.1 sh.2 (Heap.get?_push_of_some _ get) dat (Heap.get?_push_size _ rfl) (fun hp tk0 tk kp => ?_) (by omega)
    exact wpAny_bind (wpAny_isInstance (T := "str") (b := true) rfl isSubtype_str_str (wpAny_pure (k hp tk0 tk _ (.inl rfl) fun b o e => kp b o (Nat.ne_of_lt (Heap.lt_size e)) (Heap.get?_push_of_some _ e))))
  · refine wpAny_bind (wpAny_rule (wpAny_bind (m := mkStr _) (wpAny_mkStr ?_)))
    exact wpAny_pure (wpAny_bind (wpAny_isInstance (T := "str") (b := true) rfl isSubtype_str_str (wpAny_pure (k s.heap _ _ _ (.inr rfl) fun _ _ e => e))))
/-- what may be told as a name that is not there -/
inductive Told (H : Hp) : V → Prop
  | str {z : Str} (h : (reprText z).length ≤ 1000) : Told H (.str z)
  | int {i : Int} (h : i.natAbs.log2 < 200) : Told H (.int i)
  | non : Told H .non
  | one {a : Addr} (h : H a = some (.lst [.str "a"])) : Told H (.ref a)
section
variable {X : Cx}
end
end Nm
set_option autoImplicit true
set_option maxRecDepth 100000
set_option maxHeartbeats 8000000
/-! copies of a web: mathematics -/
namespace Nm
open PySem L2
def pN (k : Nat) : Str := ("p" : Str) ++ ((toString (k : Int) : String) : Str)
/-- the colour of each copy -/
def clT (m : Nat) (cl : List Str) (c : Nat) : List Str := (List.range c).map fun k => (cl[k / m]?).getD ""
theorem dm {m i j : Nat} (h : j < m) : (i * m + j) / m = i ∧ (i * m + j) % m = j := by
  refine ⟨?_, ?_⟩
  · rw [Nat.mul_comm, Nat.mul_add_div (by omega), Nat.div_eq_of_lt h, Nat.add_zero]
  · rw [Nat.mul_comm, Nat.mul_add_mod, Nat.mod_eq_of_lt h]
/-! ### the ties of the copies -/
/-- rows that may stand in a web of n places -/
structure RowsFit (n : Nat) (rs : List RowV) : Prop where
  lt : ∀ r ∈ rs, r.i < r.j ∧ r.j < n
  kw : ∀ r ∈ rs, isWordB r.kd = true
  w1 : ∀ r ∈ rs, 1 ≤ r.w
  nd : (rs.map fun r => (r.i, r.j, r.kd)).Nodup
end Nm
set_option autoImplicit true
set_option maxRecDepth 100000
set_option maxHeartbeats 8000000
/-! the ties of the copies may stand -/
namespace Nm
open PySem L2
section
variable {N m k : Nat} {rs : List RowV} {ts : List Int}
end
end Nm
set_option autoImplicit true
set_option maxRecDepth 100000
set_option maxHeartbeats 4000000
/-! {k: v for .. in .. for .. in ..}, no tests: the machine's turns -/
namespace Nm
open PySem PySem.Spec PyProof.Rows L2
section
variable {kx vx t0 i0 t1 i1 : Expr} {scope : Scope} {pos : Pos} {it acc : Value} {D : Addr} {env : Env}
variable {prog : Program} {w : World} {A : Around} {R : Result → Shared → Prop} {s : Shared}
end
end Nm
set_option autoImplicit true
set_option maxRecDepth 100000
set_option maxHeartbeats 8000000
/-! {k: v for .. in .. for .. in ..}, no tests: the rule -/
namespace Nm
open PySem PySem.Spec PyProof.Rows L2
/-- what holds in any block of this comprehension -/
abbrev AllB (X : Cx) (scope : Scope) (q : Cx → Prop) : Prop := ∀ (s : Shared) (H : Hp) (C : Addr) (cl : List (Str × Addr)) (fp : List Addr), q (X.blk s H scope (compEnvC scope cl C X.env) fp)
section
variable {X : Cx}
end
end Nm
set_option autoImplicit true
/-! x -> 5 x + 1 goes the whole round of every power of two -/
namespace Nm
open L2
def seq5 : Nat → Nat
  | 0 => 0
  | n + 1 => 5 * seq5 n + 1
theorem seq5_pow : ∀ n, 4 * seq5 n + 1 = 5 ^ n
  | 0 => rfl
  | n + 1 => by
    have h := seq5_pow n
    rw [Nat.pow_succ, ← h]
    show 4 * (5 * seq5 n + 1) + 1 = _
    omega
theorem seq5_add (a : Nat) : ∀ b, seq5 (a + b) = 5 ^ b * seq5 a + seq5 b
  | 0 => by
    show seq5 a = 1 * seq5 a + 0
    omega
  | b + 1 => by
    show 5 * seq5 (a + b) + 1 = 5 ^ (b + 1) * seq5 a + (5 * seq5 b + 1)
    rw [seq5_add a b, Nat.pow_succ, Nat.mul_add, Nat.mul_comm (5 ^ b) 5, Nat.mul_assoc]
    omega
/-- at 2^k it is 2^k times an odd number -/
theorem seq5_two : ∀ k, ∃ c, seq5 (2 ^ k) = 2 ^ k * (2 * c + 1)
  | 0 => ⟨0, rfl⟩
  | k + 1 => by
    obtain ⟨c, h⟩ := seq5_two k
    have e : 2 ^ (k + 1) = 2 ^ k + 2 ^ k := by rw [Nat.pow_succ]; omega
    refine ⟨2 * seq5 (2 ^ k) * c + seq5 (2 ^ k) + c, ?_⟩
    have h2 : seq5 (2 ^ (k + 1)) = (5 ^ (2 ^ k) + 1) * seq5 (2 ^ k) := by
      rw [e, seq5_add, Nat.add_mul, Nat.one_mul]
    rw [h2, ← seq5_pow]
    have h3 : (4 * seq5 (2 ^ k) + 1 + 1) * seq5 (2 ^ k) = 2 * ((2 * seq5 (2 ^ k) + 1) * (2 ^ k * (2 * c + 1))) := by
      conv => lhs; rhs; rw [h]
      have : 4 * seq5 (2 ^ k) + 1 + 1 = 2 * (2 * seq5 (2 ^ k) + 1) := by omega
      rw [this, Nat.mul_assoc]
    rw [h3, Nat.pow_succ, Nat.mul_left_comm (2 * seq5 (2 ^ k) + 1), Nat.mul_comm (2 ^ k) 2, Nat.mul_assoc]
    congr 1
    congr 1
    generalize seq5 (2 ^ k) = z
    rw [Nat.mul_add, Nat.add_mul, Nat.mul_one, Nat.one_mul, Nat.mul_add, Nat.mul_add]
    have : 2 * z * (2 * c) = 2 * (2 * z * c) := by rw [Nat.mul_left_comm]
    omega
theorem seq5_odd (b : Nat) : ∃ d, 5 ^ b = 2 * d + 1 := ⟨2 * seq5 b, by rw [← seq5_pow]; omega⟩
theorem odd_mul (d c : Nat) : (2 * d + 1) * (2 * c + 1) = 2 * (2 * d * c + d + c) + 1 := by
  rw [Nat.add_mul, Nat.mul_add, Nat.mul_one, Nat.one_mul, Nat.mul_add, Nat.mul_add]
  have : 2 * d * (2 * c) = 2 * (2 * d * c) := by rw [Nat.mul_left_comm]
  omega
/-- every number below 2^k is met within the round -/
theorem seq5_all : ∀ k j, j < 2 ^ k → ∃ b, b < 2 ^ k ∧ seq5 b % 2 ^ k = j
  | 0, j, h => ⟨0, Nat.one_pos, by
    have : j = 0 := by
      have : (2 : Nat) ^ 0 = 1 := rfl
      omega
    rw [this]
    rfl⟩
  | k + 1, j, h => by
    have e : 2 ^ (k + 1) = 2 * 2 ^ k := by rw [Nat.pow_succ, Nat.mul_comm]
    have hp : 0 < 2 ^ k := Nat.pow_pos (by decide)
    obtain ⟨b, hb, hbj⟩ := seq5_all k (j % 2 ^ k) (Nat.mod_lt _ hp)
    rw [e] at h ⊢
    by_cases c : seq5 b % (2 * 2 ^ k) = j
    · exact ⟨b, by omega, c⟩
    · refine ⟨2 ^ k + b, by omega, ?_⟩
      obtain ⟨c1, h1⟩ := seq5_two k
      obtain ⟨d, h2⟩ := seq5_odd b
      rw [seq5_add, h1, h2, Nat.mul_left_comm, odd_mul]
      generalize 2 * d * c1 + d + c1 = q
      generalize 2 ^ k = D at *
      have h3 : D * (2 * q + 1) + seq5 b = (D + seq5 b) + 2 * D * q := by
        rw [Nat.mul_add, Nat.mul_one, Nat.mul_assoc, Nat.mul_left_comm]
        omega
      rw [h3, Nat.add_mul_mod_self_left]
      have h4 : seq5 b % (2 * D) % D = j % D := by rw [Nat.mod_mul_left_mod]; exact hbj
      have h5 : seq5 b % (2 * D) < 2 * D := Nat.mod_lt _ (by omega)
      have h6 : (D + seq5 b) % (2 * D) = (D + seq5 b % (2 * D)) % (2 * D) := by rw [Nat.add_mod_mod]
      rw [h6]
      generalize seq5 b % (2 * D) = r at *
      have split : ∀ x, x < 2 * D → x % D = if x < D then x else x - D := fun x hx => by
        split
        · exact Nat.mod_eq_of_lt (by assumption)
        · rw [Nat.mod_eq_sub_mod (by omega)]
          exact Nat.mod_eq_of_lt (by omega)
      rw [split r h5, split j h] at h4
      by_cases r1 : r < D
      · rw [if_pos r1] at h4
        split at h4
        · exact absurd h4 c
        · rw [Nat.mod_eq_of_lt (by omega)]
          omega
      · rw [if_neg r1] at h4
        split at h4
        · rw [Nat.mod_eq_sub_mod (by omega), Nat.mod_eq_of_lt (by omega)]
          omega
        · omega
theorem lcg_seq (m : Nat) : ∀ b, lcgN m b = seq5 b % (m + 1)
  | 0 => by
    show 0 = 0 % (m + 1)
    rw [Nat.zero_mod]
  | b + 1 => by
    show (lcgN m b * 5 + 1) % (m + 1) = (5 * seq5 b + 1) % (m + 1)
    rw [lcg_seq m b, Nat.mul_comm 5, Nat.add_mod, Nat.mod_mul_mod, ← Nat.add_mod]
/-- a mask: one less than a power of two -/
def Pow2 (m : Nat) : Prop := ∃ k, m + 1 = 2 ^ k
theorem lcg_full {m j : Nat} (hm : Pow2 m) (hj : j ≤ m) : ∃ b, b ≤ m ∧ lcgN m b = j := by
  obtain ⟨k, hk⟩ := hm
  obtain ⟨b, h1, h2⟩ := seq5_all k j (by omega)
  exact ⟨b, by omega, by rw [lcg_seq, hk]; exact h2⟩
theorem lcg_back {m : Nat} (hm : Pow2 m) : lcgN m (m + 1) = 0 := by
  obtain ⟨k, hk⟩ := hm
  obtain ⟨c, h⟩ := seq5_two k
  rw [lcg_seq, hk, h]
  exact Nat.mul_mod_right _ _
end Nm
set_option autoImplicit true
/-! the way of a search through a table of any size -/
namespace Nm
open PySem L2
theorem lcg_turn {m : Nat} (pw : Pow2 m) (n : Nat) : lcgN m (m + 1 + n) = lcgN m n := by
  have z := lcg_back pw
  rw [lcg_seq] at z
  rw [lcg_seq, lcg_seq, seq5_add, Nat.add_mod, Nat.mul_mod, z, Nat.mul_zero, Nat.zero_mod, Nat.zero_add, Nat.mod_mod]
/-- from every slot to every slot -/
theorem lcg_from {m a b : Nat} (pw : Pow2 m) (ha : a ≤ m) (hb : b ≤ m) : ∃ n, n ≤ m ∧ lcgI m a n = b := by
  obtain ⟨u, hu, rfl⟩ := lcg_full pw ha
  obtain ⟨v, hv, rfl⟩ := lcg_full pw hb
  by_cases c : u ≤ v
  · refine ⟨v - u, by omega, ?_⟩
    rw [lcgN_add, show u + (v - u) = v by omega]
  · refine ⟨m + 1 + v - u, by omega, ?_⟩
    rw [lcgN_add, show u + (m + 1 + v - u) = m + 1 + v by omega, lcg_turn pw]
theorem way_meets {m j : Nat} (pw : Pow2 m) (h : Int) (hj : j ≤ m) : ∃ n, n < 10 * SetTable.turns m ∧ way m h n = j := by
  obtain ⟨r, hr, er⟩ := lcg_from pw (runI_le m (SetTable.bits h) 12) hj
  obtain ⟨n, hn, en⟩ := run_nth m (SetTable.bits h) (12 + r)
  refine ⟨n, ?_, ?_⟩
  · unfold SetTable.turns
    omega
  · show (nth m _ n).j = j
    rw [en, ← er, ← runI_tail (bits_lt h)]
    rfl
theorem way_in (m : Nat) (h : Int) (n : Nat) : way m h n ≤ m := by
  have b0 : SetTable.bits h % (m + 1) < m + 1 := Nat.mod_lt _ (Nat.succ_pos _)
  obtain ⟨r1, r2, _⟩ := runEnd_bd (Nat.le_of_lt_succ b0)
  have := nth_in (m := m) n (runAt m (SetTable.bits h % (m + 1)) (SetTable.bits h)) (by unfold runAt; simp only; omega)
  exact Nat.le_trans (Nat.le_add_right _ _) this
/-- a table in which each hash leads to its slot, its mask any -/
structure Tab (t : SetTable) (hs : List Int) : Prop where
  up : Ris t.place.toList
  clean : t.dummies = #[]
  many : t.place.size = hs.length
  pow : Pow2 t.mask
  low : ∀ j ∈ t.place.toList, j ≤ t.mask
  led : ∀ (i : Nat) (h : Int) (j : Nat), hs[i]? = some h → t.place.toList[i]? = some j → ∃ n, way t.mask h n = j ∧ ∀ n' < n, way t.mask h n' ∈ t.place.toList
/-- where the search for a hash ends: the first free slot of its way -/
theorem Tab.free {t : SetTable} {hs : List Int} (T : Tab t hs) (room : hs.length ≤ t.mask) (h : Int) : ∃ N, N < 10 * SetTable.turns t.mask ∧ way t.mask h N ∉ t.place.toList ∧ ∀ n < N, way t.mask h n ∈ t.place.toList := by
  obtain ⟨j, lt, out⟩ := st_missing t.place.toList (t.mask + 1) (by rw [Array.length_toList, T.many]; omega)
  obtain ⟨n, hn, e⟩ := way_meets T.pow h (Nat.le_of_lt_succ lt)
  obtain ⟨N, a, b, c⟩ := st_least (p := fun n => way t.mask h n ∉ t.place.toList) n (e ▸ out)
  exact ⟨N, by omega, b, fun n' hn' => Classical.not_not.mp (c n' hn')⟩
/-- a hash that stands in the table is met ahead of it -/
theorem Tab.ahead {t : SetTable} {hs : List Int} (T : Tab t hs) {h : Int} {N i j : Nat} (out : way t.mask h N ∉ t.place.toList) (hi : hs[i]? = some h) (hj : t.place.toList[i]? = some j) : ∃ n < N, way t.mask h n = j := by
  obtain ⟨n, e, before⟩ := T.led i h j hi hj
  refine ⟨n, Nat.lt_of_not_le fun le => ?_, e⟩
  rcases Nat.lt_or_eq_of_le le with lt | eq
  · exact out (before N lt)
  · subst eq
    exact out (e ▸ List.mem_of_getElem? hj)
/-- one more put at the first free slot of its way -/
theorem Tab.more {t : SetTable} {hs : List Int} (T : Tab t hs) {h : Int} {N : Nat} (out : way t.mask h N ∉ t.place.toList) (bef : ∀ n < N, way t.mask h n ∈ t.place.toList) :
    SetTable.below t.place (way t.mask h N) ≤ hs.length ∧ Tab (t.put (way t.mask h N)).1 (hs.take (SetTable.below t.place (way t.mask h N)) ++ h :: hs.drop (SetTable.below t.place (way t.mask h N))) ∧ (t.put (way t.mask h N)).1.fill = hs.length + 1 := by
  generalize hw : way t.mask h N = j at *
  have hjm : j ≤ t.mask := hw ▸ way_in t.mask h N
  obtain ⟨cut, _, _⟩ := below_cut T.up j
  have in1 : SetTable.below t.place j ≤ hs.length := T.many ▸ cut
  have in2 : SetTable.below t.place j ≤ t.place.toList.length := by rw [Array.length_toList]; exact cut
  have fresh : t.place[SetTable.below t.place j]? ≠ some j := fun e => out (List.mem_of_getElem? (i := SetTable.below t.place j) (by rw [Array.getElem?_toList]; exact e))
  have pp := put_place t j
  have keep : ∀ {x : Nat}, x ∈ t.place.toList → x ∈ (t.put j).1.place.toList := fun hx => pp ▸ mem_ins.2 (.inr hx)
  have sz : (t.put j).1.place.size = hs.length + 1 := by
    rw [← Array.length_toList, pp, len_ins _ in2, Array.length_toList, T.many]
  refine ⟨in1, ⟨ris_insert T.up fresh, put_dm T.clean j, by rw [len_ins _ in1, sz], T.pow, fun x hx => ?_, fun i h' j' a b => ?_⟩, ?_⟩
  · rw [pp] at hx
    rcases mem_ins.1 hx with rfl | z
    · exact hjm
    · exact T.low x z
  · rw [tins_get hs in1] at a
    rw [pp, tins_get _ in2] at b
    have old : ∀ i', hs[i']? = some h' → t.place.toList[i']? = some j' → ∃ n, way t.mask h' n = j' ∧ ∀ n' < n, way t.mask h' n' ∈ (t.put j).1.place.toList := fun i' u v => by
      obtain ⟨n, e, z⟩ := T.led i' h' j' u v
      exact ⟨n, e, fun n' lt => keep (z n' lt)⟩
    rcases Nat.lt_trichotomy i (SetTable.below t.place j) with c | c | c
    · rw [if_pos c] at a b
      exact old i a b
    · rw [if_neg (by omega), if_pos c] at a b
      cases a
      cases b
      exact ⟨N, hw, fun n' lt => keep (bef n' lt)⟩
    · rw [if_neg (by omega), if_neg (by omega)] at a b
      exact old (i - 1) a b
  · show (t.put j).1.place.size + (t.put j).1.dummies.size = _
    rw [sz, put_dm T.clean j]
    rfl
end Nm
set_option autoImplicit true
/-! laying a table anew, its mask any -/
namespace Nm
open PySem L2
/-- the first free slot on the way of a hash is the one that the laying takes -/
theorem lay_free {m : Nat} (pw : Pow2 m) (ow : Array (Option Nat)) (h : Int) {j : Nat} (hj : j ≤ m) (fr : oAt ow j = none) :
    ∃ N, SetTable.layClean.free m ow (SetTable.turns m) (SetTable.bits h % (m + 1)) (SetTable.bits h) = some (way m h N) ∧ oAt ow (way m h N) = none ∧ ∀ n < N, oAt ow (way m h n) ≠ none := by
  obtain ⟨r, hr, er⟩ := lcg_from pw (runI_le m (SetTable.bits h) 12) hj
  have at_ : way m h (off m (SetTable.bits h % (m + 1)) (SetTable.bits h) (12 + r)) = j := by
    show (nth m _ _).j = j
    rw [nth_off, itL_run, ← er, ← runI_tail (bits_lt h)]
    rfl
  obtain ⟨N, le, emp, occ⟩ := st_least (p := fun n => oAt ow (way m h n) = none) _ (show oAt ow (way m h (off m (SetTable.bits h % (m + 1)) (SetTable.bits h) (12 + r))) = none by rw [at_]; exact fr)
  refine ⟨N, free_spec m ow _ (12 + r) _ _ N ?_ le (fun n lt => ?_) ?_, emp, occ⟩
  · unfold SetTable.turns
    omega
  · cases z : oAt ow (way m h n) with
    | none => exact absurd z (occ n lt)
    | some _ => rfl
  · exact congrArg Option.isNone emp
/-- one hash more -/
theorem own_more {m : Nat} (pw : Pow2 m) {hs : List Int} {ow : Array (Option Nat)} (O : Own m hs ow) (room : hs.length ≤ m) (h : Int) :
    ∃ j, SetTable.layClean.free m ow (SetTable.turns m) (SetTable.bits h % (m + 1)) (SetTable.bits h) = some j ∧ Own m (hs ++ [h]) (ow.setIfInBounds j (some hs.length)) := by
  obtain ⟨ps, pl, pin⟩ := O.ps
  obtain ⟨f, flt, fout⟩ := st_missing ps (m + 1) (by omega)
  have ffree : oAt ow f = none := Classical.byContradiction fun z => fout (pin f (by omega) z)
  obtain ⟨N, got, emp, occ⟩ := lay_free pw ow h (Nat.le_of_lt_succ flt) ffree
  generalize hw : way m h N = j at *
  have jm : j ≤ m := hw ▸ way_in m h N
  have new : oAt (ow.setIfInBounds j (some hs.length)) j = some hs.length := oAt_set_self _ (by rw [O.sz]; omega)
  have still : ∀ i, oAt ow i ≠ none → oAt (ow.setIfInBounds j (some hs.length)) i ≠ none := fun i hi => by
    by_cases c : i = j
    · subst c
      rw [new]
      exact Option.some_ne_none _
    · rw [oAt_set_ne _ c]
      exact hi
  refine ⟨j, got, ⟨by rw [Array.size_setIfInBounds, O.sz], fun i k hi e => ?_, fun k hk => ?_, j :: ps, by simp [pl], fun i hi e => ?_⟩⟩
  · by_cases c : i = j
    · subst c
      rw [new] at e
      cases e
      exact ⟨h, N, by simp, hw, fun n lt => still _ (occ n lt)⟩
    · rw [oAt_set_ne _ c] at e
      obtain ⟨h', n', a, b, d⟩ := O.at_ i k hi e
      refine ⟨h', n', ?_, b, fun n lt => still _ (d n lt)⟩
      rw [List.getElem?_append_left (List.getElem?_eq_some_iff.mp a).1, a]
  · rw [List.length_append, List.length_singleton] at hk
    rcases Nat.lt_or_eq_of_le (Nat.le_of_lt_succ hk) with lt | rfl
    · obtain ⟨i, hi, e⟩ := O.all k lt
      refine ⟨i, hi, ?_⟩
      rw [oAt_set_ne _ (fun z => by subst z; rw [emp] at e; cases e), e]
    · exact ⟨j, jm, new⟩
  · by_cases c : i = j
    · exact c ▸ List.mem_cons_self
    · rw [oAt_set_ne _ c] at e
      exact List.mem_cons_of_mem _ (pin i hi e)
theorem own_all {m : Nat} (pw : Pow2 m) : ∀ (todo hs : List Int) (ow : Array (Option Nat)), Own m hs ow → hs.length + todo.length ≤ m →
    ∃ ow', todo.foldl (stepF m) (some (ow, hs.length)) = some (ow', hs.length + todo.length) ∧ Own m (hs ++ todo) ow'
  | [], hs, ow, O, _ => ⟨ow, rfl, by rw [List.append_nil]; exact O⟩
  | h :: todo, hs, ow, O, room => by
    rw [List.length_cons] at room
    obtain ⟨j, got, O'⟩ := own_more pw O (by omega) h
    obtain ⟨ow', a, b⟩ := own_all pw todo (hs ++ [h]) _ O' (by rw [List.length_append, List.length_singleton]; omega)
    rw [List.length_append, List.length_singleton] at a
    refine ⟨ow', ?_, by rw [List.append_assoc] at b; exact b⟩
    rw [List.foldl_cons, stepF_some got, a, List.length_cons]
    congr 2
    omega
/-- the table laid anew: the entries in another order, each hash led to its slot -/
theorem lay_new (t : SetTable) {hs : Array Int} {want M : Nat} (hM : SetTable.sizeAbove want - 1 = M) (pw : Pow2 M) (room : hs.size ≤ M) :
    ∃ t' ord, t.relaid hs want = some (t', ord) ∧ ord.toList.Perm (List.range hs.size) ∧ Tab t' (ord.toList.map fun i => hs.getD i 0) ∧ t'.mask = M ∧ t'.led = t.led ∧ t'.plain = t.plain := by
  obtain ⟨ow, a, O⟩ := own_all pw hs.toList [] _ (Own.init M) (by rw [Array.length_toList]; show 0 + hs.size ≤ M; omega)
  rw [List.nil_append] at O
  have lay : SetTable.layClean M hs = some ow := by
    rw [layClean_eq]
    exact congrArg (Option.map Prod.fst) a
  have at_ : ∀ {j k : Nat}, (j, k) ∈ liveOf M ow ↔ j ≤ M ∧ oAt ow j = some k := mem_live O.sz
  obtain ⟨up, low⟩ := ris_live (fun j => ow.getD j none) (List.range (M + 1)) (show Ris (List.range (M + 1)) from List.pairwise_lt_range)
  change Ris ((liveOf M ow).map (·.1)) at up
  have all : ∀ k < hs.size, k ∈ (liveOf M ow).map (·.2) := fun k lt => by
    obtain ⟨j, u, v⟩ := O.all k (by rw [Array.length_toList]; exact lt)
    exact List.mem_map.mpr ⟨(j, k), at_.2 ⟨u, v⟩, rfl⟩
  have count : (liveOf M ow).length = hs.size := by
    obtain ⟨ps, pl, pin⟩ := O.ps
    have le : ((liveOf M ow).map (·.1)).length ≤ ps.length := nat_nodup_len _ ps (up.imp fun lt => Nat.ne_of_lt lt) fun x hx => by
      obtain ⟨⟨y, k⟩, hq, rfl⟩ := List.mem_map.mp hx
      obtain ⟨u, v⟩ := at_.1 hq
      exact pin y u (by rw [v]; exact Option.some_ne_none _)
    have ge := nat_nodup_len (List.range hs.size) ((liveOf M ow).map (·.2)) List.nodup_range fun k hk => all k (List.mem_range.mp hk)
    rw [List.length_map, pl] at le
    have hz : hs.toList.length = hs.size := rfl
    rw [List.length_map, List.length_range] at ge
    omega
  refine ⟨tabOf t M ow, ((liveOf M ow).map (·.2)).toArray, by rw [relaid_eq, hM, lay]; rfl, perm_range _ _ (by rw [List.toList_toArray, List.length_map, count]) (fun k lt => by rw [List.toList_toArray]; exact all k lt), ?_, rfl, rfl, rfl⟩
  refine ⟨up, rfl, ?_, pw, fun x hx => ?_, fun i h j u v => ?_⟩
  · show ((liveOf M ow).map (·.1)).toArray.size = _
    simp
  · obtain ⟨⟨y, k⟩, hq, rfl⟩ := List.mem_map.mp (show x ∈ (liveOf M ow).map (·.1) from hx)
    exact (at_.1 hq).1
  · change ((liveOf M ow).map (·.1))[i]? = some j at v
    rw [List.toList_toArray, List.map_map, List.getElem?_map] at u
    rw [List.getElem?_map] at v
    obtain ⟨⟨y, k⟩, hq, rfl⟩ := Option.map_eq_some_iff.mp v
    rw [hq] at u
    have eh : hs.getD k 0 = h := Option.some.inj u
    obtain ⟨b1, b2⟩ := at_.1 (List.mem_of_getElem? hq)
    obtain ⟨h0, N, c1, c2, c3⟩ := O.at_ y k b1 b2
    have e0 : hs.getD k 0 = h0 := by
      rw [Array.getElem?_toList] at c1
      rw [Array.getD_eq_getD_getElem?, c1]
      rfl
    rw [e0] at eh
    subst eh
    refine ⟨N, c2, fun n lt => ?_⟩
    cases z : oAt ow (way M h0 n) with
    | none => exact absurd z (c3 n lt)
    | some k2 => exact List.mem_map.mpr ⟨(way M h0 n, k2), at_.2 ⟨way_in M h0 n, z⟩, rfl⟩
end Nm
set_option autoImplicit true
set_option maxRecDepth 100000
set_option maxHeartbeats 4000000
/-! sets of tuples of keys (ints, texts): what is asked of the tuples, and the search -/
namespace Nm
open PySem PySem.Spec PyProof.Rows L2
abbrev kh (P : Program) (w : World) (k : List Key) : Int := tupleKeyHash (mixKind P w) k
abbrev IsK (P : Program) (w : World) (h : Heap) (k : List Key) (a : Addr) : Prop := IsTupleKey (mixKind P w) h k a
section
variable {P : Program} {w : World} {A : Around} {E : Value → Shared → Prop} {s : Shared}
theorem told_items {k : List Key} {us : List Value} (T : PySem.ItemsAre (mixKind P w) k us) : ∀ u ∈ us, ∃ y : Key, keyIs y u = true := by
  induction T with
  | nil => exact fun u m => (List.not_mem_nil m).elim
  | @cons y u ks us e _ ih =>
    intro z m
    rcases List.mem_cons.mp m with rfl | m
    · exact ⟨y, e⟩
    · exact ih z m
theorem no_class {y : Key} {u : Value} (n : Nat) (e : keyIs y u = true) : ofAClassStatement n u = pure false := by
  rcases keyIs_shape e with ⟨i, t, rfl, rfl⟩ | ⟨x, t, rfl, rfl⟩ <;> cases n <;> rfl
theorem some_hash {y : Key} {u : Value} (n : Nat) (e : keyIs y u = true) : ∃ b, hashByValue n u = pure b := by
  rcases keyIs_shape e with ⟨i, t, rfl, rfl⟩ | ⟨x, t, rfl, rfl⟩
  · exact ⟨true, by cases n <;> rfl⟩
  · exact ⟨false, by cases n <;> rfl⟩
theorem class_of {k : List Key} {b : Addr} {Q : Bool → Shared → Prop} (T : IsK P w s.heap k b) (q : Q false s) : wpAny (model P w) A (ofAClassStatement 8 (.ref b)) Q E s := by
  have ty := T.typeIs
  obtain ⟨ob, its, cnt, hob, _, dat, itk⟩ := T
  unfold ofAClassStatement
  refine wpAny_bind (wpAny_typeOf ty ?_)
  dsimp only
  have yes : (("tuple" : String) == "tuple") = true := by decide
  simp only [yes, if_true, Bool.not_true, Bool.false_eq_true, if_false]
  try refine wpAny_bind (wpAny_pure ?_)
  try simp only [Bool.not_true, Bool.false_eq_true, if_false]
  show wpAny _ _ (seqItems? (.ref b) >>= _) _ _ s
  refine wpAny_bind (wpAny_seqItems hob dat ?_)
  dsimp only
  refine wpAny_bind ?_
  show wpAny _ _ (forIn its _ _) _ _ s
  rw [← Array.forIn_toList]
  refine wpAny_forIn_list _ (fun left acc st => acc.1 = none ∧ st = s ∧ ∀ u ∈ left, ∃ y : Key, keyIs y u = true) _ ?_ ?_ _ _ ⟨rfl, rfl, told_items itk⟩
  · rintro u left acc st ⟨na, rfl, every⟩
    obtain ⟨y, e⟩ := every u List.mem_cons_self
    rw [no_class _ e]
    refine wpAny_bind (wpAny_pure ?_)
    simp only [Bool.false_eq_true, if_false]
    exact wpAny_pure ⟨rfl, rfl, fun z m => every z (List.mem_cons_of_mem _ m)⟩
  · rintro ⟨c1, c2⟩ st ⟨na, rfl, _⟩
    simp only at na
    subst na
    exact wpAny_pure q
theorem hash_of {k : List Key} {b : Addr} {Q : Bool → Shared → Prop} (T : IsK P w s.heap k b) (q : ∀ r, Q r s) : wpAny (model P w) A (hashByValue 8 (.ref b)) Q E s := by
  have ty := T.typeIs
  obtain ⟨ob, its, cnt, hob, _, dat, itk⟩ := T
  unfold hashByValue
  refine wpAny_bind (wpAny_specialOf ty F.slot_tuple_hash.lookup ?_)
  show wpAny _ _ (seqItems? (.ref b) >>= _) _ _ s
  refine wpAny_bind (wpAny_seqItems hob dat ?_)
  refine wpAny_bind ?_
  show wpAny _ _ (forIn its _ _) _ _ s
  rw [← Array.forIn_toList]
  refine wpAny_forIn_list _ (fun left acc st => acc.1 = none ∧ st = s ∧ ∀ u ∈ left, ∃ y : Key, keyIs y u = true) _ ?_ ?_ _ _ ⟨rfl, rfl, told_items itk⟩
  · rintro u left acc st ⟨na, rfl, every⟩
    obtain ⟨y, e⟩ := every u List.mem_cons_self
    obtain ⟨r, er⟩ := some_hash 7 e
    rw [er]
    refine wpAny_bind (wpAny_pure ?_)
    cases r with
    | true =>
      simp only [Bool.not_true, Bool.false_eq_true, if_false]
      exact wpAny_pure ⟨rfl, rfl, fun z m => every z (List.mem_cons_of_mem _ m)⟩
    | false =>
      simp only [Bool.not_false, if_true]
      exact wpAny_pure (wpAny_pure (q false))
  · rintro ⟨c1, c2⟩ st ⟨na, rfl, _⟩
    simp only at na
    subst na
    exact wpAny_pure (q true)
/-- a search among such tuples cannot be seen -/
theorem seen_of {k : List Key} {b : Addr} {Q : Bool → Shared → Prop} (T : IsK P w s.heap k b) {us : List Value} (hu : ∀ u ∈ us, ∃ j c, u = Value.ref c ∧ IsK P w s.heap j c) (q : Q false s) :
    wpAny (model P w) A (searchCouldBeSeen (.ref b) us) Q E s := by
  unfold searchCouldBeSeen
  refine wpAny_bind ?_
  refine wpAny_forIn_list _ (fun left acc st => acc.1 = none ∧ st = s ∧ ∀ u ∈ left, ∃ j c, u = Value.ref c ∧ IsK P w s.heap j c) _ ?_ ?_ _ _ ⟨rfl, rfl, hu⟩
  · rintro u left acc st ⟨na, rfl, every⟩
    obtain ⟨j, c, rfl, Tc⟩ := every u List.mem_cons_self
    have after : ∀ u ∈ left, ∃ j c, u = Value.ref c ∧ IsK P w st.heap j c := fun z m => every z (List.mem_cons_of_mem _ m)
    dsimp only
    by_cases very : (b == c || (carriedByValue (.ref b) && carriedByValue (.ref c))) = true
    · exact wp_if_pos very (wpAny_pure ⟨rfl, rfl, after⟩)
    · refine wp_if_neg very (wpAny_bind (wpAny_eqIsQuiet_tuple T ?_))
      simp only [Bool.not_true, Bool.false_eq_true, if_false]
      refine wpAny_bind (wpAny_eqIsQuiet_tuple Tc ?_)
      simp only [Bool.not_true, Bool.false_eq_true, if_false]
      refine wpAny_bind (class_of T ?_)
      simp only [Bool.false_eq_true, if_false]
      refine wpAny_bind (class_of Tc ?_)
      simp only [Bool.false_eq_true, if_false]
      exact wpAny_pure ⟨rfl, rfl, after⟩
  · rintro ⟨c1, c2⟩ st ⟨na, rfl, _⟩
    simp only at na
    subst na
    exact wpAny_pure q
/-! ### the table of such a set -/
def MaskIn (m : Nat) : Prop := m = 7 ∨ m = 31 ∨ m = 127 ∨ m = 511 ∨ m = 2047 ∨ m = 8191
theorem MaskIn.pow {m : Nat} (h : MaskIn m) : Pow2 m := by
  rcases h with rfl | rfl | rfl | rfl | rfl | rfl
  · exact ⟨3, rfl⟩
  · exact ⟨5, rfl⟩
  · exact ⟨7, rfl⟩
  · exact ⟨9, rfl⟩
  · exact ⟨11, rfl⟩
  · exact ⟨13, rfl⟩
theorem MaskIn.odd {m : Nat} (h : MaskIn m) : m % 2 = 1 := by
  rcases h with rfl | rfl | rfl | rfl | rfl | rfl <;> rfl
theorem MaskIn.le {m : Nat} (h : MaskIn m) : m ≤ 8191 := by
  rcases h with rfl | rfl | rfl | rfl | rfl | rfl <;> decide
def rowsK (P : Program) (w : World) (L : List (Addr × List Key)) : List (Int × Value) := L.map fun e => (kh P w e.2, Value.ref e.1)
theorem rowsK_len (L : List (Addr × List Key)) : (rowsK P w L).length = L.length := List.length_map ..
structure KSet (P : Program) (w : World) (h : Heap) (a : Addr) (L : List (Addr × List Key)) (es : Array (Int × Value)) (ep : Nat) (t : SetTable) : Prop where
  here : ∃ o, h.get? a = some o ∧ o.ExactSet ∧ o.data = .set es ep t
  rows : es.toList = rowsK P w L
  tab : Tab t (L.map fun e => kh P w e.2)
  nd : (L.map (·.2)).Nodup
  tups : ∀ e ∈ L, IsK P w h e.2 e.1
  mask : MaskIn t.mask
  room : L.length * 5 < t.mask * 3
variable {a : Addr} {L : List (Addr × List Key)} {es : Array (Int × Value)} {ep : Nat} {t : SetTable}
theorem KSet.size (R : KSet P w s.heap a L es ep t) : es.size = L.length := by
  rw [← Array.length_toList, R.rows, rowsK_len]
theorem KSet.places (R : KSet P w s.heap a L es ep t) : t.place.toList.length = L.length := by
  rw [Array.length_toList, R.tab.many, List.length_map]
theorem KSet.fits (R : KSet P w s.heap a L es ep t) : t.fits es.size = true := by
  have p := R.places
  have z := R.size
  have r := R.room
  rw [Array.length_toList] at p
  unfold SetTable.fits SetTable.fill
  rw [R.tab.clean]
  simp
  omega
theorem KSet.entry (R : KSet P w s.heap a L es ep t) {i : Nat} {e : Addr × List Key} (h : L[i]? = some e) : es[i]? = some (kh P w e.2, Value.ref e.1) := by
  rw [← Array.getElem?_toList, R.rows]
  show (L.map _)[i]? = _
  rw [List.getElem?_map, h]
  rfl
theorem KSet.hashAt (R : KSet P w s.heap a L es ep t) {i : Nat} {e : Addr × List Key} (h : L[i]? = some e) : (es[i]?.map (·.1)).getD 0 = kh P w e.2 := by
  rw [R.entry h]
  rfl
theorem KSet.whole (R : KSet P w s.heap a L es ep t) : ¬ t.gaveWay = true := by
  unfold SetTable.gaveWay
  rw [R.mask.odd]
  decide
/-- where the walk stands behind c steps -/
abbrev stand (m : Nat) (h : Int) (c : Nat) : SetTable.Probe := nth m (runAt m (SetTable.bits h % (m + 1)) (SetTable.bits h)) c
theorem stand_dummy (m : Nat) (h : Int) : ∀ c, (stand m h c).dummy = none
  | 0 => rfl
  | c + 1 => by
    show (nth m _ (c + 1)).dummy = none
    rw [nth_succ]
    have ih := stand_dummy m h c
    unfold adv
    split <;> exact ih
theorem stand_on (m : Nat) (h : Int) (c q : Nat) : nth m (stand m h c) q = stand m h (c + q) := (nth_add m c _ q).symm
end
end Nm
set_option autoImplicit true
set_option maxRecDepth 100000
set_option maxHeartbeats 4000000
/-! the search for a tuple in a set of tuples of keys, to add it or to ask for it -/
namespace Nm
open PySem PySem.Spec PyProof.Rows L2
section
variable {P : Program} {w : World} {A : Around} {E : Value → Shared → Prop} {s : Shared}
variable {a : Addr} {L : List (Addr × List Key)} {es : Array (Int × Value)} {ep : Nat} {t : SetTable}
theorem look_from (R : KSet P w s.heap a L es ep t) {x : Addr} {k : List Key} (T : IsK P w s.heap k x) (hu : A.units < cLine) (ad : Bool) {N : Nat} (lim : N < 10 * SetTable.turns t.mask)
    (out : way t.mask (kh P w k) N ∉ t.place.toList) (bef : ∀ c < N, way t.mask (kh P w k) c ∈ t.place.toList) {Q : SetFound → Shared → Prop}
    (qin : k ∈ L.map (·.2) → ∀ r : Option Nat, (ad = false → r.isSome = true) → Q (.there r) s) (qout : k ∉ L.map (·.2) → Q (.free (way t.mask (kh P w k) N) false) s) :
    ∀ (f c : Nat) (fr : Option SetTable.Probe), fr.getD (t.probeStart (kh P w k)) = stand t.mask (kh P w k) c → c ≤ N → N - c < f →
      (∀ (i : Nat) e, L[i]? = some e → e.2 = k → ∃ d, c ≤ d ∧ d < N ∧ t.place.toList[i]? = some (way t.mask (kh P w k) d)) →
      wpAny (model P w) A (setSearchFrom a (.ref x) (kh P w k) ad f fr) Q E s
  | 0, c, fr, _, _, few, _ => absurd few (Nat.not_lt_zero _)
  | f + 1, c, fr, at_, le, few, ahead => by
    obtain ⟨o, ho, ex, dat⟩ := R.here
    rw [setSearchFrom_succ]
    refine wpAny_bind (wpAny_setState_of ho dat R.fits ?_)
    dsimp only
    refine wp_if_neg R.whole ?_
    try refine wpAny_bind (wpAny_pure ?_)
    have wj : ∀ q, (nth t.mask (stand t.mask (kh P w k) c) q).j = way t.mask (kh P w k) (c + q) := fun q => congrArg SetTable.Probe.j (stand_on t.mask (kh P w k) c q)
    have told := go_spec t R.tab.up R.tab.clean (fun i => (es[i]?.map (·.1)).getD 0) (kh P w k) (10 * SetTable.turns t.mask) (N - c) (stand t.mask (kh P w k) c) (stand_dummy t.mask (kh P w k) c) (by omega)
      (fun q hq => by rw [wj]; exact bef (c + q) (by omega)) (by rw [wj, show c + (N - c) = N by omega]; exact out)
    rcases told with ⟨q, i, hq, hi, hh, first, pr⟩ | ⟨none_, pr⟩
    · -- one of the same hash
      have pr2 : t.probe (fun i => (es[i]?.map (·.1)).getD 0) (kh P w k) (fr.getD (t.probeStart (kh P w k))) = some (.candidate (way t.mask (kh P w k) (c + q)) i (stand t.mask (kh P w k) (c + (q + 1)))) := by
        rw [at_, ← wj, ← stand_on]
        exact pr
      rw [pr2]
      dsimp only
      rw [wj] at hi
      have lt : i < L.length := by
        rw [← R.places]
        exact (List.getElem?_eq_some_iff.mp hi).1
      obtain ⟨e, he⟩ : ∃ e, L[i]? = some e := ⟨_, List.getElem?_eq_getElem lt⟩
      have hm : e ∈ L := List.mem_of_getElem? he
      have Te := R.tups e hm
      have go_on : wpAny (model P w) A (searchRest a (.ref x) (kh P w k) ad f es t (way t.mask (kh P w k) (c + q)) i (stand t.mask (kh P w k) (c + (q + 1)))) Q E s := by
        unfold searchRest
        rw [R.entry he]
        dsimp only
        refine wpAny_bind (wpAny_holding (wpAny_eqBool_tuple hu Te T ?_))
        refine wpAny_bind (wpAny_setState_of ho dat R.fits ?_)
        dsimp only
        have sl : t.slot (way t.mask (kh P w k) (c + q)) = .live i := slot_live R.tab.up hi
        by_cases same : e.2 = k
        · have inn : k ∈ L.map (·.2) := List.mem_map.mpr ⟨e, hm, same⟩
          cases ad with
          | true =>
            refine wp_if_pos (by simp [same]) ?_
            exact wpAny_pure (qin inn none fun z => nomatch z)
          | false =>
            refine wp_if_neg (by simp) ?_
            try refine wpAny_bind (wpAny_pure ?_)
            rw [sameMem]
            dsimp only
            simp only [if_true, sl, R.entry he]
            refine wpAny_bind (wpAny_isSame_ref_self (wpAny_bind (wpAny_pure ?_)))
            simp only [if_true]
            refine wp_if_pos (by simp [same]) ?_
            exact wpAny_pure (qin inn (some i) fun _ => rfl)
        · refine wp_if_neg (by simp [same]) ?_
          try refine wpAny_bind (wpAny_pure ?_)
          rw [sameMem]
          dsimp only
          simp only [if_true, sl, R.entry he]
          refine wpAny_bind (wpAny_isSame_ref_self (wpAny_bind (wpAny_pure ?_)))
          simp only [if_true]
          refine wp_if_neg (by simp [same]) ?_
          refine look_from R T hu ad lim out bef qin qout f (c + (q + 1)) _ rfl (by omega) (by omega) fun i0 e0 h0 k0 => ?_
          obtain ⟨d, d1, d2, d3⟩ := ahead i0 e0 h0 k0
          refine ⟨d, ?_, d2, d3⟩
          rcases Nat.lt_or_ge (c + q) d with gt | le'
          · omega
          exfalso
          rcases Nat.lt_or_eq_of_le le' with lt' | eq'
          · refine first (d - c) i0 (by omega) (by rw [wj, show c + (d - c) = d by omega]; exact d3) ?_
            exact (R.hashAt h0).trans (congrArg (kh P w) k0)
          · rw [eq'] at d3
            have s0 := slot_live R.tab.up d3
            rw [sl] at s0
            injection s0 with s0
            subst s0
            rw [he] at h0
            cases h0
            exact same k0
      by_cases led : t.led = true
      · refine wp_if_neg (by simp [led]) ?_
        try refine wpAny_bind (wpAny_pure ?_)
        exact go_on
      · refine wp_if_pos (by simp [led]) ?_
        refine wpAny_bind (seen_of T (fun u m => ?_) ?_)
        · obtain ⟨r, hr, er⟩ := List.mem_map.mp m
          have m2 : r ∈ es.toList := by
            have := (show r ∈ es ∧ r.1 = kh P w k by simpa using hr).1
            simpa using this
          rw [R.rows] at m2
          obtain ⟨e2, hm2, ee⟩ := List.mem_map.mp m2
          exact ⟨e2.2, e2.1, by rw [← er, ← ee], R.tups e2 hm2⟩
        · refine wp_if_neg (by decide) ?_
          try refine wpAny_bind (wpAny_pure ?_)
          exact go_on
    · -- the free slot
      have pr2 : t.probe (fun i => (es[i]?.map (·.1)).getD 0) (kh P w k) (fr.getD (t.probeStart (kh P w k))) = some (.empty (way t.mask (kh P w k) N) none) := by
        have ew : way t.mask (kh P w k) N = (nth t.mask (stand t.mask (kh P w k) c) (N - c)).j := by rw [wj, show c + (N - c) = N by omega]
        rw [at_, ew]
        exact pr
      rw [pr2]
      dsimp only
      refine wpAny_pure (qout fun m => ?_)
      obtain ⟨e0, m0, k0⟩ := List.mem_map.mp m
      obtain ⟨i0, h0⟩ := List.getElem?_of_mem m0
      obtain ⟨d, d1, d2, d3⟩ := ahead i0 e0 h0 k0
      refine none_ (d - c) i0 (by omega) (by rw [wj, show c + (d - c) = d by omega]; exact d3) ?_
      exact (R.hashAt h0).trans (congrArg (kh P w) k0)
/-- the search from its beginning -/
theorem look (R : KSet P w s.heap a L es ep t) {x : Addr} {k : List Key} (T : IsK P w s.heap k x) (hu : A.units < cLine) (ad : Bool) {Q : SetFound → Shared → Prop}
    (qin : k ∈ L.map (·.2) → ∀ r : Option Nat, (ad = false → r.isSome = true) → Q (.there r) s)
    (qout : ∀ N, k ∉ L.map (·.2) → way t.mask (kh P w k) N ∉ t.place.toList → (∀ c < N, way t.mask (kh P w k) c ∈ t.place.toList) → Q (.free (way t.mask (kh P w k) N) false) s) :
    wpAny (model P w) A (setSearch a (.ref x) (kh P w k) ad) Q E s := by
  have room := R.room
  obtain ⟨N, lim, out, bef⟩ := R.tab.free (by rw [List.length_map]; omega) (kh P w k)
  have big : N < 100000 := by
    have := R.mask.le
    unfold SetTable.turns at lim
    omega
  unfold setSearch
  refine look_from R T hu ad lim out bef qin (fun n => qout N n out bef) 100000 0 none rfl (Nat.zero_le _) (by omega) fun i e he ek => ?_
  have lt : i < t.place.toList.length := by
    rw [R.places]
    exact (List.getElem?_eq_some_iff.mp he).1
  have hj := List.getElem?_eq_getElem lt
  obtain ⟨d, d1, d2⟩ := R.tab.ahead out (i := i) (by rw [List.getElem?_map, he, ← ek]; rfl) hj
  exact ⟨d, Nat.zero_le _, d1, by rw [hj, d2]⟩
/-- x in such a set -/
theorem find_in (R : KSet P w s.heap a L es ep t) {x : Addr} {k : List Key} (T : IsK P w s.heap k x) (hu : A.units < cLine) {Q : Option Nat → Shared → Prop}
    (q : ∀ r : Option Nat, (r.isSome = true ↔ k ∈ L.map (·.2)) → Q r s) : wpAny (model P w) A (setFind a (.ref x) (kh P w k)) Q E s := by
  obtain ⟨o, ho, ex, dat⟩ := R.here
  unfold setFind setFindIn
  refine wpAny_bind (wpAny_setState_of ho dat R.fits ?_)
  dsimp only
  refine wp_if_neg (by simp [byScan, Value.scannable]) ?_
  try refine wpAny_bind (wpAny_pure ?_)
  refine wpAny_bind (look R T hu false (fun inn r hr => ?_) fun N n _ _ => ?_)
  · dsimp only
    exact wpAny_pure (q r ⟨fun _ => inn, fun _ => hr rfl⟩)
  · dsimp only
    exact wpAny_pure (q none ⟨fun z => (nomatch z), fun z => absurd z n⟩)
end
end Nm
set_option autoImplicit true
set_option maxRecDepth 100000
set_option maxHeartbeats 4000000
/-! a tuple put into a set of tuples of keys -/
namespace Nm
open PySem PySem.Spec PyProof.Rows L2
theorem new_mask : SetTable.sizeAbove (SetTable.grown 5) = 32 ∧ SetTable.sizeAbove (SetTable.grown 19) = 128 ∧ SetTable.sizeAbove (SetTable.grown 77) = 512 ∧ SetTable.sizeAbove (SetTable.grown 307) = 2048 ∧ SetTable.sizeAbove (SetTable.grown 1229) = 8192 := by decide +kernel
/-- how a table grows -/
theorem grows {m n : Nat} (h : MaskIn m) (few : n * 5 < m * 3) (full : (n + 1) * 5 ≥ m * 3) (le : n + 1 ≤ 4900) :
    ∃ M, SetTable.sizeAbove (SetTable.grown (n + 1)) - 1 = M ∧ MaskIn M ∧ SetTable.sizeAbove (SetTable.grown (n + 1)) ≤ 8192 ∧ (n + 1) * 5 < M * 3 := by
  obtain ⟨a1, a2, a3, a4, a5⟩ := new_mask
  rcases h with rfl | rfl | rfl | rfl | rfl | rfl
  · obtain rfl : n = 4 := by omega
    exact ⟨31, by rw [a1], .inr (.inl rfl), by rw [a1]; decide, by decide⟩
  · obtain rfl : n = 18 := by omega
    exact ⟨127, by rw [a2], .inr (.inr (.inl rfl)), by rw [a2]; decide, by decide⟩
  · obtain rfl : n = 76 := by omega
    exact ⟨511, by rw [a3], .inr (.inr (.inr (.inl rfl))), by rw [a3]; decide, by decide⟩
  · obtain rfl : n = 306 := by omega
    exact ⟨2047, by rw [a4], .inr (.inr (.inr (.inr (.inl rfl)))), by rw [a4]; decide, by decide⟩
  · obtain rfl : n = 1228 := by omega
    exact ⟨8191, by rw [a5], .inr (.inr (.inr (.inr (.inr rfl)))), by rw [a5]; decide, by decide⟩
  · omega
section
variable {P : Program} {w : World} {A : Around} {E : Value → Shared → Prop} {s : Shared}
theorem isK_but {h h' : Heap} {k : List Key} {a b : Addr} {o : Obj} {es : Array (Int × Value)} {ep : Nat} {t : SetTable} (T : IsK P w h k b) (ho : h.get? a = some o) (dat : o.data = .set es ep t) (sb : Heap.SameBut a h h') : IsK P w h' k b := by
  obtain ⟨u, its, cnt, hu, cl, ud, itk⟩ := T
  refine ⟨u, its, cnt, (sb.2 b fun e => ?_).trans hu, cl, ud, itk⟩
  subst e
  rw [ho] at hu
  cases hu
  rw [dat] at ud
  cases ud
theorem rowsK_put (L : List (Addr × List Key)) (i : Nat) (x : Addr) (k : List Key) : rowsK P w (L.take i ++ (x, k) :: L.drop i) = (rowsK P w L).take i ++ (kh P w k, Value.ref x) :: (rowsK P w L).drop i := by
  unfold rowsK
  rw [List.map_append, List.map_cons, List.map_take, List.map_drop]
/-- the rows in another order -/
theorem rowsK_order {L : List (Addr × List Key)} {es : Array (Int × Value)} {ord : Array Nat} (hr : es.toList = rowsK P w L) (pm : ord.toList.Perm (List.range L.length)) :
    ∃ L', (ord.filterMap (es[·]?)).toList = rowsK P w L' ∧ L'.Perm L ∧ (L'.map fun e => kh P w e.2) = ord.toList.map fun i => (es.map (·.1)).getD i 0 := by
  have sz : es.size = L.length := by rw [← Array.length_toList, hr, rowsK_len]
  have row : ∀ (i : Nat) e, L[i]? = some e → es[i]? = some (kh P w e.2, Value.ref e.1) := fun i e h => by
    rw [← Array.getElem?_toList, hr]
    show (L.map _)[i]? = _
    rw [List.getElem?_map, h]
    rfl
  have walk : ∀ js : List Nat, (∀ j ∈ js, j < L.length) → ∃ L', js.filterMap (fun i => es[i]?) = rowsK P w L' ∧ js.filterMap (fun i => L[i]?) = L' ∧ (L'.map fun e => kh P w e.2) = js.map fun i => (es.map (·.1)).getD i 0 := by
    intro js
    induction js with
    | nil => exact fun _ => ⟨[], rfl, rfl, rfl⟩
    | cons j js ih =>
      intro below
      obtain ⟨L', b1, b2, b3⟩ := ih fun i m => below i (List.mem_cons_of_mem _ m)
      obtain ⟨e, he⟩ : ∃ e, L[j]? = some e := ⟨_, List.getElem?_eq_getElem (below j List.mem_cons_self)⟩
      refine ⟨e :: L', by rw [List.filterMap_cons_some (row j e he), b1]; rfl, by rw [List.filterMap_cons_some he, b2], ?_⟩
      rw [List.map_cons, List.map_cons, b3]
      congr 1
      rw [Array.getD_eq_getD_getElem?, Array.getElem?_map, row j e he]
      rfl
  obtain ⟨L', b1, b2, b3⟩ := walk ord.toList fun j m => List.mem_range.mp (pm.mem_iff.mp m)
  refine ⟨L', by simpa using b1, ?_, b3⟩
  have all : ∀ n, n ≤ L.length → (List.range n).filterMap (fun i => L[i]?) = L.take n := by
    intro n
    induction n with
    | zero => exact fun _ => rfl
    | succ n ih =>
      intro le
      rw [List.range_succ, List.filterMap_append, ih (by omega), List.take_add_one, List.filterMap_cons_some (List.getElem?_eq_getElem le), List.getElem?_eq_getElem le]
      rfl
  rw [← b2]
  refine (pm.filterMap _).trans ?_
  rw [all _ (Nat.le_refl _), List.take_length]
variable {a : Addr} {L : List (Addr × List Key)} {es : Array (Int × Value)} {ep : Nat} {t : SetTable}
/-- the table laid anew -/
theorem laid_new {o : Obj} (ho : s.heap.get? a = some o) (ex : o.ExactSet) (dat : o.data = .set es ep t) (rows : es.toList = rowsK P w L) (tab : Tab t (L.map fun e => kh P w e.2)) (le : L.length ≤ t.mask) (nd : (L.map (·.2)).Nodup)
    (tups : ∀ e ∈ L, IsK P w s.heap e.2 e.1) {want M : Nat} (hM : SetTable.sizeAbove want - 1 = M) (mk : MaskIn M) (lim : SetTable.sizeAbove want ≤ 8192) (room : L.length * 5 < M * 3) {Q : Unit → Shared → Prop}
    (q : ∀ h' L' es' ep' t', Heap.SameBut a s.heap h' → KSet P w h' a L' es' ep' t' → L'.Perm L → Q () { s with heap := h' }) : wpAny (model P w) A (setRelay a want) Q E s := by
  have sz : es.size = L.length := by rw [← Array.length_toList, rows, rowsK_len]
  have pl := tab.many
  rw [List.length_map] at pl
  have fits : t.fits es.size = true := by
    unfold SetTable.fits SetTable.fill
    rw [tab.clean]
    simp
    omega
  obtain ⟨t', ord, e, pm, T, em, _, _⟩ := lay_new t (hs := es.map (·.1)) (want := want) hM mk.pow (by rw [Array.size_map, sz]; omega)
  rw [Array.size_map, sz] at pm
  obtain ⟨L', r1, r2, r3⟩ := rowsK_order (P := P) (w := w) rows pm
  rw [← r3] at T
  have sz' : (ord.filterMap (es[·]?)).size = es.size := by rw [← Array.length_toList, r1, rowsK_len, r2.length_eq, sz]
  rw [setRelay_eq]
  refine wpAny_bind (wpAny_setState_of ho dat fits ?_)
  dsimp only
  refine wp_if_neg (by rw [sizeLine_eq]; omega) ?_
  try refine wpAny_bind (wpAny_pure ?_)
  rw [e]
  dsimp only
  refine wpAny_bind ?_
  refine wp_if_neg (by rw [sz']; simp) ?_
  try refine wpAny_bind (wpAny_pure ?_)
  refine wpAny_pure ?_
  dsimp only
  have few : L.length < 4920 := by
    have := mk.le
    omega
  refine wpAny_storeSet_of ho dat ?_ (by rw [sz', sz, sizeLine_eq]; omega)
  have sb : Heap.SameBut a s.heap (s.heap.update a (Obj.putSet (ord.filterMap (es[·]?)) t')) := Heap.SameBut.update ..
  refine q _ L' (ord.filterMap (es[·]?)) (ep + 1) t' sb ⟨⟨_, store_at ho dat, ⟨ex.1, ex.2.1, ex.2.2⟩, rfl⟩, r1, T, (r2.map (·.2)).nodup_iff.mpr nd, fun u m => isK_but (tups u (r2.mem_iff.mp m)) ho dat sb, by rw [em]; exact mk, by rw [r2.length_eq, em]; exact room⟩ r2
/-- adding -/
theorem put_in (R : KSet P w s.heap a L es ep t) {x : Addr} {k : List Key} (T : IsK P w s.heap k x) (hu : A.units < cLine) (few : L.length + 1 ≤ 4900) {Q : Bool → Shared → Prop}
    (q : ∀ b h' L' es' ep' t', Heap.SameBut a s.heap h' → KSet P w h' a L' es' ep' t' → (k ∈ L.map (·.2) → L' = L) → (k ∉ L.map (·.2) → L'.Perm ((x, k) :: L)) → Q b { s with heap := h' }) :
    wpAny (model P w) A (setAddHashed a (.ref x) (kh P w k)) Q E s := by
  obtain ⟨o, ho, ex, dat⟩ := R.here
  have sz := R.size
  have room := R.room
  unfold setAddHashed
  refine wpAny_holding ?_
  rw [show (100000 : Nat) = 99999 + 1 from rfl, setAddHashedIn_succ]
  refine wpAny_bind (wpAny_setState_of ho dat R.fits ?_)
  dsimp only
  refine wp_if_neg (by simp [byScan, Value.scannable]) ?_
  try refine wpAny_bind (wpAny_pure ?_)
  refine wpAny_bind (look R T hu true (fun inn r _ => ?_) fun N nin out bef => ?_)
  · dsimp only
    exact wpAny_pure (q false s.heap L es ep t (Heap.SameBut.refl a s.heap) R (fun _ => rfl) fun z => absurd inn z)
  · dsimp only
    refine wpAny_bind (wpAny_setState_of ho dat R.fits ?_)
    dsimp only
    obtain ⟨c1, c2, c3⟩ := R.tab.more out bef
    have em : (t.put (way t.mask (kh P w k) N)).1.mask = t.mask := rfl
    generalize hpt : t.put (way t.mask (kh P w k) N) = pt at c2 c3 em ⊢
    have ep2 : pt.2 = SetTable.below t.place (way t.mask (kh P w k) N) := by rw [← hpt]; rfl
    obtain ⟨t1, pos⟩ := pt
    dsimp only at c2 c3 em ep2 ⊢
    subst ep2
    generalize hpos : SetTable.below t.place (way t.mask (kh P w k) N) = pos at *
    have rows1 : (SetTable.insertAt es pos (kh P w k, Value.ref x)).toList = rowsK P w (L.take pos ++ (x, k) :: L.drop pos) := by
      rw [SetTable.toList_insertAt, rowsK_put, R.rows]
    have pm : (L.take pos ++ (x, k) :: L.drop pos).Perm ((x, k) :: L) := by
      have z := List.perm_middle (a := (x, k)) (l₁ := L.take pos) (l₂ := L.drop pos)
      rw [List.take_append_drop] at z
      exact z
    have len : (L.take pos ++ (x, k) :: L.drop pos).length = L.length + 1 := pm.length_eq
    have hs : (L.take pos ++ (x, k) :: L.drop pos).map (fun e => kh P w e.2) = (L.map fun e => kh P w e.2).take pos ++ kh P w k :: (L.map fun e => kh P w e.2).drop pos := by
      rw [List.map_append, List.map_cons, List.map_take, List.map_drop]
    rw [← hs] at c2
    have nd1 : ((L.take pos ++ (x, k) :: L.drop pos).map (·.2)).Nodup := (pm.map (·.2)).nodup_iff.mpr (List.nodup_cons.mpr ⟨nin, R.nd⟩)
    have sz1 : (SetTable.insertAt es pos (kh P w k, Value.ref x)).size = L.length + 1 := by rw [← Array.length_toList, rows1, rowsK_len, len]
    generalize SetTable.insertAt es pos (kh P w k, Value.ref x) = es1 at rows1 sz1 ⊢
    generalize L.take pos ++ (x, k) :: L.drop pos = L1 at pm len c2 nd1 rows1
    -- the rest, however the field stands
    have rest : ∀ t2 : SetTable, Tab t2 (L1.map fun e => kh P w e.2) → t2.mask = t.mask → t2.fill = L.length + 1 →
        wpAny (model P w) A (do
            storeSet a es1 t2
            if !false && t2.tooFull then setRelay a (SetTable.grown (es.size + 1))
            return true) Q E s := fun t2 T2 m2 f2 => by
      refine wpAny_bind (wpAny_storeSet_of ho dat ?_ (by rw [sz1, sizeLine_eq]; omega))
      have sb : Heap.SameBut a s.heap (s.heap.update a (Obj.putSet es1 t2)) := Heap.SameBut.update ..
      have ho1 := store_at (es' := es1) (t' := t2) ho dat
      generalize s.heap.update a (Obj.putSet es1 t2) = h1 at sb ho1 ⊢
      have tups1 : ∀ e ∈ L1, IsK P w h1 e.2 e.1 := fun e m => by
        rcases List.mem_cons.mp (pm.mem_iff.mp m) with rfl | m
        · exact isK_but T ho dat sb
        · exact isK_but (R.tups e m) ho dat sb
      by_cases full : t2.tooFull = true
      · have hf := full
        unfold SetTable.tooFull at hf
        rw [decide_eq_true_eq, f2, m2] at hf
        obtain ⟨M, g1, g2, g3, g4⟩ := grows R.mask room hf few
        first
          | (refine wpAny_bind ?_; refine wp_if_pos (by simp [full]) ?_)
          | (refine wp_if_pos (by simp [full]) ?_; refine wpAny_bind ?_)
        rw [sz]
        refine laid_new (s := { s with heap := h1 }) ho1 ⟨ex.1, ex.2.1, ex.2.2⟩ rfl rows1 T2 (by rw [len, m2]; have := R.mask.le; rcases R.mask with e | e | e | e | e | e <;> omega) nd1 tups1 g1 g2 g3 (by rw [len]; exact g4) ?_
        intro h2 L2 es2 ep2 t3 sb2 R2 pm2
        exact wpAny_pure (q true h2 L2 es2 ep2 t3 (sb.trans sb2) R2 (fun z => absurd z nin) fun _ => pm2.trans pm)
      · first
          | refine wp_if_neg (by simp [full]) ?_
          | (refine wpAny_bind ?_; refine wp_if_neg (by simp [full]) ?_; refine wpAny_pure ?_)
        have hf := full
        unfold SetTable.tooFull at hf
        rw [decide_eq_true_eq, f2, m2] at hf
        exact wpAny_pure (q true h1 L1 es1 (ep + 1) t2 sb ⟨⟨_, ho1, ⟨ex.1, ex.2.1, ex.2.2⟩, rfl⟩, rows1, T2, nd1, tups1, by rw [m2]; exact R.mask, by rw [len, m2]; omega⟩ (fun z => absurd z nin) fun _ => pm)
    by_cases pl : t1.plain = true
    · first
        | (refine wpAny_bind ?_; refine wp_if_pos pl ?_)
        | (refine wp_if_pos pl ?_; refine wpAny_bind ?_)
      refine hash_of T fun r => ?_
      cases r with
      | true =>
        simp only [if_true]
        exact rest t1 c2 em (by rw [c3, List.length_map])
      | false =>
        simp only [Bool.false_eq_true, if_false]
        exact rest { t1 with plain := false } ⟨c2.up, c2.clean, c2.many, c2.pow, c2.low, c2.led⟩ em (by show t1.fill = _; rw [c3, List.length_map])
    · first
        | (refine wpAny_bind ?_; refine wp_if_neg pl ?_; refine wpAny_pure ?_)
        | (refine wp_if_neg pl ?_; refine wpAny_bind (wpAny_pure ?_))
        | (refine wp_if_neg pl ?_)
      simp only [if_true]
      exact rest t1 c2 em (by rw [c3, List.length_map])
end
end Nm
set_option autoImplicit true
set_option maxRecDepth 100000
set_option maxHeartbeats 4000000
/-! sets of tuples of keys as objects: set(), x in them, .add(x) -/
namespace Nm
open PySem PySem.Spec PyProof.Rows L2
/-- such a set, the tuples left out -/
structure KBare (P : Program) (w : World) (h : Heap) (a : Addr) (L : List (Addr × List Key)) : Prop where
  ex : ∃ (es : Array (Int × Value)) (ep : Nat) (t : SetTable), (∃ o, h.get? a = some o ∧ o.ExactSet ∧ o.data = .set es ep t) ∧ es.toList = rowsK P w L ∧ Tab t (L.map fun e => kh P w e.2) ∧ (L.map (·.2)).Nodup ∧ MaskIn t.mask ∧ L.length * 5 < t.mask * 3
theorem KSet.bare {P : Program} {w : World} {h : Heap} {a : Addr} {L : List (Addr × List Key)} {es : Array (Int × Value)} {ep : Nat} {t : SetTable} (R : KSet P w h a L es ep t) : KBare P w h a L := ⟨es, ep, t, R.here, R.rows, R.tab, R.nd, R.mask, R.room⟩
theorem KBare.set {P : Program} {w : World} {h : Heap} {a : Addr} {L : List (Addr × List Key)} (R : KBare P w h a L) (T : ∀ e ∈ L, IsK P w h e.2 e.1) : ∃ es ep t, KSet P w h a L es ep t := by
  obtain ⟨es, ep, t, c1, c2, c3, c4, c5, c6⟩ := R
  exact ⟨es, ep, t, c1, c2, c3, c4, T, c5, c6⟩
def KSetO (P : Program) (w : World) (a : Addr) (L : List (Addr × List Key)) : HO := .ext fun h => KBare P w h a L
theorem kset_obj {P : Program} {w : World} {H : Hp} {h : Heap} {a : Addr} {L : List (Addr × List Key)} (R : KBare P w h a L) : ObjOk P w H h a (KSetO P w a L) := by
  refine ⟨R, ?_, fun h1 h2 p k => ?_⟩
  · obtain ⟨_, _, _, ⟨o, ho, _⟩, _⟩ := R
    exact ⟨o, ho⟩
  · obtain ⟨es, ep, t, ⟨o, ho, r⟩, q⟩ := (show KBare P w h1 a L from p)
    exact ⟨es, ep, t, ⟨o, k o ho, r⟩, q⟩
theorem kbare_typeIs {P : Program} {w : World} {s : Shared} {a : Addr} {L : List (Addr × List Key)} (R : KBare P w s.heap a L) : s.TypeIs (.ref a) "set" := by
  obtain ⟨_, _, _, ⟨o, ho, ex, _⟩, _⟩ := R
  exact ⟨o, ho, ex.1⟩
theorem kbare_noDict {P : Program} {w : World} {h : Heap} {a : Addr} {L : List (Addr × List Key)} (R : KBare P w h a L) : ∀ b, Value.ref a = .ref b → ∃ u, h.get? b = some u ∧ u.dict = none := by
  obtain ⟨_, _, _, ⟨o, ho, ex, _⟩, _⟩ := R
  intro b e
  cases e
  exact ⟨o, ho, ex.2.1⟩
/-- the tuples of such a set stand -/
def KIn (H : Hp) (L : List (Addr × List Key)) : Prop := ∀ e ∈ L, H e.1 = some (.tup (e.2.map kV))
section
variable {X : Cx} {pins : List (Addr × Obj)} {σ : L2.St} {H : Hp} {s : Shared}
theorem kset_get {a : Addr} {L : List (Addr × List Key)} (I : Inv X pins σ H s) (ha : H a = some (KSetO X.prog X.w a L)) : KBare X.prog X.w s.heap a L := (I.hok a _ ha).1
theorem key_is {u : Addr} {k : List Key} (I : Inv X pins σ H s) (hu : H u = some (.tup (k.map kV))) : IsK X.prog X.w s.heap k u := key_of I.hok hu
/-- set() -/
def rSetKT (P : Program) (w : World) : List V → Hp → VK → Prop := fun xs H Q => xs = [] ∧ ∀ p, H p = none → Q (.ref p) (upd H p (KSetO P w p []))
theorem cr_setKT : CallR X (.type "set") (rSetKT X.prog X.w) := by
  intro pins s σ H xs us Q I r h
  obtain ⟨rfl, q⟩ := h
  cases r
  refine setR_new fun _ => ?_
  refine ⟨.ref _, upd H s.heap.objs.size (KSetO X.prog X.w s.heap.objs.size []), I.laid (t' := s.toks) (fun b u e => Heap.get?_push_of_some _ e) (Nat.le_refl _) (kset_obj ?_), rfl, q _ (I.hok.fresh (Nat.le_refl _))⟩
  refine ⟨#[], 0, .fresh 0 0 (!X.w.params.followText "set-order"), ⟨_, Heap.get?_push_size _ rfl, ⟨rfl, rfl, rfl⟩, rfl⟩, rfl, ⟨List.Pairwise.nil, rfl, rfl, ⟨3, rfl⟩, fun x m => ?_, fun i h j e => ?_⟩, List.nodup_nil, .inl rfl, by show 0 * 5 < 7 * 3; decide⟩
  · cases m
  · simp at e
/-- u in a -/
def rInKT (P : Program) (w : World) : V → V → Hp → VK → Prop := fun x y H Q => ∃ (u a : Addr) (k : List Key) (L : List (Addr × List Key)), x = .ref u ∧ y = .ref a ∧ H u = some (.tup (k.map kV)) ∧ H a = some (KSetO P w a L) ∧ KIn H L ∧ ∀ b : Bool, (b = true ↔ k ∈ L.map (·.2)) → Q (.bl b) H
theorem or_inKT (room : X.A.units + 1 < cLine) : OpR X (compareOp .In) (rInKT X.prog X.w) := by
  intro pins s σ H x y v u' Q I rx ry h
  obtain ⟨u, a, k, L, rfl, rfl, hu, ha, kin, q⟩ := h
  cases rx
  cases ry
  have R0 := kset_get I ha
  have ty := kbare_typeIs R0
  obtain ⟨es, ep, t, R⟩ := R0.set fun e m => key_is I (kin e m)
  have T := key_is I hu
  show wpAny _ _ (do return Value.bool (← contains (.ref a) (.ref u))) _ _ s
  refine wpAny_bind ?_
  unfold contains
  try with_reducible refine wpAny_holding ?_
  refine wpAny_bind (wpAny_specialOf ty F.slot_set_contains.lookup ?_)
  refine wp_if_neg (by rw [beq_builtin_none]; exact Bool.false_ne_true) ?_
  refine wpAny_bind (wpAny_callSpecialUnlessNone?_slot (name := Str.ofString "__contains__") ty F.slot_set_contains (wpAny_call_entry F.slot_set_contains ty entry_set_contains ?_ (F.args_set_contains_2 _ _)))
  unfold Builtin.«frozenset.__contains__» Builtin.Frozenset.oneOther
  simp only [List.isEmpty_nil, bind_assoc]
  unfold Builtin.Frozenset.addrOf Builtin.Frozenset.withSetAsKey setContains
  refine wpAny_bind (wpAny_pure ?_)
  try dsimp only
  refine wpAny_bind (wpAny_pure ?_)
  try dsimp only
  refine wpAny_bind (wpAny_tryCatch (wpAny_holding (wpAny_bind (wpAny_pyHash_tuple room T ?_))))
  refine wpAny_bind (find_in (s := { s with toks := s.toks + (k.length + 1) }) R T room fun r hr => wpAny_pure ?_)
  show wpAny _ _ (ret (Value.bool r.isSome)) _ _ _
  exact wpAny_pure ⟨_, rfl, wpAny_truthy_bool (wpAny_pure ⟨.bl r.isSome, H, I.tok _, rfl, q _ hr⟩)⟩
/-- a.add(u), u not in a -/
def rAddKT (P : Program) (w : World) : V → List V → Hp → VK → Prop := fun x xs H Q => ∃ (a u : Addr) (k : List Key) (L : List (Addr × List Key)), x = .ref a ∧ xs = [.ref u] ∧ H u = some (.tup (k.map kV)) ∧ H a = some (KSetO P w a L) ∧ KIn H L ∧ k ∉ L.map (·.2) ∧ L.length + 1 ≤ 4900 ∧
  ∀ L', L'.Perm ((u, k) :: L) → Q .non (upd H a (KSetO P w a L'))
theorem mt_addKT (room : X.A.units + 1 < cLine) : MtR X "set.add" (rAddKT X.prog X.w) := by
  intro pins s σ H x xs v us Q I rx rxs h
  obtain ⟨a, u, k, L, rfl, rfl, hu, ha, kin, nin, few, q⟩ := h
  cases rx
  rw [Vals.ref1 rxs]
  have R0 := kset_get I ha
  obtain ⟨es, ep, t, R⟩ := R0.set fun e m => key_is I (kin e m)
  have T := key_is I hu
  refine wpAny_call_entry F.slot_set_add (kbare_typeIs R0) F.entry_set_add ?_ (F.args_set_add_2 _ _)
  unfold Builtin.«set.add» Builtin.Frozenset.oneOther
  simp only [List.isEmpty_nil, bind_assoc]
  unfold Builtin.Frozenset.addrOf setAdd
  refine wpAny_bind (wpAny_pure ?_)
  try dsimp only
  refine wpAny_bind (wpAny_pure ?_)
  try dsimp only
  refine wpAny_bind (wpAny_holding (wpAny_bind (wpAny_pyHash_tuple room T ?_)))
  refine put_in (s := { s with toks := s.toks + (k.length + 1) }) R T room few fun b h' L' es' ep' t' sb R' _ out => ?_
  show wpAny _ _ (ret Value.none) _ _ _
  refine wpAny_pure ⟨_, rfl, .non, upd H a (KSetO X.prog X.w a L'), I.write (e := a) (t' := s.toks + (k.length + 1)) (by rw [ha]; trivial) (.inl rfl) (fun b u hb hu => (sb.2 b hb).trans hu) ?_ (kset_obj R'.bare), rfl, q L' (out nin)⟩
  obtain ⟨o, ho, _⟩ := R'.here
  exact ⟨o, ho⟩
def tAddKT (P : Program) (w : World) (to : TE) (t : TA) : TE := fun σ H Q => to σ H fun x H1 => (∃ a L, x = V.ref a ∧ H1 a = some (KSetO P w a L)) ∧ t σ H1 fun xs H2 => rAddKT P w x xs H2 Q
variable {o e : Expr} {es : List Expr} {to : TE} {t : TA} {apos cpos : Pos}
theorem pe_addKT (room : X.A.units + 1 < cLine) (ho : PE X o to) (ha : PA X (e :: es) t)
    (b1 : attributeBase o "add" X.env (eval o X.env) = eval o X.env := by rfl)
    (b2 : ((backTo cpos (starEach (e :: es) X.env)).all (fun x => !x.1) && (backToKw cpos (keywordEach [] X.env)).all (fun x => x.1.isSome) && decide ((e :: es).length + ([] : List Keyword).length + (if ([] : List Keyword).isEmpty then 0 else 1) < 30)) = true := by rfl)
    (b3 : (apos.endLine == cpos.line) = true := by rfl) (b4 : starEach (e :: es) X.env = (false, eval e X.env) :: starEach es X.env := by rfl) (b5 : (backTo cpos (starEach es X.env)).any (·.1) = false := by rfl) :
    PE X (.Call (.Attribute o "add" apos) (e :: es) [] cpos) (tAddKT X.prog X.w to t) := by
  refine ⟨fun pins s σ H Q I h => wpAny_Call_method_late b1 b2 b3 rfl (thn (ho.run pins s σ H _ I h) fun v s1 ⟨x, H1, I1, r1, ty, q1⟩ => ?_)⟩
  obtain ⟨a, L, rfl, hka⟩ := ty
  have R := kset_get I1 hka
  cases r1
  refine ⟨"set", "set.add", F.plainAttrs_set, F.slot_set_add, F.type_set_add, kbare_typeIs R, kbare_noDict R, ?_⟩
  have run := ha.run cpos pins s1 σ H1 _ I1 q1
  rw [b4] at run ⊢
  refine Calls.callWith_builtin (by show (false || (backTo cpos (starEach es X.env)).any (·.1)) = false; rw [b5] <;> rfl) (Calls.evalArgs_plain (thn run fun us s2 ⟨vs, H2, I2, r2, q2⟩ => ?_))
  exact mt_addKT room pins s2 σ H2 (.ref a) vs (.ref a) us Q I2 rfl r2 q2
end
end Nm
set_option autoImplicit true
set_option maxRecDepth 100000
set_option maxHeartbeats 4000000
namespace Nm
open PySem L2
theorem KIn.same {H H' : Hp} {L : List (Addr × List Key)} (h : KIn H L) (s : Same H H') : KIn H' L := fun e m => s _ _ (h e m)
section
variable {P : Program} {w : World} {K : PySem.W.Frag} {mg : Str → Option Value} {base : Heap}
/-! ### need_ties -/
abbrev nNT : List Str := ["ties", "names", "spots", "at", "tie", "spot"]
theorem scNT : FnScope nNT ["ties", "names"] (defScope sNeedTies) := ⟨rfl, rfl, rfl, by decide +kernel, rfl, by decide +kernel, by decide +kernel⟩
theorem ok_needT {f : Addr} {fd : FuncData} (F : Fun K "need_ties" "need_ties" sNeedTies f fd) (T : TxtH mg) (Gs : Def P w K mg base "tie_spot" ["tie", "names"] 3 spSpot) : FnOk P w K mg base CX0 4 f fd ["ties", "names"] spNeedT := by
  obtain ⟨fs, fds, Gs, ms, ks, bs⟩ := Gs.ex
  refine F.ok scNT (fun vs H Q E h => ?_) (fun cdv A outer s H vs Q E hr h => ?_)
  · obtain ⟨_, _, _, _, _, rfl, _⟩ := h
    rfl
  · obtain ⟨p, d, tl, nm, kvs, rfl, ⟨kb, ts, hp, pr⟩, hd, hk, hok, hnd, htl, k⟩ := h
    have hu := hu_of hr
    refine ⟨_, pss_cons (ps_set (i := 2) scNT.nd rfl (Or.inl rfl) (pe_callTy0 cr_setKT (by rfl) T.set (by decide +kernel)))
      (pss_one (ps_for PassesOwn.never rfl (pi_enB kb (by rfl) T.enumerate (pa_cons (pv 0) pa_nil)) (pg_tup rfl (pgs_cons (pg_name (i := 3) scNT.nd rfl (.inl rfl)) (pgs_cons (pg_name (i := 4) scNT.nd rfl (.inl rfl)) pgs_nil)))
        (pss_cons (ps_set (i := 5) scNT.nd rfl (Or.inl rfl) (pe_call Gs hr (by rfl) ms ks bs .nil pass0 (pa_cons (pv 4) (pa_cons (pv 1) pa_nil))))
        (pss_cons (ps_if (PW.pt (pw_or (pt_cmp (pc_isN (pv 5))) (pw_or1 (pt_cmpR (or_inKT hu) (pv 5) (pv 2) (by rfl))))) (pss_one ps_never) pss_nil)
        (pss_one (ps_expr (pe_addKT hu (pv 2) (pa_cons (pv 5) pa_nil)))))))), ?_⟩
    refine ⟨rfl, fun sp hsp => ?_⟩
    have s1 := same_new (o := KSetO P w sp []) hsp
    have hsp1 : (upd H sp (KSetO P w sp [])) sp = some (KSetO P w sp []) := upd_same
    refine ⟨_, rfl, p, _, rfl, SqB.of (s1 _ _ hp), ?_⟩
    refine for_it (walk_enB (k := kb) (xs := ts.map V.ref)) (fun i σ H2 => ∃ v3 v4 v5 L, σ = [some (.ref p), some (.ref d), some (.ref sp), v3, v4, v5] ∧ H2 sp = some (KSetO P w sp L) ∧ KIn H2 L ∧ (∀ e ∈ L, e.2 ∈ (tl.map TieV.spot).take i) ∧ L.length = i ∧ Same H H2)
      ⟨none, none, none, [], rfl, hsp1, (fun e m => (List.not_mem_nil m).elim), (fun e m => (List.not_mem_nil m).elim), rfl, s1⟩ (fun i σ H2 _ ⟨_, _, _, _, _, _, _, _, _, h⟩ => SqB.of (h _ _ hp)) ?_ ?_
    · rintro i x σ H2 H3 hi ⟨v3, v4, v5, L, rfl, hsp2, kin, hL, hlen, s2⟩ ⟨tp, x1, y1, rfl, htp, rfl, e1, e2⟩
      rw [List.length_map] at hi
      have e2 : (ts.map V.ref)[i]? = some y1 := e2
      rw [List.getElem?_map] at e2
      obtain ⟨t, ht, rfl⟩ := Option.map_eq_some_iff.mp e2
      cases e1
      obtain ⟨tv, htv, htt⟩ := paired_get pr ht
      have s3 : Same H2 (upd H2 tp (.tup [V.int (i : Nat), V.ref t])) := same_new htp
      have htp3 : (upd H2 tp (.tup [V.int (i : Nat), V.ref t])) tp = some (.tup [V.int (i : Nat), V.ref t]) := upd_same
      generalize upd H2 tp (.tup [V.int (i : Nat), V.ref t]) = H3 at *
      refine ⟨tp, _, rfl, SqT.of htp3, rfl, _, _, rfl, _, _, rfl, rfl, ?_⟩
      refine ⟨_, rfl, _, rfl, t, d, tv, nm, kvs, rfl, s3 _ _ (s2 _ _ htt), s3 _ _ (s2 _ _ hd), hk, hok tv (List.mem_of_getElem? htv), fun r H4 hr0 hr4 s4 => ?_⟩
      have s34 := s3.trans s4
      have hsp4 := s34 _ _ hsp2
      have kin4 := kin.same s34
      have nin : tv.spot ∉ L.map (·.2) := fun m => by
        obtain ⟨e, he, ee⟩ := List.mem_map.mp m
        have h1 := hL e he
        rw [ee] at h1
        obtain ⟨j, hj⟩ := List.getElem?_of_mem h1
        rw [List.getElem?_take] at hj
        split at hj
        · rename_i lt
          have h2 : (tl.map TieV.spot)[i]? = some tv.spot := by rw [List.getElem?_map, htv]; rfl
          have := (List.getElem?_inj (List.getElem?_eq_some_iff.mp hj).1 hnd).mp (hj.trans h2.symm)
          omega
        · cases hj
      have hn : decide (V.ref r = V.non) = false := decide_eq_false (fun z => by cases z)
      refine ⟨_, rfl, _, rfl, ?_⟩
      rw [hn]
      refine iteF ?_
      refine ⟨_, rfl, _, rfl, r, sp, tv.spot, L, rfl, rfl, hr4, hsp4, kin4, fun b hb => ⟨_, rfl, ?_⟩⟩
      have hb0 : b = false := by
        cases b with
        | false => rfl
        | true => exact absurd (hb.mp rfl) nin
      subst hb0
      refine iteF ?_
      have hil : i < tl.length := (List.getElem?_eq_some_iff.mp htv).1
      refine ⟨_, rfl, ⟨sp, L, rfl, hsp4⟩, _, rfl, sp, r, tv.spot, L, rfl, rfl, hr4, hsp4, kin4, nin, by omega, fun L' pm => ?_⟩
      have nsp : H sp = none := hsp
      refine ⟨_, _, _, L', rfl, upd_same, fun e m => ?_, fun e m => ?_, by rw [pm.length_eq, List.length_cons, hlen], fun b o e => ?_⟩
      · have he : H4 e.1 = some (.tup (e.2.map kV)) := by
          rcases List.mem_cons.mp (pm.mem_iff.mp m) with rfl | m
          · exact hr4
          · exact kin4 e m
        rw [upd_ne (ne_of he hsp4 (by intro z; cases z))]
        exact he
      · rw [List.take_add_one, show (tl.map TieV.spot)[i]? = some tv.spot by rw [List.getElem?_map, htv]; rfl]
        rcases List.mem_cons.mp (pm.mem_iff.mp m) with rfl | m
        · exact List.mem_append_right _ (by simp)
        · exact List.mem_append_left _ (hL e m)
      · rw [upd_ne (ne_of_none e hsp)]
        exact s34 _ _ (s2 b o e)
    · rintro σ H2 ⟨v3, v4, v5, L, rfl, hsp2, kin, hL, hlen, s2⟩
      exact k H2 s2
end
end Nm
set_option autoImplicit true
set_option maxRecDepth 100000
set_option maxHeartbeats 8000000
/-! walks, frames -/
namespace Nm
open PySem PySem.Spec PyProof.Rows L2
/-- any walk, as a loop's wish -/
theorem walkW {J : It} {n : Nat} {G : Hp → Prop} {Y : Nat → Hp → V → Hp → Prop} (w : Walk J n G Y) {H0 : Hp} {Qd : Hp → Prop} {B : V → Hp → (Hp → Prop) → Prop} (Pv : Nat → Hp → Prop) (h0 : Pv 0 H0) (hG : ∀ i H, i ≤ n → Pv i H → G H)
    (hs : ∀ i x H H', i < n → Pv i H → Y i H x H' → B x H' (Pv (i + 1))) (hd : ∀ H, Pv n H → Qd H) :
    ∃ W : Nat → Nat → Hp → Prop, (∃ m, W 0 m H0) ∧ ∀ i m H, W i m H → (J.stop i H ∧ Qd H) ∨ (J.go i H ∧ ∃ Nx : Hp → Prop, (∀ H', Nx H' → ∃ m', m' < m ∧ W (i + 1) m' H') ∧ ∀ x H', J.yld i H x H' → B x H' Nx) := by
  refine ⟨fun i m H => m + i = n ∧ Pv i H, ⟨n, by omega, h0⟩, fun i m H ⟨e, p⟩ => ?_⟩
  have q := hG i H (by omega) p
  cases m with
  | zero =>
    obtain rfl : i = n := by omega
    exact .inl ⟨w.stops H q, hd H p⟩
  | succ m => exact .inr ⟨w.goes i H (by omega) q, Pv (i + 1), fun H' p' => ⟨m, by omega, by omega, p'⟩, fun x H' y => hs i x H H' (by omega) p (w.yields i H x H' (by omega) q y)⟩
theorem same_off {H H' : Hp} {D : Addr} {o : HO} (s : Same H H') (h : H D = none) : Same H (upd H' D o) := fun b u e => by
  rw [upd_ne (ne_of_none e h)]
  exact s _ _ e
end Nm
set_option autoImplicit true
set_option maxRecDepth 100000
set_option maxHeartbeats 4000000
/-! kept of what is told; BadTie.__init__; UnknownName.__init__ of a text, a number, None or a list -/
namespace Nm
open PySem PySem.Spec PyProof.Rows L2
/-- y keeps x -/
def KeptAs (H' : Hp) (x y : V) : Prop := (y = x ∧ ∀ a, x ≠ .ref a) ∨ ∃ p r, x = .ref p ∧ y = .ref r ∧ H' r = some (.lst [.str "a"])
theorem KeptAs.same {H H' : Hp} {x y : V} (h : KeptAs H x y) (s : Same H H') : KeptAs H' x y := h.imp id fun ⟨p, r, e1, e2, e3⟩ => ⟨p, r, e1, e2, s _ _ e3⟩
theorem Told.same {H H' : Hp} {x : V} (h : Told H x) (s : Same H H') : Told H' x := by
  cases h with
  | str z => exact .str z
  | int z => exact .int z
  | non => exact .non
  | one e => exact .one (s _ _ e)
theorem KeptAs.told {H0 H : Hp} {x y : V} (h : KeptAs H x y) (t : Told H0 x) : Told H y := by
  rcases h with ⟨rfl, n⟩ | ⟨p, r, _, rfl, e⟩
  · cases t with
    | str z => exact .str z
    | int z => exact .int z
    | non => exact .non
    | one e => exact absurd rfl (n _)
  · exact .one e
section
variable {P : Program} {w : World} {K : PySem.W.Frag} {mg : Str → Option Value} {base : Heap}
theorem scKe2 : FnScope nKe ["value"] (defScope sKept) := ⟨rfl, rfl, rfl, by decide +kernel, rfl, by decide +kernel, by decide +kernel⟩
/-! ### BadTie.__init__ -/
theorem ssTie : SupS "self" "number" (defScope sBadTieInit) := ⟨rfl, rfl, rfl, by decide, rfl, rfl, by decide +kernel, by decide +kernel, rfl, rfl⟩
/-! ### UnknownName.__init__ -/
end
end Nm
set_option autoImplicit true
set_option maxRecDepth 100000
set_option maxHeartbeats 4000000
/-! repr of anything that shows a datum; `not in` a list of texts, of anything -/
namespace Nm
open PySem PySem.Spec PyProof.Rows L2
section
variable {X : Cx}
/-- repr(v), v a leaf, a list or a tuple -/
def rReprA : List V → Hp → VK → Prop := fun xs H Q => ∃ (v : V) (d : PyData), xs = [v] ∧ Sh H v d ∧ d.showable = true ∧ d.hasDict = false ∧ d.depth ≤ 50 ∧ d.shown.length ≤ sizeLine ∧ Q (.str d.shown) H
theorem call_reprA (hg : X.A.guards = some []) (hu : X.A.units + 64 < cLine) : CallR X (.builtin "repr") rReprA := by
  intro pins s σ H xs us Q I r h
  obtain ⟨v, d, rfl, hs, h1, h2, h3, h4, q⟩ := h
  cases hs with
  | lst e t => exact call_repr hg hu pins s σ H _ us Q I r ⟨_, _, rfl, .lst e t, h1, h2, h3, h4, q⟩
  | tup e t => exact call_repr hg hu pins s σ H _ us Q I r ⟨_, _, rfl, .tup e t, h1, h2, h3, h4, q⟩
  | int i => exact SkE.call_repr_int pins s σ H _ us Q I r ⟨i, rfl, of_decide_eq_true h1, q⟩
  | bl b => exact call_reprB pins s σ H _ us Q I r ⟨b, rfl, q⟩
  | str z =>
    obtain ⟨u, rfl, t, rfl⟩ := vals1 r
    exact PySem.P.repr_of_str ⟨.str _, H, I.tok _, ⟨_, rfl⟩, q⟩ h4
  | non =>
    obtain ⟨u, rfl, ru⟩ := vals1 r
    obtain rfl : u = Value.none := ru
    exact PySem.P.repr_of_none ⟨.str _, H, I.tok _, ⟨_, rfl⟩, q⟩
end
end Nm
set_option autoImplicit false
set_option maxRecDepth 100000
set_option maxHeartbeats 4000000
/-! odd values of any kind; what they show where nothing is known of what is under way -/
namespace Nm
open PySem PySem.Sem PySem.Spec PyProof.Rows L2
/-- leaves -/
inductive Lf : V → PyData → Prop
  | non : Lf .non .none
  | bl (b : Bool) : Lf (.bl b) (.bool b)
  | int {i : Int} (h : i.natAbs.log2 < 200) : Lf (.int i) (.int i)
  | str {z : Str} (h : (reprText z).length ≤ 100) (n : z.length ≤ 100) : Lf (.str z) (.str z)
inductive Lfs : List V → List PyData → Prop
  | nil : Lfs [] []
  | cons {v : V} {d : PyData} {vs : List V} {ds : List PyData} (h : Lf v d) (t : Lfs vs ds) : Lfs (v :: vs) (d :: ds)
/-- an odd value: a leaf, a list or a tuple of a few leaves, a dict of at most one -/
inductive OdV (H : Hp) : V → PyData → Prop
  | lf {v : V} {d : PyData} (h : Lf v d) : OdV H v d
  | lst {a : Addr} {xs : List V} {ds : List PyData} (e : H a = some (.lst xs)) (h : Lfs xs ds) (n : xs.length ≤ 9) : OdV H (.ref a) (.list ds)
  | tup {a : Addr} {xs : List V} {ds : List PyData} (e : H a = some (.tup xs)) (h : Lfs xs ds) (n : xs.length ≤ 9) : OdV H (.ref a) (.tuple ds)
  | dc0 {a : Addr} (e : H a = some (.dK [])) : OdV H (.ref a) (.dict [])
  | dc1 {a : Addr} {z : Str} {v : V} {d : PyData} (e : H a = some (.dK [(.inr z, v)])) (hz : (reprText z).length ≤ 100) (h : Lf v d) : OdV H (.ref a) (.dict [(.str z, d)])
theorem Lf.text {P : Program} {w : World} {v : V} {d : PyData} (h : Lf v d) {u : Value} (r : RelV v u) : ReprIs P w u d.shown ∧ d.shown.length ≤ 300 ∧ d.showable = true ∧ d.depth ≤ 1 := by
  cases h with
  | non =>
    obtain rfl : u = Value.none := r
    exact ⟨ReprIs.none, by decide +kernel, rfl, by simp [PyData.depth]⟩
  | bl b =>
    obtain rfl : u = Value.bool b := r
    exact ⟨ReprIs.bool b, by cases b <;> decide +kernel, rfl, by simp [PyData.depth]⟩
  | @int i hi =>
    obtain ⟨t, rfl⟩ := (show ∃ t, u = Value.int i t from r)
    have e := PySem.int_text_length_le (a := i) (k := 200) (by decide) hi
    refine ⟨ReprIs.int t (by omega), ?_, decide_eq_true (show i.natAbs.log2 < 1920 by omega), by simp [PyData.depth]⟩
    show (Str.ofString (toString i)).length ≤ 300
    rw [PySem.ofString_length]
    omega
  | @str z hz hn =>
    obtain ⟨t, rfl⟩ := (show ∃ t, u = Value.str z t from r)
    exact ⟨ReprIs.str z t (by rw [sizeLine_eq]; omega), Nat.le_trans hz (by decide), rfl, by simp [PyData.depth]⟩
theorem Lf.reads {h : Heap} {v : V} {d : PyData} (l : Lf v d) {u : Value} (r : RelV v u) : Reads h u d [] := by
  cases l with
  | non => cases (show u = Value.none from r); exact .none
  | bl b => cases (show u = Value.bool b from r); exact .bool b
  | @int i hi => obtain ⟨t, rfl⟩ := (show ∃ t, u = Value.int i t from r); exact .int i t
  | @str z hz hn => obtain ⟨t, rfl⟩ := (show ∃ t, u = Value.str z t from r); exact .str z t
theorem Lfs.reads {h : Heap} : ∀ {vs : List V} {ds : List PyData} {us : List Value}, Lfs vs ds → Vals vs us → ReadsAll h us ds []
  | _, _, _, .nil, r => by cases r; exact .nil
  | _, _, _, .cons a t, r => by
    cases r with
    | cons r1 r2 => exact .cons (a.reads r1) (t.reads r2)
theorem Lfs.text {P : Program} {w : World} : ∀ {vs : List V} {ds : List PyData} {us : List Value}, Lfs vs ds → Vals vs us →
    ReprAll P w us (PyData.shownAll ds) ∧ (∀ (j : Nat) (v : Value), us[j]? = some v → ∃ z, (PyData.shownAll ds)[j]? = some z ∧ ReprIs P w v z) ∧ (PyData.shownAll ds).length = us.length ∧ piled (PyData.shownAll ds) ≤ 302 * us.length ∧ PyData.showableAll ds = true ∧ PyData.depthAll ds ≤ 1 ∧ us.length = vs.length
  | _, _, _, .nil, r => by
    cases r
    exact ⟨.nil, fun j v e => by simp at e, rfl, by simp [PyData.shownAll, piled], rfl, by simp [PyData.depthAll], rfl⟩
  | _, _, _, .cons a t, r => by
    cases r with
    | cons r1 r2 =>
      obtain ⟨a1, a2, a3, a4⟩ := a.text (P := P) (w := w) r1
      obtain ⟨b1, b2, b3, b4, b5, b6, b7⟩ := t.text (P := P) (w := w) r2
      refine ⟨?_, ?_, ?_, ?_, ?_, ?_, ?_⟩
      · rw [PyData.shownAll]
        exact .cons a1 b1
      · intro j v e
        rw [PyData.shownAll]
        match j, e with
        | 0, e =>
          cases (show some _ = some v from e)
          exact ⟨_, rfl, a1⟩
        | j + 1, e => exact b2 j v e
      · rw [PyData.shownAll, List.length_cons, List.length_cons, b3]
      · rw [PyData.shownAll, piled_cons, List.length_cons]
        omega
      · simp only [PyData.showableAll, a3, b5, Bool.and_self]
      · simp only [PyData.depthAll]
        omega
      · rw [List.length_cons, List.length_cons, b7]
/-! ### what such a thing shows where nothing is known of what is under way: some short text -/
section
variable {P : Program} {w : World} {A : Around} {E : Value → Shared → Prop} {s : Shared}
theorem own_tailAny {M : Model} {c : Code} {f : Code × Pos → Bool} {Q : Bool → Shared → Prop} (h : ∀ b, Q b s) : wpOwn M A c (do return (← stack).tail.any f) Q E s := fun Γ p _ _ => h _
theorem obj_tup {at_ : Addr} {ob : Obj} {us : List Value} {n : Nat} {ts : List Str} {Q : Value → Shared → Prop}
    (ty : s.TypeIs (.ref at_) "tuple") (room : A.units < cLine) (get : s.heap.get? at_ = some ob) (dat : ob.data = .seq us.toArray n) (sh : ReprAll P w us ts) (sz : (tupleText ts).length ≤ sizeLine)
    (k : ∀ tk0 tk z, (z = tupleText ts ∨ z = "(...)") → Q (.str z tk0) { s with toks := tk }) : wpAny (model P w) A (pyReprObj (.ref at_)) Q E s := by
  unfold pyReprObj
  refine wpAny_bind (wpAny_cRoomFor room (wpAny_bind (wpAny_specialOf (name := Str.ofString "__repr__") ty PySem.F.slot_tuple_repr.lookup ?_)))
  refine wpAny_bind (m := callSpecialIfBound? (.ref at_) (Str.ofString "__repr__")) (wpAny_callSpecialIfBound?_slotG (name := Str.ofString "__repr__") ty PySem.F.slot_tuple_repr ?_)
  refine wpAny_call (codeAny_call_builtin_own (Code.quiet_builtin _ (by decide +kernel)) F.entry_tuple_repr (F.slot_tuple_repr.check _ _ _ _ _ _ _ _ ty (F.args_tuple_repr_1 _) ?_))
  rw [show Builtin.«tuple.__repr__» ⟨[.ref at_], []⟩ = _ from tuple_repr_tree 0 (.ref at_), tupleReprUnderWay_eq]
  refine wpOwn_bind (own_tailAny fun b => ?_)
  cases b with
  | true =>
    refine wpOwn_of_wpAny (wpAny_bind (wpAny_rule (wpAny_bind (m := mkStr _) (wpAny_mkStr ?_))))
    exact wpAny_pure (wpAny_bind (wpAny_isInstance (T := "str") (b := true) rfl isSubtype_str_str (wpAny_pure (k _ _ _ (.inr rfl)))))
  | false =>
    refine wpOwn_of_wpAny (wpAny_tupleReprRest get dat (by simpa using sh) (fun u tk => ?_) (by omega))
    exact wpAny_bind (wpAny_isInstance (T := "str") (b := true) rfl isSubtype_str_str (wpAny_pure (k _ _ _ (.inl rfl))))
/-- a dict that may be under way -/
theorem any_dict {a : Addr} {o : Obj} {es : Array DictEntry} {n : Nat} {c : Code} {Q : PySem.Fin → Shared → Prop}
    (ty : s.TypeIs (.ref a) "dict") (ha : s.heap.get? a = some o) (hd : o.data = .dict es n) (hsys : (a == sysModules) = false)
    (dots : ∀ tk0 tk, Q (.done (.ret (.str ("{...}" : Str) tk0))) { s with toks := tk })
    (told : (es = #[] ∧ ∀ tk0 tk, Q (.done (.ret (.str ("{}" : Str) tk0))) { s with toks := tk }) ∨
      ∃ (e : DictEntry) (x y : Str), es = #[e] ∧ ReprIs P w e.key x ∧ ReprIs P w e.val y ∧ x.length ≤ 1000 ∧ y.length ≤ 1000 ∧ ∀ tk0 tk, Q (.done (.ret (.str (dictText [x ++ ": " ++ y]) tk0))) { s with toks := tk }) :
    wpOwn (model P w) A c (Builtin.dictReprAt 0 ⟨[.ref a], []⟩) Q E s := by
  unfold Builtin.dictReprAt
  refine wpOwn_bind (wpOwn_of_wpAny ?_)
  unfold Builtin.Dict.dictSlotNone
  refine wpAny_bind (wpAny_notOrdered_dict ty ?_)
  refine wpAny_pure ?_
  rw [dictReprRunning_eq]
  refine wpOwn_bind (own_tailAny fun b => ?_)
  refine wpOwn_of_wpAny ?_
  cases b with
  | true =>
    refine wpAny_bind (wpAny_rule (wpAny_bind (m := mkStr _) (wpAny_mkStr ?_)))
    exact wpAny_pure (dots _ _)
  | false =>
    refine wpAny_bind (wpAny_pure ?_)
    unfold Builtin.Dict.showsAll
    rw [if_neg (by rw [hsys]; exact Bool.false_ne_true)]
    refine wpAny_bind (wpAny_pure ?_)
    refine wpAny_bind (wpAny_dictEpoch ha hd ?_)
    refine wpAny_bind (wpAny_dictEntries ha hd ?_)
    rcases told with ⟨rfl, k⟩ | ⟨e, x, y, rfl, hx, hy, lx, ly, k⟩
    · refine wpAny_bind ?_
      rw [Std.Legacy.Range.forIn_eq_forIn_range']
      simp only [Std.Legacy.Range.size, List.size_toArray, List.length_nil, Nat.sub_zero, Nat.add_sub_cancel, Nat.div_one, Nat.zero_div, List.range'_zero, List.forIn_nil]
      refine wpAny_pure ?_
      refine wpAny_bind (m := mkStr _) (wpAny_mkStr (wpAny_pure (k _ _)))
    · refine wpAny_bind ?_
      rw [Std.Legacy.Range.forIn_eq_forIn_range']
      simp only [Std.Legacy.Range.size, List.size_toArray, List.length_cons, List.length_nil, Nat.sub_zero, Nat.add_sub_cancel, Nat.div_one, Nat.zero_add, List.range'_one, List.forIn_cons, List.forIn_nil]
      have lim : sizeLine = 16777216 := sizeLine_eq
      have c2 : (": " : Str).length = 2 := rfl
      have tx : (dictText [x ++ ": " ++ y]).length ≤ 3000 := by
        show ((("{" : Str) ++ (x ++ ": " ++ y)) ++ ("}" : Str)).length ≤ 3000
        rw [strLen_append, strLen_append, strLen_append, strLen_append, c2]
        have z1 : ("{" : Str).length = 1 := rfl
        have z2 : ("}" : Str).length = 1 := rfl
        omega
      refine wpAny_bind (wpAny_bind (wpAny_dictEntries ha hd ?_))
      refine wpAny_bind (wpAny_holding (wpAny_bind (hx 1 (by omega) _ _ _ _ fun tk1 => wpAny_bind (hy (x.length + 3) (by omega) _ _ _ _ fun tk2 => wpAny_pure ?_))))
      refine wpAny_bind (wpAny_dictEpoch ha hd ?_)
      rw [if_neg (by simp)]
      refine wpAny_pure (wpAny_pure ?_)
      exact wpAny_bind (m := mkStr _) (wpAny_mkStr (wpAny_pure (k _ _)) (by show (dictText [x ++ ": " ++ y]).length ≤ _; omega))
theorem dict_one_len {x y : Str} (lx : x.length ≤ 1000) (ly : y.length ≤ 1000) : (dictText [x ++ ": " ++ y]).length ≤ 3000 := by
  have c2 : (": " : Str).length = 2 := rfl
  show ((("{" : Str) ++ (x ++ ": " ++ y)) ++ ("}" : Str)).length ≤ 3000
  rw [strLen_append, strLen_append, strLen_append, strLen_append, c2]
  have z1 : ("{" : Str).length = 1 := rfl
  have z2 : ("}" : Str).length = 1 := rfl
  omega
theorem obj_dict {at_ : Addr} {ob : Obj} {es : Array DictEntry} {n : Nat} {Q : Value → Shared → Prop}
    (ty : s.TypeIs (.ref at_) "dict") (room : A.units < cLine) (get : s.heap.get? at_ = some ob) (dat : ob.data = .dict es n) (hsys : (at_ == sysModules) = false)
    (few : es = #[] ∨ ∃ (e : DictEntry) (x y : Str), es = #[e] ∧ ReprIs P w e.key x ∧ ReprIs P w e.val y ∧ x.length ≤ 1000 ∧ y.length ≤ 1000)
    (k : ∀ tk0 tk (z : Str), z.length ≤ 3000 → Q (.str z tk0) { s with toks := tk }) : wpAny (model P w) A (pyReprObj (.ref at_)) Q E s := by
  unfold pyReprObj
  refine wpAny_bind (wpAny_cRoomFor room (wpAny_bind (wpAny_specialOf (name := Str.ofString "__repr__") ty PySem.F.slot_dict_repr.lookup ?_)))
  refine wpAny_bind (m := callSpecialIfBound? (.ref at_) (Str.ofString "__repr__")) (wpAny_callSpecialIfBound?_slotG (name := Str.ofString "__repr__") ty PySem.F.slot_dict_repr ?_)
  refine wpAny_call (codeAny_call_builtin_own (Code.quiet_builtin _ (by decide +kernel)) F.entry_dict_repr (F.slot_dict_repr.check _ _ _ _ _ _ _ _ ty (F.args_dict_repr_1 _) ?_))
  have fin : ∀ (z : Str) (tk0 : Tok) (tk : Nat), z.length ≤ 3000 → wpAny (model P w) A (do if ← isInstance (.str z tk0) (.type "str") then Pure.pure (Value.str z tk0) else (do
      let t ← typeNameOf (Value.str z tk0)
      raiseErrorMade "TypeError" s!"__repr__ returned non-string (type {t})")) Q E { s with toks := tk } := fun z tk0 tk hz =>
    wpAny_bind (wpAny_isInstance (T := "str") (b := true) rfl isSubtype_str_str (wpAny_pure (k _ _ z hz)))
  refine any_dict ty get dat hsys (fun tk0 tk => fin _ _ _ (by decide +kernel)) ?_
  rcases few with rfl | ⟨e, x, y, rfl, hx, hy, lx, ly⟩
  · exact .inl ⟨rfl, fun tk0 tk => fin _ _ _ (by decide +kernel)⟩
  · refine .inr ⟨e, x, y, rfl, hx, hy, lx, ly, fun tk0 tk => fin _ _ _ ?_⟩
    have c2 : (": " : Str).length = 2 := rfl
    show ((("{" : Str) ++ (x ++ ": " ++ y)) ++ ("}" : Str)).length ≤ 3000
    rw [strLen_append, strLen_append, strLen_append, strLen_append, c2]
    have z1 : ("{" : Str).length = 1 := rfl
    have z2 : ("}" : Str).length = 1 := rfl
    omega
end
section
variable {X : Cx} {pins : List (Addr × Obj)} {σ : L2.St} {H : Hp} {s : Shared}
theorem piled_list : ∀ (ts : List Str), (listText ts).length ≤ piled ts + 2
  | [] => by decide +kernel
  | t :: r => by
    have h := textFrom_length_pos r 1 (("[" : Str) ++ (if (0 : Nat) > 0 then ", " else "" : String) ++ t) (Nat.succ_pos 0)
    have e : ((("[" : Str) ++ (if (0 : Nat) > 0 then ", " else "" : String) ++ t)).length = 1 + t.length := by
      rw [strLen_append, strLen_append]
      rfl
    have e2 : (listText (t :: r)).length = (textFrom 1 (("[" : Str) ++ (if (0 : Nat) > 0 then ", " else "" : String) ++ t) r).length + 1 := by
      show (textFrom 0 "[" (t :: r) ++ "]").length = _
      rw [strLen_append]
      rfl
    rw [e2, piled_cons]
    omega
theorem piled_tup (ts : List Str) : (tupleText ts).length ≤ piled ts + 3 := by
  have e2 : (if ts.length == 1 then ",)" else ")" : String).length ≤ 2 := by split <;> decide
  have e3 : ((if ts.length == 1 then ",)" else ")" : String) : Str).length ≤ 2 := by rw [PySem.ofString_length]; exact e2
  have z1 : ("(" : Str).length = 1 := rfl
  by_cases h : ts = []
  · subst h
    decide +kernel
  · have h2 := join_length_add ts h
    unfold tupleText
    rw [strLen_append, strLen_append]
    omega
theorem Lfs.nod : ∀ {vs : List V} {ds : List PyData}, Lfs vs ds → PyData.hasDictAll ds = false
  | _, _, .nil => rfl
  | _, _, .cons a t => by
    have := t.nod
    cases a <;> simp only [PyData.hasDictAll, PyData.hasDict, this, Bool.or_self]
theorem one_entry {P : Program} {w : World} {z : Str} {v : V} {vs : List (Key × Value)} {es : Array DictEntry} (rr : KV [((Sum.inr z : Key), v)] vs) (h4 : Pairs (mixKind P w) es.toList vs) : ∃ (e : DictEntry) (t : Tok), es = #[e] ∧ e.key = Value.str z t ∧ RelV v e.val := by
  cases rr with
  | @cons p q ps qs q0 t =>
    cases t
    obtain ⟨k, u⟩ := q
    obtain ⟨q1, q2⟩ := q0
    obtain rfl : Sum.inr z = k := q1
    generalize he : es.toList = l' at h4
    cases h4 with
    | @cons e kv es' kvs' k1 k2 k3 =>
      cases k3
      have k1 : keyIs (Sum.inr z) e.key = true := k1
      have k2 : e.val = u := k2
      obtain ⟨t2, ek⟩ : ∃ t, e.key = Value.str z t := by
        rcases keyIs_shape k1 with ⟨i, u, e1, e2⟩ | ⟨y, u, e1, e2⟩
        · cases e1
        · cases e1
          exact ⟨u, e2⟩
      refine ⟨e, t2, ?_, ek, by rw [k2]; exact q2⟩
      exact Array.toList_inj.mp (by rw [he])
theorem repr_odd (I : Inv X pins σ H s) (hu : X.A.units + 64 < cLine) {v : V} {d : PyData} {u : Value} (h : OdV H v d) (r : RelV v u) {Q : Value → Shared → Prop} {Er : Value → Shared → Prop}
    (k : ∀ hp tk0 tk (z : Str), z.length ≤ 4000 → (∀ b o, s.heap.get? b = some o → hp.get? b = some o) → Q (.str z tk0) { s with heap := hp, toks := tk }) : wpAny (model X.prog X.w) X.A (pyReprObj u) Q Er s := by
  have lim : sizeLine = 16777216 := sizeLine_eq
  cases h with
  | lf l =>
    cases l with
    | non =>
      obtain rfl : u = Value.none := r
      exact pyReprObj_none (k s.heap _ _ _ (by decide +kernel) fun _ _ e => e)
    | bl b =>
      obtain rfl : u = Value.bool b := r
      exact pyReprObj_bool (k s.heap _ _ _ (by cases b <;> decide +kernel) fun _ _ e => e)
    | @int i hi =>
      obtain ⟨t, rfl⟩ := (show ∃ t, u = Value.int i t from r)
      refine pyReprObj_int (by omega) (k s.heap _ _ _ ?_ fun _ _ e => e)
      have e := PySem.int_text_length_le (a := i) (k := 200) (by decide) hi
      rw [PySem.ofString_length]
      omega
    | @str z hz hn =>
      obtain ⟨t, rfl⟩ := (show ∃ t, u = Value.str z t from r)
      exact pyReprObj_str (k s.heap _ _ _ (by omega) fun _ _ e => e) (by omega)
  | @lst a xs ds e l n =>
    obtain rfl : u = Value.ref a := r
    obtain ⟨its, rv, p, hz⟩ := I.list (SqL.of e)
    obtain ⟨o, m, ho, hc, hd, hdat⟩ := p
    obtain ⟨a1, a2, a3, a4, a5, a6, a7⟩ := l.text (P := X.prog) (w := X.w) rv
    cases its with
    | nil => exact wpAny_pyReprObj_list_empty ⟨o, ho, hc⟩ (by omega) ho hdat (k s.heap _ _ _ (by decide +kernel) fun _ _ e => e)
    | cons i0 is =>
      have tl := piled_list (PyData.shownAll ds)
      refine obj_any (ws := PyData.shownAll ds) ⟨o, ho, hc⟩ (by omega) ho hdat ⟨by simpa using a3, fun j y hy => a2 j y (by simpa using hy)⟩ (by omega) (fun hp tk0 tk z hz hk => k hp _ _ z ?_ hk)
      rcases hz with rfl | rfl
      · omega
      · decide +kernel
  | @tup a xs ds e l n =>
    obtain rfl : u = Value.ref a := r
    obtain ⟨its, rv, p, hz⟩ := I.tuple (SqT.of e)
    obtain ⟨o, ho, hc, m, hdat⟩ := p
    obtain ⟨a1, a2, a3, a4, a5, a6, a7⟩ := l.text (P := X.prog) (w := X.w) rv
    have tl := piled_tup (PyData.shownAll ds)
    refine obj_tup ⟨o, ho, hc⟩ (by omega) ho hdat a1 (by omega) (fun tk0 tk z hz => k s.heap _ _ z ?_ fun _ _ e => e)
    rcases hz with rfl | rfl
    · omega
    · decide +kernel
  | @dc0 a e =>
    obtain rfl : u = Value.ref a := r
    obtain ⟨_, hs, vs, rr, o, es, ep, h1, h2, h3, _, h4, _⟩ := dk_of I.hok e
    cases rr
    refine obj_dict ⟨o, h1, h2.1⟩ (by omega) h1 h3 hs (.inl ?_) (fun tk0 tk z hz => k s.heap _ _ z (by omega) fun _ _ e => e)
    generalize he : es.toList = l at h4
    cases h4
    simpa using he
  | @dc1 a z v d e hz l =>
    obtain rfl : u = Value.ref a := r
    obtain ⟨_, hs, vs, rr, o, es, ep, h1, h2, h3, _, h4, _⟩ := dk_of I.hok e
    obtain ⟨en, t2, ee, ek, rv⟩ := one_entry rr h4
    obtain ⟨a1, a2, a3, a4⟩ := l.text (P := X.prog) (w := X.w) rv
    refine obj_dict ⟨o, h1, h2.1⟩ (by omega) h1 h3 hs (.inr ⟨en, reprText z, d.shown, ee, ?_, a1, by omega, by omega⟩) (fun tk0 tk z hz => k s.heap _ _ z (by omega) fun _ _ e => e)
    rw [ek]
    exact ReprIs.str z t2 (by omega)
/-- what is read of it -/
theorem OdV.reads (I : Inv X pins σ H s) {v : V} {d : PyData} {u : Value} (h : OdV H v d) (r : RelV v u) : ∃ as, Reads s.heap u d as ∧ (d.hasDict = true → sysModules ∉ as) ∧ d.showable = true ∧ d.depth ≤ 3 ∧ d.shown.length ≤ 4000 := by
  have lim : sizeLine = 16777216 := sizeLine_eq
  cases h with
  | lf l =>
    obtain ⟨a1, a2, a3, a4⟩ := l.text (P := X.prog) (w := X.w) r
    exact ⟨[], l.reads r, (by intro _ h; simp at h), a3, by omega, by omega⟩
  | @lst a xs ds e l n =>
    obtain rfl : u = Value.ref a := r
    obtain ⟨its, rv, p, hz⟩ := I.list (SqL.of e)
    obtain ⟨o, m, ho, hc, hd, hdat⟩ := p
    obtain ⟨a1, a2, a3, a4, a5, a6, a7⟩ := l.text (P := X.prog) (w := X.w) rv
    have tl := piled_list (PyData.shownAll ds)
    refine ⟨_, .list ho hc hdat (by simpa using l.reads (h := s.heap) rv), fun hd => ?_, by simpa only [PyData.showable] using a5, by simp only [PyData.depth]; omega, by simp only [PyData.shown]; omega⟩
    have := l.nod
    simp only [PyData.hasDict, this] at hd
    exact nomatch hd
  | @tup a xs ds e l n =>
    obtain rfl : u = Value.ref a := r
    obtain ⟨its, rv, p, hz⟩ := I.tuple (SqT.of e)
    obtain ⟨o, ho, hc, m, hdat⟩ := p
    obtain ⟨a1, a2, a3, a4, a5, a6, a7⟩ := l.text (P := X.prog) (w := X.w) rv
    have tl := piled_tup (PyData.shownAll ds)
    exact ⟨[], .tuple ho hc hdat (by simpa using l.reads (h := s.heap) rv), (by intro _ h; simp at h), by simpa only [PyData.showable] using a5, by simp only [PyData.depth]; omega, by simp only [PyData.shown]; exact Nat.le_trans tl (by omega)⟩
  | @dc0 a e =>
    obtain rfl : u = Value.ref a := r
    obtain ⟨_, hs, vs, rr, o, es, ep, h1, h2, h3, _, h4, _⟩ := dk_of I.hok e
    cases rr
    generalize he : es.toList = l at h4
    cases h4
    refine ⟨_, .dict (kvs := []) h1 h2.1 h3 (by rw [he]; exact .nil) (by rw [he]; exact .nil), fun _ hm => ?_, rfl, by decide +kernel, by decide +kernel⟩
    simp at hm
    rw [← hm] at hs
    simp at hs
  | @dc1 a z v d e hz l =>
    obtain rfl : u = Value.ref a := r
    obtain ⟨_, hs, vs, rr, o, es, ep, h1, h2, h3, _, h4, _⟩ := dk_of I.hok e
    obtain ⟨en, t2, ee, ek, rv⟩ := one_entry rr h4
    obtain ⟨a1, a2, a3, a4⟩ := l.text (P := X.prog) (w := X.w) rv
    subst ee
    refine ⟨_, .dict (kvs := [(.str z, d)]) h1 h2.1 h3 (.cons (by show Reads s.heap en.key (.str z) _; rw [ek]; exact .str z t2) .nil) (.cons (l.reads rv) .nil), fun _ hm => ?_, ?_, ?_, ?_⟩
    · simp at hm
      rw [← hm] at hs
      simp at hs
    · simp only [PyData.showable, PyData.showableKv, a3, Bool.and_self]
    · simp only [PyData.depth, PyData.depthKv]
      omega
    · exact Nat.le_trans (dict_one_len (x := reprText z) (y := d.shown) (by omega) (by omega)) (by decide)
end
section
variable {X : Cx}
/-- {x!r} of an odd value -/
def tFmtO (te : TE) : TE := fun σ H Q => te σ H fun x H1 => (∃ d, OdV H1 x d) ∧ ∀ y : Str, y.length ≤ 4000 → Q (.str y) H1
theorem pe_fmtO (hu : X.A.units + 64 < cLine) {e : Expr} {te : TE} {pos : Pos} (he : PE X e te) : PE X (.FormattedValue e 114 none pos) (tFmtO te) := by
  refine ⟨fun pins s σ H Q I h => ?_⟩
  refine wpAny_FormattedValue_repr (thn (he.run pins s σ H _ I h) fun v s1 hv => ?_)
  obtain ⟨x, H1, I1, r1, ⟨d, q0⟩, q⟩ := hv
  refine repr_odd I1 hu q0 r1 (fun hp tk0 tk z hz hk => ?_)
  have lim : sizeLine = 16777216 := sizeLine_eq
  exact wpAny_formatField_str ⟨.str _, H1, I1.kept (t' := tk) hk, ⟨_, rfl⟩, q _ hz⟩ ⟨.str _, H1, (I1.kept (t' := tk) hk).tok _, ⟨_, rfl⟩, q _ hz⟩ (by omega)
/-- repr(x), and repr([t, x]), x an odd value -/
def rReprO : List V → Hp → VK → Prop := fun xs H Q => rReprA xs H Q ∨ ∃ (l : Addr) (t : Str) (v : V) (d : PyData), xs = [.ref l] ∧ H l = some (.lst [.str t, v]) ∧ (reprText t).length ≤ 100 ∧ OdV H v d ∧ Q (.str (PyData.list [.str t, d]).shown) H
theorem call_reprO (hg : X.A.guards = some []) (hu : X.A.units + 64 < cLine) : CallR X (.builtin "repr") rReprO := by
  intro pins s σ H xs us Q I r h
  have lim : sizeLine = 16777216 := sizeLine_eq
  rcases h with h | ⟨l, t, v, d, rfl, hl, ht, hv, q⟩
  · exact call_reprA hg hu pins s σ H _ us Q I r h
  · obtain ⟨u, rfl, ru⟩ := vals1 r
    obtain rfl : u = Value.ref l := ru
    obtain ⟨its, rv, p, hz⟩ := I.list (SqL.of hl)
    obtain ⟨o, n, ho, hc, hd, hdat⟩ := p
    cases rv with
    | @cons _ u1 _ _ x1 x2 =>
      cases x2 with
      | @cons _ u2 _ _ y1 y2 =>
        cases y2
        obtain ⟨k1, rfl⟩ := (show ∃ k, u1 = Value.str t k from x1)
        obtain ⟨as, rd, sm, b1, b2, b3⟩ := hv.reads I y1
        have all : ReadsAll s.heap [Value.str t k1, u2] [.str t, d] ([] ++ (as ++ [])) := .cons (.str t k1) (.cons rd .nil)
        have rl : Reads s.heap (.ref l) (.list [.str t, d]) (l :: ([] ++ (as ++ []))) := .list ho hc hdat all
        have e2 : (PyData.list [.str t, d]).shown = listText (PyData.shownAll [.str t, d]) := by simp only [PyData.shown]
        have hz' : (listText (PyData.shownAll [.str t, d])).length ≤ sizeLine := by
          have := piled_list (PyData.shownAll [.str t, d])
          have e3 : piled (PyData.shownAll [.str t, d]) = (reprText t).length + 2 + (d.shown.length + 2 + 0) := by
            simp only [PyData.shownAll, PyData.shown, piled_cons]
            rfl
          omega
        have dep : PyData.depthAll [.str t, d] ≤ 4 := by simp only [PyData.depthAll, PyData.depth]; omega
        obtain ⟨bs, hbs, hk⟩ := ReprAllK.of_readsAll (prog := X.prog) (w := X.w) all (by simp only [PyData.showableAll, PyData.showable, b1, Bool.and_self]) (fun hd hm => sm (by simpa [PyData.hasDictAll, PyData.hasDict] using hd) (by simpa using hm)) (fun t ht => Nat.le_trans (listText_mem_le ht) hz')
        have hna : l ∉ bs := not_mem_of_deeper rl (by simp only [PyData.depth]; omega) hbs
        refine call_repr_slot (by omega) ⟨o, ho, hc⟩ F.slot_list_repr.toG (call_list_reprK (as := bs) (x := Value.str t k1) (l := [u2]) (ts := PyData.shownAll [.str t, d]) ho hc hdat hna (by simpa using hk.length_eq) (fun i y e => hk.item i y (by simpa using e)) (g := []) hg (fun b _ => Clear.nil b) (by show X.A.units + 1 + _ < cLine; omega) (fun _ _ e => e) (fun h' u tk k => ⟨_, _, rfl, ?_⟩) hz')
        exact ⟨.str (PyData.list [.str t, d]).shown, H, I.kept (t' := tk) k, ⟨u, rfl⟩, q⟩
end
end Nm
set_option autoImplicit false
set_option maxRecDepth 100000
set_option maxHeartbeats 8000000
/-! kept of an odd value -/
namespace Nm
open PySem PySem.Spec PyProof.Rows L2
theorem OdV.same {H H' : Hp} {v : V} {d : PyData} (h : OdV H v d) (s : Same H H') : OdV H' v d := by
  cases h with
  | lf l => exact .lf l
  | lst e l n => exact .lst (s _ _ e) l n
  | tup e l n => exact .tup (s _ _ e) l n
  | dc0 e => exact .dc0 (s _ _ e)
  | dc1 e hz l => exact .dc1 (s _ _ e) hz l
theorem Lfs.at {vs : List V} {ds : List PyData} (h : Lfs vs ds) : ∀ v ∈ vs, ∃ d, Lf v d := by
  induction h with
  | nil => intro v hv; cases hv
  | cons a t ih =>
    intro v hv
    rcases List.mem_cons.mp hv with rfl | hv
    · exact ⟨_, a⟩
    · exact ih v hv
/-- what of the heap an odd value is told by -/
def OdObj (o : HO) : Prop := (∃ xs, o = .lst xs) ∨ (∃ xs, o = .tup xs) ∨ ∃ kvs, o = .dK kvs
theorem OdV.obj {H : Hp} {v : V} {d : PyData} (h : OdV H v d) : (∀ a, v ≠ .ref a) ∨ ∃ a o, v = .ref a ∧ H a = some o ∧ OdObj o := by
  cases h with
  | lf l => exact .inl (fun a e => by subst e; cases l)
  | lst e l n => exact .inr ⟨_, _, rfl, e, .inl ⟨_, rfl⟩⟩
  | tup e l n => exact .inr ⟨_, _, rfl, e, .inr (.inl ⟨_, rfl⟩)⟩
  | dc0 e => exact .inr ⟨_, _, rfl, e, .inr (.inr ⟨_, rfl⟩)⟩
  | dc1 e hz l => exact .inr ⟨_, _, rfl, e, .inr (.inr ⟨_, rfl⟩)⟩
/-- it stays where its own object stays -/
theorem OdV.stay {H H' : Hp} {v : V} {d : PyData} (h : OdV H v d) (s : ∀ a o, v = .ref a → H a = some o → OdObj o → H' a = some o) : OdV H' v d := by
  cases h with
  | lf l => exact .lf l
  | lst e l n => exact .lst (s _ _ rfl e (.inl ⟨_, rfl⟩)) l n
  | tup e l n => exact .tup (s _ _ rfl e (.inr (.inl ⟨_, rfl⟩))) l n
  | dc0 e => exact .dc0 (s _ _ rfl e (.inr (.inr ⟨_, rfl⟩)))
  | dc1 e hz l => exact .dc1 (s _ _ rfl e (.inr (.inr ⟨_, rfl⟩))) hz l
section
variable {P : Program} {w : World} {K : PySem.W.Frag} {mg : Str → Option Value} {base : Heap}
def spKeptL : Sp := fun vs H Q _ => ∃ (x : V) (d : PyData), vs = [x] ∧ Lf x d ∧ Q x H
theorem ok_keptL {f : Addr} {fd : FuncData} (F : Fun K "kept" "kept" sKept f fd) (T : TxtKe mg) : FnOk P w K mg base CX0 1 f fd ["value"] spKeptL := by
  refine F.ok scKe (fun vs H Q E h => ?_) (fun cdv A outer s H vs Q E hr h => ?_)
  · obtain ⟨_, _, rfl, _⟩ := h
    rfl
  · obtain ⟨x, d, rfl, hx, k⟩ := h
    refine ⟨_, pss_cons (ps_if (pt_val (pe_callB call_isi (by rfl) T.isinstance (by decide +kernel) (pa_cons (pv 0) (pa_cons (pe_bltn (v := .ty "list") (by rfl) T.list (by decide +kernel) rfl) pa_nil)))) pss_no pss_nil)
      (pss_cons (ps_if (pt_val (pe_callB call_isi (by rfl) T.isinstance (by decide +kernel) (pa_cons (pv 0) (pa_cons (pe_bltn (v := .ty "tuple") (by rfl) T.tuple (by decide +kernel) rfl) pa_nil)))) pss_no pss_nil)
      (pss_cons (ps_if (pt_val (pe_callB call_isi (by rfl) T.isinstance (by decide +kernel) (pa_cons (pv 0) (pa_cons (pe_bltn (v := .ty "dict") (by rfl) T.dict (by decide +kernel) rfl) pa_nil)))) pss_no pss_nil)
      (pss_one (ps_ret (pv 0))))), ?_⟩
    cases hx with
    | non =>
      refine ⟨_, rfl, _, _, _, _, false, rfl, ClsV.ty "list", TyX.base TyOf.non, kit_ty (by decide +kernel), _, rfl, iteF ?_⟩
      refine ⟨_, rfl, _, _, _, _, false, rfl, ClsV.ty "tuple", TyX.base TyOf.non, kit_ty (by decide +kernel), _, rfl, iteF ?_⟩
      refine ⟨_, rfl, _, _, _, _, false, rfl, ClsV.ty "dict", TyX.base TyOf.non, kit_ty (by decide +kernel), _, rfl, iteF ?_⟩
      exact ⟨_, rfl, k⟩
    | bl b =>
      refine ⟨_, rfl, _, _, _, _, false, rfl, ClsV.ty "list", TyX.base (TyOf.bl b), kit_ty (by decide +kernel), _, rfl, iteF ?_⟩
      refine ⟨_, rfl, _, _, _, _, false, rfl, ClsV.ty "tuple", TyX.base (TyOf.bl b), kit_ty (by decide +kernel), _, rfl, iteF ?_⟩
      refine ⟨_, rfl, _, _, _, _, false, rfl, ClsV.ty "dict", TyX.base (TyOf.bl b), kit_ty (by decide +kernel), _, rfl, iteF ?_⟩
      exact ⟨_, rfl, k⟩
    | int hi =>
      refine ⟨_, rfl, _, _, _, _, false, rfl, ClsV.ty "list", TyX.base (TyOf.int _), kit_ty (by decide +kernel), _, rfl, iteF ?_⟩
      refine ⟨_, rfl, _, _, _, _, false, rfl, ClsV.ty "tuple", TyX.base (TyOf.int _), kit_ty (by decide +kernel), _, rfl, iteF ?_⟩
      refine ⟨_, rfl, _, _, _, _, false, rfl, ClsV.ty "dict", TyX.base (TyOf.int _), kit_ty (by decide +kernel), _, rfl, iteF ?_⟩
      exact ⟨_, rfl, k⟩
    | str hz hn =>
      refine ⟨_, rfl, _, _, _, _, false, rfl, ClsV.ty "list", TyX.base (TyOf.str _), kit_ty (by decide +kernel), _, rfl, iteF ?_⟩
      refine ⟨_, rfl, _, _, _, _, false, rfl, ClsV.ty "tuple", TyX.base (TyOf.str _), kit_ty (by decide +kernel), _, rfl, iteF ?_⟩
      refine ⟨_, rfl, _, _, _, _, false, rfl, ClsV.ty "dict", TyX.base (TyOf.str _), kit_ty (by decide +kernel), _, rfl, iteF ?_⟩
      exact ⟨_, rfl, k⟩
theorem valV_cut {kvs : List (Key × V)} (nd : (kvs.map (·.1)).Nodup) {i : Nat} {key : Key} {v : V} (h : kvs[i]? = some (key, v)) : valV (kvs.take i) key = none := by
  refine val_none_of fun hm => ?_
  rw [List.map_take] at hm
  obtain ⟨hlt, e⟩ := List.getElem?_eq_some_iff.mp h
  have e2 : kvs.map (·.1) = (kvs.map (·.1)).take i ++ key :: (kvs.map (·.1)).drop (i + 1) := by
    have e3 : (kvs.map (·.1))[i]? = some key := by rw [List.getElem?_map, h]; rfl
    obtain ⟨hlt2, e4⟩ := List.getElem?_eq_some_iff.mp e3
    rw [← e4, ← List.drop_eq_getElem_cons, List.take_append_drop]
  rw [e2] at nd
  exact (List.nodup_append.mp nd).2.2 key hm key List.mem_cons_self rfl
/-- the dict's own turn -/
theorem kept_dict {H : Hp} {a : Addr} {kvs : List (Key × V)} {Q : VK} (e : H a = some (.dK kvs)) (n : kvs.length ≤ 9) (nd : (kvs.map (·.1)).Nodup) (lf : ∀ p ∈ kvs, ∃ d, Lf p.2 d)
    (k : ∀ (D : Addr) (H' : Hp), H' D = some (.dK kvs) → Same H H' → Q (.ref D) H') {b1 b2 : Option V} :
    tLockE (tDc (iKeys (tVar 0)) (gName 2) tYes (tVar 2) (tCall spKeptL [] E0 (tCons (tDGet (tVar 0) (tVar 2)) tNil)) [2]) [some (V.ref a), b1, b2] H Q := by
  refine ⟨a, _, e, trivial, fun od => ?_⟩
  refine ⟨_, rfl, a, od, rfl, .inl ⟨kvs, upd_same, fun D hD => ?_⟩⟩
  have nDa : D ≠ a := fun e => by subst e; rw [upd_same] at hD; cases hD
  have hD0 : H D = none := by rw [upd_ne nDa] at hD; exact hD
  have ha2 : (upd H a (.frz od (.dK kvs))) a = some (.frz od (.dK kvs)) := upd_same
  have back1 : ∀ H2, Same (upd H a (.frz od (.dK kvs))) H2 → Same H (upd H2 a (.dK kvs)) := fun H2 s2 c o e1 => by
    by_cases ec : c = a
    · subst ec
      rw [upd_same, ← e]
      exact e1
    · rw [upd_ne ec]
      exact s2 _ _ (by rw [upd_ne ec]; exact e1)
  generalize upd H a (.frz od (.dK kvs)) = Hl at *
  refine dc_walk walk_keys (fun i H2 => H2 D = some (.dK (kvs.take i)) ∧ Same Hl H2) ⟨upd_same, same_new hD⟩ (fun i H2 _ ⟨_, h⟩ => h _ _ ha2) ?_ ?_
  · rintro i x H2 H3 hi ⟨hD2, s2⟩ ⟨rfl, key, v, hkv, rfl⟩
    obtain ⟨dv, hv⟩ := lf _ (List.mem_of_getElem? hkv)
    refine ⟨rfl, tyes ?_⟩
    refine ⟨_, rfl, _, rfl, _, rfl, a, v, rfl, ?_, v, dv, rfl, hv, ?_⟩
    · have g := val_of_mem nd (List.mem_of_getElem? hkv)
      exact .inl ⟨kvs, key, .inr ⟨od, s2 _ _ ha2⟩, rfl, g.symm⟩
    · refine ⟨_, key, rfl, hD2, Evl.sz_lt (by rw [List.length_take]; omega), ?_, same_off s2 hD⟩
      rw [upd_same, putK_new _ (valV_cut nd hkv), List.take_add_one, hkv]
      rfl
  · rintro H2 ⟨hD2, s2⟩
    rw [List.take_length] at hD2
    exact ⟨s2 _ _ ha2, k D _ (by rw [upd_ne nDa]; exact hD2) (back1 H2 s2)⟩
/-- a new value that tells the same -/
def spKeptO : Sp := fun vs H Q _ => ∃ (x : V) (d : PyData), vs = [x] ∧ OdV H x d ∧ ∀ (y : V) (H' : Hp), OdV H' y d → Same H H' → Q y H'
theorem ok_keptO {f : Addr} {fd : FuncData} (F : Fun K "kept" "kept" sKept f fd) (T : TxtKe mg) (Gk : Def P w K mg base "kept" ["value"] 1 spKeptL) : FnOk P w K mg base CX0 2 f fd ["value"] spKeptO := by
  obtain ⟨fk, fdk, Gk, mk, kk, bk⟩ := Gk.ex
  refine F.ok scKe2 (fun vs H Q E h => ?_) (fun cdv A outer s H vs Q E hr h => ?_)
  · obtain ⟨_, _, rfl, _⟩ := h
    rfl
  · obtain ⟨x, d, rfl, hx, k⟩ := h
    have hu := hu_of hr
    refine ⟨_, pss_cons (ps_if (pt_val (pe_callB call_isi (by rfl) T.isinstance (by decide +kernel) (pa_cons (pv 0) (pa_cons (pe_bltn (v := .ty "list") (by rfl) T.list (by decide +kernel) rfl) pa_nil))))
        (pss_one (ps_ret (pe_lc (own := [("part", 1)]) (g := gName 1) (tt := tYes) (te := tCall spKeptL [] E0 (tCons (tVar 1) tNil)) rfl scKe2.nd (pi_list (pv 0)) (blkOk_by (N := nKe) (sc := defScope sKept) (by decide +kernel)) (fun _ _ _ _ _ => pg_name (i := 1) scKe2.nd rfl (Or.inl rfl)) (fun _ _ _ _ _ => pts_nil)
          (fun _ _ _ _ _ => by exact pe_call Gk (hr.mono (by decide)) (by rfl) mk kk bk .nil pass0 (pa_cons (pv 1) pa_nil))))) pss_nil)
      (pss_cons (ps_if (pt_val (pe_callB call_isi (by rfl) T.isinstance (by decide +kernel) (pa_cons (pv 0) (pa_cons (pe_bltn (v := .ty "tuple") (by rfl) T.tuple (by decide +kernel) rfl) pa_nil))))
        (pss_one (ps_ret (pe_callTy call_tuple_of (by rfl) T.tuple (by decide +kernel) (pa_cons (pe_lc (own := [("part", 1)]) (g := gName 1) (tt := tYes) (te := tCall spKeptL [] E0 (tCons (tVar 1) tNil)) rfl scKe2.nd (pi_tup (pv 0)) (blkOk_by (N := nKe) (sc := defScope sKept) (by decide +kernel)) (fun _ _ _ _ _ => pg_name (i := 1) scKe2.nd rfl (Or.inl rfl)) (fun _ _ _ _ _ => pts_nil)
          (fun _ _ _ _ _ => by exact pe_call Gk (hr.mono (by decide)) (by rfl) mk kk bk .nil pass0 (pa_cons (pv 1) pa_nil))) pa_nil)))) pss_nil)
      (pss_cons (ps_if (pt_val (pe_callB call_isi (by rfl) T.isinstance (by decide +kernel) (pa_cons (pv 0) (pa_cons (pe_bltn (v := .ty "dict") (by rfl) T.dict (by decide +kernel) rfl) pa_nil))))
        (pss_one (ps_ret (pe_lock (pe_dc (own := [("key", 2)]) (g := gName 2) (tt := tYes) (tk := tVar 2) (tv := tCall spKeptL [] E0 (tCons (tDGet (tVar 0) (tVar 2)) tNil)) rfl scKe2.nd (pi_keys (pv 0)) (blkOk_by (N := nKe) (sc := defScope sKept) (by decide +kernel))
          (fun _ _ _ _ _ => pg_name (i := 2) scKe2.nd rfl (Or.inl rfl)) (fun _ _ _ _ _ => pts_nil) (fun _ _ _ _ _ => pv 2) (fun _ _ _ _ _ => by exact pe_call Gk (hr.mono (by decide)) (by rfl) mk kk bk .nil pass0 (pa_cons (pe_dget hu (pv 0) (pv 2) (fun _ _ => rfl)) pa_nil)))))) pss_nil)
      (pss_one (ps_ret (pv 0))))), ?_⟩
    cases hx with
    | lf l =>
      cases l with
      | non =>
        refine ⟨_, rfl, _, _, _, _, false, rfl, ClsV.ty "list", TyX.base TyOf.non, kit_ty (by decide +kernel), _, rfl, iteF ?_⟩
        refine ⟨_, rfl, _, _, _, _, false, rfl, ClsV.ty "tuple", TyX.base TyOf.non, kit_ty (by decide +kernel), _, rfl, iteF ?_⟩
        refine ⟨_, rfl, _, _, _, _, false, rfl, ClsV.ty "dict", TyX.base TyOf.non, kit_ty (by decide +kernel), _, rfl, iteF ?_⟩
        exact ⟨_, rfl, k _ _ (.lf .non) fun _ _ e => e⟩
      | bl b =>
        refine ⟨_, rfl, _, _, _, _, false, rfl, ClsV.ty "list", TyX.base (TyOf.bl b), kit_ty (by decide +kernel), _, rfl, iteF ?_⟩
        refine ⟨_, rfl, _, _, _, _, false, rfl, ClsV.ty "tuple", TyX.base (TyOf.bl b), kit_ty (by decide +kernel), _, rfl, iteF ?_⟩
        refine ⟨_, rfl, _, _, _, _, false, rfl, ClsV.ty "dict", TyX.base (TyOf.bl b), kit_ty (by decide +kernel), _, rfl, iteF ?_⟩
        exact ⟨_, rfl, k _ _ (.lf (.bl b)) fun _ _ e => e⟩
      | int hi =>
        refine ⟨_, rfl, _, _, _, _, false, rfl, ClsV.ty "list", TyX.base (TyOf.int _), kit_ty (by decide +kernel), _, rfl, iteF ?_⟩
        refine ⟨_, rfl, _, _, _, _, false, rfl, ClsV.ty "tuple", TyX.base (TyOf.int _), kit_ty (by decide +kernel), _, rfl, iteF ?_⟩
        refine ⟨_, rfl, _, _, _, _, false, rfl, ClsV.ty "dict", TyX.base (TyOf.int _), kit_ty (by decide +kernel), _, rfl, iteF ?_⟩
        exact ⟨_, rfl, k _ _ (.lf (.int hi)) fun _ _ e => e⟩
      | str hz hn =>
        refine ⟨_, rfl, _, _, _, _, false, rfl, ClsV.ty "list", TyX.base (TyOf.str _), kit_ty (by decide +kernel), _, rfl, iteF ?_⟩
        refine ⟨_, rfl, _, _, _, _, false, rfl, ClsV.ty "tuple", TyX.base (TyOf.str _), kit_ty (by decide +kernel), _, rfl, iteF ?_⟩
        refine ⟨_, rfl, _, _, _, _, false, rfl, ClsV.ty "dict", TyX.base (TyOf.str _), kit_ty (by decide +kernel), _, rfl, iteF ?_⟩
        exact ⟨_, rfl, k _ _ (.lf (.str hz hn)) fun _ _ e => e⟩
    | @lst a xs ds e l n =>
      refine ⟨_, rfl, _, _, _, _, true, rfl, ClsV.ty "list", TyX.base (TyOf.lst e), kit_ty (by decide +kernel), _, rfl, iteT ?_⟩
      refine ⟨_, rfl, a, rfl, ⟨_, SqL.of e⟩, fun D hD => ?_⟩
      refine lc_list (xs := xs) (fun i H1 => H1 D = some (.lst (xs.take i)) ∧ Same H H1) ⟨upd_same, same_new hD⟩ (fun i H1 _ ⟨_, h⟩ => SqL.of (h _ _ e)) ?_ ?_
      · rintro i v H1 hi ⟨hD1, s1⟩
        obtain ⟨dv, hv⟩ := l.at v (List.mem_of_getElem? hi)
        refine ⟨rfl, tyes ?_⟩
        refine ⟨_, rfl, v, dv, rfl, hv, _, hD1, Evl.sz_lt (by rw [List.length_take]; omega), ?_, same_off s1 hD⟩
        rw [upd_same, List.take_add_one, hi]
        rfl
      · rintro H1 ⟨hD1, s1⟩
        rw [List.take_length] at hD1
        exact k _ _ (.lst hD1 l n) s1
    | @tup a xs ds e l n =>
      refine ⟨_, rfl, _, _, _, _, false, rfl, ClsV.ty "list", TyX.base (TyOf.tup e), kit_ty (by decide +kernel), _, rfl, iteF ?_⟩
      refine ⟨_, rfl, _, _, _, _, true, rfl, ClsV.ty "tuple", TyX.base (TyOf.tup e), kit_ty (by decide +kernel), _, rfl, iteT ?_⟩
      refine ⟨_, rfl, a, rfl, ⟨_, SqT.of e⟩, fun D hD => ?_⟩
      refine lc_tup (xs := xs) (fun i H1 => H1 D = some (.lst (xs.take i)) ∧ Same H H1) ⟨upd_same, same_new hD⟩ (fun i H1 _ ⟨_, h⟩ => SqT.of (h _ _ e)) ?_ ?_
      · rintro i v H1 hi ⟨hD1, s1⟩
        obtain ⟨dv, hv⟩ := l.at v (List.mem_of_getElem? hi)
        refine ⟨rfl, tyes ?_⟩
        refine ⟨_, rfl, v, dv, rfl, hv, _, hD1, Evl.sz_lt (by rw [List.length_take]; omega), ?_, same_off s1 hD⟩
        rw [upd_same, List.take_add_one, hi]
        rfl
      · rintro H1 ⟨hD1, s1⟩
        rw [List.take_length] at hD1
        refine ⟨D, xs, rfl, .inl ⟨SqL.of hD1, fun r hr0 => ?_⟩⟩
        exact k _ _ (.tup upd_same l n) (same_off s1 (s1.free hr0) |> fun z => z)
    | @dc0 a e =>
      refine ⟨_, rfl, _, _, _, _, false, rfl, ClsV.ty "list", TyX.base (TyOf.dK e), kit_ty (by decide +kernel), _, rfl, iteF ?_⟩
      refine ⟨_, rfl, _, _, _, _, false, rfl, ClsV.ty "tuple", TyX.base (TyOf.dK e), kit_ty (by decide +kernel), _, rfl, iteF ?_⟩
      refine ⟨_, rfl, _, _, _, _, true, rfl, ClsV.ty "dict", TyX.base (TyOf.dK e), kit_ty (by decide +kernel), _, rfl, iteT ?_⟩
      exact kept_dict (kvs := []) e (by simp) List.nodup_nil (fun p hp => (List.not_mem_nil hp).elim) fun D H' hD s => k _ _ (.dc0 hD) s
    | @dc1 a z v d e hz l =>
      refine ⟨_, rfl, _, _, _, _, false, rfl, ClsV.ty "list", TyX.base (TyOf.dK e), kit_ty (by decide +kernel), _, rfl, iteF ?_⟩
      refine ⟨_, rfl, _, _, _, _, false, rfl, ClsV.ty "tuple", TyX.base (TyOf.dK e), kit_ty (by decide +kernel), _, rfl, iteF ?_⟩
      refine ⟨_, rfl, _, _, _, _, true, rfl, ClsV.ty "dict", TyX.base (TyOf.dK e), kit_ty (by decide +kernel), _, rfl, iteT ?_⟩
      exact kept_dict e (by simp) (by simp) (fun p hp => by
        obtain rfl := List.mem_singleton.mp hp
        exact ⟨_, l⟩) fun D H' hD s => k _ _ (.dc1 hD hz l) s
end
end Nm
set_option autoImplicit false
set_option maxRecDepth 100000
set_option maxHeartbeats 4000000
/-! BadNumber.__init__ and BadName.__init__ of odd values; what is raised -/
namespace Nm
open PySem PySem.Spec PyProof.Rows L2
section
variable {P : Program} {w : World} {K : PySem.W.Frag} {mg : Str → Option Value} {base : Heap}
def spOddI (C : Addr) (fld : Str) : Sp := fun vs H Q _ => ∃ (a : Addr) (x : V) (d : PyData), vs = [.ref a, x] ∧ OdV H x d ∧ H a = some (exo a C none) ∧ ∀ (y : V) (H1 : Hp) (dx : Addr), OdV H1 y d → Same H H1 → H1 dx = none → dx ≠ a → Q .non (upd (upd H1 dx (exd dx [(fld, y)])) a (exo a C (some dx)))
theorem ssNum : SupS "self" "number" (defScope sBadNumberInit) := ⟨rfl, rfl, rfl, by decide, rfl, rfl, by decide +kernel, by decide +kernel, rfl, rfl⟩
theorem ssNam : SupS "self" "name" (defScope sBadNameInit) := ⟨rfl, rfl, rfl, by decide, rfl, rfl, by decide +kernel, by decide +kernel, rfl, rfl⟩
/-- an exception's own objects are none of an odd value's -/
theorem odd_apart {H1 : Hp} {y : V} {d : PyData} {a dx C : Addr} {fs : List (Str × V)} {o1 : Option Addr} (h : OdV H1 y d) (ha : H1 a = some (exo a C o1)) (hd : H1 dx = none) : OdV (upd (upd H1 dx (exd dx fs)) a (exo a C (some dx))) y d := by
  refine h.stay fun b o e hb ho => ?_
  have n1 : b ≠ a := fun z => by
    subst z
    rw [ha] at hb
    rcases ho with ⟨_, rfl⟩ | ⟨_, rfl⟩ | ⟨_, rfl⟩ <;> cases hb
  rw [upd_ne n1, upd_ne (ne_of_none hb hd)]
  exact hb
theorem ok_numO {C f cda cc : Addr} {fd : FuncData} (F : SupF P K C f cda cc fd "BadNumber.__init__" sBadNumberInit "self") (X0 : XfC K C) (nN : PySem.W.findIn K (.ref C) "number" = some none) (hms : mg "super" = none)
    (Gk : Def P w K mg base "kept" ["value"] 2 spKeptO) : FnOk P w K mg base CX0 3 f fd ["self", "number"] (spOddI C "number") := by
  obtain ⟨fk, fdk, Gk, mk, kk, bk⟩ := Gk.ex
  refine sup_def (k := 2) F ssNum hms rfl (fun vs H Q E h => ?_) (fun A outer s H vs Q E hr h => ?_)
  · obtain ⟨_, _, _, rfl, _⟩ := h
    rfl
  · obtain ⟨a, x, d, rfl, hx, ha, k⟩ := h
    refine ⟨a, _, _, ps_ost (pv 0) (pe_call Gk hr (by rfl) mk kk bk .nil pass0 (pa_cons (pv 1) pa_nil)), pa_cons (pe_joined (PJ.cons pe_str (PJ.cons (pe_fmtO hr.units (pe_exoF (pv 0))) PJ.nil))) pa_nil, ?_⟩
    refine ⟨_, rfl, x, d, rfl, hx, fun y H1 ky s1 => ?_⟩
    refine ⟨_, rfl, a, C, rfl, F.oex, nN, .inl ⟨s1 _ _ ha, fun dx hd hda => ⟨rfl, dx, upd_same, fun R hR => ?_⟩⟩⟩
    have hd2 : (upd (upd H1 dx (exd dx [("number", y)])) a (exo a C (some dx))) dx = some (exd dx [("number", y)]) := by
      rw [upd_ne hda]
      exact upd_same
    refine ⟨_, rfl, (by decide +kernel), _, rfl, a, C, dx, _, _, rfl, X0, nN, upd_same, hd2, rfl, ⟨d, odd_apart ky (s1 _ _ ha) hd⟩, fun z hz => ⟨_, rfl, ?_, ?_⟩⟩
    · rw [strLen_append, strLen_append, sizeLine_eq]
      have e1 : Str.empty.length = 0 := rfl
      have e2 : ("a wrong number, length or place in a list: " : Str).length = 43 := by decide +kernel
      omega
    · exact hR _ _ (by show (1 : Nat) ≤ 1000; decide) upd_same (k y H1 dx ky s1 hd hda)
theorem ok_namO {C f cda cc : Addr} {fd : FuncData} (F : SupF P K C f cda cc fd "BadName.__init__" sBadNameInit "self") (X0 : XfC K C) (nN : PySem.W.findIn K (.ref C) "name" = some none) (hms : mg "super" = none)
    (Gk : Def P w K mg base "kept" ["value"] 2 spKeptO) : FnOk P w K mg base CX0 3 f fd ["self", "name"] (spOddI C "name") := by
  obtain ⟨fk, fdk, Gk, mk, kk, bk⟩ := Gk.ex
  refine sup_def (k := 2) F ssNam hms rfl (fun vs H Q E h => ?_) (fun A outer s H vs Q E hr h => ?_)
  · obtain ⟨_, _, _, rfl, _⟩ := h
    rfl
  · obtain ⟨a, x, d, rfl, hx, ha, k⟩ := h
    refine ⟨a, _, _, ps_ost (pv 0) (pe_call Gk hr (by rfl) mk kk bk .nil pass0 (pa_cons (pv 1) pa_nil)), pa_cons (pe_joined (PJ.cons pe_str (PJ.cons (pe_fmtO hr.units (pe_exoF (pv 0))) PJ.nil))) pa_nil, ?_⟩
    refine ⟨_, rfl, x, d, rfl, hx, fun y H1 ky s1 => ?_⟩
    refine ⟨_, rfl, a, C, rfl, F.oex, nN, .inl ⟨s1 _ _ ha, fun dx hd hda => ⟨rfl, dx, upd_same, fun R hR => ?_⟩⟩⟩
    have hd2 : (upd (upd H1 dx (exd dx [("name", y)])) a (exo a C (some dx))) dx = some (exd dx [("name", y)]) := by
      rw [upd_ne hda]
      exact upd_same
    refine ⟨_, rfl, (by decide +kernel), _, rfl, a, C, dx, _, _, rfl, X0, nN, upd_same, hd2, rfl, ⟨d, odd_apart ky (s1 _ _ ha) hd⟩, fun z hz => ⟨_, rfl, ?_, ?_⟩⟩
    · rw [strLen_append, strLen_append, sizeLine_eq]
      have e1 : Str.empty.length = 0 := rfl
      have e2 : ("not a word: " : Str).length = 12 := by decide +kernel
      omega
    · exact hR _ _ (by show (1 : Nat) ≤ 1000; decide) upd_same (k y H1 dx ky s1 hd hda)
/-- BadNumber, BadName: the class (its name, its field) -/
structure TxtOdd (P : Program) (w : World) (K : PySem.W.Frag) (mg : Str → Option Value) (base : Heap) (CB : Addr) (nm fld : Str) : Prop where
  mB : mg nm = some (.ref CB)
  oex : OexC K CB
  xf : XfC K CB
  nNu : PySem.W.findIn K (.ref CB) fld = some none
  ini : ∃ f fd, PySem.W.findIn K (.ref CB) "__init__" = some (some (.ref f)) ∧ PySem.W.typeIn K (.ref f) = some (.type "function") ∧ FnOk P w K mg base CX0 3 f fd ["self", fld] (spOddI CB fld) ∧ Binds K fd ["self", fld] []
theorem raise_odd {CB : Addr} {fld : Str} {H H4 : Hp} {a : Addr} {x : V} {d : PyData} {E : XK} (hx : OdV H4 x d) (ha : H4 a = none) (s : Same H H4) (ke : ∀ (dx : Addr) (y : V) (H' : Hp), H' dx = some (.xd [(fld, y)]) → OdV H' y d → Same H H' → E (.ref CB) (some dx) H') :
    spOddI CB fld (V.ref a :: ([x] ++ [])) (upd H4 a (exo a CB none)) (fun v H2 => v = .non ∧ ∃ (d : Addr) (fs : List (Str × V)), H2 a = some (exo a CB (some d)) ∧ H2 d = some (exd d fs) ∧ H4 d = none ∧ E (.ref CB) (some d) (upd (del H2 a) d (.xd fs))) (fun _ _ _ => False) := by
  have sa := same_new (o := exo a CB none) ha
  refine ⟨a, x, d, rfl, hx.same sa, upd_same, fun y H1 dx ky s1 hd hda => ?_⟩
  have s2 : Same H4 H1 := sa.trans s1
  have hd4 : H4 dx = none := s2.free hd
  have hb : ∀ b o, H1 b = some o → b ≠ a → upd (del (upd (upd H1 dx (exd dx [(fld, y)])) a (exo a CB (some dx))) a) dx (.xd [(fld, y)]) b = some o := fun b o e n1 => by
    have n2 : b ≠ dx := ne_of_none e hd
    rw [upd_ne n2, del_ne n1, upd_ne n1, upd_ne n2]
    exact e
  refine ⟨rfl, dx, _, upd_same, by rw [upd_ne hda]; exact upd_same, hd4, ke dx y _ upd_same ?_ fun b o e => ?_⟩
  · refine ky.stay fun b o e1 e2 ho => hb b o e2 fun z => ?_
    subst z
    rw [s1 _ _ upd_same] at e2
    rcases ho with ⟨_, rfl⟩ | ⟨_, rfl⟩ | ⟨_, rfl⟩ <;> cases e2
  · exact hb b o (s2 _ _ (s _ _ e)) (ne_of_none (s _ _ e) ha)
end
end Nm
set_option autoImplicit false
set_option maxRecDepth 100000
set_option maxHeartbeats 8000000
/-! is_word, need_word, is_number of odd values -/
namespace Nm
open PySem PySem.Spec PyProof.Rows L2
/-- whether it is a word -/
def wordO : V → Bool
  | .str z => isWordB z
  | _ => false
section
variable {P : Program} {w : World} {K : PySem.W.Frag} {mg : Str → Option Value} {base : Heap}
def spWordO : Sp := fun vs H Q _ => ∃ (x : V) (d : PyData), vs = [x] ∧ OdV H x d ∧ ∀ H', Same H H' → Q (.bl (wordO x)) H'
theorem ok_wordO {f : Addr} {fd : FuncData} (F : Fun K "is_word" "is_word" sIsWord f fd) (T : TxtG mg) : FnOk P w K mg base CX0 1 f fd ["value"] spWordO := by
  obtain ⟨tl, Tl⟩ := T.letters
  obtain ⟨td, Td⟩ := T.digits
  refine F.ok scWord (fun vs H Q E h => ?_) (fun cdv A outer s H vs Q E hr h => ?_)
  · obtain ⟨_, _, rfl, _⟩ := h
    rfl
  · obtain ⟨x, d, rfl, hx, k⟩ := h
    refine ⟨_, pss_cons (ps_if (pt_not (pt_val (pe_callB call_isi (by rfl) T.isinstance (by decide +kernel) (pa_cons (pv 0) (pa_cons (pe_bltn (v := .ty "str") (by rfl) T.str (by decide +kernel) rfl) pa_nil))))) (pss_one (ps_ret pe_bl)) pss_nil)
      (pss_cons (ps_set (i := 1) scWord.nd rfl (Or.inl rfl) (pe_bm PySem.F.plainAttrs_str PySem.F.slot_str_rstrip PySem.F.type_str_rstrip mt_rstripChars (pv 0) (pa_cons (pe_glob (v := .str "0123456789") (by rfl) Td ⟨_, rfl⟩) pa_nil)))
      (pss_cons (ps_if (PW.pt (pw_or (pt_not (pt_chain op_le op_le pe_int (pe_callB call_len_str (by rfl) T.len PySem.boot_len (pa_cons (pv 1) pa_nil)) pe_int)) (pw_or1 (pt_cmpR op_gt (pe_op op_sub (pe_callB call_len_str (by rfl) T.len PySem.boot_len (pa_cons (pv 0) pa_nil)) (pe_callB call_len_str (by rfl) T.len PySem.boot_len (pa_cons (pv 1) pa_nil))) pe_int (nomark _))))) (pss_one (ps_ret pe_bl)) pss_nil)
      (pss_one (ps_ret (pe_callB (cr_all rfl) (by rfl) T.all (by decide +kernel) (pa_cons (pe_lc (own := [("letter", 2)]) (g := gName 2) (tt := tYes) rfl scWord.nd (pi_str (pv 1))
          (blkOk_by (N := nWord) (sc := defScope sIsWord) (by decide +kernel)) (fun _ _ _ _ _ => pg_name (i := 2) scWord.nd rfl (Or.inl rfl)) (fun _ _ _ _ _ => pts_nil)
          (fun _ _ _ _ _ => pe_cmpR op_in_sign (pv 2) (pe_glob (v := .str "abcdefghijklmnopqrstuvwxyz") (by rfl) Tl ⟨_, rfl⟩) (by rfl))) pa_nil)))))), ?_⟩
    cases hx with
    | lst e l n =>
      refine ⟨_, rfl, _, _, _, _, false, rfl, ClsV.ty "str", TyX.base (TyOf.lst e), kit_ty (by decide +kernel), _, rfl, iteT ?_⟩
      exact k H fun _ _ e => e
    | tup e l n =>
      refine ⟨_, rfl, _, _, _, _, false, rfl, ClsV.ty "str", TyX.base (TyOf.tup e), kit_ty (by decide +kernel), _, rfl, iteT ?_⟩
      exact k H fun _ _ e => e
    | dc0 e =>
      refine ⟨_, rfl, _, _, _, _, false, rfl, ClsV.ty "str", TyX.base (TyOf.dK e), kit_ty (by decide +kernel), _, rfl, iteT ?_⟩
      exact k H fun _ _ e => e
    | dc1 e hz l =>
      refine ⟨_, rfl, _, _, _, _, false, rfl, ClsV.ty "str", TyX.base (TyOf.dK e), kit_ty (by decide +kernel), _, rfl, iteT ?_⟩
      exact k H fun _ _ e => e
    | lf l =>
      cases l with
      | non =>
        refine ⟨_, rfl, _, _, _, _, false, rfl, ClsV.ty "str", TyX.base TyOf.non, kit_ty (by decide +kernel), _, rfl, iteT ?_⟩
        exact k H fun _ _ e => e
      | bl b =>
        refine ⟨_, rfl, _, _, _, _, false, rfl, ClsV.ty "str", TyX.base (TyOf.bl b), kit_ty (by decide +kernel), _, rfl, iteT ?_⟩
        exact k H fun _ _ e => e
      | int hi =>
        refine ⟨_, rfl, _, _, _, _, false, rfl, ClsV.ty "str", TyX.base (TyOf.int _), kit_ty (by decide +kernel), _, rfl, iteT ?_⟩
        exact k H fun _ _ e => e
      | @str z hz hn =>
        refine ⟨_, rfl, _, _, _, _, true, rfl, ClsV.ty "str", TyX.base (TyOf.str z), kit_ty (by decide +kernel), _, rfl, iteF ?_⟩
        have hle : (letB z).length ≤ z.length := PyProof.Rows.len_rstripChars z _
        have k : ∀ H', Same H H' → Q (.bl (isWordB z)) H' := k
        have hw : isWordB z = (decide (1 ≤ (letB z).length) && decide ((letB z).length ≤ 8) && decide (z.length ≤ (letB z).length + 4) && (letB z).cps.toList.all (fun c => decide (c ∈ ("abcdefghijklmnopqrstuvwxyz" : Str).cps.toList))) := by
          unfold isWordB
          rw [decide_eq_true hn, Bool.true_and]
        refine ⟨_, rfl, ?_, _, _, rfl, rfl, Evl.sz_of (by omega), ?_⟩
        · rfl
        refine ⟨_, rfl, _, rfl, Evl.sz_of (show (letB z).length ≤ 100000 by omega), _, _, rfl, rfl, _, rfl, ?_⟩
        show (if decide ((1 : Int) ≤ ((letB z).length : Int)) = true then _ else _)
        by_cases h1 : 1 ≤ (letB z).length
        · rw [if_pos (decide_eq_true (by omega))]
          refine ⟨_, _, rfl, rfl, _, rfl, ?_⟩
          show (if (!decide (((letB z).length : Int) ≤ 8)) = true then _ else _)
          by_cases h8 : (letB z).length ≤ 8
          · rw [decide_eq_true (show ((letB z).length : Int) ≤ 8 by omega)]
            refine iteF ?_
            refine ⟨_, rfl, _, rfl, Evl.sz_of (by omega), _, rfl, _, rfl, Evl.sz_of (show (letB z).length ≤ 100000 by omega), _, _, rfl, rfl, _, _, rfl, rfl, _, rfl, ?_⟩
            show (if decide ((4 : Int) < (z.length : Int) - ((letB z).length : Int)) = true then _ else _)
            by_cases h4 : z.length ≤ (letB z).length + 4
            · rw [decide_eq_false (show ¬ ((4 : Int) < (z.length : Int) - ((letB z).length : Int)) by omega)]
              refine iteF ?_
              refine ⟨_, rfl, letB z, rfl, fun D hD => ?_⟩
              refine lc_it walk_str (fun i H1 => H1 D = some (.lst ((((letB z).cps.toList.take i).map fun c => decide (c ∈ ("abcdefghijklmnopqrstuvwxyz" : Str).cps.toList)).map V.bl)) ∧ Same H H1) ⟨upd_same, same_new hD⟩ (fun _ _ _ _ => trivial) ?_ ?_
              · rintro i x H1 H2 hi ⟨hD1, s1⟩ ⟨rfl, c, hc, rfl⟩
                have hi8 : i < 8 := by
                  have : (letB z).cps.size = (letB z).length := rfl
                  omega
                have hcm : (letB z).cps.toList[i]? = some c := by rw [Array.getElem?_toList]; exact hc
                refine ⟨rfl, tyes ?_⟩
                refine ⟨_, rfl, c, _, rfl, rfl, _, hD1, Evl.sz_lt (by rw [List.length_map, List.length_map, List.length_take]; omega), ?_, same_off s1 hD⟩
                rw [upd_same, List.take_add_one, hcm, Option.toList_some, List.map_append, List.map_append]
                rfl
              · rintro H1 ⟨hD1, s1⟩
                refine ⟨D, _, rfl, SqL.of hD1, ?_⟩
                have e : isWordB z = (((letB z).cps.toList.take (letB z).cps.size).map fun c => decide (c ∈ ("abcdefghijklmnopqrstuvwxyz" : Str).cps.toList)).all id := by
                  rw [hw, decide_eq_true h1, decide_eq_true h8, decide_eq_true h4, List.take_of_length_le (by simp), List.all_map]
                  rfl
                rw [← e]
                exact k H1 s1
            · rw [decide_eq_true (show ((4 : Int) < (z.length : Int) - ((letB z).length : Int)) by omega)]
              refine iteT ?_
              have e : isWordB z = false := by rw [hw, decide_eq_false h4]; simp
              rw [← e]
              exact k H fun _ _ e => e
          · rw [decide_eq_false (show ¬ ((letB z).length : Int) ≤ 8 by omega)]
            refine iteT ?_
            have e : isWordB z = false := by rw [hw, decide_eq_false h8]; simp
            rw [← e]
            exact k H fun _ _ e => e
        · rw [if_neg (by rw [decide_eq_false (show ¬ (1 : Int) ≤ ((letB z).length : Int) by omega)]; exact Bool.false_ne_true)]
          have e : isWordB z = false := by rw [hw, decide_eq_false h1]; simp
          refine ⟨_, rfl, ?_⟩
          refine iteT ?_
          rw [← e]
          exact k H fun _ _ e => e
end
end Nm
set_option autoImplicit false
set_option maxRecDepth 100000
set_option maxHeartbeats 8000000
/-! need_word with its raise; is_integer, is_number and the law's own whole numbers, of odd values -/
namespace Nm
open PySem PySem.Spec PyProof.Rows L2
section
variable {P : Program} {w : World} {K : PySem.W.Frag} {mg : Str → Option Value} {base : Heap}
def spNeedO (CN : Addr) : Sp := fun vs H Q E => ∃ (x : V) (d : PyData), vs = [x] ∧ OdV H x d ∧ (wordO x = true → ∀ H', Same H H' → Q .non H') ∧
  (wordO x = false → ∀ (dx : Addr) (y : V) (H' : Hp), H' dx = some (.xd [("name", y)]) → OdV H' y d → Same H H' → E (.ref CN) (some dx) H')
theorem ok_needO {f CN : Addr} {fd : FuncData} (F : Fun K "need_word" "need_word" sNeedWord f fd) (TN : TxtOdd P w K mg base CN "BadName" "name") (Gw : Def P w K mg base "is_word" ["value"] 1 spWordO) : FnOk P w K mg base (L2.CX P w) 5 f fd ["value"] (spNeedO CN) := by
  obtain ⟨fw, fdw, Gw, mw, kw, bw⟩ := Gw.ex
  obtain ⟨fi, fdi, iC, tI, Gi, bi⟩ := TN.ini
  refine okX (k := 4) F scNW (fun vs H Q E h => ?_) (fun cdv A outer s H vs Q E hr h => ?_)
  · obtain ⟨_, _, rfl, _⟩ := h
    rfl
  · obtain ⟨x, d, rfl, hx, kq, ke⟩ := h
    have tk := takes_of (X := cxOf (L2.CX P w) P w K mg base nNW "need_word" (defScope sNeedWord) f cdv A outer s H E) (E := E) rfl rfl rfl rfl
    refine ⟨_, pss_one (ps_if (pt_not (pt_val (pe_call Gw (hr.mono (by decide)) (by rfl) mw kw bw .nil pass0 (pa_cons (pv 0) pa_nil)))) (pss_one (ps_raise rfl tk (pmk_oex TN.oex iC tI Gi (hr.mono (by decide)) bi .nil pass0 (by rfl) TN.mB (pa_cons (pv 0) pa_nil)))) pss_nil), ?_⟩
    refine ⟨_, rfl, x, d, rfl, hx, fun H2 s2 => ⟨_, rfl, ?_⟩⟩
    cases hw : wordO x with
    | true => exact iteF (kq hw H2 s2)
    | false =>
      refine iteT ?_
      refine ⟨_, rfl, (by show (1 : Nat) ≤ 1000; decide), fun a ha => ?_⟩
      exact raise_odd (hx.same s2) ha s2 fun dx y H' h1 h2 h3 => ke hw dx y H' h1 h2 h3
/-- whether it is a whole number -/
def intO : V → Bool
  | .int _ => true
  | _ => false
def spIntO : Sp := fun vs H Q _ => ∃ (x : V) (d : PyData), vs = [x] ∧ OdV H x d ∧ Q (.bl (intO x)) H
theorem ok_intO {f : Addr} {fd : FuncData} (F : Fun K "is_integer" "is_integer" sIsInteger f fd) (T : TxtG mg) : FnOk P w K mg base CX0 1 f fd ["value"] spIntO := by
  refine F.ok scInteger (fun vs H Q E h => ?_) (fun cdv A outer s H vs Q E hr h => ?_)
  · obtain ⟨_, _, rfl, _⟩ := h
    rfl
  · obtain ⟨x, d, rfl, hx, k⟩ := h
    refine ⟨_, pss_one (ps_ret (pe_and (pe_callB call_isi (by rfl) T.isinstance (by decide +kernel) (pa_cons (pv 0) (pa_cons (pe_bltn (v := .ty "int") (by rfl) T.int (by decide +kernel) rfl) pa_nil)))
      (pe_one (pe_not (pe_callB call_isi (by rfl) T.isinstance (by decide +kernel) (pa_cons (pv 0) (pa_cons (pe_bltn (v := .ty "bool") (by rfl) T.bool (by decide +kernel) rfl) pa_nil))))))), ?_⟩
    cases hx with
    | lst e l n => exact ⟨_, rfl, _, _, _, _, false, rfl, ClsV.ty "int", TyX.base (TyOf.lst e), kit_ty (by decide +kernel), _, rfl, iteF k⟩
    | tup e l n => exact ⟨_, rfl, _, _, _, _, false, rfl, ClsV.ty "int", TyX.base (TyOf.tup e), kit_ty (by decide +kernel), _, rfl, iteF k⟩
    | dc0 e => exact ⟨_, rfl, _, _, _, _, false, rfl, ClsV.ty "int", TyX.base (TyOf.dK e), kit_ty (by decide +kernel), _, rfl, iteF k⟩
    | dc1 e hz l => exact ⟨_, rfl, _, _, _, _, false, rfl, ClsV.ty "int", TyX.base (TyOf.dK e), kit_ty (by decide +kernel), _, rfl, iteF k⟩
    | lf l =>
      cases l with
      | @int i hi =>
        refine ⟨_, rfl, _, _, _, _, true, rfl, ClsV.ty "int", TyX.base (TyOf.int i), kit_ty (by decide +kernel), _, rfl, iteT ?_⟩
        exact ⟨_, rfl, _, _, _, _, false, rfl, ClsV.ty "bool", TyX.base (TyOf.int i), kit_ty (by decide +kernel), _, rfl, k⟩
      | bl b =>
        refine ⟨_, rfl, _, _, _, _, true, rfl, ClsV.ty "int", TyX.base (TyOf.bl b), kit_ty (by decide +kernel), _, rfl, iteT ?_⟩
        exact ⟨_, rfl, _, _, _, _, true, rfl, ClsV.ty "bool", TyX.base (TyOf.bl b), kit_ty (by decide +kernel), _, rfl, k⟩
      | non => exact ⟨_, rfl, _, _, _, _, false, rfl, ClsV.ty "int", TyX.base TyOf.non, kit_ty (by decide +kernel), _, rfl, iteF k⟩
      | str hz hn => exact ⟨_, rfl, _, _, _, _, false, rfl, ClsV.ty "int", TyX.base (TyOf.str _), kit_ty (by decide +kernel), _, rfl, iteF k⟩
/-- whether it is one from lo on -/
def fromO (lo : Int) : V → Bool
  | .int i => decide (lo ≤ i)
  | _ => false
def spNumO : Sp := fun vs H Q _ => ∃ (x : V) (d : PyData) (lo : Int), vs = [x, .int lo] ∧ OdV H x d ∧ Q (.bl (fromO lo x)) H
theorem ok_numXO {f : Addr} {fd : FuncData} (F : Fun K "is_number" "is_number" sIsNumber f fd) (Gi : Def P w K mg base "is_integer" ["value"] 1 spIntO) : FnOk P w K mg base CX0 2 f fd ["value", "least"] spNumO := by
  obtain ⟨fi, fdi, Gi, mi, ki, bi⟩ := Gi.ex
  refine F.ok scNumber (fun vs H Q E h => ?_) (fun cdv A outer s H vs Q E hr h => ?_)
  · obtain ⟨_, _, _, rfl, _⟩ := h
    rfl
  · obtain ⟨x, d, lo, rfl, hx, k⟩ := h
    refine ⟨_, pss_one (ps_ret (pe_and (pe_call Gi hr (by rfl) mi ki bi .nil pass0 (pa_cons (pv 0) pa_nil)) (pe_one (pe_cmpR op_ge (pv 0) (pv 1) (nomark _))))), ?_⟩
    refine ⟨_, rfl, x, d, rfl, hx, _, rfl, ?_⟩
    cases x with
    | int i => exact iteT ⟨_, rfl, _, rfl, _, _, rfl, rfl, k⟩
    | _ => exact iteF k
/-! ### _law_whole -/
def wholeO (lo hi : Int) : V → Bool
  | .int i => decide (lo ≤ i) && decide (i ≤ hi)
  | _ => false
def spWholeO : Sp := fun vs H Q _ => ∃ (x : V) (d : PyData) (lo hi : Int), vs = [x, .int lo, .int hi] ∧ OdV H x d ∧ Q (.bl (wholeO lo hi x)) H
abbrev nWh : List Str := ["_law_value_here", "_law_least", "_law_most"]
theorem scWh : FnScope nWh nWh (defScope sWhole) := ⟨rfl, rfl, rfl, by decide +kernel, rfl, by decide +kernel, by decide +kernel⟩
theorem ok_whole {f : Addr} {fd : FuncData} (F : Fun K "_law_whole" "_law_whole" sWhole f fd) (T : TxtG mg) : FnOk P w K mg base CX0 1 f fd nWh spWholeO := by
  refine F.ok scWh (fun vs H Q E h => ?_) (fun cdv A outer s H vs Q E hr h => ?_)
  · obtain ⟨_, _, _, _, rfl, _⟩ := h
    rfl
  · obtain ⟨x, d, lo, hi, rfl, hx, k⟩ := h
    refine ⟨_, pss_one (ps_ret (pe_and (pe_callB call_isi (by rfl) T.isinstance (by decide +kernel) (pa_cons (pv 0) (pa_cons (pe_bltn (v := .ty "int") (by rfl) T.int (by decide +kernel) rfl) pa_nil)))
      (pe_and (pe_not (pe_callB call_isi (by rfl) T.isinstance (by decide +kernel) (pa_cons (pv 0) (pa_cons (pe_bltn (v := .ty "bool") (by rfl) T.bool (by decide +kernel) rfl) pa_nil)))) (pe_one (pe_chain op_le op_le (pv 1) (pv 0) (pv 2)))))), ?_⟩
    cases hx with
    | lst e l n => exact ⟨_, rfl, _, _, _, _, false, rfl, ClsV.ty "int", TyX.base (TyOf.lst e), kit_ty (by decide +kernel), _, rfl, iteF k⟩
    | tup e l n => exact ⟨_, rfl, _, _, _, _, false, rfl, ClsV.ty "int", TyX.base (TyOf.tup e), kit_ty (by decide +kernel), _, rfl, iteF k⟩
    | dc0 e => exact ⟨_, rfl, _, _, _, _, false, rfl, ClsV.ty "int", TyX.base (TyOf.dK e), kit_ty (by decide +kernel), _, rfl, iteF k⟩
    | dc1 e hz l => exact ⟨_, rfl, _, _, _, _, false, rfl, ClsV.ty "int", TyX.base (TyOf.dK e), kit_ty (by decide +kernel), _, rfl, iteF k⟩
    | lf l =>
      cases l with
      | @int i hi2 =>
        refine ⟨_, rfl, _, _, _, _, true, rfl, ClsV.ty "int", TyX.base (TyOf.int i), kit_ty (by decide +kernel), _, rfl, iteT ?_⟩
        refine ⟨_, rfl, _, _, _, _, false, rfl, ClsV.ty "bool", TyX.base (TyOf.int i), kit_ty (by decide +kernel), _, rfl, _, rfl, iteT ?_⟩
        have k : Q (.bl (decide (lo ≤ i) && decide (i ≤ hi))) H := k
        refine ⟨_, rfl, _, rfl, _, _, rfl, rfl, _, rfl, ?_⟩
        by_cases h1 : lo ≤ i
        · rw [decide_eq_true h1, Bool.true_and] at k
          rw [if_pos (decide_eq_true h1)]
          exact ⟨_, rfl, _, _, rfl, rfl, k⟩
        · rw [decide_eq_false h1, Bool.false_and] at k
          rw [if_neg (by rw [decide_eq_false h1]; exact Bool.false_ne_true)]
          exact k
      | bl b =>
        refine ⟨_, rfl, _, _, _, _, true, rfl, ClsV.ty "int", TyX.base (TyOf.bl b), kit_ty (by decide +kernel), _, rfl, iteT ?_⟩
        exact ⟨_, rfl, _, _, _, _, true, rfl, ClsV.ty "bool", TyX.base (TyOf.bl b), kit_ty (by decide +kernel), _, rfl, _, rfl, iteF k⟩
      | non => exact ⟨_, rfl, _, _, _, _, false, rfl, ClsV.ty "int", TyX.base TyOf.non, kit_ty (by decide +kernel), _, rfl, iteF k⟩
      | str hz hn => exact ⟨_, rfl, _, _, _, _, false, rfl, ClsV.ty "int", TyX.base (TyOf.str _), kit_ty (by decide +kernel), _, rfl, iteF k⟩
end
end Nm
set_option autoImplicit true
set_option maxRecDepth 100000
set_option maxHeartbeats 4000000
/-! the end of a law whose promise is told at the caller alone (so that no repr is under way) -/
namespace Nm
open PySem PySem.Spec PyProof.Rows L2 LamX
/-- the promise at the caller -/
def RunC (P : Program) (w : World) (K : PySem.W.Frag) (mg : Str → Option Value) (base : Heap) (CX : CXT) (fa : Addr) (fd : FuncData) (x : Str) (sp : Sp) : Prop :=
  ∀ (s : Shared) (H : Hp) (u : Value) (v : V) (Q : VK) (E : XK), Env0 P w K mg base callerA [] s H → BindsTo s fd ⟨[u], []⟩ [(x, u)] → RelV v u → sp [v] H Q E → codeAny (model P w) callerA (.call (.ref fa) ⟨[u], []⟩) (CR CX [] P w H s Q E) s
/-- the heap at the law's call: the tables, and the script where it is not written -/
def hpL (K : PySem.W.Frag) (cs : List (Addr × Addr)) (a : Addr) (vs : List Value) (ns : List Int) : Hp := fun b =>
  if b ∈ cs.map (·.2) then some (.tbl #[]) else if b = a ∧ K.lookup a = none then some (.frz { cls := .type "list", data := .seq vs.toArray } (.lst (ns.map V.int))) else none
section
variable {P : Program} {w : World} {K : PySem.W.Frag} {mg mb : Str → Option Value} {CX : CXT} {fa a : Addr} {cs : List (Addr × Addr)} {fd : FuncData} {x : Str} {sp : Sp} {s : Shared} {vs : List Value} {ns : List Int}
theorem hpL_tab {b : Addr} (h : b ∈ cs.map (·.2)) : hpL K cs a vs ns b = some (.tbl #[]) := if_pos h
theorem hpL_or (b : Addr) : hpL K cs a vs ns b = none ∨ (b ∈ cs.map (·.2) ∧ hpL K cs a vs ns b = some (.tbl #[])) ∨ (b ∉ cs.map (·.2) ∧ b = a ∧ K.lookup a = none ∧ hpL K cs a vs ns b = some (.frz { cls := .type "list", data := .seq vs.toArray } (.lst (ns.map V.int)))) := by
  by_cases h1 : b ∈ cs.map (·.2)
  · exact .inr (.inl ⟨h1, if_pos h1⟩)
  · by_cases h2 : b = a ∧ K.lookup a = none
    · exact .inr (.inr ⟨h1, h2.1, h2.2, (if_neg h1).trans (if_pos h2)⟩)
    · exact .inl ((if_neg h1).trans (if_neg h2))
theorem law_callG (KX : K.In s.heap) (hns : s.heap.Ns mainGlobals mg) (hb : s.heap.Ns builtinsNs mb) (hbb : ∀ x : Str, x ≠ "__name__" → mb x = bootBuiltins x) (hlim : s.heap.NoLimit) (hg : s.gens = #[])
    (hT : ∀ p ∈ cs, s.heap.get? p.2 = some { cls := .none, data := .fields #[] }) (nT : ∀ p ∈ cs, K.lookup p.2 = none) (C : ∀ p ∈ cs, PySem.W.CodeHd s.heap p.1 p.2)
    (hbm : ∃ (bm : Addr) (ob : Obj), mg "__builtins__" = some (.ref bm) ∧ bm ≠ builtinsNs ∧ s.heap.get? bm = some ob ∧ ob.cls = .type "module" ∧ ob.dict = some builtinsNs ∧ ob.data = .plain)
    (ha : s.heap.get? a = some { cls := .type "list", data := .seq vs.toArray }) (hi : IntsAre vs ns) (hl : ns.length ≤ sizeLine)
    (F : ∀ base : Heap, K.In base → base.Ns mainGlobals mg → (∀ p ∈ cs, TabB base mg p.1 p.2) → RunC P w K mg base CX fa fd x sp) (hbind : ∀ (s : Shared) (u : Value), BindsTo s fd ⟨[u], []⟩ [(x, u)])
    (hsp : ∀ H : Hp, (∀ p ∈ cs, H p.2 = some (.tbl #[])) → SqL K H a (ns.map V.int) → sp [.ref a] H (fun v _ => v = .bl true) fun _ _ _ => False)
    (hCX : ∀ H e s', CX [] H s (fun _ _ _ => False) e s' → False) :
    codeAny (model P w) callerA (.call (.ref fa) ⟨[.ref a], []⟩) (fun r s' => r = .ok (.ret (.bool true)) ∧ OldK s.heap s'.heap ∧ s'.os = s.os ∧ AllBare s'.gens) s := by
  have rv := vals_ints hi
  have tabAt : ∀ {b : Addr}, b ∈ cs.map (·.2) → s.heap.get? b = some { cls := .none, data := .fields #[] } ∧ K.lookup b = none := fun {b} hb => by
    obtain ⟨p, hp, rfl⟩ := List.mem_map.mp hb
    exact ⟨hT p hp, nT p hp⟩
  have inT : ∀ p ∈ cs, p.2 ∈ cs.map (·.2) := fun p hp => List.mem_map.mpr ⟨p, hp, rfl⟩
  generalize hH : hpL K cs a vs ns = H
  have orH : ∀ b, H b = none ∨ (b ∈ cs.map (·.2) ∧ H b = some (.tbl #[])) ∨ (b ∉ cs.map (·.2) ∧ b = a ∧ K.lookup a = none ∧ H b = some (.frz { cls := .type "list", data := .seq vs.toArray } (.lst (ns.map V.int)))) := by
    rw [← hH]
    exact hpL_or
  have tabH : ∀ p ∈ cs, H p.2 = some (.tbl #[]) := fun p hp => by
    rw [← hH]
    exact hpL_tab (inT p hp)
  -- what is tracked is no dict and nothing that is written
  have free : ∀ {b : Addr} {o : Obj}, s.heap.get? b = some o → (∀ vs n, o.data ≠ .seq vs n) → o.data ≠ .fields #[] → H b = none := fun {b o} e n1 n2 => by
    rcases orH b with z | ⟨z, _⟩ | ⟨_, z, _, _⟩
    · exact z
    · rw [(tabAt z).1] at e
      cases e
      exact absurd rfl n2
    · rw [z, ha] at e
      cases e
      exact absurd rfl (n1 _ _)
  have freeD : ∀ {b : Addr} {o : Obj} {es : Array DictEntry} {ep : Nat}, s.heap.get? b = some o → o.data = .dict es ep → H b = none := fun e q => free e (fun _ _ z => by rw [q] at z; cases z) fun z => by rw [q] at z; cases z
  have freeK : ∀ {b : Addr} {o : Obj}, K.lookup b = some o → H b = none := fun {b o} e => by
    rcases orH b with z | ⟨z, _⟩ | ⟨_, z, z2, _⟩
    · exact z
    · rw [(tabAt z).2] at e
      cases e
    · rw [z, z2] at e
      cases e
  have under : ∀ {b : Addr} {o : Obj}, s.heap.get? b = some o → H b = none → (hidT s.heap H).get? b = some o := fun e n => hidT_get e n
  have nsU : ∀ {b : Addr} {m : Str → Option Value}, s.heap.Ns b m → (hidT s.heap H).Ns b m := fun {b m} ⟨o, es, ep, e, q, r⟩ => ⟨o, es, ep, under e (freeD e q), q, r⟩
  have KU : K.In (hidT s.heap H) := fun b o e => under (KX b o e) (freeK e)
  have ok : HOk P w H s.heap := fun b o z => by
    rcases orH b with q | ⟨q, q'⟩ | ⟨_, q, _, q'⟩
    · rw [q] at z
      cases z
    · rw [q'] at z
      cases z
      exact (tabAt q).1
    · rw [q'] at z
      cases z
      subst q
      exact ⟨ha, by rw [List.length_map]; exact hl, vs, _, rv, ha⟩
  have sq : SqL K H a (ns.map V.int) := by
    cases hk : K.lookup a with
    | some o =>
      have e := KX a o hk
      rw [ha] at e
      cases e
      exact .inr ⟨_, vs.toArray, _, hk, rfl, rfl, rfl, by rw [List.size_toArray, hi.length]; exact hl, by simpa using rv⟩
    | none =>
      refine .inl (.inr ⟨{ cls := .type "list", data := .seq vs.toArray }, ?_⟩)
      rcases orH a with z | ⟨z, _⟩ | ⟨_, _, _, z⟩
      · rw [← hH] at z
        unfold hpL at z
        split at z
        · cases z
        · rw [if_pos ⟨rfl, hk⟩] at z
          cases z
      · have := (tabAt z).1
        rw [ha] at this
        cases this
      · exact z
  have mod : L2.Mod K mg (hidT s.heap H) := ⟨KU, nsU hns, ⟨mb, nsU hb, hbb⟩, let ⟨mc, h1, h2⟩ := hlim; ⟨mc, nsU h1, h2⟩⟩
  have TB : ∀ p ∈ cs, TabB (hidT s.heap H) mg p.1 p.2 := fun p hp => by
    obtain ⟨oG, esG, epG, eG, dG, _⟩ := id hns
    refine ⟨?_, ?_, fun z => ?_⟩
    · obtain ⟨o, us, file, tf, flags, tg, inF, text, tt, e1, r1, r2, r3, r⟩ := C p hp
      refine ⟨o, us, file, tf, flags, tg, inF, text, tt, under e1 (free e1 (fun _ _ z => by rw [r2] at z; cases z) fun z => ?_), r1, r2, r3, r⟩
      rw [r2] at z
      cases z
      simp at r3
    · obtain ⟨bm, ob, b1, b2, b3, b4, b5, b6⟩ := hbm
      refine ⟨bm, ob, b1, b2, fun q => ?_, fun q => ?_, under b3 (free b3 (fun _ _ z => by rw [b6] at z; cases z) fun z => by rw [b6] at z; cases z), b4, b5, b6⟩
      · rw [q, eG] at b3
        cases b3
        rw [dG] at b6
        cases b6
      · rw [q, hT p hp] at b3
        cases b3
        cases b6
    · rw [z, hT p hp] at eG
      cases eG
      cases dG
  have e0 : Env0 P w K mg (hidT s.heap H) callerA [] s H := ⟨rfl, mod, fun b o e => of_hidT e, Nat.le_of_eq (hidT_size _ _), trivial, fun b z => absurd (show b ∈ ([] : List Addr) from z) (by simp), ok, .of_eq hg⟩
  refine codeAny_mono (F _ KU (nsU hns) TB s H (.ref a) (.ref a) _ _ e0 (hbind s (.ref a)) rfl (hsp H tabH sq)) fun r s' h => ?_
  cases r with
  | error e => exact (hCX H e s' h).elim
  | ok fl =>
    cases fl with
    | next => exact False.elim h
    | brk => exact False.elim h
    | cont => exact False.elim h
    | ret u =>
      obtain ⟨v, H', os, bare, un, ok', r', q⟩ := h
      obtain rfl : v = .bl true := q
      obtain rfl : u = Value.bool true := r'
      have grown : ∀ p ∈ cs, ∃ more : Array Value, s'.heap.get? p.2 = some { cls := .none, data := .fields more } := fun p hp => by
        obtain ⟨more, z⟩ := un.tbls p.2 #[] (tabH p hp)
        exact ⟨_, ok' p.2 _ z⟩
      have rest : ∀ b o, b ∉ cs.map (·.2) → s.heap.get? b = some o → s'.heap.get? b = some o := fun b o nb e => by
        rcases orH b with z | ⟨z, _⟩ | ⟨_, _, _, z⟩
        · exact un.keep b o e z (by intro y; exact absurd (show b ∈ ([] : List Addr) from y) (by simp)) (by simp)
        · exact absurd z nb
        · obtain ⟨e1, _⟩ := ok b _ z
          obtain ⟨e2, _⟩ := ok' b _ (un.frzs b _ _ z)
          rw [e] at e1
          cases e1
          exact e2
      refine ⟨rfl, ⟨fun b o e => ?_, fun b o e => ?_⟩, os, bare⟩
      · by_cases hm : b ∈ cs.map (·.2)
        · obtain ⟨p, hp, rfl⟩ := List.mem_map.mp hm
          obtain ⟨more, hq⟩ := grown p hp
          rw [hT p hp] at e
          cases e
          exact .inr (.inl ⟨((C p hp).tab (hT p hp)).isCodeTable, rfl, #[], more, rfl, by rw [Array.empty_append]; exact hq⟩)
        · exact .inl (rest b o hm e)
      · by_cases hm : b ∈ cs.map (·.2)
        · obtain ⟨p, hp, rfl⟩ := List.mem_map.mp hm
          obtain ⟨more, hq⟩ := grown p hp
          exact ⟨_, hq⟩
        · exact ⟨o, rest b o hm e⟩
end
/-- what is known of the law's promise at the head's heap h, told at the caller -/
def LawAtG (l : PySem.W.OpenLaw) (w : World) (K : PySem.W.Frag) (CX : CXT) (n : Nat) (x : Str) (mg : Str → Option Value) (fa : Addr) (h : Heap) : Prop :=
  ∃ (fd : FuncData) (cs : List (Addr × Addr)) (sp : Sp), (∀ p ∈ cs, h.get? p.2 = some { cls := .none, data := .fields #[] }) ∧ (∀ p ∈ cs, K.lookup p.2 = none) ∧ (∀ p ∈ cs, PySem.W.CodeHd h p.1 p.2) ∧ (∀ (s : Shared) (u : Value), BindsTo s fd ⟨[u], []⟩ [(x, u)]) ∧
    (∀ (H : Hp) (a : Addr) (ns : List Int), ns.length ≤ n → (∀ p ∈ cs, H p.2 = some (.tbl #[])) → SqL K H a (ns.map V.int) → sp [.ref a] H (fun v _ => v = .bl true) fun _ _ _ => False) ∧
    ∀ base : Heap, K.In base → base.Ns mainGlobals mg → (∀ p ∈ cs, TabB base mg p.1 p.2) → RunC l.prog w K mg base CX fa fd x sp
theorem walk_G {l : PySem.W.OpenLaw} {n : Nat} {q : Program} {loose : List Str} {XP : (Str → Option Value) → Heap → Prop} {YP : World → Heap → Prop} {d : DefRec} {K : Params → PySem.W.Frag} {CX : World → CXT} {x : Str}
    (hn : l.most = some n) (hn2 : n ≤ sizeLine) (hdf : d.params.defaults = []) (hrec : ((recsOf q).any fun e => e.name == d.name) = true) (hY : ∀ (w : World) (h : Heap), YP w h → (K w.params).In h)
    (F : ∀ (w : World) (mg : Str → Option Value) (fa : Addr) (h : Heap), YP w h → (K w.params).In h → h.Ns mainGlobals mg → mg d.name = some (.ref fa) → OwnTab (K w.params) fa h → LawAtG l w (K w.params) (CX w) n x mg fa h)
    (hCX : ∀ (w : World) (H : Hp) (s : Shared) (e : Value) (s' : Shared), CX w [] H s (fun _ _ _ => False) e s' → False) :
    PySem.W.WalkO q loose XP YP l.row.toRowW d [] (fun f vs => PySem.call f vs) := by
  refine Att.attach_callB hn hdf fun w s₀ s₁ mg mb fa o pm cd doc a vs ns G Y ho hd hcd hmg hobj hints hlen _ hg => ?_
  have KX := hY w _ Y
  have own : OwnTab (K w.params) fa s₁.heap := fun c T o1 fd1 e dd us sl q1 q2 q3 q4 q5 => by
    obtain ⟨dL, hm, hnm⟩ := List.any_eq_true.mp hrec
    obtain ⟨fa', of, fdf, cf, Tf, p1, p2, p3, p4, _, p6⟩ := G.T.tab dL hm
    rw [beq_iff_eq.mp hnm, hmg] at p1
    cases p1
    have there := KX _ _ q1
    rw [there] at p2
    cases p2
    rw [q2] at p3
    cases p3
    rw [q3] at p4
    cases p4
    obtain ⟨⟨oc, ws, f1, _, f3, f4⟩, fT⟩ := p6
    have code := KX _ _ q4
    rw [code] at f1
    cases f1
    cases f3
    rw [q5] at f4
    cases f4
    exact fT
  obtain ⟨fd, cs, sp, hT, nT, C, hb, hsp, hF⟩ := F w mg fa _ Y KX G.T.g hmg own
  exact law_callG KX G.T.g G.T.b G.T.builtins G.T.nolimit hg hT nT C G.T.bmain hobj hints (Nat.le_trans hlen hn2) hF hb (fun H hH hS => hsp H a ns hlen hH hS) fun H e s' => hCX w H s₁ e s'
/-- a def's promise at the caller, from its body there -/
theorem runC_of {P : Program} {w : World} {K : PySem.W.Frag} {mg : Str → Option Value} {base : Heap} {CX : CXT} {f : Addr} {fd : FuncData} {x : Str} {st : Stmt} {qual : Str} {N : List Str} {sp : Sp} {nm : Str} (F : Fun K nm qual st f fd) (S : FnScope N [x] (defScope st))
    (hbody : ∀ (cdv : Value) (s : Shared) (H : Hp) (v : V) (Q : VK) (E : XK), (∃ oc od kV doc pm an ct osl, K.lookup f = some ⟨oc, od, .func (PySem.W.fnOf nm qual (defArgs st) (defBody st) (defScope st) .none kV doc pm an cdv ct), osl⟩) → sp [v] H Q E →
      ∃ t, PSs (cxOf CX P w K mg base N qual (defScope st) f cdv callerA [] s H E) (defBody st) t ∧ t { nx := fun _ H' => Q .non H', rt := Q } (start N [v]) H) : RunC P w K mg base CX f fd x sp := by
  obtain ⟨oc, od, kV, doc, pm, an, cdv, ct, osl, rfl, lk, hcd⟩ := F.ex
  intro s H u v Q E e0 hb r hsp
  have hr : Room 1 callerA := ⟨rfl, by decide +kernel, by decide +kernel⟩
  exact run_ofS (k := 0) (ps := [x]) (us := [u]) (vs := [v]) lk hcd S hr e0 hb (.cons r .nil) rfl fun _ => hbody cdv s H v Q E ⟨oc, od, kV, doc, pm, an, ct, osl, lk⟩ hsp
end Nm
set_option autoImplicit true
set_option maxRecDepth 100000
set_option maxHeartbeats 4000000
/-! a def that keeps its promise where no repr is under way -/
namespace Nm
open PySem PySem.Spec PyProof.Rows L2 LamX
section
variable {P : Program} {w : World} {K : PySem.W.Frag} {mg : Str → Option Value} {base : Heap}
end
section
variable {X : Cx} {k : Nat} {g : Addr} {fd : FuncData} {names : List Str} {told : Sp} {E : XK} {x : Str} {p pos : Pos} {e : Expr} {es : List Expr} {ta : TA}
end
end Nm
set_option autoImplicit false
set_option maxRecDepth 100000
set_option maxHeartbeats 8000000
/-! repr of a dict of texts and odd values -/
namespace Nm
open PySem PySem.Sem PySem.Spec PyProof.Rows L2
/-- what a dict holds -/
inductive KvO (H : Hp) : List (Key × V) → List (PyData × PyData) → Prop
  | nil : KvO H [] []
  | cons {z : Str} {v : V} {d : PyData} {kvs : List (Key × V)} {ds : List (PyData × PyData)} (hz : (reprText z).length ≤ 100) (h : OdV H v d) (t : KvO H kvs ds) : KvO H ((Sum.inr z, v) :: kvs) ((.str z, d) :: ds)
theorem KvO.stay {H H' : Hp} {kvs : List (Key × V)} {ds : List (PyData × PyData)} (h : KvO H kvs ds) (s : ∀ (v : V) (d : PyData), OdV H v d → OdV H' v d) : KvO H' kvs ds := by
  induction h with
  | nil => exact .nil
  | cons hz h t ih => exact .cons hz (s _ _ h) ih
theorem KvO.len {H : Hp} {kvs : List (Key × V)} {ds : List (PyData × PyData)} (h : KvO H kvs ds) : ds.length = kvs.length := by
  induction h with
  | nil => rfl
  | cons hz h t ih => rw [List.length_cons, List.length_cons, ih]
theorem KvO.of {H : Hp} : ∀ {kvs : List (Key × V)}, (∀ p ∈ kvs, ∃ z, p.1 = Sum.inr z ∧ (reprText z).length ≤ 100) → (∀ p ∈ kvs, ∃ d, OdV H p.2 d) → ∃ ds, KvO H kvs ds
  | [], _, _ => ⟨[], .nil⟩
  | (k, v) :: kvs, hk, hv => by
    obtain ⟨ds, t⟩ := KvO.of (kvs := kvs) (fun p hp => hk p (List.mem_cons_of_mem _ hp)) fun p hp => hv p (List.mem_cons_of_mem _ hp)
    obtain ⟨z, e, hz⟩ := hk _ List.mem_cons_self
    obtain ⟨d, hd⟩ := hv _ List.mem_cons_self
    have e : k = Sum.inr z := e
    subst e
    exact ⟨_, .cons hz hd t⟩
theorem entriesK_more {P : Program} {w : World} {as as' : List Addr} {h₀ : Heap} {d : Nat} {es : List DictEntry} {ps : List Str} (h : ReprEntriesK P w as h₀ d es ps) (sub : ∀ b ∈ as, b ∈ as') : ReprEntriesK P w as' h₀ d es ps := by
  induction h with
  | nil => exact .nil
  | cons a b _ ih => exact .cons (a.more sub) (b.more sub) ih
theorem reprK_up {P : Program} {w : World} {as : List Addr} {h₀ : Heap} {d d' : Nat} {x : Value} {t : Str} (h : ReprK P w as h₀ d x t) (le : d ≤ d') : ReprK P w as h₀ d' x t :=
  fun base hb A g E s Q hg hcl hu hk hQ => h base hb A g E s Q hg hcl (by omega) hk hQ
section
variable {X : Cx} {pins : List (Addr × Obj)} {σ : L2.St} {H : Hp} {s : Shared}
theorem KvO.read (I : Inv X pins σ H s) {kvs : List (Key × V)} {ds : List (PyData × PyData)} (h : KvO H kvs ds) : ∀ {vs : List (Key × Value)} {es : List DictEntry}, KV kvs vs → Pairs (mixKind X.prog X.w) es vs →
    ∃ (as bs : List Addr), ReadsAll s.heap (es.map (·.key)) (ds.map (·.1)) [] ∧ ReadsAll s.heap (es.map (·.val)) (ds.map (·.2)) as ∧ ReadAtMost s.heap (PyData.depthKv ds) bs ∧ ReprEntriesK X.prog X.w bs s.heap 3 es (PyData.shownKv ds) ∧ piled (PyData.shownKv ds) ≤ 5000 * kvs.length ∧ PyData.depthKv ds ≤ 3 := by
  have lim : sizeLine = 16777216 := sizeLine_eq
  induction h with
  | nil =>
    intro vs es r p
    cases r
    cases p
    exact ⟨[], [], .nil, .nil, (fun _ h => nomatch h), .nil, by simp [PyData.shownKv, piled], by simp [PyData.depthKv]⟩
  | @cons z v d kvs ds hz hv t ih =>
    intro vs es r p
    cases r with
    | @cons q1 q2 qs1 qs2 r0 r1 =>
      cases p with
      | @cons e kv es' kvs' k1 k2 k3 =>
        obtain ⟨k, u⟩ := q2
        obtain ⟨e1, ru⟩ := r0
        obtain rfl : Sum.inr z = k := e1
        have k1 : keyIs (Sum.inr z) e.key = true := k1
        have k2 : e.val = u := k2
        obtain ⟨t2, ek⟩ : ∃ t, e.key = Value.str z t := by
          rcases keyIs_shape k1 with ⟨i, u, e1, e2⟩ | ⟨y, u, e1, e2⟩
          · cases e1
          · cases e1
            exact ⟨u, e2⟩
        obtain ⟨as, bs, a1, a2, a3, a4, a5, a6⟩ := ih r1 k3
        obtain ⟨av, rd, sm, b1, b2, b3⟩ := hv.reads I ru
        obtain ⟨bv, c1, c2⟩ := ReprK.of_reads (prog := X.prog) (w := X.w) rd b1 sm (by omega)
        refine ⟨av ++ as, bv ++ bs, ?_, ?_, ?_, ?_, ?_, ?_⟩
        · show ReadsAll s.heap (e.key :: es'.map (·.key)) (.str z :: ds.map (·.1)) ([] ++ [])
          rw [ek]
          exact .cons (.str z t2) a1
        · show ReadsAll s.heap (e.val :: es'.map (·.val)) (d :: ds.map (·.2)) (av ++ as)
          rw [k2]
          exact .cons rd a2
        · intro b hb
          have e1 : PyData.depthKv ((.str z, d) :: ds) = max (max 0 d.depth) (PyData.depthKv ds) := by simp only [PyData.depthKv, PyData.depth]
          rcases List.mem_append.mp hb with h | h
          · obtain ⟨d', as', h1, h2⟩ := c1 b h
            exact ⟨d', as', h1, by rw [e1]; omega⟩
          · obtain ⟨d', as', h1, h2⟩ := a3 b h
            exact ⟨d', as', h1, by rw [e1]; omega⟩
        · rw [PyData.shownKv]
          refine .cons ?_ ?_ (entriesK_more a4 fun b hb => List.mem_append_right _ hb)
          · rw [ek]
            exact ReprK.of_is (ReprIs.str z t2 (by omega)) _ _ _
          · rw [k2]
            exact reprK_up (c2.more fun b hb => List.mem_append_left _ hb) b2
        · rw [PyData.shownKv, piled_cons, strLen_append, strLen_append, List.length_cons]
          have z1 : (PyData.shown (.str z)).length ≤ 100 := hz
          have z2 : (": " : Str).length = 2 := rfl
          omega
        · simp only [PyData.depthKv, PyData.depth]
          omega
end
end Nm
set_option autoImplicit true
set_option maxRecDepth 100000
set_option maxHeartbeats 4000000
/-! xs == [], xs != [] of any list -/
namespace Nm
open PySem PySem.Spec PyProof.Rows L2
section
variable {X : Cx}
def rEqE (K : PySem.W.Frag) : R2 := fun x y H Q => ∃ (a b : Addr) (xs : List V), x = .ref a ∧ y = .ref b ∧ SqL K H a xs ∧ SqL K H b [] ∧ Q (.bl (decide (xs = []))) H
def rNeE (K : PySem.W.Frag) : R2 := fun x y H Q => ∃ (a b : Addr) (xs : List V), x = .ref a ∧ y = .ref b ∧ SqL K H a xs ∧ SqL K H b [] ∧ Q (.bl (!decide (xs = []))) H
theorem op_eqE (hu : X.A.units < cLine) : OpR X (compareOp .Eq) (rEqE X.K) := by
  intro pins s σ H x y v u Q I rx ry h
  obtain ⟨a, b, xs, rfl, rfl, ha, hb, q⟩ := h
  cases (show v = Value.ref a from rx)
  cases (show u = Value.ref b from ry)
  obtain ⟨us, r1, p1, _⟩ := I.list ha
  obtain ⟨ws, r2, p2, _⟩ := I.list hb
  cases r2
  have hl := r1.length
  by_cases e : xs = []
  · subst e
    cases r1
    have z := SeqAt.RcAt.lists (A := X.A) (e := fun _ => true) p1.isList p2.isList rfl hu fun j h1 h2 => absurd h1 (Nat.not_lt_zero j)
    exact z X.prog X.w X.xe (EP X pins σ Q) ⟨.bl true, H, I, rfl, q⟩
  · have hne : us.toArray.size ≠ 0 := by
      rw [List.size_toArray, ← hl]
      intro z
      exact e (List.eq_nil_of_length_eq_zero z)
    have z := SeqAt.RcAt.lists_lengths (A := X.A) p1.isList p2.isList (by simpa using hne) hu
    rw [decide_eq_false e] at q
    exact z X.prog X.w X.xe (EP X pins σ Q) ⟨.bl false, H, I, rfl, q⟩
theorem op_neE (hu : X.A.units < cLine) : OpR X (compareOp .NotEq) (rNeE X.K) := by
  intro pins s σ H x y v u Q I rx ry h
  obtain ⟨a, b, xs, rfl, rfl, ha, hb, q⟩ := h
  cases (show v = Value.ref a from rx)
  cases (show u = Value.ref b from ry)
  obtain ⟨us, r1, p1, _⟩ := I.list ha
  obtain ⟨ws, r2, p2, _⟩ := I.list hb
  cases r2
  have hl := r1.length
  by_cases e : xs = []
  · subst e
    cases r1
    have z := SeqAt.RcNeAt.lists (A := X.A) (e := fun _ => true) p1.isList p2.isList rfl hu fun j h1 h2 => absurd h1 (Nat.not_lt_zero j)
    exact z X.prog X.w X.xe (EP X pins σ Q) ⟨.bl false, H, I, rfl, q⟩
  · have hne : us.toArray.size ≠ 0 := by
      rw [List.size_toArray, ← hl]
      intro z
      exact e (List.eq_nil_of_length_eq_zero z)
    have z := SeqAt.RcNeAt.lists_lengths (A := X.A) p1.isList p2.isList (by simpa using hne) hu
    rw [decide_eq_false e] at q
    exact z X.prog X.w X.xe (EP X pins σ Q) ⟨.bl true, H, I, rfl, q⟩
end
end Nm
set_option autoImplicit false
set_option maxRecDepth 100000
set_option maxHeartbeats 8000000
/-! the pen: where numbers are drawn from -/
namespace Nm
open PySem PySem.Spec PyProof.Rows L2
structure PenOk (H : Hp) (p g : Addr) (ns : List Int) (seat left : Int) : Prop where
  hp : H p = some (.lst [.ref g, .int seat, .int left])
  hg : H g = some (.lst (ns.map V.int))
  few : ns.length ≤ 63
  s0 : 0 ≤ seat
  l0 : 0 ≤ left
def Pen (H : Hp) (p g : Addr) : Prop := ∃ ns seat left, PenOk H p g ns seat left
theorem PenOk.ne {H : Hp} {p g : Addr} {ns : List Int} {seat left : Int} (h : PenOk H p g ns seat left) : g ≠ p := fun e => by
  have a := h.hp
  have b := h.hg
  rw [e, a] at b
  have b := (HO.lst.inj (Option.some.inj b))
  cases ns with
  | nil => cases b
  | cons x r => cases (List.cons.inj b).1
/-- all but the pen stays -/
def Bt (p : Addr) (H H' : Hp) : Prop := ∀ b o, H b = some o → b ≠ p → H' b = some o
theorem Bt.refl {p : Addr} (H : Hp) : Bt p H H := fun _ _ h _ => h
theorem Bt.trans {p : Addr} {H H1 H2 : Hp} (a : Bt p H H1) (b : Bt p H1 H2) : Bt p H H2 := fun x o h n => b x o (a x o h n) n
theorem Bt.same {p : Addr} {H H1 : Hp} (a : Same H H1) : Bt p H H1 := fun x o h _ => a x o h
theorem Bt.off {p q : Addr} {H H1 : Hp} {o : HO} (a : Bt p H H1) (h : H q = none) : Bt p H (upd H1 q o) := fun b u e n => by
  rw [upd_ne (ne_of_none e h)]
  exact a b u e n
theorem Pen.ne {H : Hp} {p g q : Addr} (S : Pen H p g) (h : H q = none) : q ≠ p ∧ q ≠ g := by
  obtain ⟨ns, s, l, S⟩ := S
  exact ⟨(ne_of_none S.hp h).symm, (ne_of_none S.hg h).symm⟩
theorem Pen.same {H H' : Hp} {p g : Addr} (S : Pen H p g) (e : Same H H') : Pen H' p g := by
  obtain ⟨ns, s, l, S⟩ := S
  exact ⟨ns, s, l, e _ _ S.hp, e _ _ S.hg, S.few, S.s0, S.l0⟩
theorem Bt.free {p g q : Addr} {H H1 : Hp} (a : Bt p H H1) (S : Pen H1 p g) (h : H1 q = none) : H q = none := by
  cases e : H q with
  | none => rfl
  | some o =>
    rw [a q o e (S.ne h).1] at h
    cases h
theorem Pen.upd {H : Hp} {p g q : Addr} {o : HO} (S : Pen H p g) (n : q ≠ p) (m : q ≠ g) : Pen (upd H q o) p g := by
  obtain ⟨ns, s, l, S⟩ := S
  exact ⟨ns, s, l, by rw [upd_ne n.symm]; exact S.hp, by rw [upd_ne m.symm]; exact S.hg, S.few, S.s0, S.l0⟩
theorem Pen.new {H : Hp} {p g q : Addr} {o : HO} (S : Pen H p g) (h : H q = none) : Pen (L2.upd H q o) p g := S.same (same_new h)
/-- what is no list is not the pen -/
theorem Pen.off {H : Hp} {p g q : Addr} {o : HO} (S : Pen H p g) (h : H q = some o) (n : ∀ xs, o ≠ .lst xs) : q ≠ p ∧ q ≠ g := by
  obtain ⟨ns, s, l, S⟩ := S
  exact ⟨ne_of h S.hp (n _), ne_of h S.hg (n _)⟩
theorem call_intI {X : Cx} : CallR X (.type "int") (fun xs H Q => ∃ i, xs = [.int i] ∧ Q (.int i) H) := by
  intro pins s σ H xs us Q I r h
  exact call_int1 pins s σ H xs us Q I r (.inl h)
section
variable {P : Program} {w : World} {K : PySem.W.Frag} {mg : Str → Option Value} {base : Heap}
/-! ### _law_pen -/
def spPen (K : PySem.W.Frag) : Sp := fun vs H Q _ => ∃ (a : Addr) (ns : List Int), vs = [.ref a] ∧ SqL K H a (ns.map V.int) ∧ ns.length ≤ 63 ∧ ∀ (p g : Addr) (H' : Hp), H p = none → H g = none → Pen H' p g → Same H H' → Q (.ref p) H'
theorem scPen : FnScope ["_law_script"] ["_law_script"] (defScope sPen) := ⟨rfl, rfl, rfl, by decide +kernel, rfl, by decide +kernel, by decide +kernel⟩
theorem ok_pen {f : Addr} {fd : FuncData} (F : Fun K "_law_pen" "_law_pen" sPen f fd) (Tl : mg "list" = none) : FnOk P w K mg base CX0 1 f fd ["_law_script"] (spPen K) := by
  refine F.ok scPen (fun vs H Q E h => ?_) (fun cdv A outer s H vs Q E hr h => ?_)
  · obtain ⟨_, _, rfl, _⟩ := h
    rfl
  obtain ⟨a, ns, rfl, ha, n63, k⟩ := h
  refine ⟨_, pss_one (ps_ret (pe_lst (pa_cons (pe_callTy call_list_of (by rfl) Tl (by decide +kernel) (pa_cons (pe_slice sl_list (pv 0) po_none (po_some pe_int)) pa_nil)) (pa_cons pe_int (pa_cons pe_int pa_nil))))), ?_⟩
  refine ⟨_, rfl, _, rfl, a, _, rfl, ha, fun b hb => ?_⟩
  have e : cutV (ns.map V.int) none (some 63) = ns.map V.int := by
    unfold cutV
    rw [HT.sIx_none]
    have h : HT.sIx (ns.map V.int).length (ns.map V.int).length (some 63) = ns.length := by
      rw [show (63 : Int) = ((63 : Nat) : Int) from rfl, HT.sIx_nat, List.length_map]
      omega
    rw [h, List.drop_zero, Nat.sub_zero, List.take_of_length_le (by rw [List.length_map]; exact Nat.le_refl _)]
  rw [e]
  have s1 := same_new (o := .lst (ns.map V.int)) hb
  refine ⟨b, _, rfl, .inl (SqL.of upd_same), fun l hl => ?_⟩
  have s2 := same_new (o := .lst (ns.map V.int)) hl
  refine ⟨by show 3 ≤ sizeLine; decide, fun p hp => ?_⟩
  have s3 := same_new (o := .lst [.ref l, .int 0, .int 0]) hp
  refine k p l _ (s1.free (s2.free hp)) (s1.free hl) ⟨ns, 0, 0, upd_same, s3 _ _ upd_same, n63, by decide, by decide⟩ ((s1.trans s2).trans s3)
/-! ### _law_fresh -/
def spFr : Sp := fun vs H Q _ => ∃ (p g : Addr) (ns : List Int) (seat left : Int), vs = [.ref p] ∧ PenOk H p g ns seat left ∧ ∀ (z : Int) (H' : Hp), 0 ≤ z → PenOk H' p g ns (seat + 1) left → Bt p H H' → Q (.int z) H'
abbrev nFr : List Str := ["_law_pen_here", "_law_seat", "_law_given", "_law_cell", "_law_prime", "_law_state", "_law_found", "_law_lap"]
theorem scFr : FnScope nFr ["_law_pen_here"] (defScope sFresh) := ⟨rfl, rfl, rfl, by decide +kernel, rfl, by decide +kernel, by decide +kernel⟩
theorem ok_fresh {f : Addr} {fd : FuncData} (F : Fun K "_law_fresh" "_law_fresh" sFresh f fd) (T : TxtB mg) : FnOk P w K mg base CX0 1 f fd ["_law_pen_here"] spFr := by
  refine F.ok scFr (fun vs H Q E h => ?_) (fun cdv A outer s H vs Q E hr h => ?_)
  · obtain ⟨_, _, _, _, _, rfl, _⟩ := h
    rfl
  obtain ⟨p, g, ns, seat, left, rfl, S, k⟩ := h
  have hu := hu_of hr
  have hu0 : (A.deeper (envOfC "_law_fresh" (defScope sFresh) s.heap.objs.size f cdv)).units < cLine := by have := hr.units; omega
  refine ⟨_, Evl.pss_cut (ps_par (i := 1) (j := 2) (by rfl) scFr.nd rfl rfl (by decide) rfl rfl (pa_cons (pe_ix ix_list (pv 0) pe_int (fun _ _ => rfl)) (pa_cons (pe_ix ix_list (pv 0) pe_int (fun _ _ => rfl)) pa_nil)) (by rfl))
    (Evl.pss_cut (ps_asg (pe_op op_add (pv 1) pe_int) (pg_sub (pv 0) pe_int set_list))
    (Evl.pss_cut (ps_set (i := 3) scFr.nd rfl (Or.inl rfl) (pe_ifExp (pt_cmpR (op_neE hu0) (pv 2) (pe_lst pa_nil) (nomark _)) (pe_ix ix_list (pv 2) (pe_op op_mod (pe_callTy call_intI (by rfl) T.int (by decide +kernel) (pa_cons (pv 1) pa_nil)) (pe_callB call_len_seq (by rfl) T.len PySem.boot_len (pa_cons (pv 2) pa_nil))) (fun _ _ => rfl)) pe_int))
    (Evl.pss_cut (ps_if (PW.pt (pw_and (pt_cmpR op_lt (pv 1) (pe_callB call_len_seq (by rfl) T.len PySem.boot_len (pa_cons (pv 2) pa_nil)) (nomark _)) (pw_and1 (pt_cmpR op_ge (pv 3) (pe_op op_pow pe_int pe_int) (nomark _))))) (pss_one (ps_ret (pe_op op_sub (pv 3) (pe_op op_pow pe_int pe_int)))) pss_nil)
    (pss_cons (ps_set (i := 4) scFr.nd rfl (Or.inl rfl) pe_int)
    (Evl.pss_cut (ps_set (i := 5) scFr.nd rfl (Or.inl rfl) (pe_op op_mod (pe_callTy call_intI (by rfl) T.int (by decide +kernel) (pa_cons (pe_op op_add (pe_op op_add (pe_op op_mul (pv 3) pe_int) (pe_op op_mul pe_int (pv 1))) pe_int) pa_nil)) (pv 4)))
    (pss_cons (ps_set (i := 6) scFr.nd rfl (Or.inl rfl) (pv 5))
    (Evl.pss_cut (ps_for PassesOwn.never rfl (pi_range1 (by rfl) T.range (pa_cons pe_int pa_nil)) (pg_name (i := 7) scFr.nd rfl (Or.inl rfl))
      (pss_cons (ps_set (i := 5) scFr.nd rfl (Or.inl rfl) (pe_op op_mod (pe_callTy call_intI (by rfl) T.int (by decide +kernel) (pa_cons (pe_op op_add (pe_op op_add (pe_op op_mul (pv 5) (pv 5)) (pe_op op_mul (pe_op op_mul pe_int (pe_op op_add (pv 7) pe_int)) (pe_op op_add (pv 1) pe_int))) (pv 3)) pa_nil)) (pv 4)))
      (pss_one (ps_set (i := 6) scFr.nd rfl (Or.inl rfl) (pe_op op_add (pe_op op_mul (pv 6) (pv 4)) (pv 5))))))
    (pss_one (ps_ret (pv 6)))))))))), ?_⟩
  have lim := sizeLine_eq
  refine ⟨fun σ H1 => σ = [some (.ref p), some (.int seat), some (.ref g), none, none, none, none, none] ∧ H1 = H, ?_, ?_⟩
  · exact ⟨_, rfl, p, _, _, V.int seat, rfl, rfl, SqL.of S.hp, atI_nat (j := 1) rfl, _, rfl, p, _, _, V.ref g, rfl, rfl, SqL.of S.hp, atI_nat (j := 0) rfl, _, _, rfl, rfl, rfl⟩
  rintro σ H1 ⟨rfl, rfl⟩
  have gp := S.ne
  have s0 := S.s0
  refine ⟨fun σ H2 => σ = [some (.ref p), some (.int seat), some (.ref g), none, none, none, none, none] ∧ PenOk H2 p g ns (seat + 1) left ∧ Bt p H1 H2, ?_, ?_⟩
  · refine ⟨_, rfl, _, _, rfl, rfl, _, rfl, p, _, 1, 1, rfl, rfl, S.hp, rfl, rfl, ⟨upd_same, by rw [upd_ne gp]; exact S.hg, S.few, by have := S.s0; omega, S.l0⟩, fun b o e n => by rw [upd_ne n]; exact e⟩
  rintro σ H2 ⟨rfl, S2, b2⟩
  -- the cell
  refine ⟨fun σ H3 => ∃ cell : Int, σ = [some (.ref p), some (.int seat), some (.ref g), some (.int cell), none, none, none, none] ∧ PenOk H3 p g ns (seat + 1) left ∧ Bt p H1 H3, ?_, ?_⟩
  · refine ⟨_, rfl, by show 0 ≤ sizeLine; omega, fun e he => ?_⟩
    have s3 := same_new (o := .lst []) he
    have he1 : (upd H2 e (.lst [])) e = some (.lst []) := upd_same
    generalize upd H2 e (.lst []) = H3 at *
    have S3 : PenOk H3 p g ns (seat + 1) left := ⟨s3 _ _ S2.hp, s3 _ _ S2.hg, S2.few, S2.s0, S2.l0⟩
    have b3 := b2.trans (Bt.same s3)
    refine ⟨g, e, _, rfl, rfl, SqL.of S3.hg, SqL.of he1, _, rfl, ?_⟩
    by_cases c : ns = []
    · subst c
      exact ⟨0, rfl, S3, b3⟩
    · have c' : ns.map V.int ≠ [] := fun z => c (List.map_eq_nil_iff.mp z)
      rw [decide_eq_false c']
      have nl : 0 < ns.length := List.length_pos_iff.mpr c
      obtain ⟨sn, rfl⟩ : ∃ n : Nat, seat = (n : Int) := ⟨seat.toNat, by rw [Int.toNat_of_nonneg s0]⟩
      have lm : (sn % ns.length) < ns.length := Nat.mod_lt _ nl
      refine ⟨_, rfl, _, rfl, _, rfl, _, rfl, g, _, rfl, .inl (SqL.of S3.hg), _, _, rfl, rfl, by rw [List.length_map]; omega, ?_⟩
      refine ⟨g, _, _, V.int (ns[sn % ns.length]), rfl, rfl, SqL.of S3.hg, ?_, _, rfl, S3, b3⟩
      show atI (ns.map V.int) ((sn : Int) % ((ns.map V.int).length : Int)) = _
      rw [List.length_map, ← Int.natCast_emod]
      exact atI_nat (by rw [List.getElem?_map, List.getElem?_eq_getElem lm]; rfl)
  rintro σ H3 ⟨cell, rfl, S3, b3⟩
  have n63 := S.few
  refine ⟨fun σ H4 => σ = [some (.ref p), some (.int seat), some (.ref g), some (.int cell), none, none, none, none] ∧ H4 = H3, ?_, ?_⟩
  · refine ⟨_, rfl, _, rfl, g, _, rfl, .inl (SqL.of S3.hg), _, _, rfl, rfl, _, rfl, ?_⟩
    refine ite2 (fun _ => ?_) (fun _ => ⟨rfl, rfl⟩)
    refine ⟨_, rfl, _, _, rfl, rfl, ⟨by decide, by decide, by decide⟩, _, _, rfl, rfl, _, rfl, ?_⟩
    refine ite2 (fun h => ?_) (fun _ => ⟨rfl, rfl⟩)
    refine ⟨_, rfl, _, _, rfl, rfl, ⟨by decide, by decide, by decide⟩, _, _, rfl, rfl, k _ _ ?_ S3 b3⟩
    have := of_decide_eq_true h
    omega
  rintro σ H4 ⟨rfl, rfl⟩
  have pr0 : (0 : Int) < 2305843009213693951 := by decide
  have lowm : ∀ x : Int, 0 ≤ x % 2305843009213693951 := fun x => Int.emod_nonneg _ (by decide)
  have higm : ∀ x : Int, x % 2305843009213693951 < 2305843009213693951 := fun x => Int.emod_lt_of_pos _ (by decide)
  refine ⟨fun σ H5 => ∃ st : Int, σ = [some (.ref p), some (.int seat), some (.ref g), some (.int cell), some (.int 2305843009213693951), some (.int st), none, none] ∧ 0 ≤ st ∧ st < 2305843009213693951 ∧ H5 = H4, ?_, ?_⟩
  · refine ⟨_, rfl, _, _, rfl, rfl, .inr (by decide), _, rfl, _, _, rfl, rfl, .inl (by decide), _, _, rfl, rfl, _, _, rfl, rfl, _, rfl, _, rfl, _, _, rfl, rfl, pr0, _, rfl, lowm _, higm _, rfl⟩
  rintro σ H5 ⟨st, rfl, st0, st1, rfl⟩
  refine ⟨_, rfl, fun σ H6 => ∃ st fo v7, σ = [some (.ref p), some (.int seat), some (.ref g), some (.int cell), some (.int 2305843009213693951), some (.int st), some (.int fo), v7] ∧ 0 ≤ fo ∧ H6 = H5, ?_, ?_⟩
  · refine ⟨_, rfl, by decide, by decide, ?_⟩
    refine for_range (lo := 0) (n := 6) (fun i σ H6 => ∃ st fo v7, σ = [some (.ref p), some (.int seat), some (.ref g), some (.int cell), some (.int 2305843009213693951), some (.int st), some (.int fo), v7] ∧ 0 ≤ st ∧ st < 2305843009213693951 ∧ 0 ≤ fo ∧ H6 = H5) ⟨st, st, none, rfl, st0, st1, st0, rfl⟩ ?_ ?_
    · rintro i σ H6 hi ⟨st, fo, v7, rfl, st0, st1, fo0, rfl⟩
      refine ⟨_, rfl, _, rfl, _, _, rfl, rfl, .inl ⟨by omega, by omega⟩, _, rfl, _, _, rfl, rfl, _, _, rfl, rfl, .inl ⟨by omega, by omega⟩, _, rfl, _, _, rfl, rfl, _, _, rfl, rfl, .inl ⟨by omega, by omega⟩, _, _, rfl, rfl, _, rfl, _, _, rfl, rfl, _, rfl, _, rfl, _, _, rfl, rfl, pr0, ?_⟩
      refine ⟨_, rfl, _, rfl, _, _, rfl, rfl, .inr ⟨by decide, by decide⟩, _, rfl, _, _, rfl, rfl, ?_⟩
      refine ⟨_, _, _, rfl, lowm _, higm _, Int.add_nonneg (Int.mul_nonneg fo0 (by decide)) (lowm _), rfl⟩
    · rintro σ H6 ⟨st, fo, v7, rfl, _, _, fo0, rfl⟩
      exact ⟨st, fo, v7, rfl, fo0, rfl⟩
  rintro σ H6 ⟨st, fo, v7, rfl, fo0, rfl⟩
  exact ⟨_, rfl, k _ _ fo0 S3 b3⟩
/-! ### _law_draw -/
def spPn : Sp := fun vs H Q _ => ∃ (p g : Addr) (b : Nat), vs = [.ref p, .int (b : Int)] ∧ Pen H p g ∧ 1 ≤ b ∧ b ≤ 1000000 ∧ ∀ (z : Nat) (H' : Hp), z < b → Pen H' p g → Bt p H H' → Q (.int (z : Int)) H'
abbrev nPn : List Str := ["_law_pen_here", "_law_bound", "_law_digit"]
theorem scPn : FnScope nPn ["_law_pen_here", "_law_bound"] (defScope sDraw) := ⟨rfl, rfl, rfl, by decide +kernel, rfl, by decide +kernel, by decide +kernel⟩
theorem ok_pn {f : Addr} {fd : FuncData} (F : Fun K "_law_draw" "_law_draw" sDraw f fd) (T : TxtB mg) (Gf : Def P w K mg base "_law_fresh" ["_law_pen_here"] 1 spFr) : FnOk P w K mg base CX0 2 f fd ["_law_pen_here", "_law_bound"] spPn := by
  obtain ⟨ff, fdf, Gf, mf, kf, bf⟩ := Gf.ex
  refine F.ok scPn (fun vs H Q E h => ?_) (fun cdv A outer s H vs Q E hr h => ?_)
  · obtain ⟨_, _, _, rfl, _⟩ := h
    rfl
  obtain ⟨p, g, b, rfl, ⟨ns, seat, left, S⟩, b1, b6, k⟩ := h
  refine ⟨_, Evl.pss_cut (ps_if (pt_cmpR op_lt (pe_ix ix_list (pv 0) pe_int (fun _ _ => rfl)) (pv 1) (nomark _)) (pss_one (ps_asg (pe_call Gf hr (by rfl) mf kf bf .nil pass0 (pa_cons (pv 0) pa_nil)) (pg_sub (pv 0) pe_int set_list))) pss_nil)
    (Evl.pss_cut (ps_set (i := 2) scPn.nd rfl (Or.inl rfl) (pe_op op_mod (pe_callTy call_intI (by rfl) T.int (by decide +kernel) (pa_cons (pe_ix ix_list (pv 0) pe_int (fun _ _ => rfl)) pa_nil)) (pv 1)))
    (Evl.pss_cut (ps_asg (pe_op op_fdiv (pe_callTy call_intI (by rfl) T.int (by decide +kernel) (pa_cons (pe_ix ix_list (pv 0) pe_int (fun _ _ => rfl)) pa_nil)) (pv 1)) (pg_sub (pv 0) pe_int set_list))
    (pss_one (ps_ret (pv 2))))), ?_⟩
  refine ⟨fun σ H1 => ∃ seat left, σ = [some (.ref p), some (.int (b : Int)), none] ∧ PenOk H1 p g ns seat left ∧ Bt p H H1, ?_, ?_⟩
  · refine ⟨_, rfl, p, _, _, V.int left, rfl, rfl, SqL.of S.hp, atI_nat (j := 2) rfl, _, rfl, _, _, rfl, rfl, _, rfl, ?_⟩
    refine ite2 (fun _ => ?_) (fun _ => ⟨seat, left, rfl, S, Bt.refl H⟩)
    refine ⟨_, rfl, p, g, ns, seat, left, rfl, S, fun z H1 z0 S1 b1' => ?_⟩
    refine ⟨_, rfl, p, _, 2, 2, rfl, rfl, S1.hp, rfl, seat + 1, z, rfl, ⟨upd_same, by rw [upd_ne S1.ne]; exact S1.hg, S1.few, S1.s0, z0⟩, fun b' o e n => by rw [upd_ne n]; exact b1' b' o e n⟩
  rintro σ H1 ⟨seat, left, rfl, S1, k1⟩
  have l0 := S1.l0
  obtain ⟨ln, rfl⟩ : ∃ n : Nat, left = (n : Int) := ⟨left.toNat, by rw [Int.toNat_of_nonneg l0]⟩
  refine ⟨fun σ H2 => σ = [some (.ref p), some (.int (b : Int)), some (.int ((ln % b : Nat) : Int))] ∧ H2 = H1, ?_, ?_⟩
  · refine ⟨_, rfl, p, _, _, V.int (ln : Int), rfl, rfl, SqL.of S1.hp, atI_nat (j := 2) rfl, _, rfl, _, rfl, _, _, rfl, rfl, by omega, ?_⟩
    exact ⟨rfl, rfl⟩
  rintro σ H2 ⟨rfl, rfl⟩
  refine ⟨fun σ H3 => σ = [some (.ref p), some (.int (b : Int)), some (.int ((ln % b : Nat) : Int))] ∧ Pen H3 p g ∧ Bt p H2 H3, ?_, ?_⟩
  · refine ⟨_, rfl, p, _, _, V.int (ln : Int), rfl, rfl, SqL.of S1.hp, atI_nat (j := 2) rfl, _, rfl, _, rfl, _, _, rfl, rfl, ⟨by omega, by omega⟩, ?_⟩
    refine ⟨_, rfl, p, _, 2, 2, rfl, rfl, S1.hp, rfl, rfl, ⟨ns, seat, _, upd_same, by rw [upd_ne S1.ne]; exact S1.hg, S1.few, S1.s0, Int.ediv_nonneg l0 (by omega)⟩, fun b' o e n => by rw [upd_ne n]; exact e⟩
  rintro σ H3 ⟨rfl, S3, k3⟩
  exact ⟨_, rfl, k (ln % b) H3 (Nat.mod_lt _ (by omega)) S3 (k1.trans k3)⟩
/-! ### _law_one_of -/
def spOne : Sp := fun vs H Q _ => ∃ (p g a : Addr) (xs : List V), vs = [.ref p, .ref a] ∧ Pen H p g ∧ H a = some (.lst xs) ∧ a ≠ p ∧ 1 ≤ xs.length ∧ xs.length ≤ 1000 ∧ ∀ (i : Nat) (v : V) (H' : Hp), xs[i]? = some v → Pen H' p g → Bt p H H' → Q v H'
theorem scOne : FnScope ["_law_pen_here", "_law_some"] ["_law_pen_here", "_law_some"] (defScope sOneOf) := ⟨rfl, rfl, rfl, by decide +kernel, rfl, by decide +kernel, by decide +kernel⟩
theorem ok_one {f : Addr} {fd : FuncData} (F : Fun K "_law_one_of" "_law_one_of" sOneOf f fd) (T : TxtB mg) (Gd : Def P w K mg base "_law_draw" ["_law_pen_here", "_law_bound"] 2 spPn) : FnOk P w K mg base CX0 3 f fd ["_law_pen_here", "_law_some"] spOne := by
  obtain ⟨fd', fdd, Gd, md, kd, bd⟩ := Gd.ex
  refine F.ok scOne (fun vs H Q E h => ?_) (fun cdv A outer s H vs Q E hr h => ?_)
  · obtain ⟨_, _, _, _, rfl, _⟩ := h
    rfl
  obtain ⟨p, g, a, xs, rfl, S, ha, nap, x1, x3, k⟩ := h
  refine ⟨_, pss_one (ps_ret (pe_ix ix_list (pv 1) (pe_call Gd hr (by rfl) md kd bd .nil pass0 (pa_cons (pv 0) (pa_cons (pe_callB call_len_seq (by rfl) T.len PySem.boot_len (pa_cons (pv 1) pa_nil)) pa_nil))) (fun _ _ => rfl))), ?_⟩
  refine ⟨_, rfl, _, rfl, _, rfl, a, _, rfl, .inl (SqL.of ha), p, g, xs.length, rfl, S, x1, by omega, fun z H1 hz S1 b1 => ?_⟩
  have hx : xs[z]? = some (xs[z]) := List.getElem?_eq_getElem hz
  exact ⟨a, _, _, _, rfl, rfl, SqL.of (b1 _ _ ha nap), atI_nat hx, k z _ H1 hx S1 b1⟩
theorem map_erase {α β : Type} (f : α → β) : ∀ (l : List α) (k : Nat), (l.eraseIdx k).map f = (l.map f).eraseIdx k
  | [], _ => rfl
  | _ :: _, 0 => rfl
  | x :: l, k + 1 => by
    show f x :: (l.eraseIdx k).map f = f x :: (l.map f).eraseIdx k
    rw [map_erase f l k]
/-! ### _law_words -/
def w14 : List Str := ["a", "b", "x", "ann", "bob", "p0", "p1", "p10", "m0", "abcdefgh", "z9999", "q", "r2", "cid"]
theorem w14_nd : w14.Nodup := by decide +kernel
theorem w14_w : ∀ x ∈ w14, isWordB x = true := by decide +kernel
def spWo : Sp := fun vs H Q _ => ∃ (p g : Addr) (m : Nat), vs = [.ref p, .int (m : Int)] ∧ Pen H p g ∧ m ≤ 14 ∧
  ∀ (a : Addr) (nm : List Str) (H' : Hp), H a = none → H' a = some (.lst (nm.map V.str)) → nm.length = m → nm.Nodup → (∀ x ∈ nm, x ∈ w14) → Pen H' p g → Bt p H H' → Q (.ref a) H'
abbrev nWo : List Str := ["_law_pen_here", "_law_many", "_law_left", "_law_found", "_law_lap"]
theorem scWo : FnScope nWo ["_law_pen_here", "_law_many"] (defScope sWords) := ⟨rfl, rfl, rfl, by decide +kernel, rfl, by decide +kernel, by decide +kernel⟩
theorem ok_wo {f : Addr} {fd : FuncData} (F : Fun K "_law_words" "_law_words" sWords f fd) (T : TxtB mg) (Gd : Def P w K mg base "_law_draw" ["_law_pen_here", "_law_bound"] 2 spPn) : FnOk P w K mg base CX0 3 f fd ["_law_pen_here", "_law_many"] spWo := by
  obtain ⟨fd', fdd, Gd, md, kd, bd⟩ := Gd.ex
  refine F.ok scWo (fun vs H Q E h => ?_) (fun cdv A outer s H vs Q E hr h => ?_)
  · obtain ⟨_, _, _, rfl, _⟩ := h
    rfl
  obtain ⟨p, g, m, rfl, S, m14, k⟩ := h
  refine ⟨_, Evl.pss_cut (ps_par (i := 2) (j := 3) (by rfl) scWo.nd rfl rfl (by decide) rfl rfl (pa_cons (pe_lst (pa_cons pe_str (pa_cons pe_str (pa_cons pe_str (pa_cons pe_str (pa_cons pe_str (pa_cons pe_str (pa_cons pe_str (pa_cons pe_str (pa_cons pe_str (pa_cons pe_str (pa_cons pe_str (pa_cons pe_str (pa_cons pe_str (pa_cons pe_str pa_nil))))))))))))))) (pa_cons (pe_lst pa_nil) pa_nil)) (by rfl))
    (Evl.pss_cut (ps_for PassesOwn.never rfl (pi_range1 (by rfl) T.range (pa_cons (pv 1) pa_nil)) (pg_name (i := 4) scWo.nd rfl (Or.inl rfl))
      (pss_one (ps_expr (pe_bm PySem.F.plainAttrs_list PySem.F.slot_list_append PySem.F.type_list_append mt_append (pv 3) (pa_cons (pe_bm PySem.F.plainAttrs_list PySem.F.slot_list_pop PySem.F.type_list_pop mt_popAt (pv 2) (pa_cons (pe_call Gd hr (by rfl) md kd bd .nil pass0 (pa_cons (pv 0) (pa_cons (pe_callB call_len_seq (by rfl) T.len PySem.boot_len (pa_cons (pv 2) pa_nil)) pa_nil))) pa_nil)) pa_nil)))))
    (pss_one (ps_ret (pv 3)))), ?_⟩
  have lim := sizeLine_eq
  refine ⟨fun σ H1 => ∃ l a, σ = [some (.ref p), some (.int (m : Int)), some (.ref l), some (.ref a), none] ∧ H1 l = some (.lst (w14.map V.str)) ∧ H1 a = some (.lst []) ∧ l ≠ a ∧ H l = none ∧ H a = none ∧ Same H H1, ?_, ?_⟩
  · refine ⟨by show 14 ≤ sizeLine; omega, fun l hl => ?_⟩
    have sl := same_new (o := .lst (w14.map V.str)) hl
    have hl1 : (upd H l (.lst (w14.map V.str))) l = some (.lst (w14.map V.str)) := upd_same
    refine ⟨by show 0 ≤ sizeLine; omega, fun a ha => ?_⟩
    have sa := same_new (o := .lst []) ha
    exact ⟨_, _, rfl, l, a, rfl, sa _ _ hl1, upd_same, ne_of_none hl1 ha, hl, sl.free ha, sl.trans sa⟩
  rintro σ H1 ⟨l, a, rfl, hl, ha, nla, hl0, ha0, s1⟩
  have S1 := S.same s1
  obtain ⟨lp, lg⟩ := S.ne hl0
  obtain ⟨ap, ag⟩ := S.ne ha0
  refine ⟨fun σ H2 => ∃ (v : Option V) (nm : List Str), σ = [some (.ref p), some (.int (m : Int)), some (.ref l), some (.ref a), v] ∧ H2 a = some (.lst (nm.map V.str)) ∧ nm.length = m ∧ nm.Nodup ∧ (∀ x ∈ nm, x ∈ w14) ∧ Pen H2 p g ∧ Bt p H H2, ?_, ?_⟩
  · refine ⟨_, rfl, _, rfl, by omega, by omega, ?_⟩
    refine for_range (lo := 0) (n := m) (fun i σ H2 => ∃ (v : Option V) (nm zs : List Str), σ = [some (.ref p), some (.int (m : Int)), some (.ref l), some (.ref a), v] ∧ (nm ++ zs).Perm w14 ∧ nm.length = i ∧ H2 a = some (.lst (nm.map V.str)) ∧ H2 l = some (.lst (zs.map V.str)) ∧ Pen H2 p g ∧ Bt p H H2)
      ⟨none, [], w14, rfl, List.Perm.refl _, rfl, ha, hl, S1, Bt.same s1⟩ ?_ ?_
    · rintro i σ H2 hi ⟨v, nm, zs, rfl, pm, hn, ha2, hl2, S2, b2⟩
      have hlen : nm.length + zs.length = 14 := by rw [← List.length_append]; exact pm.length_eq
      refine ⟨_, rfl, .inl ⟨rfl, _, SqL.of ha2⟩, _, rfl, .inl ⟨rfl, _, SqL.of hl2⟩, _, rfl, _, rfl, l, _, rfl, .inl (SqL.of hl2), p, g, zs.length, by rw [List.length_map]; rfl, S2, by omega, by omega, fun z H3 hz S3 b3 => ?_⟩
      have hl3 := b3 _ _ hl2 lp
      have ha3 := b3 _ _ ha2 ap
      obtain ⟨y, hy⟩ : ∃ y, zs[z]? = some y := ⟨_, List.getElem?_eq_getElem hz⟩
      refine ⟨l, _, (z : Int), z, V.str y, rfl, rfl, hl3, by omega, by omega, ?_, by rw [List.getElem?_map, hy]; rfl, ?_⟩
      · rw [List.length_map]
        have := seqIndex_of (k := (z : Int)) (n := zs.length) (by omega) (by omega)
        rwa [Int.toNat_natCast] at this
      have ha4 : (upd H3 l (.lst ((zs.map V.str).eraseIdx z))) a = some (.lst (nm.map V.str)) := by rw [upd_ne nla.symm]; exact ha3
      refine ⟨a, _, _, rfl, rfl, ha4, Evl.sz_lt (by rw [List.length_map]; omega), _, nm ++ [y], zs.eraseIdx z, rfl, ?_, by rw [List.length_append, hn]; rfl, by rw [upd_same, List.map_append]; rfl, ?_, ?_, ?_⟩
      · refine List.Perm.trans ?_ pm
        rw [List.append_assoc]
        refine List.Perm.append_left nm ?_
        exact erase_perm hy
      · rw [upd_ne nla, upd_same, ← map_erase]
      · exact (S3.upd lp lg).upd ap ag
      · exact ((b2.trans b3).off hl0).off ha0
    · rintro σ H2 ⟨v, nm, zs, rfl, pm, hn, ha2, _, S2, b2⟩
      have nd := pm.nodup_iff.mpr w14_nd
      exact ⟨v, nm, rfl, ha2, hn, (List.nodup_append.mp nd).1, fun x hx => pm.mem_iff.mp (List.mem_append_left _ hx), S2, b2⟩
  rintro σ H2 ⟨v, nm, rfl, ha2, hn, nd, mm, S2, b2⟩
  exact ⟨_, rfl, k a nm H2 ha0 ha2 hn nd mm S2 b2⟩
end
end Nm
set_option autoImplicit false
set_option maxRecDepth 100000
set_option maxHeartbeats 8000000
/-! raw webs -/
namespace Nm
open PySem PySem.Spec PyProof.Rows L2
def nmAt (nm : List Str) (i : Nat) : Str := (nm[i]?).getD ""
theorem nmAt_of {nm : List Str} {i : Nat} {x : Str} (h : nm[i]? = some x) : nmAt nm i = x := by
  unfold nmAt
  rw [h]
  rfl
theorem nmAt_get {nm : List Str} {i : Nat} (h : i < nm.length) : nm[i]? = some (nmAt nm i) := by
  unfold nmAt
  rw [List.getElem?_eq_getElem h]
  rfl
theorem nmAt_inj {nm : List Str} (nd : nm.Nodup) {i j : Nat} (hi : i < nm.length) (hj : j < nm.length) (e : nmAt nm i = nmAt nm j) : i = j := by
  have h1 := nmAt_get hi
  have h2 := nmAt_get hj
  rw [e] at h1
  exact (List.getElem?_inj hi nd).mp (h1.trans h2.symm)
def spanKey (nm : List Str) (r : RowV) : List Key := [Sum.inr (nmAt nm r.i), Sum.inr (nmAt nm r.j), Sum.inr r.kd]
/-- the dict of a raw web's widths -/
def spanK (nm : List Str) (rs : List RowV) : List (List Key × V) := rs.map fun r => (spanKey nm r, V.int r.w)
theorem spanK_len (nm : List Str) (rs : List RowV) : (spanK nm rs).length = rs.length := List.length_map _
theorem spanKey_inj {nm : List Str} (nd : nm.Nodup) {r r' : RowV} (h : r.i < nm.length ∧ r.j < nm.length) (h' : r'.i < nm.length ∧ r'.j < nm.length) (e : spanKey nm r = spanKey nm r') : (r.i, r.j, r.kd) = (r'.i, r'.j, r'.kd) := by
  unfold spanKey at e
  obtain ⟨e1, e⟩ := List.cons.inj e
  obtain ⟨e2, e⟩ := List.cons.inj e
  obtain ⟨e3, _⟩ := List.cons.inj e
  rw [nmAt_inj nd h.1 h'.1 (Sum.inr.inj e1), nmAt_inj nd h.2 h'.2 (Sum.inr.inj e2), Sum.inr.inj e3]
/-- what does not hang on the heap -/
structure RawOk (nm cl : List Str) (rs : List RowV) : Prop where
  n1 : 1 ≤ nm.length
  n7 : nm.length ≤ 200
  nd : nm.Nodup
  nw : ∀ x ∈ nm, isWordB x = true
  cn : cl.length = nm.length
  cw : ∀ x ∈ cl, isWordB x = true
  fit : RowsFit nm.length rs
  w6 : ∀ r ∈ rs, r.w ≤ 1000000
  few : rs.length ≤ 1000
theorem RawOk.span_nd {nm cl : List Str} {rs : List RowV} (h : RawOk nm cl rs) : ((spanK nm rs).map (·.1)).Nodup := by
  have e : (spanK nm rs).map (·.1) = rs.map (spanKey nm) := by
    unfold spanK
    rw [List.map_map]
    rfl
  rw [e]
  have nd := h.fit.nd
  have lt := h.fit.lt
  revert nd lt
  generalize rs = l
  intro nd lt
  induction l with
  | nil => exact List.nodup_nil
  | cons r l ih =>
    rw [List.map_cons, List.nodup_cons] at nd ⊢
    refine ⟨fun m => ?_, ih nd.2 fun x hx => lt x (List.mem_cons_of_mem _ hx)⟩
    obtain ⟨r', hr', e⟩ := List.mem_map.mp m
    have a := lt r List.mem_cons_self
    have b := lt r' (List.mem_cons_of_mem _ hr')
    exact nd.1 (List.mem_map.mpr ⟨r', hr', spanKey_inj h.nd (by omega) (by omega) e⟩)
theorem RawOk.val {nm cl : List Str} {rs : List RowV} (h : RawOk nm cl rs) {r : RowV} (hr : r ∈ rs) : valV (spanK nm rs) (spanKey nm r) = some (V.int r.w) :=
  val_of_mem h.span_nd (List.mem_map.mpr ⟨r, hr, rfl⟩)
/-- a raw web as it stands, apart from the pen -/
structure RawAt (H : Hp) (p g R o h t : Addr) (nm cl : List Str) (rs : List RowV) : Prop where
  hR : H R = some (.lst [.ref o, .ref h, .ref t])
  ho : H o = some (.lst (nm.map V.str))
  hh : H h = some (.dK (colK nm cl))
  ht : H t = some (.dT (spanK nm rs))
  nR : R ≠ p ∧ R ≠ g
  no : o ≠ p ∧ o ≠ g
  nh : h ≠ p ∧ h ≠ g
  nt : t ≠ p ∧ t ≠ g
theorem RawAt.bt {H H' : Hp} {p g R o h t : Addr} {nm cl : List Str} {rs : List RowV} (A : RawAt H p g R o h t nm cl rs) (b : Bt p H H') : RawAt H' p g R o h t nm cl rs :=
  ⟨b _ _ A.hR A.nR.1, b _ _ A.ho A.no.1, b _ _ A.hh A.nh.1, b _ _ A.ht A.nt.1, A.nR, A.no, A.nh, A.nt⟩
theorem RawAt.same {H H' : Hp} {p g R o h t : Addr} {nm cl : List Str} {rs : List RowV} (A : RawAt H p g R o h t nm cl rs) (s : Same H H') : RawAt H' p g R o h t nm cl rs := A.bt (Bt.same s)
def Raw (H : Hp) (p g R : Addr) (nm cl : List Str) (rs : List RowV) : Prop := ∃ o h t, RawAt H p g R o h t nm cl rs
theorem Raw.bt {H H' : Hp} {p g R : Addr} {nm cl : List Str} {rs : List RowV} (A : Raw H p g R nm cl rs) (b : Bt p H H') : Raw H' p g R nm cl rs := by
  obtain ⟨o, h, t, A⟩ := A
  exact ⟨o, h, t, A.bt b⟩
theorem Raw.same {H H' : Hp} {p g R : Addr} {nm cl : List Str} {rs : List RowV} (A : Raw H p g R nm cl rs) (s : Same H H') : Raw H' p g R nm cl rs := A.bt (Bt.same s)
/-- rows so far, all of them ahead of a place -/
structure RowsTo (n : Nat) (kinds : List Str) (rs : List RowV) (j i k : Nat) : Prop where
  fit : RowsFit n rs
  w2 : ∀ r ∈ rs, r.w ≤ 2
  ahead : ∀ r ∈ rs, r.j < j ∨ r.j = j ∧ (r.i < i ∨ r.i = i ∧ r.kd ∈ kinds.take k)
  kin : ∀ r ∈ rs, r.kd ∈ kinds
theorem RowsTo.nil (n : Nat) (kinds : List Str) : RowsTo n kinds [] 0 0 0 :=
  ⟨⟨fun _ h => (List.not_mem_nil h).elim, fun _ h => (List.not_mem_nil h).elim, fun _ h => (List.not_mem_nil h).elim, List.nodup_nil⟩, fun _ h => (List.not_mem_nil h).elim, fun _ h => (List.not_mem_nil h).elim, fun _ h => (List.not_mem_nil h).elim⟩
theorem RowsTo.on {n : Nat} {kinds : List Str} {rs : List RowV} {j i k j' i' k' : Nat} (h : RowsTo n kinds rs j i k) (e : j < j' ∨ j = j' ∧ (i < i' ∨ i = i' ∧ k ≤ k')) : RowsTo n kinds rs j' i' k' := by
  refine ⟨h.fit, h.w2, fun r hr => ?_, h.kin⟩
  rcases h.ahead r hr with a | ⟨a, b | ⟨b, c⟩⟩
  · rcases e with e | ⟨e, _⟩
    · exact .inl (by omega)
    · exact .inl (by omega)
  · rcases e with e | ⟨e, f | ⟨f, _⟩⟩
    · exact .inl (by omega)
    · exact .inr ⟨by omega, .inl (by omega)⟩
    · exact .inr ⟨by omega, .inl (by omega)⟩
  · rcases e with e | ⟨e, f | ⟨f, g⟩⟩
    · exact .inl (by omega)
    · exact .inr ⟨by omega, .inl (by omega)⟩
    · exact .inr ⟨by omega, .inr ⟨by omega, (List.take_subset_take_left _ g) c⟩⟩
theorem RowsTo.put {n : Nat} {kinds : List Str} {rs : List RowV} {j i k : Nat} {kd : Str} {w : Nat} (h : RowsTo n kinds rs j i k) (knd : kinds.Nodup) (hk : kinds[k]? = some kd) (kw : isWordB kd = true) (ij : i < j) (jn : j < n) (w1 : 1 ≤ w) (w2 : w ≤ 2) : RowsTo n kinds (rs ++ [⟨i, j, kd, (w : Int)⟩]) j i (k + 1) := by
  have new : (i, j, kd) ∉ rs.map fun r => (r.i, r.j, r.kd) := fun m => by
    obtain ⟨r, hr, e⟩ := List.mem_map.mp m
    have e1 : r.i = i := congrArg (fun x => x.1) e
    have e2 : r.j = j := congrArg (fun x => x.2.1) e
    have e3 : r.kd = kd := congrArg (fun x => x.2.2) e
    rcases h.ahead r hr with a | ⟨a, b | ⟨b, c⟩⟩
    · omega
    · omega
    · rw [e3] at c
      obtain ⟨q, hq⟩ := List.getElem?_of_mem c
      rw [List.getElem?_take] at hq
      split at hq
      · have := (List.getElem?_inj (List.getElem?_eq_some_iff.mp hq).1 knd).mp (hq.trans hk.symm)
        omega
      · cases hq
  refine ⟨⟨fun r hr => ?_, fun r hr => ?_, fun r hr => ?_, ?_⟩, fun r hr => ?_, fun r hr => ?_, fun r hr => ?_⟩
  · rcases List.mem_append.mp hr with a | a
    · exact h.fit.lt r a
    · rw [List.mem_singleton.mp a]; exact ⟨ij, jn⟩
  · rcases List.mem_append.mp hr with a | a
    · exact h.fit.kw r a
    · rw [List.mem_singleton.mp a]; exact kw
  · rcases List.mem_append.mp hr with a | a
    · exact h.fit.w1 r a
    · rw [List.mem_singleton.mp a]; show (1 : Int) ≤ w; omega
  · rw [List.map_append, List.map_cons, List.map_nil]
    rw [List.nodup_append]
    exact ⟨h.fit.nd, by simp, fun a ha b hb => by rw [List.mem_singleton.mp hb]; exact fun e => new (by rw [← e]; exact ha)⟩
  · rcases List.mem_append.mp hr with a | a
    · exact h.w2 r a
    · rw [List.mem_singleton.mp a]; show (w : Int) ≤ 2; omega
  · rcases List.mem_append.mp hr with a | a
    · rcases h.ahead r a with x | ⟨x, y | ⟨y, z⟩⟩
      · exact .inl x
      · exact .inr ⟨x, .inl y⟩
      · exact .inr ⟨x, .inr ⟨y, (List.take_subset_take_left _ (Nat.le_succ k)) z⟩⟩
    · rw [List.mem_singleton.mp a]
      exact .inr ⟨rfl, .inr ⟨rfl, by rw [List.take_add_one, hk]; exact List.mem_append_right _ (by simp)⟩⟩
  · rcases List.mem_append.mp hr with a | a
    · exact h.kin r a
    · rw [List.mem_singleton.mp a]
      exact List.mem_of_getElem? hk
theorem span_put {nm : List Str} {kinds : List Str} {rs : List RowV} {j i k : Nat} {kd : Str} {w : Nat} (nd : nm.Nodup) (h : RowsTo nm.length kinds rs j i k) (h' : RowsTo nm.length kinds (rs ++ [⟨i, j, kd, (w : Int)⟩]) j i (k + 1)) (ij : i < j) (jn : j < nm.length) :
    putK (spanK nm rs) (spanKey nm ⟨i, j, kd, (w : Int)⟩) (V.int (w : Int)) = spanK nm (rs ++ [⟨i, j, kd, (w : Int)⟩]) := by
  rw [putK_new]
  · unfold spanK
    rw [List.map_append]
    rfl
  · refine val_none_of fun m => ?_
    unfold spanK at m
    rw [List.map_map] at m
    obtain ⟨r, hr, e⟩ := List.mem_map.mp m
    have e : spanKey nm r = spanKey nm ⟨i, j, kd, (w : Int)⟩ := e
    have lt := h.fit.lt r hr
    have := spanKey_inj nd (r := r) (r' := ⟨i, j, kd, (w : Int)⟩) (by omega) ⟨by show i < _; omega, jn⟩ e
    have nd' := h'.fit.nd
    rw [List.map_append, List.nodup_append] at nd'
    exact nd'.2.2 _ (List.mem_map.mpr ⟨r, hr, rfl⟩) (i, j, kd) (by simp) this
end Nm
set_option autoImplicit false
set_option maxRecDepth 100000
set_option maxHeartbeats 4000000
/-! a raw web whose dict of colours may stand in any order -/
namespace Nm
open PySem PySem.Spec PyProof.Rows L2
structure RawAtG (H : Hp) (p g R o h t : Addr) (nm cl : List Str) (ck : List (Key × V)) (rs : List RowV) : Prop where
  hR : H R = some (.lst [.ref o, .ref h, .ref t])
  ho : H o = some (.lst (nm.map V.str))
  hh : H h = some (.dK ck)
  ht : H t = some (.dT (spanK nm rs))
  nR : R ≠ p ∧ R ≠ g
  no : o ≠ p ∧ o ≠ g
  nh : h ≠ p ∧ h ≠ g
  nt : t ≠ p ∧ t ≠ g
  tell : ∀ (i : Nat) (x y : Str), nm[i]? = some x → cl[i]? = some y → valV ck (Sum.inr x) = some (V.str y)
theorem RawAtG.bt {H H' : Hp} {p g R o h t : Addr} {nm cl : List Str} {ck : List (Key × V)} {rs : List RowV} (A : RawAtG H p g R o h t nm cl ck rs) (b : Bt p H H') : RawAtG H' p g R o h t nm cl ck rs :=
  ⟨b _ _ A.hR A.nR.1, b _ _ A.ho A.no.1, b _ _ A.hh A.nh.1, b _ _ A.ht A.nt.1, A.nR, A.no, A.nh, A.nt, A.tell⟩
theorem RawAtG.same {H H' : Hp} {p g R o h t : Addr} {nm cl : List Str} {ck : List (Key × V)} {rs : List RowV} (A : RawAtG H p g R o h t nm cl ck rs) (s : Same H H') : RawAtG H' p g R o h t nm cl ck rs := A.bt (Bt.same s)
def RawG (H : Hp) (p g R : Addr) (nm cl : List Str) (ck : List (Key × V)) (rs : List RowV) : Prop := ∃ o h t, RawAtG H p g R o h t nm cl ck rs
theorem RawG.bt {H H' : Hp} {p g R : Addr} {nm cl : List Str} {ck : List (Key × V)} {rs : List RowV} (A : RawG H p g R nm cl ck rs) (b : Bt p H H') : RawG H' p g R nm cl ck rs := by
  obtain ⟨o, h, t, A⟩ := A
  exact ⟨o, h, t, A.bt b⟩
theorem RawG.same {H H' : Hp} {p g R : Addr} {nm cl : List Str} {ck : List (Key × V)} {rs : List RowV} (A : RawG H p g R nm cl ck rs) (s : Same H H') : RawG H' p g R nm cl ck rs := A.bt (Bt.same s)
theorem Raw.g {H : Hp} {p g R : Addr} {nm cl : List Str} {rs : List RowV} (A : Raw H p g R nm cl rs) (nd : nm.Nodup) (cn : nm.length ≤ cl.length) : RawG H p g R nm cl (colK nm cl) rs := by
  obtain ⟨o, h, t, A⟩ := A
  exact ⟨o, h, t, A.hR, A.ho, A.hh, A.ht, A.nR, A.no, A.nh, A.nt, fun i x y hx hy => colK_at cn nd hx hy⟩
end Nm
set_option autoImplicit false
set_option maxRecDepth 100000
set_option maxHeartbeats 16000000
/-! _law_raw -/
namespace Nm
open PySem PySem.Spec PyProof.Rows L2
theorem tnI {σ : L2.St} {H : Hp} {k : List V → Hp → Prop} (h : k [] H) : tNil σ H k := h
theorem zip_snoc {α β : Type} {c : β} : ∀ {cl : List β} {nm : List α} {x : α}, nm[cl.length]? = some x → nm.zip (cl ++ [c]) = nm.zip cl ++ [(x, c)]
  | [], [], _, h => by cases h
  | [], y :: nm, x, h => by
    cases h
    simp
  | d :: cl, [], _, h => by cases h
  | d :: cl, y :: nm, x, h => by
    have h : nm[cl.length]? = some x := h
    show (y, d) :: nm.zip (cl ++ [c]) = (y, d) :: (nm.zip cl ++ [(x, c)])
    rw [zip_snoc h]
theorem colK_put {nm cl : List Str} {x c : Str} (nd : nm.Nodup) (h : nm[cl.length]? = some x) : putK (colK nm cl) (Sum.inr x) (V.str c) = colK nm (cl ++ [c]) := by
  have lt := (List.getElem?_eq_some_iff.mp h).1
  rw [putK_new]
  · unfold colK
    rw [zip_snoc h, List.map_append]
    rfl
  · refine val_none_of fun m => ?_
    unfold colK at m
    rw [List.map_map] at m
    obtain ⟨⟨y, d⟩, hy, e⟩ := List.mem_map.mp m
    have e : y = x := Sum.inr.inj e
    subst e
    obtain ⟨i, hi⟩ := List.getElem?_of_mem hy
    rw [List.getElem?_zip_eq_some] at hi
    have i1 := (List.getElem?_eq_some_iff.mp hi.2).1
    have := (List.getElem?_inj (List.getElem?_eq_some_iff.mp hi.1).1 nd).mp (hi.1.trans h.symm)
    omega
def keysL (ks : List Str) : Nat → List (Nat × Nat × Str)
  | 0 => []
  | n + 1 => keysL ks n ++ (List.range n).flatMap fun i => ks.map fun k => (i, n, k)
theorem keysL_mem {ks : List Str} {i j : Nat} {k : Str} (hk : k ∈ ks) : ∀ {n : Nat}, i < j → j < n → (i, j, k) ∈ keysL ks n
  | 0, _, h => by omega
  | n + 1, h1, h2 => by
    unfold keysL
    rcases Nat.lt_succ_iff_lt_or_eq.mp h2 with h | h
    · exact List.mem_append_left _ (keysL_mem hk h1 h)
    · subst h
      exact List.mem_append_right _ (List.mem_flatMap.mpr ⟨i, List.mem_range.mpr h1, List.mem_map.mpr ⟨k, hk, rfl⟩⟩)
theorem sum_const (c : Nat) : ∀ l : List Nat, (l.map fun _ => c).sum = l.length * c
  | [] => by simp
  | x :: l => by
    rw [List.map_cons, List.sum_cons, sum_const c l, List.length_cons, Nat.succ_mul, Nat.add_comm]
theorem keysL_len (ks : List Str) : ∀ n : Nat, 2 * (keysL ks n).length = n * (n - 1) * ks.length
  | 0 => by simp [keysL]
  | n + 1 => by
    have ih := keysL_len ks n
    have e : ((List.range n).flatMap fun i => ks.map fun k => (i, n, k)).length = n * ks.length := by
      rw [List.length_flatMap]
      simp only [List.length_map]
      rw [sum_const, List.length_range]
    unfold keysL
    rw [List.length_append, e, Nat.mul_add, ih, Nat.add_sub_cancel]
    cases n with
    | zero => simp
    | succ m =>
      rw [Nat.add_sub_cancel]
      have : (m + 1 + 1) * (m + 1) * ks.length = (m + 1) * m * ks.length + 2 * ((m + 1) * ks.length) := by
        rw [← Nat.mul_assoc 2, ← Nat.add_mul]
        congr 1
        rw [Nat.mul_comm (m + 1 + 1), ← Nat.mul_comm (m + 1) 2, ← Nat.mul_add]
      omega
theorem sub_len {α : Type} [DecidableEq α] : ∀ {l m : List α}, l.Nodup → (∀ x ∈ l, x ∈ m) → l.length ≤ m.length
  | [], m, _, _ => Nat.zero_le _
  | x :: l, m, nd, h => by
    obtain ⟨s, t, rfl⟩ := List.append_of_mem (h x List.mem_cons_self)
    have nd' := List.nodup_cons.mp nd
    have := sub_len (l := l) (m := s ++ t) nd'.2 fun y hy => by
      have := h y (List.mem_cons_of_mem _ hy)
      simp only [List.mem_append, List.mem_cons] at this ⊢
      rcases this with a | rfl | a
      · exact .inl a
      · exact absurd hy nd'.1
      · exact .inr a
    simp at this ⊢
    omega
theorem rows_few {n : Nat} {rs : List RowV} {ks : List Str} (F : RowsFit n rs) (hk : ∀ r ∈ rs, r.kd ∈ ks) (k2 : ks.length ≤ 2) : rs.length ≤ n * (n - 1) := by
  have h := sub_len F.nd (m := keysL ks n) fun x hx => by
    obtain ⟨r, hr, rfl⟩ := List.mem_map.mp hx
    have := F.lt r hr
    exact keysL_mem (hk r hr) this.1 this.2
  rw [List.length_map] at h
  have := keysL_len ks n
  have := Nat.mul_le_mul_left (n * (n - 1)) k2
  omega
section
variable {P : Program} {w : World} {K : PySem.W.Frag} {mg : Str → Option Value} {base : Heap}
def spRaw : Sp := fun vs H Q _ => ∃ (p g : Addr) (M : Nat), vs = [.ref p, .int (M : Int)] ∧ Pen H p g ∧ 2 ≤ M ∧ M ≤ 10 ∧
  ∀ (R : Addr) (nm cl : List Str) (rs : List RowV) (H' : Hp), H R = none → Raw H' p g R nm cl rs → RawOk nm cl rs → nm.length ≤ M → (∀ r ∈ rs, r.w ≤ 2) → rs.length ≤ nm.length * (nm.length - 1) → (∀ x ∈ nm, x ∈ w14) → (∀ x ∈ cl, x ∈ w14) → (∀ r ∈ rs, r.kd ∈ w14) → Pen H' p g → Bt p H H' → Q (.ref R) H'
abbrev nRa : List Str := ["_law_pen_here", "_law_most", "_law_order", "_law_some", "_law_kinds", "_law_hues", "_law_spans", "_law_thick", "_law_name", "_law_j", "_law_i", "_law_kind"]
theorem scRa : FnScope nRa ["_law_pen_here", "_law_most"] (defScope sRaw) := ⟨rfl, rfl, rfl, by decide +kernel, rfl, by decide +kernel, by decide +kernel⟩
theorem ok_raw {f : Addr} {fd : FuncData} (F : Fun K "_law_raw" "_law_raw" sRaw f fd) (T : TxtB mg) (Gd : Def P w K mg base "_law_draw" ["_law_pen_here", "_law_bound"] 2 spPn) (Go : Def P w K mg base "_law_one_of" ["_law_pen_here", "_law_some"] 3 spOne) (Gw : Def P w K mg base "_law_words" ["_law_pen_here", "_law_many"] 3 spWo) : FnOk P w K mg base CX0 4 f fd ["_law_pen_here", "_law_most"] spRaw := by
  obtain ⟨fd', fdd, Gd, md, kd, bd⟩ := Gd.ex
  obtain ⟨fo, fdo, Go, mo, ko, bo⟩ := Go.ex
  obtain ⟨fw, fdw, Gw, mw, kw, bw⟩ := Gw.ex
  refine F.ok scRa (fun vs H Q E h => ?_) (fun cdv A outer s H vs Q E hr h => ?_)
  · obtain ⟨_, _, _, rfl, _⟩ := h
    rfl
  obtain ⟨p, g, M, rfl, S, M2, M10, k⟩ := h
  have hu := hu_of hr
  have lim := sizeLine_eq
  refine ⟨_, Evl.pss_cut (ps_set (i := 2) scRa.nd rfl (Or.inl rfl) (pe_call Gw hr (by rfl) mw kw bw .nil pass0 (pa_cons (pv 0) (pa_cons (pe_call Go hr (by rfl) mo ko bo .nil pass0 (pa_cons (pv 0) (pa_cons (pe_op op_cat (pe_lst (pa_cons pe_int (pa_cons (pv 1) pa_nil))) (pe_op op_rep (pe_listRg rfl (by rfl) T.list (prg_2 (by rfl) T.range pe_int (pe_op op_add (pv 1) pe_int))) pe_int)) pa_nil))) pa_nil))))
    (Evl.pss_cut (ps_par (i := 3) (j := 4) (by rfl) scRa.nd rfl rfl (by decide) rfl rfl (pa_cons (pe_call Gw hr (by rfl) mw kw bw .nil pass0 (pa_cons (pv 0) (pa_cons (pe_op op_add pe_int (pe_call Gd (hr.mono (by decide)) (by rfl) md kd bd .nil pass0 (pa_cons (pv 0) (pa_cons pe_int pa_nil)))) pa_nil))) (pa_cons (pe_call Gw hr (by rfl) mw kw bw .nil pass0 (pa_cons (pv 0) (pa_cons (pe_op op_add pe_int (pe_call Gd (hr.mono (by decide)) (by rfl) md kd bd .nil pass0 (pa_cons (pv 0) (pa_cons pe_int pa_nil)))) pa_nil))) pa_nil)) (by rfl))
    (Evl.pss_cut (ps_par3 (i := 5) (j := 6) (l := 7) (by rfl) scRa.nd rfl rfl rfl (by decide) (by decide) (by decide) rfl rfl rfl (pa_cons pe_dnewK (pa_cons pe_dnewT (pa_cons (pe_op op_add pe_int (pe_call Gd (hr.mono (by decide)) (by rfl) md kd bd .nil pass0 (pa_cons (pv 0) (pa_cons pe_int pa_nil)))) pa_nil))) (by rfl))
    (Evl.pss_cut (ps_for PassesOwn.never rfl (pi_list (pv 2)) (pg_name (i := 8) scRa.nd rfl (Or.inl rfl))
      (pss_one (ps_dput hu (pv 5) (pv 8) (pe_call Go hr (by rfl) mo ko bo .nil pass0 (pa_cons (pv 0) (pa_cons (pv 3) pa_nil))) rfl)))
    (Evl.pss_cut (ps_for PassesOwn.never rfl (pi_range1 (by rfl) T.range (pa_cons (pe_callB call_len_seq (by rfl) T.len PySem.boot_len (pa_cons (pv 2) pa_nil)) pa_nil)) (pg_name (i := 9) scRa.nd rfl (Or.inl rfl))
      (pss_one (ps_for PassesOwn.never rfl (pi_range1 (by rfl) T.range (pa_cons (pv 9) pa_nil)) (pg_name (i := 10) scRa.nd rfl (Or.inl rfl))
        (pss_one (ps_for PassesOwn.never rfl (pi_list (pv 4)) (pg_name (i := 11) scRa.nd rfl (Or.inl rfl))
          (pss_one (ps_if (pt_cmpR op_lt (pe_call Gd (hr.mono (by decide)) (by rfl) md kd bd .nil pass0 (pa_cons (pv 0) (pa_cons pe_int pa_nil))) (pv 7) (nomark _))
            (pss_one (ps_dput hu (pv 6) (pe_tup (pa_cons (pe_ix ix_list (pv 2) (pv 10) (fun _ _ => rfl)) (pa_cons (pe_ix ix_list (pv 2) (pv 9) (fun _ _ => rfl)) (pa_cons (pv 11) pa_nil)))) (pe_op op_add pe_int (pe_call Gd (hr.mono (by decide)) (by rfl) md kd bd .nil pass0 (pa_cons (pv 0) (pa_cons pe_int pa_nil)))) rfl)) pss_nil)))))))
    (pss_one (ps_ret (pe_lst (pa_cons (pv 2) (pa_cons (pv 5) (pa_cons (pv 6) pa_nil)))))))))), ?_⟩
  -- the places
  refine ⟨fun σ H1 => ∃ (o : Addr) (nm : List Str), σ = [some (.ref p), some (.int (M : Int)), some (.ref o), none, none, none, none, none, none, none, none, none] ∧ H o = none ∧ H1 o = some (.lst (nm.map V.str)) ∧ 1 ≤ nm.length ∧ nm.length ≤ M ∧ nm.Nodup ∧ (∀ x ∈ nm, x ∈ w14) ∧ Pen H1 p g ∧ Bt p H H1, ?_, ?_⟩
  · refine ⟨_, rfl, _, rfl, _, rfl, by show 2 ≤ sizeLine; omega, fun l1 h1 => ?_⟩
    have s1 := same_new (o := .lst [V.int 1, V.int (M : Int)]) h1
    have e1 : (upd H l1 (.lst [V.int 1, V.int (M : Int)])) l1 = some (.lst [V.int 1, V.int (M : Int)]) := upd_same
    generalize upd H l1 (.lst [V.int 1, V.int (M : Int)]) = Ha at *
    refine ⟨_, rfl, _, _, rfl, rfl, 2, _, rfl, rfl, RgOk.of_le (by decide) (by omega) (by decide) (by omega), fun l2 h2 => ?_⟩
    have s2 := same_new (o := .lst (rgV 2 ((M : Int) + 1))) h2
    have e2 : (upd Ha l2 (.lst (rgV 2 ((M : Int) + 1)))) l2 = some (.lst (rgV 2 ((M : Int) + 1))) := upd_same
    generalize upd Ha l2 (.lst (rgV 2 ((M : Int) + 1))) = Hb at *
    have rl := rgV_length 2 ((M : Int) + 1)
    refine ⟨l2, 2, _, rfl, rfl, e2, by decide, by decide, by rw [rl]; show _ * 2 ≤ _; omega, fun l3 h3 => ?_⟩
    have s3 := same_new (o := .lst (List.replicate (2 : Int).toNat (rgV 2 ((M : Int) + 1))).flatten) h3
    have e3 : (upd Hb l3 (.lst (List.replicate (2 : Int).toNat (rgV 2 ((M : Int) + 1))).flatten)) l3 = some (.lst (List.replicate 2 (rgV 2 ((M : Int) + 1))).flatten) := upd_same
    generalize upd Hb l3 (.lst (List.replicate (2 : Int).toNat (rgV 2 ((M : Int) + 1))).flatten) = Hc at *
    have fl : ((List.replicate 2 (rgV 2 ((M : Int) + 1))).flatten).length = 2 * (M - 1) := by
      show (rgV 2 ((M : Int) + 1) ++ (rgV 2 ((M : Int) + 1) ++ [])).length = _
      rw [List.append_nil, List.length_append, rl]
      omega
    refine ⟨l1, l3, _, _, rfl, rfl, s3 _ _ (s2 _ _ e1), e3, by rw [fl]; show 2 + _ ≤ _; omega, fun l4 h4 => ?_⟩
    have s4 := same_new (o := .lst ([V.int 1, V.int (M : Int)] ++ (List.replicate 2 (rgV 2 ((M : Int) + 1))).flatten)) h4
    have e4 : (upd Hc l4 (.lst ([V.int 1, V.int (M : Int)] ++ (List.replicate 2 (rgV 2 ((M : Int) + 1))).flatten))) l4 = some (.lst ([V.int 1, V.int (M : Int)] ++ (List.replicate 2 (rgV 2 ((M : Int) + 1))).flatten)) := upd_same
    generalize upd Hc l4 (.lst ([V.int 1, V.int (M : Int)] ++ (List.replicate 2 (rgV 2 ((M : Int) + 1))).flatten)) = Hd at *
    have s04 := ((s1.trans s2).trans s3).trans s4
    have S4 := S.same s04
    refine ⟨p, g, l4, _, rfl, S4, e4, (S.ne (((s1.trans s2).trans s3).free h4)).1, by rw [List.length_append]; show 1 ≤ 2 + _; omega, by rw [List.length_append, fl]; show 2 + _ ≤ _; omega, fun i v H2 hv S5 b5 => ?_⟩
    obtain ⟨n, rfl, n1, nM⟩ : ∃ n : Nat, v = V.int (n : Int) ∧ 1 ≤ n ∧ n ≤ M := by
      rcases List.mem_append.mp (List.mem_of_getElem? hv) with a | a
      · rcases List.mem_cons.mp a with a | a
        · exact ⟨1, a, by decide, by omega⟩
        · exact ⟨M, List.mem_singleton.mp a, by omega, Nat.le_refl _⟩
      · have a : v ∈ rgV 2 ((M : Int) + 1) := by
          have a : v ∈ rgV 2 ((M : Int) + 1) ++ (rgV 2 ((M : Int) + 1) ++ []) := a
          rw [List.append_nil] at a
          rcases List.mem_append.mp a with a | a <;> exact a
        obtain ⟨q, hq, rfl⟩ := List.mem_map.mp a
        have := List.mem_range.mp hq
        exact ⟨2 + q, by rw [Int.natCast_add]; rfl, by omega, by omega⟩
    refine ⟨p, g, n, rfl, S5, by omega, fun o nm H3 ho0 ho nl nd w14' S6 b6 => ?_⟩
    have b06 := ((Bt.same s04).trans b5).trans b6
    have := (Bt.same (p := p) s04).trans b5
    exact ⟨o, nm, rfl, this.free S5 ho0, ho, by omega, by omega, nd, w14', S6, b06⟩
  rintro σ H1 ⟨o, nm, rfl, ho0, ho, n1, nM, nd, nw, S1, b1⟩
  have no := S.ne ho0
  -- colours and kinds
  refine ⟨fun σ H2 => ∃ (c kk : Addr) (cs ks : List Str), σ = [some (.ref p), some (.int (M : Int)), some (.ref o), some (.ref c), some (.ref kk), none, none, none, none, none, none, none] ∧ H2 c = some (.lst (cs.map V.str)) ∧ 1 ≤ cs.length ∧ cs.length ≤ 14 ∧ (∀ x ∈ cs, x ∈ w14) ∧ c ≠ p ∧ H2 kk = some (.lst (ks.map V.str)) ∧ ks.length ≤ 2 ∧ ks.Nodup ∧ (∀ x ∈ ks, x ∈ w14) ∧ kk ≠ p ∧ Pen H2 p g ∧ Bt p H1 H2, ?_, ?_⟩
  · refine ⟨_, rfl, _, rfl, p, g, 3, rfl, S1, by decide, by decide, fun z H2 hz S2 b2 => ⟨_, _, rfl, rfl, ?_⟩⟩
    refine ⟨p, g, 1 + z, by rw [Int.natCast_add]; rfl, S2, by omega, fun c cs H3 hc0 hc cl' _ cw S3 b3 => ?_⟩
    refine ⟨_, rfl, _, rfl, p, g, 2, rfl, S3, by decide, by decide, fun y H4 hy S4 b4 => ⟨_, _, rfl, rfl, ?_⟩⟩
    refine ⟨p, g, 1 + y, by rw [Int.natCast_add]; rfl, S4, by omega, fun kk ks H5 hk0 hk kl knd kw' S5 b5 => ?_⟩
    have nc := (S2.ne hc0).1
    exact ⟨_, _, rfl, c, kk, cs, ks, rfl, b5 _ _ (b4 _ _ hc nc) nc, by omega, by omega, cw, nc, hk, by omega, knd, kw', (S4.ne hk0).1, S5, ((b2.trans b3).trans b4).trans b5⟩
  rintro σ H2 ⟨c, kk, cs, ks, rfl, hc, c1, c14, cw, nc, hk, k2, knd, kw14, nk, S2, b2⟩
  have ho2 := b2 _ _ ho no.1
  -- dicts
  refine ⟨fun σ H3 => ∃ (h t : Addr) (th : Int), σ = [some (.ref p), some (.int (M : Int)), some (.ref o), some (.ref c), some (.ref kk), some (.ref h), some (.ref t), some (.int th), none, none, none, none] ∧ H2 h = none ∧ H2 t = none ∧ h ≠ t ∧ H3 h = some (.dK []) ∧ H3 t = some (.dT []) ∧ Pen H3 p g ∧ Bt p H2 H3, ?_, ?_⟩
  · intro h hh
    have s1 := same_new (o := .dK []) hh
    intro t ht
    have s2 := same_new (o := .dT []) ht
    have s12 := s1.trans s2
    have ht0 := s1.free ht
    have nht : h ≠ t := fun e => by subst e; rw [upd_same] at ht; cases ht
    refine ⟨_, rfl, p, g, 3, rfl, S2.same s12, by decide, by decide, fun z H4 hz S4 b4 => ⟨_, _, rfl, rfl, ?_⟩⟩
    exact ⟨_, _, _, rfl, h, t, _, rfl, hh, ht0, nht, b4 _ _ (by rw [upd_ne nht]; exact upd_same) (S2.ne hh).1, b4 _ _ upd_same (S2.ne ht0).1, S4, (Bt.same s12).trans b4⟩
  rintro σ H3 ⟨h, t, th, rfl, hh0, ht0, nht, hh, ht, S3, b3⟩
  have nh := S2.ne hh0
  have nt := S2.ne ht0
  have ho3 := b3 _ _ ho2 no.1
  have hc3 := b3 _ _ hc nc
  have hk3 := b3 _ _ hk nk
  have hoh : o ≠ h := ne_of ho3 hh (by intro z; cases z)
  have hot : o ≠ t := ne_of ho3 ht (by intro z; cases z)
  have hch : c ≠ h := ne_of hc3 hh (by intro z; cases z)
  have hkh : kk ≠ h := ne_of hk3 hh (by intro z; cases z)
  have hkt : kk ≠ t := ne_of hk3 ht (by intro z; cases z)
  have hh00 := (b1.trans b2).free S2 hh0
  have ht00 := (b1.trans b2).free S2 ht0
  -- the colours of the places
  refine ⟨fun σ H4 => ∃ (v8 : Option V) (cl : List Str), σ = [some (.ref p), some (.int (M : Int)), some (.ref o), some (.ref c), some (.ref kk), some (.ref h), some (.ref t), some (.int th), v8, none, none, none] ∧ cl.length = nm.length ∧ (∀ x ∈ cl, x ∈ w14) ∧ H4 h = some (.dK (colK nm cl)) ∧ H4 t = some (.dT []) ∧ H4 o = some (.lst (nm.map V.str)) ∧ H4 kk = some (.lst (ks.map V.str)) ∧ Pen H4 p g ∧ Bt p H H4, ?_, ?_⟩
  · refine ⟨_, rfl, o, rfl, ⟨_, SqL.of ho3⟩, ?_⟩
    refine for_list (xs := nm.map V.str) (fun i σ H4 => ∃ (v8 : Option V) (cl : List Str), σ = [some (.ref p), some (.int (M : Int)), some (.ref o), some (.ref c), some (.ref kk), some (.ref h), some (.ref t), some (.int th), v8, none, none, none] ∧ cl.length = i ∧ (∀ x ∈ cl, x ∈ w14) ∧ H4 h = some (.dK (colK nm cl)) ∧ H4 t = some (.dT []) ∧ H4 o = some (.lst (nm.map V.str)) ∧ H4 c = some (.lst (cs.map V.str)) ∧ H4 kk = some (.lst (ks.map V.str)) ∧ Pen H4 p g ∧ Bt p H H4)
      ⟨none, [], rfl, rfl, fun x hx => (List.not_mem_nil hx).elim, by rw [hh]; unfold colK; rw [List.zip_nil_right]; rfl, ht, ho3, hc3, hk3, S3, (b1.trans b2).trans b3⟩ (fun i σ H4 _ ⟨_, _, _, _, _, _, _, q, _⟩ => SqL.of q) ?_ ?_
    · rintro i x σ H4 hi ⟨v8, cl, rfl, cll, clw, hh4, ht4, ho4, hc4, hk4, S4, b4⟩
      rw [List.getElem?_map] at hi
      obtain ⟨y, hy, rfl⟩ := Option.map_eq_some_iff.mp hi
      refine ⟨_, rfl, _, rfl, p, g, c, _, rfl, S4, hc4, nc, by rw [List.length_map]; exact c1, by rw [List.length_map]; omega, fun q v H5 hv S5 b5 => ?_⟩
      rw [List.getElem?_map] at hv
      obtain ⟨z, hz, rfl⟩ := Option.map_eq_some_iff.mp hv
      have hh5 := b5 _ _ hh4 nh.1
      have kl : (colK nm cl).length ≤ 10 := by unfold colK; rw [List.length_map, List.length_zip]; omega
      refine ⟨_, rfl, _, rfl, h, _, rfl, DPut.k (k := Sum.inr y) hh5 (Evl.sz_lt (by omega)), ?_⟩
      rw [colK_put nd (by rw [cll]; exact hy)]
      refine ⟨_, cl ++ [z], rfl, by rw [List.length_append, cll]; rfl, fun x hx => ?_, upd_same, by rw [upd_ne nht.symm]; exact b5 _ _ ht4 nt.1, by rw [upd_ne hoh]; exact b5 _ _ ho4 no.1, by rw [upd_ne hch]; exact b5 _ _ hc4 nc, by rw [upd_ne hkh]; exact b5 _ _ hk4 nk, S5.upd nh.1 nh.2, (b4.trans b5).off hh00⟩
      rcases List.mem_append.mp hx with a | a
      · exact clw x a
      · rw [List.mem_singleton.mp a]; exact cw _ (List.mem_of_getElem? hz)
    · rintro σ H4 ⟨v8, cl, rfl, cll, clw, hh4, ht4, ho4, _, hk4, S4, b4⟩
      rw [List.length_map] at cll
      exact ⟨v8, cl, rfl, cll, clw, hh4, ht4, ho4, hk4, S4, b4⟩
  rintro σ H4 ⟨v8, cl, rfl, cll, clw, hh4, ht4, ho4, hk4, S4, b4⟩
  have kww : ∀ x ∈ ks, isWordB x = true := fun x hx => w14_w x (kw14 x hx)
  -- the ties
  refine ⟨fun σ H5 => ∃ (v9 v10 v11 : Option V) (rs : List RowV), σ = [some (.ref p), some (.int (M : Int)), some (.ref o), some (.ref c), some (.ref kk), some (.ref h), some (.ref t), some (.int th), v8, v9, v10, v11] ∧ RowsTo nm.length ks rs nm.length 0 0 ∧ rs.length ≤ 2 * nm.length * nm.length ∧ H5 t = some (.dT (spanK nm rs)) ∧ H5 h = some (.dK (colK nm cl)) ∧ H5 o = some (.lst (nm.map V.str)) ∧ Pen H5 p g ∧ Bt p H H5, ?_, ?_⟩
  · refine ⟨_, rfl, o, _, rfl, .inl (SqL.of ho4), _, rfl, by rw [List.length_map]; omega, by rw [List.length_map]; omega, ?_⟩
    rw [List.length_map]
    refine for_range (lo := 0) (n := ((nm.length : Nat) : Int).toNat) (fun j σ H5 => ∃ (v9 v10 v11 : Option V) (rs : List RowV), σ = [some (.ref p), some (.int (M : Int)), some (.ref o), some (.ref c), some (.ref kk), some (.ref h), some (.ref t), some (.int th), v8, v9, v10, v11] ∧ RowsTo nm.length ks rs j 0 0 ∧ rs.length ≤ 2 * nm.length * j ∧ H5 t = some (.dT (spanK nm rs)) ∧ H5 h = some (.dK (colK nm cl)) ∧ H5 o = some (.lst (nm.map V.str)) ∧ H5 kk = some (.lst (ks.map V.str)) ∧ Pen H5 p g ∧ Bt p H H5)
      ⟨none, none, none, [], rfl, RowsTo.nil _ _, by simp, ht4, hh4, ho4, hk4, S4, b4⟩ ?_ ?_
    · rintro j σ H5 hj ⟨v9, v10, v11, rs, rfl, rt, rl, ht5, hh5, ho5, hk5, S5, b5⟩
      rw [Int.toNat_natCast] at hj
      rw [show (0 : Int) + (j : Int) = (j : Int) from Int.zero_add _]
      refine ⟨_, rfl, _, rfl, by omega, by omega, ?_⟩
      refine for_range (lo := 0) (n := ((j : Nat) : Int).toNat) (fun i σ H6 => ∃ (v10 v11 : Option V) (rs : List RowV), σ = [some (.ref p), some (.int (M : Int)), some (.ref o), some (.ref c), some (.ref kk), some (.ref h), some (.ref t), some (.int th), v8, some (.int (j : Int)), v10, v11] ∧ RowsTo nm.length ks rs j i 0 ∧ rs.length ≤ 2 * nm.length * j + 2 * i ∧ H6 t = some (.dT (spanK nm rs)) ∧ H6 h = some (.dK (colK nm cl)) ∧ H6 o = some (.lst (nm.map V.str)) ∧ H6 kk = some (.lst (ks.map V.str)) ∧ Pen H6 p g ∧ Bt p H H6)
        ⟨v10, v11, rs, rfl, rt, by omega, ht5, hh5, ho5, hk5, S5, b5⟩ ?_ ?_
      · rintro i σ H6 hi ⟨v10, v11, rs, rfl, rt, rl, ht6, hh6, ho6, hk6, S6, b6⟩
        rw [Int.toNat_natCast] at hi
        rw [show (0 : Int) + (i : Int) = (i : Int) from Int.zero_add _]
        refine ⟨_, rfl, kk, rfl, ⟨_, SqL.of hk6⟩, ?_⟩
        refine for_list (xs := ks.map V.str) (fun q σ H7 => ∃ (v11 : Option V) (rs : List RowV), σ = [some (.ref p), some (.int (M : Int)), some (.ref o), some (.ref c), some (.ref kk), some (.ref h), some (.ref t), some (.int th), v8, some (.int (j : Int)), some (.int (i : Int)), v11] ∧ RowsTo nm.length ks rs j i q ∧ rs.length ≤ 2 * nm.length * j + 2 * i + q ∧ H7 t = some (.dT (spanK nm rs)) ∧ H7 h = some (.dK (colK nm cl)) ∧ H7 o = some (.lst (nm.map V.str)) ∧ H7 kk = some (.lst (ks.map V.str)) ∧ Pen H7 p g ∧ Bt p H H7)
          ⟨v11, rs, rfl, rt, by omega, ht6, hh6, ho6, hk6, S6, b6⟩ (fun q σ H7 _ ⟨_, _, _, _, _, _, _, _, z, _⟩ => SqL.of z) ?_ ?_
        · rintro q x σ H7 hq ⟨v11, rs, rfl, rt, rl, ht7, hh7, ho7, hk7, S7, b7⟩
          have ql := (List.getElem?_eq_some_iff.mp hq).1
          rw [List.length_map] at ql
          rw [List.getElem?_map] at hq
          obtain ⟨kd, hkd, rfl⟩ := Option.map_eq_some_iff.mp hq
          refine ⟨_, rfl, p, g, 4, rfl, S7, by decide, by decide, fun z H8 hz S8 b8 => ?_⟩
          have ht8 := b8 _ _ ht7 nt.1
          have hh8 := b8 _ _ hh7 nh.1
          have ho8 := b8 _ _ ho7 no.1
          have hk8 := b8 _ _ hk7 nk
          have b08 := b7.trans b8
          refine ⟨_, rfl, _, _, rfl, rfl, _, rfl, ?_⟩
          refine ite2 (fun _ => ?_) (fun _ => ⟨_, rs, rfl, rt.on (.inr ⟨rfl, .inr ⟨rfl, Nat.le_succ q⟩⟩), by omega, ht8, hh8, ho8, hk8, S8, b08⟩)
          refine ⟨_, rfl, p, g, 2, rfl, S8, by decide, by decide, fun y H9 hy S9 b9 => ⟨_, _, rfl, rfl, ?_⟩⟩
          have ht9 := b9 _ _ ht8 nt.1
          have ho9 := b9 _ _ ho8 no.1
          have ij : i < j := hi
          have ex : (1 : Int) + (y : Int) = ((1 + y : Nat) : Int) := by rw [Int.natCast_add]; rfl
          refine ⟨_, rfl, _, rfl, _, rfl, o, _, _, V.str (nmAt nm i), rfl, rfl, SqL.of ho9, atI_nat (by rw [List.getElem?_map, nmAt_get (by omega)]; rfl), _, rfl, _, rfl, o, _, _, V.str (nmAt nm j), rfl, rfl, SqL.of ho9, atI_nat (by rw [List.getElem?_map, nmAt_get hj]; rfl), _, rfl, (by show 3 ≤ sizeLine; omega), fun u hu => ?_⟩
          have su := same_new (o := .tup [V.str (nmAt nm i), V.str (nmAt nm j), V.str kd]) hu
          have rt' := rt.put knd hkd (kww kd (List.mem_of_getElem? hkd)) ij hj (w := 1 + y) (by omega) (by omega)
          refine ⟨t, _, rfl, DPut.t (k := spanKey nm ⟨i, j, kd, ((1 + y : Nat) : Int)⟩) (su _ _ ht9) upd_same (Evl.sz_lt (by rw [spanK_len]; have := Nat.mul_le_mul_left (2 * nm.length) (show j ≤ 10 by omega); omega)), ?_⟩
          have ep : putK (spanK nm rs) (spanKey nm ⟨i, j, kd, ((1 + y : Nat) : Int)⟩) (V.int (1 + (y : Int))) = spanK nm (rs ++ [⟨i, j, kd, ((1 + y : Nat) : Int)⟩]) := by
            rw [ex]
            exact span_put nd rt rt' ij hj
          have tne : ∀ {a : Addr} {u' : HO}, H9 a = some u' → (∀ kvs, u' ≠ .dT kvs) → a ≠ t := fun e n => ne_of e ht9 (n _)
          refine ⟨_, rs ++ [⟨i, j, kd, ((1 + y : Nat) : Int)⟩], rfl, rt', by rw [List.length_append]; show _ + 1 ≤ _; omega, by rw [upd_same, ep], ?_, ?_, ?_, (S9.same su).upd nt.1 nt.2, ((b08.trans b9).trans (Bt.same su)).off ht00⟩
          · have hh9 := b9 _ _ hh8 nh.1
            rw [upd_ne nht]
            exact su _ _ hh9
          · rw [upd_ne hot]
            exact su _ _ ho9
          · rw [upd_ne hkt]
            exact su _ _ (b9 _ _ hk8 nk)
        · rintro σ H7 ⟨v11, rs, rfl, rt, rl, ht7, hh7, ho7, hk7, S7, b7⟩
          rw [List.length_map] at rl rt
          exact ⟨_, v11, rs, rfl, rt.on (.inr ⟨rfl, .inl (Nat.lt_succ_self i)⟩), by omega, ht7, hh7, ho7, hk7, S7, b7⟩
      · rintro σ H6 ⟨v10, v11, rs, rfl, rt, rl, ht6, hh6, ho6, hk6, S6, b6⟩
        rw [Int.toNat_natCast] at rl rt
        refine ⟨_, v10, v11, rs, rfl, rt.on (.inl (Nat.lt_succ_self j)), ?_, ht6, hh6, ho6, hk6, S6, b6⟩
        rw [Nat.mul_succ]
        omega
    · rintro σ H5 ⟨v9, v10, v11, rs, rfl, rt, rl, ht5, hh5, ho5, hk5, S5, b5⟩
      rw [Int.toNat_natCast] at rl rt
      exact ⟨v9, v10, v11, rs, rfl, rt, rl, ht5, hh5, ho5, S5, b5⟩
  rintro σ H5 ⟨v9, v10, v11, rs, rfl, rt, rl, ht5, hh5, ho5, S5, b5⟩
  refine ⟨_, rfl, _, rfl, _, rfl, by show 3 ≤ sizeLine; omega, fun R hR => ?_⟩
  have sR := same_new (o := .lst [V.ref o, V.ref h, V.ref t]) hR
  have nR := S5.ne hR
  have r200 : rs.length ≤ 200 := by
    have := Nat.mul_le_mul (Nat.mul_le_mul_left 2 (show nm.length ≤ 10 by omega)) (show nm.length ≤ 10 by omega)
    omega
  refine k R nm cl rs _ (b5.free S5 hR) ⟨o, h, t, upd_same, sR _ _ ho5, sR _ _ hh5, sR _ _ ht5, nR, no, nh, nt⟩ ⟨n1, by omega, nd, fun x hx => w14_w x (nw x hx), cll, fun x hx => w14_w x (clw x hx), rt.fit, fun r hr => by have := rt.w2 r hr; omega, by omega⟩ nM rt.w2 (rows_few rt.fit rt.kin k2) nw clw (fun r hr => kw14 _ (rt.kin r hr)) (S5.same sR) (b5.trans (Bt.same sR))
end
end Nm
set_option autoImplicit false
set_option maxRecDepth 100000
set_option maxHeartbeats 4000000
/-! keys of any depth (whole numbers, texts, tuples of such) in the abstract heap -/
namespace Nm
open PySem PySem.Spec PyProof.Rows L2
mutual
inductive NKey (H : Hp) : NestedKey → V → Prop
  | num (i : Int) : NKey H (.num i) (.int i)
  | text (x : Str) : NKey H (.text x) (.str x)
  | tup {a : Addr} {ks : List NestedKey} {vs : List V} : H a = some (.tup vs) → NKeys H ks vs → NKey H (.tup ks) (.ref a)
inductive NKeys (H : Hp) : List NestedKey → List V → Prop
  | nil : NKeys H [] []
  | cons {k : NestedKey} {v : V} {ks : List NestedKey} {vs : List V} : NKey H k v → NKeys H ks vs → NKeys H (k :: ks) (v :: vs)
end
mutual
theorem NKey.same {H H' : Hp} (s : Same H H') : ∀ (k : NestedKey) (v : V), NKey H k v → NKey H' k v
  | .none, _, h => by cases h
  | .num i, _, h => by cases h; exact .num _
  | .text x, _, h => by cases h; exact .text _
  | .tup ks, _, h => by
    cases h with
    | tup e t => exact .tup (s _ _ e) (NKeys.same s ks _ t)
theorem NKeys.same {H H' : Hp} (s : Same H H') : ∀ (ks : List NestedKey) (vs : List V), NKeys H ks vs → NKeys H' ks vs
  | [], _, h => by cases h; exact .nil
  | k :: ks, _, h => by
    cases h with
    | cons a b => exact .cons (NKey.same s k _ a) (NKeys.same s ks _ b)
end
section
variable {P : Program} {w : World} {H : Hp} {h : Heap}
mutual
/-- in the heap itself -/
theorem NKey.is (ok : HOk P w H h) : ∀ (k : NestedKey) (v : V) (u : Value), NKey H k v → RelV v u → NestedIs h k u
  | .none, _, _, a, _ => by cases a
  | .num i, _, u, a, r => by
    cases a
    obtain ⟨t, rfl⟩ := (show ∃ t, u = Value.int i t from r)
    exact .int _ _
  | .text x, _, u, a, r => by
    cases a
    obtain ⟨t, rfl⟩ := (show ∃ t, u = Value.str x t from r)
    exact .text _ _
  | .tup ks, _, u, a, r => by
    cases a with
    | @tup b _ vs e t =>
      obtain rfl : u = Value.ref b := r
      obtain ⟨_, its, rv, o, h1, h2, n, h3⟩ := (show ObjOk P w H h b (.tup vs) from ok b _ e)
      exact .tup h1 h2 h3 (by simpa using NKeys.is ok ks vs its t rv)
theorem NKeys.is (ok : HOk P w H h) : ∀ (ks : List NestedKey) (vs : List V) (us : List Value), NKeys H ks vs → Vals vs us → NestedAll h ks us
  | [], _, _, a, r => by cases a; cases r; exact .nil
  | k :: ks, _, _, a, r => by
    cases a with
    | cons a b =>
      cases r with
      | cons c d => exact .cons (NKey.is ok k _ _ a c) (NKeys.is ok ks _ _ b d)
end
mutual
/-- read as data -/
theorem NKey.reads (ok : HOk P w H h) : ∀ (k : NestedKey) (v : V) (u : Value), NKey H k v → RelV v u → Reads h u k.data []
  | .none, _, _, a, _ => by cases a
  | .num i, _, u, a, r => by
    cases a
    obtain ⟨t, rfl⟩ := (show ∃ t, u = Value.int i t from r)
    exact .int i t
  | .text x, _, u, a, r => by
    cases a
    obtain ⟨t, rfl⟩ := (show ∃ t, u = Value.str x t from r)
    exact .str x t
  | .tup ks, _, u, a, r => by
    cases a with
    | @tup b _ vs e t =>
      obtain rfl : u = Value.ref b := r
      obtain ⟨_, its, rv, o, h1, h2, n, h3⟩ := (show ObjOk P w H h b (.tup vs) from ok b _ e)
      have q := NKeys.reads ok ks vs its t rv
      exact .tuple h1 h2 h3 (by simpa using q)
theorem NKeys.reads (ok : HOk P w H h) : ∀ (ks : List NestedKey) (vs : List V) (us : List Value), NKeys H ks vs → Vals vs us → ReadsAll h us (NestedKey.datas ks) []
  | [], _, _, a, r => by cases a; cases r; exact .nil
  | k :: ks, _, _, a, r => by
    cases a with
    | cons a b =>
      cases r with
      | cons c d =>
        exact .cons (NKey.reads ok k _ _ a c) (NKeys.reads ok ks _ _ b d)
end
end
/-! what is asked of a tuple before it is searched for -/
section
variable {P : Program} {w : World} {s : Shared}
/-- the tuple at a is the key k, not too deep -/
abbrev IsN (P : Program) (w : World) (h : Heap) (k : NestedKey) (a : Addr) : Prop := (nestedKind P w).is h k a
variable {A : Around} {E : Value → Shared → Prop}
end
end Nm
set_option autoImplicit true
set_option maxRecDepth 100000
set_option maxHeartbeats 4000000
/-! sets of keys of any depth: the table, the search, a key put in -/
namespace Nm
open PySem PySem.Spec PyProof.Rows L2
abbrev nh (w : World) (k : NestedKey) : Int := k.hash w
section
variable {P : Program} {w : World} {A : Around} {E : Value → Shared → Prop} {s : Shared}
def rowsN (w : World) (L : List (Addr × NestedKey)) : List (Int × Value) := L.map fun e => (nh w e.2, Value.ref e.1)
theorem rowsN_len (L : List (Addr × NestedKey)) : (rowsN w L).length = L.length := List.length_map ..
structure NSet (P : Program) (w : World) (h : Heap) (a : Addr) (L : List (Addr × NestedKey)) (es : Array (Int × Value)) (ep : Nat) (t : SetTable) : Prop where
  here : ∃ o, h.get? a = some o ∧ o.ExactSet ∧ o.data = .set es ep t
  rows : es.toList = rowsN w L
  tab : Tab t (L.map fun e => nh w e.2)
  nd : (L.map (·.2)).Nodup
  tups : ∀ e ∈ L, IsN P w h e.2 e.1
  mask : MaskIn t.mask
  room : L.length * 5 < t.mask * 3
  led : w.params.followText "set-order" = true ∨ t.led = true
variable {a : Addr} {L : List (Addr × NestedKey)} {es : Array (Int × Value)} {ep : Nat} {t : SetTable}
theorem NSet.size (R : NSet P w s.heap a L es ep t) : es.size = L.length := by
  rw [← Array.length_toList, R.rows, rowsN_len]
theorem NSet.places (R : NSet P w s.heap a L es ep t) : t.place.toList.length = L.length := by
  rw [Array.length_toList, R.tab.many, List.length_map]
theorem NSet.fits (R : NSet P w s.heap a L es ep t) : t.fits es.size = true := by
  have p := R.places
  have z := R.size
  have r := R.room
  rw [Array.length_toList] at p
  unfold SetTable.fits SetTable.fill
  rw [R.tab.clean]
  simp
  omega
theorem NSet.entry (R : NSet P w s.heap a L es ep t) {i : Nat} {e : Addr × NestedKey} (h : L[i]? = some e) : es[i]? = some (nh w e.2, Value.ref e.1) := by
  rw [← Array.getElem?_toList, R.rows]
  show (L.map _)[i]? = _
  rw [List.getElem?_map, h]
  rfl
theorem NSet.hashAt (R : NSet P w s.heap a L es ep t) {i : Nat} {e : Addr × NestedKey} (h : L[i]? = some e) : (es[i]?.map (·.1)).getD 0 = nh w e.2 := by
  rw [R.entry h]
  rfl
theorem NSet.whole (R : NSet P w s.heap a L es ep t) : ¬ t.gaveWay = true := by
  unfold SetTable.gaveWay
  rw [R.mask.odd]
  decide
end
section
variable {P : Program} {w : World} {A : Around} {E : Value → Shared → Prop} {s : Shared}
variable {a : Addr} {L : List (Addr × NestedKey)} {es : Array (Int × Value)} {ep : Nat} {t : SetTable}
end
section
variable {P : Program} {w : World} {A : Around} {E : Value → Shared → Prop} {s : Shared}
variable {a : Addr} {L : List (Addr × NestedKey)} {es : Array (Int × Value)} {ep : Nat} {t : SetTable}
end
end Nm
set_option autoImplicit false
set_option maxRecDepth 100000
set_option maxHeartbeats 4000000
/-! sets of texts: a text put in, there already or not -/
namespace Nm
open PySem PySem.Spec PyProof.Rows L2 PySem.Froz
/-- the text of a row -/
def txOf (e : Int × Value) : Str := match e.2 with | .str x _ => x | _ => ""
/-- a payload that holds these texts and can be walked -/
structure TextsIn (P : Program) (w : World) (D : SD) (l : List Str) : Prop where
  ok : TxOk P w D l
  rise : Ris D.2.2.place.toList
  led : w.params.followText "set-order" = true ∨ D.2.2.led = true
  tx : (D.1.toList.map txOf).Perm l
  nd : l.Nodup
/-- the set of these texts stands at a -/
def SetT (P : Program) (w : World) (h : Heap) (a : Addr) (l : List Str) : Prop := ∃ D : SD, h.get? a = some (sObj "set" D) ∧ TextsIn P w D l
section
variable {P : Program} {w : World}
theorem SetT.at {h h' : Heap} {a : Addr} {l : List Str} (R : SetT P w h a l) (k : ∀ o, h.get? a = some o → h'.get? a = some o) : SetT P w h' a l := by
  obtain ⟨D, e, t⟩ := R
  exact ⟨D, k _ e, t⟩
theorem setT_new {h : Heap} : SetT P w (h.push { cls := .type "set", dict := none, data := .set #[] 0 (.fresh 0 0 (!w.params.followText "set-order")) }) h.objs.size [] := by
  refine ⟨(#[], 0, .fresh 0 0 (!w.params.followText "set-order")), Heap.get?_push_size _ rfl, TxOk.nil (by rfl), List.Pairwise.nil, ?_, List.Perm.refl _, List.nodup_nil⟩
  show _ ∨ (!w.params.followText "set-order") = true
  cases w.params.followText "set-order"
  · exact .inr rfl
  · exact .inl rfl
theorem tail_keeps (ep : Nat) (es1 : Array (Int × Value)) (t2 : SetTable) (b : Bool) (rise : Ris t2.place.toList) : Ris (tailTx ep es1 t2 b).2.2.place.toList ∧ (tailTx ep es1 t2 b).2.2.led = t2.led ∧ (tailTx ep es1 t2 b).1.toList.Perm es1.toList := by
  unfold tailTx
  split
  · exact ⟨relayAll_ris t2 es1 _, relayAll_led t2 es1 _, relayAll_perm t2 es1 _⟩
  · exact ⟨rise, rfl, List.Perm.refl _⟩
/-- a new text, put in -/
theorem TextsIn.add {D : SD} {l : List Str} (T : TextsIn P w D l) {k : Str} (hk : k ∉ l) (u : Tok) : TextsIn P w (addTx (hashStr w k) (.str k u) D) (k :: l) := by
  have ok := add_ok (k := k) u T.ok
  obtain ⟨es, ep, t⟩ := D
  have rise := layNew_ris t es (hashStr w k) (.str k u) T.rise
  have led := layNew_led t es (hashStr w k) (.str k u)
  have pm := layNew_perm t es (hashStr w k) (.str k u)
  have tx := T.tx
  have ld := T.led
  have all : Ris (addTx (hashStr w k) (.str k u) (es, ep, t)).2.2.place.toList ∧ (addTx (hashStr w k) (.str k u) (es, ep, t)).2.2.led = t.led ∧ (addTx (hashStr w k) (.str k u) (es, ep, t)).1.toList.Perm (es.push (hashStr w k, .str k u)).toList := by
    unfold addTx
    generalize layNew t es (hashStr w k) (.str k u) = Z at rise led pm
    obtain ⟨es1, t1, b, g⟩ := Z
    dsimp only at rise led pm ⊢
    by_cases c : t1.plain = true
    · rw [if_pos c]
      obtain ⟨a1, a2, a3⟩ := tail_keeps ep es1 { t1 with plain := false } b rise
      exact ⟨a1, a2.trans led, a3.trans pm⟩
    · rw [if_neg c]
      obtain ⟨a1, a2, a3⟩ := tail_keeps ep es1 t1 b rise
      exact ⟨a1, a2.trans led, a3.trans pm⟩
  obtain ⟨a1, a2, a3⟩ := all
  refine ⟨ok, a1, ld.imp id fun z => a2.trans z, ?_, List.nodup_cons.mpr ⟨hk, T.nd⟩⟩
  rw [Array.toList_push] at a3
  refine (a3.map txOf).trans ?_
  rw [List.map_append]
  exact (List.perm_append_comm).trans (List.Perm.cons k tx)
variable {A : Around} {E : Value → Shared → Prop} {s : Shared}
/-- a text, put in -/
theorem SetT.put {a : Addr} {l : List Str} {k : Str} {u : Tok} {Q : Bool → Shared → Prop} (R : SetT P w s.heap a l) (few : l.length + 1 < scanBound)
    (h : ∀ (b : Bool) (h' : Heap), Heap.SameBut a s.heap h' → SetT P w h' a (if k ∈ l then l else k :: l) → Q b { s with heap := h' }) : wpAny (model P w) A (setAddHashed a (.str k u) (hashStr w k)) Q E s := by
  obtain ⟨D, ho, T⟩ := R
  by_cases hk : k ∈ l
  case neg =>
    refine add_x ho T.ok hk few (h true _ (Heap.SameBut.update _ a _) ?_)
    rw [if_neg hk]
    exact ⟨_, get_upd _ ho rfl, T.add hk u⟩
  rw [if_pos hk] at h
  have q := fun b => h b s.heap (Heap.SameBut.refl a s.heap) ⟨D, ho, T⟩
  obtain ⟨es, ep, t⟩ := D
  have el : ElemsOf (strKind P w) es.toList := T.ok.el
  have sz : es.size < scanBound := by
    have e : es.size = l.length := T.ok.sz
    omega
  have dat : (sObj "set" (es, ep, t)).data = .set es ep t := rfl
  unfold setAddHashed setAddHashedIn
  refine wpAny_holding (wpAny_bind (wpAny_setState_of ho dat T.ok.fit ?_))
  dsimp only
  rw [byScan_of (knd := strKind P w) rfl sz el]
  simp only [↓reduceIte]
  unfold setAddByScan
  refine wpAny_bind (wpAny_bind (wpAny_rule (wpAny_bind (wpAny_setScan_of (knd := strKind P w) (k := k) (is_str k u) ho dat T.ok.fit el ?_))))
  obtain ⟨j, hj⟩ : ∃ j, List.findIdx? (fun e => (strKind P w).is k e.2) es.toList = some j := by
    obtain ⟨e, he, hi⟩ := (T.ok.mem k).mp hk
    cases hf : List.findIdx? (fun e => (strKind P w).is k e.2) es.toList with
    | some j => exact ⟨j, rfl⟩
    | none =>
      have c := List.findIdx?_eq_none_iff.mp hf e he
      rw [hi] at c
      cases c
  rw [hj]
  dsimp only
  exact wpAny_pure (wpAny_pure (q false))
end
end Nm
set_option autoImplicit false
set_option maxRecDepth 100000
set_option maxHeartbeats 4000000
/-! sorted of a set of texts -/
namespace Nm
open PySem PySem.Spec PyProof.Rows L2 PySem.Froz
section
variable {P : Program} {w : World}
theorem rows_txt {D : SD} {l : List Str} (T : TextsIn P w D l) : ∀ e ∈ D.1.toList, ∃ u, e.2 = Value.str (txOf e) u := fun e he => by
  obtain ⟨⟨k, hk, _⟩, _⟩ := T.ok.el e he
  obtain ⟨t, ht⟩ := Value.isStrOf_shape hk
  refine ⟨t, ?_⟩
  unfold txOf
  rw [ht]
/-- the values, in whatever sequence, are the texts in some sequence -/
theorem strs_of : ∀ us : List Value, (∀ v ∈ us, ∃ x u, v = Value.str x u) → ∃ zs, StrsAre us zs ∧ zs = us.map fun v => match v with | .str x _ => x | _ => ""
  | [], _ => ⟨[], .nil, rfl⟩
  | v :: us, h => by
    obtain ⟨x, u, rfl⟩ := h v List.mem_cons_self
    obtain ⟨zs, h1, h2⟩ := strs_of us fun y hy => h y (List.mem_cons_of_mem _ hy)
    exact ⟨x :: zs, .cons x u h1, by rw [h2]; rfl⟩
variable {A : Around} {E : Value → Shared → Prop} {s : Shared}
theorem SetT.sorted {a : Addr} {l : List Str} {Q : Value → Shared → Prop} (R : SetT P w s.heap a l) (free : A.handled = none) (few : l.length < 4000)
    (told : ∀ (s2 : Shared) (p : Addr) (out : Array Value) (c : Nat) (zs : List Str), (∀ b o, s.heap.get? b = some o → s2.heap.get? b = some o) → s2.gens = s.gens → s2.os = s.os → s.heap.objs.size ≤ p → s2.heap.get? p = some (seqObj "list" out c) → StrsAre out.toList zs → zs.Perm l → sortedS zs = true → Q (.ref p) s2) :
    wpAny (model P w) A (call (.builtin "sorted") [.ref a]) Q E s := by
  obtain ⟨D, get, T⟩ := R
  obtain ⟨es, ep, t⟩ := D
  have size : es.size = l.length := T.ok.sz
  refine Calls.call_function_entry kind_sorted plain_sorted entry_sorted (args_sorted1 _) ?_
  unfold Builtin.«sorted»
  refine wpAny_bind (m := checkCount "sorted" 1 1 _) (wpAny_pure (wpAny_bind ?_))
  refine collect_set (A := A.in1) free ⟨_, get, rfl, rfl⟩ T.ok.fit (by rw [size]; exact Nat.lt_trans few (by decide)) T.rise T.led fun s1 us kept more gens os pm => ?_
  have len : us.length = l.length := by rw [pm.length_eq, List.length_map, Array.length_toList, size]
  have each : ∀ v ∈ us, ∃ x u, v = Value.str x u := fun v hv => by
    obtain ⟨e, he, rfl⟩ := List.mem_map.mp (pm.mem_iff.mp hv)
    obtain ⟨u, hu⟩ := rows_txt T e he
    exact ⟨_, u, hu⟩
  obtain ⟨zs, are, ez⟩ := strs_of us each
  have pz : zs.Perm l := by
    rw [ez]
    refine (pm.map _).trans ?_
    rw [List.map_map]
    exact T.tx
  refine wpAny_bind (wpAny_newList ?_ (by rw [len, sizeLine_eq]; omega))
  have here : (s1.heap.push (seqObj "list" us.toArray 0)).get? s1.heap.objs.size = some (seqObj "list" us.toArray 0) := Heap.get?_push_size _ rfl
  refine wpAny_bind (wpAny_holding (wpAny_call_entry slot_list_sort ⟨_, here, rfl⟩ entry_list_sort ?_ (args_list_sort _)))
  refine list_sort_treeKAny strKind_oneLt here are.keysOf (fun v₁ v₂ rest e => keyKind_strs (by rw [← e]; exact are)) (by rw [len, sizeLine_eq]; omega) fun st hp hs => ?_
  obtain ⟨zs2, a1, a2, a3⟩ := sorted_out_str are hp hs
  obtain ⟨c, there⟩ := sortedHeap_at (vs := us) (out := (arrOf st).map (·.2)) here
  refine ⟨_, rfl, wpAny_pure ⟨_, rfl, told _ s1.heap.objs.size _ c zs2 (fun b o e => ?_) gens os more there a1 (a2.trans pz) a3⟩⟩
  have e1 := kept b o e
  have lt := Heap.lt_size e1
  show (sortedHeap (s1.heap.push (seqObj "list" us.toArray 0)) s1.heap.objs.size us _).get? b = some o
  rw [sortedHeap_old (Nat.ne_of_lt lt) (by rw [size_push']; exact Nat.lt_succ_of_lt lt)]
  exact Heap.get?_push_of_some _ e1
end
end Nm
set_option autoImplicit true
set_option maxRecDepth 100000
set_option maxHeartbeats 4000000
/-! set(a list of texts); sorted of it -/
namespace Nm
open PySem PySem.Spec PyProof.Rows L2 PySem.Froz
section
variable {P : Program} {w : World} {A : Around} {E : Value → Shared → Prop} {s : Shared}
/-- the texts of a list, each once -/
def dedT (zs : List Str) : List Str := zs.foldl (fun l k => if k ∈ l then l else k :: l) []
theorem dedT_next {zs : List Str} {i : Nat} {k : Str} (h : zs[i]? = some k) : dedT (zs.take (i + 1)) = if k ∈ dedT (zs.take i) then dedT (zs.take i) else k :: dedT (zs.take i) := by
  unfold dedT
  rw [List.take_add_one, h, Option.toList_some, List.foldl_append]
  rfl
theorem dedT_len (zs : List Str) : ∀ i, i ≤ zs.length → (dedT (zs.take i)).length ≤ i
  | 0, _ => by simp [dedT]
  | i + 1, h => by
    obtain ⟨k, hk⟩ : ∃ k, zs[i]? = some k := ⟨_, List.getElem?_eq_getElem h⟩
    have ih := dedT_len zs i (by omega)
    rw [dedT_next hk]
    split
    · omega
    · rw [List.length_cons]
      omega
theorem dedT_mem (zs : List Str) (x : Str) : ∀ i, i ≤ zs.length → (x ∈ dedT (zs.take i) ↔ x ∈ zs.take i)
  | 0, _ => by simp [dedT]
  | i + 1, h => by
    obtain ⟨k, hk⟩ : ∃ k, zs[i]? = some k := ⟨_, List.getElem?_eq_getElem h⟩
    have ih := dedT_mem zs x i (by omega)
    rw [dedT_next hk, List.take_add_one, hk, Option.toList_some, List.mem_append, List.mem_singleton, ← ih]
    split
    · rename_i hm
      exact ⟨.inl, fun z => z.elim id fun e => by rw [e]; exact hm⟩
    · rw [List.mem_cons]
      exact Or.comm
theorem strs_get {us : List Value} {zs : List Str} (h : StrsAre us zs) : ∀ {i : Nat} {v : Value}, us[i]? = some v → ∃ k tk, zs[i]? = some k ∧ v = Value.str k tk := by
  induction h with
  | nil =>
    intro i v e
    simp at e
  | cons x t r ih =>
    intro i v e
    match i, e with
    | 0, e =>
      obtain rfl : Value.str x t = v := Option.some.inj e
      exact ⟨x, t, rfl, rfl⟩
    | i + 1, e => exact ih (by simpa using e)
theorem strs_vals : ∀ {zs : List Str} {us : List Value}, Vals (zs.map V.str) us → StrsAre us zs
  | [], _, h => by
    cases h
    exact .nil
  | z :: zs, _, h => by
    cases h with
    | cons r t =>
      obtain ⟨k, rfl⟩ := r
      exact .cons z k (strs_vals t)
/-- the loop that fills it -/
theorem st_loop {I : Addr} {fp wr : List Addr} {G : Array GenState → Array GenState → Prop} {n : Nat} {Pv : Nat → Value → Prop} {St : Nat → Shared → Prop} {R : Result → Shared → Prop} (W : WalksS P w A.in1 I fp wr G n Pv St) (S : Addr) (off : S ∉ fp) (zs : List Str) (hn : n = zs.length) (few : zs.length < 4000)
    (hval : ∀ i v, Pv i v → ∃ k tk, zs[i]? = some k ∧ v = Value.str k tk) (h0 : Heap) (new : h0.get? S = none) (newW : ∀ b ∈ wr, h0.get? b = none) :
    ∀ (k i : Nat) (s : Shared), n - i = k → i ≤ n → St i s → (∀ b o, h0.get? b = some o → s.heap.get? b = some o) → SetT P w s.heap S (dedT (zs.take i)) →
      (∀ s', Moved (S :: wr) G s s' → SetT P w s'.heap S (dedT (zs.take n)) → (∀ b o, h0.get? b = some o → s'.heap.get? b = some o) → R (.ok (.ret .none)) s') →
      codeAny (model P w) A (.builtin "set.update.loop" ⟨[.ref S, .ref I], []⟩) R s := by
  have offW : S ∉ wr := fun z => off (W.sub _ z)
  have up : ∀ b ∈ wr, b ∈ S :: wr := fun b z => List.mem_cons_of_mem _ z
  have kept : ∀ {s s' : Shared}, Moved wr G s s' → (∀ b o, h0.get? b = some o → s.heap.get? b = some o) → ∀ b o, h0.get? b = some o → s'.heap.get? b = some o := fun mv k b o e =>
    mv.heap b o (fun z => by rw [newW b z] at e; cases e) (k b o e)
  intro k
  induction k with
  | zero =>
    intro i s d hi st k0 hS hR
    obtain rfl : i = n := by omega
    refine codeAny_builtin F.entry_set_update_loop ?_
    rw [Around.under_plainId F.plain_set_update_loop _]
    show wpAny _ A.in1 (pyNext (.ref I) >>= _) _ _ s
    refine wpAny_bind (W.done s _ _ st fun s' mv => ?_)
    show wpAny _ A.in1 (ret Value.none) _ _ s'
    exact wpAny_pure (hR s' (mv.mono up) (hS.at fun o e => mv.heap S o offW e) (kept mv k0))
  | succ k ih =>
    intro i s d hi st k0 hS hR
    have lt : i < n := by omega
    refine codeAny_builtin F.entry_set_update_loop ?_
    rw [Around.under_plainId F.plain_set_update_loop _]
    show wpAny _ A.in1 (pyNext (.ref I) >>= _) _ _ s
    refine wpAny_bind (W.item i s _ _ lt st fun v s' hP st' mv => ?_)
    obtain ⟨x, tk, hx, rfl⟩ := hval i v hP
    have k1 := kept mv k0
    have hS' : SetT P w s'.heap S (dedT (zs.take i)) := hS.at fun o e => mv.heap S o offW e
    show wpAny _ A.in1 (holding [Value.str x tk] (setAdd S (.str x tk)) >>= _) _ _ s'
    refine wpAny_bind (wpAny_holding ?_)
    unfold setAdd
    refine wpAny_holding (wpAny_bind ((strKind P w).pyHash (is_str x tk) ?_))
    refine SetT.put (s := { s' with toks := s'.toks + 1 }) hS' (by have := dedT_len zs i (by omega); unfold scanBound; omega) fun bb h' sb r => ?_
    have r' : SetT P w h' S (dedT (zs.take (i + 1))) := by
      rw [dedT_next hx]
      exact r
    have k2 : ∀ b o, h0.get? b = some o → h'.get? b = some o := fun b o e => (sb.2 b (fun z => by rw [z, new] at e; cases e)).trans (k1 b o e)
    refine wpAny_pure ⟨plainId_quiet F.plain_set_update_loop _, ih (i + 1) _ (by omega) lt (W.frame _ s' _ _ st' (Nat.le_add_right _ _) fun b hb o e => ?_) k2 r' fun s'' mv2 hS2 k3 => ?_⟩
    · exact (sb.2 b (fun z : b = S => off (by rw [← z]; exact hb))).trans e
    · refine hR s'' (Moved.trans W.gtrans ((mv.mono up).then_heap (Nat.le_add_right _ _) fun b o hb e => ?_) mv2) hS2 k3
      exact (sb.2 b (fun z : b = S => hb (by rw [z]; exact List.mem_cons_self))).trans e
/-- the empty set as it is made -/
abbrev set0 (w : World) : Obj := { cls := .type "set", dict := none, data := .set #[] 0 (.fresh 0 0 (!w.params.followText "set-order")) }
theorem st_call {l : Addr} {items : Array Value} {zs : List Str} {Q : Value → Shared → Prop} (hh : A.handled = none) (hl : s.heap.IsList l items) (hit : StrsAre items.toList zs) (few : zs.length < 4000)
    (h : ∀ (h' : Heap) (tk : Nat), SetT P w h' s.heap.objs.size (dedT zs) → (∀ b o, s.heap.get? b = some o → h'.get? b = some o) → Q (.ref s.heap.objs.size) { s with heap := h', toks := tk }) :
    wpAny (model P w) A (call (.type "set") [.ref l]) Q E s := by
  have size : items.size = zs.length := by
    have q := hit.length
    rw [Array.length_toList] at q
    exact q
  obtain ⟨c, tl, hmro⟩ := F.called_set.mro
  have hmade := F.called_set.made
  have hsub := F.called_set.sub
  refine wpAny_call (codeAny_of_tree ?_)
  show wpAny _ _ (callAny (.type "set") _) _ _ _
  refine wpAny_pure ⟨Code.quiet_builtin _ (by decide +kernel), codeAny_builtin F.entry_type_call ?_⟩
  rw [Around.under_plain (weight_type_call_type "set" [.ref l] []) rfl]
  have h1 := F.called_set.notType
  have h2 := F.called_set.canCreate
  have hct := F.typeCall_set_1 (.ref l)
  repeat (any_goals (first | assumption | wp_step))
  refine codeAny_mono (code_set_led1 (.ref l) (E := E) (Q₁ := fun obj s₁ => obj = .ref s.heap.objs.size ∧ s₁ = { s with heap := s.heap.push (set0 w) }) ⟨rfl, rfl⟩) fun r s₁ hr => ?_
  cases r with
  | error e => exact hr
  | ok fl =>
    cases fl with
    | ret obj =>
      obtain ⟨rfl, rfl⟩ := hr
      have hS : (s.heap.push (set0 w)).get? s.heap.objs.size = some (set0 w) := Heap.get?_push_size _ rfl
      have hT : Shared.TypeIs { s with heap := s.heap.push (set0 w) } (.ref s.heap.objs.size) "set" := ⟨_, hS, rfl⟩
      have hli := F.called_set.init.lookup
      have hbi := F.called_set.init.bind (.ref s.heap.objs.size)
      repeat (any_goals (first | assumption | wp_step))
      refine codeAny_mono (codeAny_call_builtin (R := wants (fun r s₂ => r = .none ∧ ∃ h' tk, s₂ = { s with heap := h', toks := tk } ∧ SetT P w h' s.heap.objs.size (dedT zs) ∧ (∀ b o, s.heap.get? b = some o → h'.get? b = some o)) E)
        F.called_set.init.plain F.entry_set_init (check_set_init_1 hT ?_)) fun r₂ s₂ hr₂ => ?_
      · obtain ⟨⟨oc, od, odat, osl⟩, hol, hcl, nl, hdl⟩ := hl
        simp only at hcl hdl
        subst hcl hdl
        have hol' : (s.heap.push (set0 w)).get? l = some { cls := .type "list", dict := od, data := .seq items nl, slots := osl } := Heap.get?_push_of_some _ hol
        have hsls := F.sub_list_set
        have hslf := F.sub_list_frozenset
        have hne : (Value.type "list" == Value.type "dict") = false := by decide
        have hl1 : (s.heap.push (set0 w)).IsList l items := ⟨_, hol', rfl, nl, rfl⟩
        unfold Builtin.«set.__init__» noKeywords Builtin.Frozenset.updateFrom
        generalize hPI : pyIter = PI
        wp_walk
        subst hPI
        refine wpAny_pyIter_list hl1 (wpAny_bind (wpAny_runValue ?_))
        have hlS : l < s.heap.objs.size := Heap.lt_size hol
        have hh3 : A.in1.in1.in1.handled = none := by simp [hh]
        have hneI : l ≠ (s.heap.push (set0 w)).objs.size := by
          rw [Heap.size_push]
          exact Nat.ne_of_lt (Nat.lt_succ_of_lt hlS)
        have off : s.heap.objs.size ∉ [(s.heap.push (set0 w)).objs.size, l] := by
          rw [Heap.size_push]
          simp only [List.mem_cons, List.not_mem_nil, or_false, not_or]
          exact ⟨Nat.ne_of_lt (Nat.lt_succ_self _), Nat.ne_of_gt hlS⟩
        have fresh : ∀ b, s.heap.objs.size ≤ b → s.heap.get? b = none := fun b hb => Heap.get?_none_of_le hb
        refine st_loop ((Walks.list hh3 _ l hneI items).toS) s.heap.objs.size off zs size few (fun i v hv => ?_) s.heap (fresh _ (Nat.le_refl _)) (fun b hb => fresh b (by
            rw [List.mem_singleton.mp hb, Heap.size_push]
            exact Nat.le_succ _)) (items.size - 0) 0 _ (by omega) (Nat.zero_le _)
          ⟨⟨_, Heap.get?_push_size _ rfl, rfl, rfl⟩, (hl1.push _)⟩ (fun b o e => Heap.get?_push_of_some _ (Heap.get?_push_of_some _ e)) ?start ?fin
        · have hv' : items[i]? = some v := hv
          exact strs_get hit (by rw [Array.getElem?_toList]; exact hv')
        case start => exact SetT.at setT_new fun o e => Heap.get?_push_of_some _ e
        case fin =>
          intro s' mv hS' kp
          obtain ⟨h', g2, d', tk', os'⟩ := s'
          have eg : g2 = s.gens := mv.gens
          have ed : d' = s.drawn := mv.drawn
          have eo : os' = s.os := mv.os
          subst eg ed eo
          show wpAny _ _ _ _ _ _
          refine wpAny_pure ?_
          show wpAny _ _ (ret Value.none) _ _ _
          rw [size, List.take_length] at hS'
          exact wpAny_pure ⟨rfl, h', tk', rfl, hS', kp⟩
      · cases r₂ with
        | error e => exact hr₂
        | ok fl₂ =>
          cases fl₂ with
          | ret r =>
            obtain ⟨rfl, h', tk, rfl, hS', hk'⟩ := hr₂
            repeat (any_goals (first | assumption | wp_step))
            exact h _ _ hS' hk'
          | _ => exact hr₂.elim
    | _ => exact hr.elim
end
/-- such a set, tracked -/
def SetTO (P : Program) (w : World) (a : Addr) (l : List Str) : HO := .ext fun h => SetT P w h a l
theorem setTO_ok {H : Hp} {h : Heap} {a : Addr} {l : List Str} (R : SetT P w h a l) : ObjOk P w H h a (SetTO P w a l) :=
  ⟨R, let ⟨_, e, _⟩ := R; ⟨_, e⟩, fun _ _ p k => SetT.at p k⟩
section
variable {X : Cx} {pins : List (Addr × Obj)} {σ : L2.St} {H : Hp} {s : Shared}
theorem setTO_get {a : Addr} {l : List Str} (I : Inv X pins σ H s) (ha : H a = some (SetTO X.prog X.w a l)) : SetT X.prog X.w s.heap a l := (I.hok a _ ha).1
/-- set(xs), xs a list of texts -/
def rSetT (P : Program) (w : World) (K : PySem.W.Frag) : List V → Hp → VK → Prop := fun xs H Q => ∃ (l : Addr) (zs : List Str), xs = [.ref l] ∧ SqL K H l (zs.map V.str) ∧ zs.length < 4000 ∧ ∀ a : Addr, H a = none → Q (.ref a) (upd H a (SetTO P w a (dedT zs)))
theorem cr_setT (calm : X.calm = true) : CallR X (.type "set") (rSetT X.prog X.w X.K) := by
  intro pins s σ H xs us Q I r h
  obtain ⟨l, zs, rfl, hl, hf, q⟩ := h
  rw [Vals.ref1 r]
  obtain ⟨its, rv, pl, hz⟩ := I.list hl
  refine st_call (P := X.prog) (w := X.w) (I.ok.hd calm) pl.isList (by simpa using strs_vals rv) hf fun h' tk R k => ?_
  exact ⟨.ref s.heap.objs.size, _, I.laid (t' := tk) k (Nat.le_refl _) (setTO_ok R), rfl, q _ (I.hok.fresh (Nat.le_refl _))⟩
/-- sorted(xs), xs a set of texts -/
def rSortT (P : Program) (w : World) : List V → Hp → VK → Prop := fun xs H Q => ∃ (a : Addr) (l : List Str), xs = [.ref a] ∧ H a = some (SetTO P w a l) ∧ l.length < 4000 ∧ ∀ (zs : List Str) (p : Addr), zs.Perm l → sortedS zs = true → H p = none → Q (.ref p) (upd H p (.lst (zs.map V.str)))
theorem vals_strs : ∀ {us : List Value} {zs : List Str}, StrsAre us zs → Vals (zs.map V.str) us
  | _, _, .nil => .nil
  | _, _, .cons x t r => .cons ⟨t, rfl⟩ (vals_strs r)
theorem cr_sortT (calm : X.calm = true) : CallR X (.builtin "sorted") (rSortT X.prog X.w) := by
  intro pins s σ H xs us Q I r h
  obtain ⟨a, l, rfl, ha, few, q⟩ := h
  rw [Vals.ref1 r]
  refine SetT.sorted (setTO_get I ha) (I.ok.hd calm) few fun s2 p out c zs kept gens os new here are pm so => ?_
  have size : (zs.map V.str).length ≤ sizeLine := by rw [List.length_map, pm.length_eq, sizeLine_eq]; omega
  have free : H p = none := I.hok.fresh new
  have J : Inv X pins σ (upd H p (.lst (zs.map V.str))) { s with heap := s2.heap, gens := s2.gens, drawn := s2.drawn, toks := s2.toks } :=
    I.call (ch := []) (Un.laid kept new free) (I.hok.laid kept new ⟨size, out.toList, c, vals_strs are, here⟩) (by rw [gens]; exact I.bare) (fun _ z => nomatch z)
  have e : s2 = { s with heap := s2.heap, gens := s2.gens, drawn := s2.drawn, toks := s2.toks } := by
    obtain ⟨_, _, _, _, _⟩ := s2
    obtain ⟨_, _, _, _, _⟩ := s
    cases os
    rfl
  rw [e]
  exact ⟨.ref p, _, J, rfl, q zs p pm so free⟩
end
end Nm
set_option autoImplicit true
set_option maxRecDepth 100000
set_option maxHeartbeats 4000000
/-! sets of keys of any depth as objects: set(a list of such keys), sorted of it -/
namespace Nm
open PySem PySem.Spec PyProof.Rows L2 PySem.Froz
abbrev AK := Addr × NestedKey
/-- such a set, the tuples left out -/
def NBare (P : Program) (w : World) (h : Heap) (a : Addr) (L : List AK) : Prop := ∃ (es : Array (Int × Value)) (ep : Nat) (t : SetTable), (∃ o, h.get? a = some o ∧ o.ExactSet ∧ o.data = .set es ep t) ∧ es.toList = rowsN w L ∧ Tab t (L.map fun e => nh w e.2) ∧ (L.map (·.2)).Nodup ∧ MaskIn t.mask ∧ L.length * 5 < t.mask * 3 ∧ (w.params.followText "set-order" = true ∨ t.led = true)
section
variable {P : Program} {w : World} {A : Around} {E : Value → Shared → Prop} {s : Shared}
theorem NSet.bare {h : Heap} {a : Addr} {L : List AK} {es : Array (Int × Value)} {ep : Nat} {t : SetTable} (R : NSet P w h a L es ep t) : NBare P w h a L := ⟨es, ep, t, R.here, R.rows, R.tab, R.nd, R.mask, R.room, R.led⟩
theorem NBare.set {h : Heap} {a : Addr} {L : List AK} (R : NBare P w h a L) (T : ∀ e ∈ L, IsN P w h e.2 e.1) : ∃ es ep t, NSet P w h a L es ep t := by
  obtain ⟨es, ep, t, c1, c2, c3, c4, c5, c6, c7⟩ := R
  exact ⟨es, ep, t, c1, c2, c3, c4, T, c5, c6, c7⟩
theorem NBare.at {h h' : Heap} {a : Addr} {L : List AK} (R : NBare P w h a L) (k : ∀ o, h.get? a = some o → h'.get? a = some o) : NBare P w h' a L := by
  obtain ⟨es, ep, t, ⟨o, ho, r⟩, q⟩ := R
  exact ⟨es, ep, t, ⟨o, k o ho, r⟩, q⟩
end
end Nm
set_option autoImplicit true
set_option maxRecDepth 100000
set_option maxHeartbeats 4000000
/-! sorted of a set of keys of any depth -/
namespace Nm
open PySem PySem.Spec PyProof.Rows L2 PySem.Froz
section
variable {P : Program} {w : World} {A : Around} {E : Value → Shared → Prop} {s : Shared}
/-- in Python's order of the data that the keys are -/
def UpN (L : List AK) : Prop := L.Pairwise fun x y => PySem.W.dataLt y.2.data x.2.data = false
open PySem.W in
theorem NBare.sorted {a : Addr} {L : List AK} {Q : Value → Shared → Prop} (R : NBare P w s.heap a L) (free : A.handled = none) (few : L.length < 4000) (hu : A.units + 200 < cLine)
    (reads : ∀ e ∈ L, Reads s.heap (.ref e.1) e.2.data []) (hal : AllAlike (L.map fun e => e.2.data)) (hk : Sortable (L.map fun e => e.2.data)) (dep : ∀ e ∈ L, e.2.data.depth ≤ 8)
    (told : ∀ (s2 : Shared) (p : Addr) (c : Nat) (zs : List AK), (∀ b o, s.heap.get? b = some o → s2.heap.get? b = some o) → s2.gens = s.gens → s2.os = s.os → s.heap.objs.size ≤ p → s2.heap.get? p = some (seqObj "list" (zs.map fun e => Value.ref e.1).toArray c) → zs.Perm L → UpN zs → Q (.ref p) s2) :
    wpAny (model P w) A (call (.builtin "sorted") [.ref a]) Q E s := by
  obtain ⟨es, ep, t, ⟨o, ho, ex, dat⟩, rows, tab, nd, mk, room, led⟩ := R
  have size : es.size = L.length := by rw [← Array.length_toList, rows, rowsN_len]
  have fit : t.fits es.size = true := by
    have p := tab.many
    rw [List.length_map] at p
    unfold SetTable.fits SetTable.fill
    rw [tab.clean]
    simp
    omega
  refine Calls.call_function_entry kind_sorted plain_sorted entry_sorted (args_sorted1 _) ?_
  unfold Builtin.«sorted»
  refine wpAny_bind (m := checkCount "sorted" 1 1 _) (wpAny_pure (wpAny_bind ?_))
  refine collect_set (A := A.in1) free ⟨o, ho, ex.1, dat⟩ fit (by rw [size]; exact Nat.lt_trans few (by decide)) tab.up led fun s1 us kept more gens os pm => ?_
  have ev : es.toList.map (·.2) = L.map fun e => Value.ref e.1 := by
    rw [rows]
    unfold rowsN
    rw [List.map_map]
    rfl
  rw [ev] at pm
  obtain ⟨L1, p1, rfl⟩ := perm_lift (fun e : AK => Value.ref e.1) pm L rfl
  have len : (L1.map fun e => Value.ref e.1).length = L.length := by rw [List.length_map, p1.length_eq]
  refine wpAny_bind (wpAny_newList ?_ (by rw [len, sizeLine_eq]; omega))
  have here : (s1.heap.push (seqObj "list" (L1.map fun e => Value.ref e.1).toArray 0)).get? s1.heap.objs.size = some (seqObj "list" (L1.map fun e => Value.ref e.1).toArray 0) := Heap.get?_push_size _ rfl
  have al1 : AllAlike (L1.map fun e => e.2.data) := fun d hd d' hd' => hal d ((p1.map _).mem_iff.mp hd) d' ((p1.map _).mem_iff.mp hd')
  have so1 : Sortable (L1.map fun e => e.2.data) := hk.imp (fun z d hd => z d ((p1.map _).mem_iff.mp hd)) fun z d hd => z d ((p1.map _).mem_iff.mp hd)
  have each : EachIs (fun v e => v = Value.ref e.1) (L1.map fun e => Value.ref e.1) L1 := by
    clear p1 len here al1 so1 pm
    induction L1 with
    | nil => exact .nil
    | cons e L1 ih => exact .cons rfl ih
  have rd : ∀ e ∈ L1, Reads (s1.heap.push (seqObj "list" (L1.map fun e => Value.ref e.1).toArray 0)) (.ref e.1) e.2.data [] := fun e he =>
    PyProof.Rows.Reads.keeps (fun b o hb => Heap.get?_push_of_some _ (kept b o hb)) (reads e (p1.mem_iff.mp he))
  have er : EachIs (fun v (e : AK) => ∃ as, Reads (s1.heap.push (seqObj "list" (L1.map fun e => Value.ref e.1).toArray 0)) v e.2.data as ∧ s1.heap.objs.size ∉ as) (L1.map fun e => Value.ref e.1) L1 := by
    generalize s1.heap.push (seqObj "list" (L1.map fun e => Value.ref e.1).toArray 0) = hh at rd
    clear p1 len here al1 so1 pm each
    induction L1 with
    | nil => exact .nil
    | cons e L1 ih => exact .cons ⟨[], rd e List.mem_cons_self, List.not_mem_nil⟩ (ih fun x hx => rd x (List.mem_cons_of_mem _ hx))
  refine wpAny_bind (wpAny_holding (list_sort_data (R := fun v (e : AK) => v = Value.ref e.1) (enc := fun e : AK => e.2.data) here each er al1 so1 (by rw [p1.length_eq, sizeLine_eq]; omega) (fun e he => ?_) fun out lo eo => ?_))
  · have := dep e (p1.mem_iff.mp he)
    simp only [Around.in1_units]
    omega
  · have p2 : (L1.mergeSort (dataLe false fun e : AK => e.2.data)).Perm L := (List.mergeSort_perm _ _).trans p1
    have eo' : out = (L1.mergeSort (dataLe false fun e : AK => e.2.data)).map fun e => Value.ref e.1 := by
      generalize L1.mergeSort (dataLe false fun e : AK => e.2.data) = Z at eo
      clear lo
      induction eo with
      | nil => rfl
      | cons h _ ih => rw [h, ih]; rfl
    have up : UpN (L1.mergeSort (dataLe false fun e : AK => e.2.data)) := by
      refine (sort_pairwise (sortLe_total (listOrd itemOrd) false fun e : AK => keyToks e.2.data) L1).imp fun {x y} h => ?_
      have h' : (!dataLt y.2.data x.2.data) = true := h
      simpa using h'
    subst eo'
    obtain ⟨c, there⟩ := sortedHeap_at (vs := L1.map fun e => Value.ref e.1) (out := ((L1.mergeSort (dataLe false fun e : AK => e.2.data)).map fun e => Value.ref e.1).toArray) here
    refine wpAny_pure ⟨_, rfl, told _ s1.heap.objs.size c _ (fun b o e => ?_) gens os more there p2 up⟩
    have e1 := kept b o e
    have lt := Heap.lt_size e1
    show (sortedHeap (s1.heap.push (seqObj "list" (L1.map fun e => Value.ref e.1).toArray 0)) s1.heap.objs.size (L1.map fun e => Value.ref e.1) _).get? b = some o
    rw [sortedHeap_old (Nat.ne_of_lt lt) (by rw [size_push']; exact Nat.lt_succ_of_lt lt)]
    exact Heap.get?_push_of_some _ e1
end
end Nm
set_option autoImplicit true
set_option maxRecDepth 100000
set_option maxHeartbeats 4000000
/-! set(xs), sorted(set): the rules, keys of any depth -/
namespace Nm
open PySem PySem.Spec PyProof.Rows L2 PySem.Froz
/-- these tuples are these keys -/
def NIn (H : Hp) (L : List AK) : Prop := ∀ e ∈ L, NKey H e.2 (.ref e.1) ∧ e.2.depth ≤ 8
theorem NIn.same {H H' : Hp} {L : List AK} (h : NIn H L) (s : Same H H') : NIn H' L := fun e he => ⟨NKey.same s _ _ (h e he).1, (h e he).2⟩
theorem NIn.sub {H : Hp} {L L' : List AK} (h : NIn H L) (s : ∀ e ∈ L', e ∈ L) : NIn H L' := fun e he => h e (s e he)
mutual
theorem NKey.off {H : Hp} {D : Addr} {o : HO} (n : ∀ xs, H D ≠ some (.tup xs)) : ∀ (k : NestedKey) (v : V), NKey H k v → NKey (upd H D o) k v
  | .none, _, h => by cases h
  | .num i, _, h => by cases h; exact .num _
  | .text x, _, h => by cases h; exact .text _
  | .tup ks, _, h => by
    cases h with
    | @tup a _ vs e t => exact .tup (by rw [upd_ne fun z => n vs (by rw [← z]; exact e)]; exact e) (NKeys.off n ks _ t)
theorem NKeys.off {H : Hp} {D : Addr} {o : HO} (n : ∀ xs, H D ≠ some (.tup xs)) : ∀ (ks : List NestedKey) (vs : List V), NKeys H ks vs → NKeys (upd H D o) ks vs
  | [], _, h => by cases h; exact .nil
  | k :: ks, _, h => by
    cases h with
    | cons a b => exact .cons (NKey.off n k _ a) (NKeys.off n ks _ b)
end
section
variable {X : Cx} {pins : List (Addr × Obj)} {σ : L2.St} {H : Hp} {s : Shared}
end
end Nm
set_option autoImplicit true
set_option maxRecDepth 100000
set_option maxHeartbeats 4000000
/-! sorted of a dict whose keys are tuples of texts and numbers -/
namespace Nm
open PySem PySem.Spec PyProof.Rows L2 PySem.Froz
def leafN : Key → NestedKey
  | .inl i => .num i
  | .inr x => .text x
def rowN (ks : List Key) : NestedKey := .tup (ks.map leafN)
theorem leafN_keys {H : Hp} : ∀ ks : List Key, NKeys H (ks.map leafN) (ks.map kV)
  | [] => .nil
  | .inl i :: ks => .cons (.num i) (leafN_keys ks)
  | .inr x :: ks => .cons (.text x) (leafN_keys ks)
theorem rowN_key {H : Hp} {b : Addr} {ks : List Key} (h : H b = some (.tup (ks.map kV))) : NKey H (rowN ks) (.ref b) := .tup h (leafN_keys ks)
/-- keys of one shape -/
def LikeK : List Key → List Key → Prop
  | [], [] => True
  | .inl _ :: a, .inl _ :: b => LikeK a b
  | .inr _ :: a, .inr _ :: b => LikeK a b
  | _, _ => False
open PySem.W in
theorem likeK_alike : ∀ {a b : List Key}, LikeK a b → alikeAll (NestedKey.datas (a.map leafN)) (NestedKey.datas (b.map leafN)) = true
  | [], [], _ => by simp [NestedKey.datas, alikeAll]
  | .inl _ :: a, .inl _ :: b, h => by
    have := likeK_alike (a := a) (b := b) h
    simp only [List.map_cons, leafN, NestedKey.datas, NestedKey.data, alikeAll, alike, this, Bool.and_self]
  | .inr _ :: a, .inr _ :: b, h => by
    have := likeK_alike (a := a) (b := b) h
    simp only [List.map_cons, leafN, NestedKey.datas, NestedKey.data, alikeAll, alike, this, Bool.and_self]
  | [], _ :: _, h => False.elim h
  | .inl _ :: _, [], h => False.elim h
  | .inr _ :: _, [], h => False.elim h
  | .inl _ :: _, .inr _ :: _, h => False.elim h
  | .inr _ :: _, .inl _ :: _, h => False.elim h
theorem depth_leaf : ∀ ks : List Key, PyData.depthAll (NestedKey.datas (ks.map leafN)) = 0
  | [] => by simp [NestedKey.datas, PyData.depthAll]
  | .inl _ :: ks => by simp [leafN, NestedKey.datas, NestedKey.data, PyData.depthAll, PyData.depth, depth_leaf ks]
  | .inr _ :: ks => by simp [leafN, NestedKey.datas, NestedKey.data, PyData.depthAll, PyData.depth, depth_leaf ks]
theorem depth_row (ks : List Key) : (rowN ks).data.depth ≤ 8 := by
  unfold rowN
  simp only [NestedKey.data, PyData.depth, depth_leaf]
  omega
section
variable {X : Cx}
open PySem.W in
def rSortDT : List V → Hp → VK → Prop := fun xs H Q => ∃ (a : Addr) (kvs : List (List Key × V)), xs = [.ref a] ∧ H a = some (.dT kvs) ∧ kvs.length < 4000 ∧ (∀ kv ∈ kvs, ∀ kv' ∈ kvs, LikeK kv.1 kv'.1) ∧ (∀ kv ∈ kvs, kv.1 ≠ []) ∧
  ∀ (zs : List (Addr × List Key)) (p : Addr), (zs.map (·.2)).Perm (kvs.map (·.1)) → (∀ z ∈ zs, H z.1 = some (.tup (z.2.map kV))) → zs.Pairwise (fun x y => dataLt (rowN y.2).data (rowN x.2).data = false) → H p = none → Q (.ref p) (upd H p (.lst (zs.map fun z => V.ref z.1)))
open PySem.W in
theorem cr_sortDT (calm : X.calm = true) (room : X.A.units + 200 < cLine) : CallR X (.builtin "sorted") rSortDT := by
  intro pins s σ H xs us Q I r h
  obtain ⟨d, kvs, rfl, hd, few, like, ne, q⟩ := h
  rw [Vals.ref1 r]
  obtain ⟨z, hs, ks, pr, o, es, ep, ho, hx, hdt, he, hn⟩ := (show ObjOk X.prog X.w H s.heap d (.dT kvs) from I.hok d _ hd)
  have l1 : es.size = ks.length := size_of_entries he
  have l2 : kvs.length = ks.length := Paired.length pr
  have line : sizeLine = 16777216 := sizeLine_eq
  refine Calls.call_function_entry kind_sorted plain_sorted entry_sorted (args_sorted1 _) ?_
  unfold Builtin.«sorted»
  refine wpAny_bind (m := checkCount "sorted" 1 1 _) (wpAny_pure (wpAny_bind ?_))
  refine PySem.W.kdu_collect (A := X.A.in1) (kdl_raw hs hx hdt) (I.ok.hd calm) ho (by omega) fun h' tk acc kp it => ?_
  have ea : acc.toList = ks.map fun x => Value.ref x.2.1 := by
    have hl : acc.toList.length = ks.length := by rw [Array.length_toList, it.1]; exact l1
    apply List.ext_getElem?
    intro j
    rw [List.getElem?_map]
    cases hj : acc.toList[j]? with
    | none =>
      have h1 := List.getElem?_eq_none_iff.mp hj
      rw [List.getElem?_eq_none (by omega)]
      all_goals rfl
    | some v =>
      obtain ⟨en, hen, hv⟩ := it.2 j v (by rw [← Array.getElem?_toList]; exact hj)
      have qe := entry_at he j
      rw [hen] at qe
      cases hb : ks[j]? with
      | none =>
        rw [hb] at qe
        exact nomatch (show some en = none from qe)
      | some b =>
        rw [hb] at qe
        have e2 : en = entryOfKey (tupleKind (mixKind X.prog X.w)) b := Option.some.inj qe
        rw [hv, e2]
        all_goals rfl
  have isK := isKeys_of pr
  -- the keys as data
  obtain ⟨L, eL, eK, hL⟩ : ∃ L : List (Addr × List Key), (ks.map fun x => Value.ref x.2.1) = L.map (fun e => Value.ref e.1) ∧ L.map (·.2) = kvs.map (·.1) ∧ ∀ e ∈ L, H e.1 = some (.tup (e.2.map kV)) := by
    clear q ea he it l1 l2 few like ne hd
    have gen : ∀ {ks' : List (List Key × Addr × Value)} {kvs' : List (List Key × V)}, IsKeys H kvs' (ks'.map fun x => x.2.1) → ∃ L : List (Addr × List Key), (ks'.map fun x => Value.ref x.2.1) = L.map (fun e => Value.ref e.1) ∧ L.map (·.2) = kvs'.map (·.1) ∧ ∀ e ∈ L, H e.1 = some (.tup (e.2.map kV)) := by
      intro ks'
      induction ks' with
      | nil =>
        intro kvs' h
        cases h
        exact ⟨[], rfl, rfl, fun e he => (List.not_mem_nil he).elim⟩
      | cons x r ih =>
        intro kvs' h
        cases h with
        | cons a b =>
          obtain ⟨L, e1, e2, e3⟩ := ih b
          refine ⟨(x.2.1, _) :: L, by rw [List.map_cons, List.map_cons, e1], by rw [List.map_cons, List.map_cons, e2], fun e he => ?_⟩
          rcases List.mem_cons.mp he with e' | he
          · rw [e']; exact a
          · exact e3 e he
    exact gen isK
  have lenL : L.length = kvs.length := by have := congrArg List.length eK; rwa [List.length_map, List.length_map] at this
  have len : (L.map fun e => Value.ref e.1).length = kvs.length := by rw [List.length_map, lenL]
  have memL : ∀ e ∈ L, ∃ kv ∈ kvs, e.2 = kv.1 := fun e he => by
    have : e.2 ∈ kvs.map (·.1) := by rw [← eK]; exact List.mem_map.mpr ⟨e, he, rfl⟩
    obtain ⟨kv, h1, h2⟩ := List.mem_map.mp this
    exact ⟨kv, h1, h2.symm⟩
  have eacc : acc.toList = L.map fun e => Value.ref e.1 := by rw [ea, eL]
  rw [eacc]
  refine wpAny_bind (wpAny_newList ?_ (by rw [len]; omega))
  have J : Inv X pins σ H { s with heap := h', toks := tk } := I.kept kp
  have here : (h'.push (seqObj "list" (L.map fun e => Value.ref e.1).toArray 0)).get? h'.objs.size = some (seqObj "list" (L.map fun e => Value.ref e.1).toArray 0) := Heap.get?_push_size _ rfl
  let enc : Addr × List Key → PyData := fun e => (rowN e.2).data
  have al : AllAlike (L.map enc) := by
    intro d1 h1 d2 h2
    obtain ⟨e1, m1, rfl⟩ := List.mem_map.mp h1
    obtain ⟨e2, m2, rfl⟩ := List.mem_map.mp h2
    obtain ⟨kv1, k1, f1⟩ := memL e1 m1
    obtain ⟨kv2, k2, f2⟩ := memL e2 m2
    have := like kv1 k1 kv2 k2
    rw [← f1, ← f2] at this
    show alike (rowN e1.2).data (rowN e2.2).data = true
    unfold rowN
    simp only [NestedKey.data, alike]
    exact likeK_alike this
  have so : Sortable (L.map enc) := .inl fun d1 h1 => by
    obtain ⟨e1, m1, rfl⟩ := List.mem_map.mp h1
    obtain ⟨kv1, k1, f1⟩ := memL e1 m1
    have n1 := ne kv1 k1
    rw [← f1] at n1
    cases hk : e1.2 with
    | nil => exact absurd hk n1
    | cons x r =>
      refine ⟨(leafN x).data, NestedKey.datas (r.map leafN), ?_⟩
      show (rowN e1.2).data = _
      rw [hk]
      simp only [rowN, List.map_cons, NestedKey.data, NestedKey.datas]
  have each : EachIs (fun v (e : Addr × List Key) => v = Value.ref e.1) (L.map fun e => Value.ref e.1) L := by
    clear here eacc len lenL memL al so hL eK eL
    induction L with
    | nil => exact .nil
    | cons e L ih => exact .cons rfl ih
  have rd : ∀ e ∈ L, Reads (h'.push (seqObj "list" (L.map fun e => Value.ref e.1).toArray 0)) (.ref e.1) (enc e) [] := fun e he =>
    PyProof.Rows.Reads.keeps (fun b o hb => Heap.get?_push_of_some _ hb) (NKey.reads J.hok (rowN e.2) (.ref e.1) (.ref e.1) (rowN_key (hL e he)) rfl)
  have er : EachIs (fun v (e : Addr × List Key) => ∃ as, Reads (h'.push (seqObj "list" (L.map fun e => Value.ref e.1).toArray 0)) v (enc e) as ∧ h'.objs.size ∉ as) (L.map fun e => Value.ref e.1) L := by
    generalize h'.push (seqObj "list" (L.map fun e => Value.ref e.1).toArray 0) = hh at rd
    clear here eacc len lenL memL al so hL eK eL each
    induction L with
    | nil => exact .nil
    | cons e L ih => exact .cons ⟨[], rd e List.mem_cons_self, List.not_mem_nil⟩ (ih fun x hx => rd x (List.mem_cons_of_mem _ hx))
  refine wpAny_bind (wpAny_holding (list_sort_data (s := { s with heap := h'.push (seqObj "list" (L.map fun e => Value.ref e.1).toArray 0), toks := tk }) (R := fun v (e : Addr × List Key) => v = Value.ref e.1) (enc := enc) here each er al so (by rw [lenL]; omega) (fun e he => ?_) fun out lo eo => ?_))
  · have := depth_row e.2
    show _ + 1 + (rowN e.2).data.depth < _
    simp only [Around.in1_units]
    omega
  · have p2 : (L.mergeSort (dataLe false enc)).Perm L := List.mergeSort_perm _ _
    have eo' : out = (L.mergeSort (dataLe false enc)).map fun e => Value.ref e.1 := by
      generalize L.mergeSort (dataLe false enc) = Z at eo
      clear lo
      induction eo with
      | nil => rfl
      | cons h _ ih => rw [h, ih]; rfl
    have up : (L.mergeSort (dataLe false enc)).Pairwise (fun x y => dataLt (rowN y.2).data (rowN x.2).data = false) := by
      refine (sort_pairwise (sortLe_total (listOrd itemOrd) false fun e : Addr × List Key => keyToks (enc e)) L).imp fun {x y} h => ?_
      have h' : (!dataLt (enc y) (enc x)) = true := h
      simpa using h'
    subst eo'
    obtain ⟨c, there⟩ := sortedHeap_at (vs := L.map fun e => Value.ref e.1) (out := ((L.mergeSort (dataLe false enc)).map fun e => Value.ref e.1).toArray) here
    have size : ((L.mergeSort (dataLe false enc)).map fun e => V.ref e.1).length ≤ sizeLine := by rw [List.length_map, p2.length_eq, lenL]; omega
    have free : H h'.objs.size = none := J.hok.fresh (Nat.le_refl _)
    have vr : Vals ((L.mergeSort (dataLe false enc)).map fun e => V.ref e.1) ((L.mergeSort (dataLe false enc)).map fun e => Value.ref e.1) := by
      generalize L.mergeSort (dataLe false enc) = Z
      induction Z with
      | nil => exact .nil
      | cons e Z ih => exact .cons rfl ih
    refine wpAny_pure ⟨_, rfl, .ref h'.objs.size, upd H h'.objs.size (.lst ((L.mergeSort (dataLe false enc)).map fun e => V.ref e.1)), J.laid (t' := tk) (fun b u e => ?_) (Nat.le_refl _) (show ObjOk X.prog X.w _ _ _ (.lst ((L.mergeSort (dataLe false enc)).map fun e => V.ref e.1)) from ⟨size, _, c, vr, there⟩), rfl, ?_⟩
    · have lt : b < h'.objs.size := Heap.lt_size e
      rw [sortedHeap_old (Nat.ne_of_lt lt) (by rw [size_push']; exact Nat.lt_succ_of_lt lt)]
      exact Heap.get?_push_of_some _ e
    · exact q (L.mergeSort (dataLe false enc)) _ (by rw [← eK]; exact p2.map _) (fun e he => hL e (p2.mem_iff.mp he)) up free
end
end Nm
set_option autoImplicit true
set_option maxRecDepth 100000
set_option maxHeartbeats 4000000
/-! reached_from -/
namespace Nm
open PySem L2
/-- lists of neighbours as they stand -/
def NearAt (H : Hp) (a : Addr) (nb : List (List Nat)) : Prop := ∃ as : List Addr, H a = some (.lst (as.map V.ref)) ∧ as.length = nb.length ∧ ∀ (k : Nat) (p : Addr) (l : List Nat), as[k]? = some p → nb[k]? = some l → H p = some (.lst (natV l))
theorem NearAt.same {H H' : Hp} {a : Addr} {nb : List (List Nat)} (h : NearAt H a nb) (s : Same H H') : NearAt H' a nb := by
  obtain ⟨as, h1, h2, h3⟩ := h
  exact ⟨as, s _ _ h1, h2, fun k p l e1 e2 => s _ _ (h3 k p l e1 e2)⟩
/-- what is found from a place -/
structure Found (nb : List (List Nat)) (s : Nat) (ks : List Nat) : Prop where
  nd : ks.Nodup
  lt : ∀ k ∈ ks, k < nb.length
  start : s ∈ ks
  closed : ∀ x ∈ ks, ∀ l, nb[x]? = some l → ∀ y ∈ l, y ∈ ks
  least : ∀ S : Nat → Prop, S s → (∀ x l, S x → nb[x]? = some l → ∀ y ∈ l, S y) → ∀ k ∈ ks, S k
theorem Same.off {H H' : Hp} {p : Addr} {o : HO} (s : Same H H') (h : H p = none) : Same H (upd H' p o) := fun b u e => by
  rw [upd_ne (ne_of_none e h)]
  exact s b u e
/-- between two turns of the while -/
structure Wv (nb : List (List Nat)) (s : Nat) (ks ws : List Nat) : Prop where
  nd : ks.Nodup
  lt : ∀ k ∈ ks, k < nb.length
  start : s ∈ ks
  least : ∀ S : Nat → Prop, S s → (∀ x l, S x → nb[x]? = some l → ∀ y ∈ l, S y) → ∀ k ∈ ks, S k
  sub : ∀ x ∈ ws, x ∈ ks
  closed : ∀ x ∈ ks, x ∈ ws ∨ ∀ l, nb[x]? = some l → ∀ y ∈ l, y ∈ ks
/-- within one -/
structure Iv (nb : List (List Nat)) (s pl : Nat) (l : List Nat) (j : Nat) (ks ws : List Nat) : Prop where
  nd : ks.Nodup
  lt : ∀ k ∈ ks, k < nb.length
  start : s ∈ ks
  least : ∀ S : Nat → Prop, S s → (∀ x l, S x → nb[x]? = some l → ∀ y ∈ l, S y) → ∀ k ∈ ks, S k
  sub : ∀ x ∈ ws, x ∈ ks
  closed : ∀ x ∈ ks, x ∈ ws ∨ x = pl ∨ ∀ l, nb[x]? = some l → ∀ y ∈ l, y ∈ ks
  pin : pl ∈ ks
  done : ∀ y ∈ l.take j, y ∈ ks
theorem Iv.add {nb : List (List Nat)} {s pl : Nat} {l : List Nat} {j y : Nat} {ks ws : List Nat} (I : Iv nb s pl l j ks ws) (hl : nb[pl]? = some l) (hy : l[j]? = some y) (hn : y ∉ ks) (hlt : y < nb.length) : Iv nb s pl l (j + 1) (ks ++ [y]) (ws ++ [y]) := by
  refine ⟨?_, fun k hk => ?_, List.mem_append_left _ I.start, fun S h0 hs k hk => ?_, fun x hx => ?_, fun x hx => ?_, List.mem_append_left _ I.pin, fun z hz => ?_⟩
  · rw [List.nodup_append]
    exact ⟨I.nd, by simp, fun a ha b hb e => hn (by rw [List.mem_singleton] at hb; subst hb e; exact ha)⟩
  · rcases List.mem_append.mp hk with q | q
    · exact I.lt k q
    · rw [List.mem_singleton.mp q]
      exact hlt
  · rcases List.mem_append.mp hk with q | q
    · exact I.least S h0 hs k q
    · rw [List.mem_singleton.mp q]
      exact hs pl l (I.least S h0 hs pl I.pin) hl y (List.mem_of_getElem? hy)
  · rcases List.mem_append.mp hx with q | q
    · exact List.mem_append_left _ (I.sub x q)
    · exact List.mem_append_right _ q
  · rcases List.mem_append.mp hx with q | q
    · rcases I.closed x q with a | a | a
      · exact .inl (List.mem_append_left _ a)
      · exact .inr (.inl a)
      · exact .inr (.inr fun l' h' y' hy' => List.mem_append_left _ (a l' h' y' hy'))
    · exact .inl (List.mem_append_right _ q)
  · rw [List.take_add_one, hy] at hz
    rcases List.mem_append.mp hz with q | q
    · exact List.mem_append_left _ (I.done z q)
    · exact List.mem_append_right _ (by simpa using q)
theorem Iv.out {nb : List (List Nat)} {s pl : Nat} {l : List Nat} {ks ws : List Nat} (I : Iv nb s pl l l.length ks ws) (hl : nb[pl]? = some l) : Wv nb s ks ws := by
  refine ⟨I.nd, I.lt, I.start, I.least, I.sub, fun x hx => ?_⟩
  rcases I.closed x hx with a | a | a
  · exact .inl a
  · subst a
    refine .inr fun l' h' y hy => ?_
    rw [hl] at h'
    cases h'
    exact I.done y (by rw [List.take_length]; exact hy)
  · exact .inr a
section
variable {P : Program} {w : World} {K : PySem.W.Frag} {mg : Str → Option Value} {base : Heap}
end
end Nm
set_option autoImplicit false
set_option maxRecDepth 100000
set_option maxHeartbeats 16000000
/-! _law_told -/
namespace Nm
open PySem PySem.Spec PyProof.Rows L2
theorem rowOf_ok {nm : List Str} {t : TieV} {r : RowV} (nd : nm.Nodup) (f : r.i < r.j) (kw : isWordB r.kd = true) (w1 : 1 ≤ r.w) (h : RowOf nm t r) : t.Ok nm := by
  obtain ⟨a, b, ha, hb, e1, e2, e3, e4⟩ := h
  refine ⟨List.mem_of_getElem? ha, List.mem_of_getElem? hb, fun e => ?_, by rw [← e3]; exact kw, by rw [← e4]; exact w1⟩
  rw [e] at ha
  have := (List.getElem?_inj (List.getElem?_eq_some_iff.mp ha).1 nd).mp (ha.trans hb.symm)
  omega
def spotR (nm : List Str) (r : RowV) : List Key := [Sum.inr (minS (nmAt nm r.i) (nmAt nm r.j)), Sum.inr (maxS (nmAt nm r.i) (nmAt nm r.j)), Sum.inr r.kd]
theorem rowOf_spot {nm : List Str} {t : TieV} {r : RowV} (nd : nm.Nodup) (f : r.i < r.j) (h : RowOf nm t r) : t.spot = spotR nm r := by
  obtain ⟨a, b, ha, hb, e1, e2, e3, e4⟩ := h
  unfold TieV.spot spotR
  rw [e3]
  rcases Nat.lt_or_ge a b with c | c
  · rw [show r.i = a by omega, show r.j = b by omega, nmAt_of ha, nmAt_of hb]
  · have ne : t.x ≠ t.y := fun e => by
      rw [e] at ha
      have := (List.getElem?_inj (List.getElem?_eq_some_iff.mp ha).1 nd).mp (ha.trans hb.symm)
      omega
    rw [show r.i = b by omega, show r.j = a by omega, nmAt_of ha, nmAt_of hb, (mm_comm ne).1, (mm_comm ne).2]
theorem spotR_inj {nm : List Str} {r r' : RowV} (nd : nm.Nodup) (f : r.i < r.j ∧ r.j < nm.length) (f' : r'.i < r'.j ∧ r'.j < nm.length) (e : spotR nm r = spotR nm r') : (r.i, r.j, r.kd) = (r'.i, r'.j, r'.kd) := by
  unfold spotR at e
  obtain ⟨e1, e⟩ := List.cons.inj e
  obtain ⟨e2, e⟩ := List.cons.inj e
  obtain ⟨e3, _⟩ := List.cons.inj e
  have e1 := Sum.inr.inj e1
  have e2 := Sum.inr.inj e2
  have e3 := Sum.inr.inj e3
  have n1 : nmAt nm r.i ≠ nmAt nm r.j := fun z => by have := nmAt_inj nd (by omega) f.2 z; omega
  have n2 : nmAt nm r'.i ≠ nmAt nm r'.j := fun z => by have := nmAt_inj nd (by omega) f'.2 z; omega
  have key : (nmAt nm r.i = nmAt nm r'.i ∧ nmAt nm r.j = nmAt nm r'.j) ∨ (nmAt nm r.i = nmAt nm r'.j ∧ nmAt nm r.j = nmAt nm r'.i) := by
    rcases pair_mm n1 with ⟨a, b⟩ | ⟨a, b⟩ <;> rcases pair_mm n2 with ⟨c, d⟩ | ⟨c, d⟩
    · rw [a, c] at e1; rw [b, d] at e2; exact .inl ⟨e1, e2⟩
    · rw [a, c] at e1; rw [b, d] at e2; exact .inr ⟨e1, e2⟩
    · rw [a, c] at e1; rw [b, d] at e2; exact .inr ⟨e2, e1⟩
    · rw [a, c] at e1; rw [b, d] at e2; exact .inl ⟨e2, e1⟩
  rcases key with ⟨a, b⟩ | ⟨a, b⟩
  · rw [nmAt_inj nd (by omega) (by omega) a, nmAt_inj nd f.2 f'.2 b, e3]
  · have h1 := nmAt_inj nd (by omega) (by omega) a
    have h2 := nmAt_inj nd f.2 (by omega) b
    omega
theorem paired_left {α β : Type} {F : α → β → Prop} : ∀ {l : List α} {m : List β}, Paired F l m → ∀ a ∈ l, ∃ b ∈ m, F a b
  | _, _, .nil, a, h => (List.not_mem_nil h).elim
  | _, _, .cons r t, a, h => by
    rcases List.mem_cons.mp h with e | h
    · rw [e]; exact ⟨_, List.mem_cons_self, r⟩
    · obtain ⟨b, h1, h2⟩ := paired_left t a h
      exact ⟨b, List.mem_cons_of_mem _ h1, h2⟩
theorem tspots_nd {nm : List Str} (nd : nm.Nodup) : ∀ {tl : List TieV} {rw' : List RowV}, Paired (RowOf nm) tl rw' → (∀ r ∈ rw', r.i < r.j ∧ r.j < nm.length) → (rw'.map fun r => (r.i, r.j, r.kd)).Nodup → (tl.map TieV.spot).Nodup
  | _, _, .nil, _, _ => List.nodup_nil
  | t :: tl, r :: rs, .cons h p, lt, n => by
    rw [List.map_cons, List.nodup_cons] at n ⊢
    refine ⟨fun m => ?_, tspots_nd nd p (fun x hx => lt x (List.mem_cons_of_mem _ hx)) n.2⟩
    obtain ⟨t', ht', e⟩ := List.mem_map.mp m
    obtain ⟨r', hr', h'⟩ := paired_left p t' ht'
    have l1 := lt r List.mem_cons_self
    have l2 := lt r' (List.mem_cons_of_mem _ hr')
    rw [rowOf_spot nd l1.1 h, rowOf_spot nd l2.1 h'] at e
    exact n.1 (List.mem_map.mpr ⟨r', hr', spotR_inj nd l2 l1 e⟩)
theorem like3 (a b c d e f : Str) : LikeK [Sum.inr a, Sum.inr b, Sum.inr c] [Sum.inr d, Sum.inr e, Sum.inr f] := trivial
section
variable {P : Program} {w : World} {K : PySem.W.Frag} {mg : Str → Option Value} {base : Heap}
def spTo : Sp := fun vs H Q _ => ∃ (p g R : Addr) (nm cl : List Str) (ck : List (Key × V)) (rs : List RowV), vs = [.ref p, .ref R] ∧ Pen H p g ∧ RawG H p g R nm cl ck rs ∧ RawOk nm cl rs ∧
  ∀ (L pl ta : Addr) (us : List Addr) (tl : List TieV) (rw' : List RowV) (H' : Hp), H L = none → H ta = none ∧ H pl = none → H' L = some (.lst [.ref pl, .ref ta]) → PlacesAt H' pl nm cl → H' ta = some (.lst (us.map V.ref)) → Paired (fun t tv => H' t = some (.tup (TieV.tup tv))) us tl → Paired (RowOf nm) tl rw' → rw'.Perm rs → Pen H' p g → Bt p H H' → Q (.ref L) H'
abbrev nTo : List Str := ["_law_pen_here", "_law_raw_here", "_law_ties_here", "_law_left", "_law_one", "_law_other", "_law_kind", "_law_width", "_law_name"]
theorem scTo : FnScope nTo ["_law_pen_here", "_law_raw_here"] (defScope sTold) := ⟨rfl, rfl, rfl, by decide +kernel, rfl, by decide +kernel, by decide +kernel⟩
theorem ok_told {f : Addr} {fd : FuncData} (F : Fun K "_law_told" "_law_told" sTold f fd) (T : TxtC mg) (Gd : Def P w K mg base "_law_draw" ["_law_pen_here", "_law_bound"] 2 spPn) : FnOk P w K mg base CX0 3 f fd ["_law_pen_here", "_law_raw_here"] spTo := by
  obtain ⟨fd', fdd, Gd, md, kd, bd⟩ := Gd.ex
  refine F.ok scTo (fun vs H Q E h => ?_) (fun cdv A outer s H vs Q E hr h => ?_)
  · obtain ⟨_, _, _, _, _, _, _, rfl, _⟩ := h
    rfl
  obtain ⟨p, g, R, nm, cl, ck, rs, rfl, S, ⟨o, h, t, A0⟩, ok, k⟩ := h
  have hu := hu_of hr
  have lim := sizeLine_eq
  have hu0 : (A.deeper (envOfC "_law_told" (defScope sTold) s.heap.objs.size f cdv)).units < cLine := by have := hr.units; omega
  have hu200 : (cxOf CX0 P w K mg base nTo "_law_told" (defScope sTold) f cdv A outer s H E).A.units + 200 < cLine := by
    have h := hr.un
    show (A.deeper (envOfC "_law_told" (defScope sTold) s.heap.objs.size f cdv)).units + 200 < cLine
    omega
  refine ⟨_, Evl.pss_cut (ps_par (i := 2) (j := 3) (by rfl) scTo.nd rfl rfl (by decide) rfl rfl (pa_cons (pe_lst pa_nil) (pa_cons (pe_callB (cr_sortDT rfl hu200) (by rfl) T.sorted (by decide +kernel) (pa_cons (pe_ix ix_list (pv 1) pe_int (fun _ _ => rfl)) pa_nil)) pa_nil)) (by rfl))
    (Evl.pss_cut (ps_while PassesOwn.never (pt_cmpR (op_neE hu0) (pv 3) (pe_lst pa_nil) (nomark _))
      (Evl.pss_cut (ps_asg (pe_bm PySem.F.plainAttrs_list PySem.F.slot_list_pop PySem.F.type_list_pop mt_popAt (pv 3) (pa_cons (pe_call Gd hr (by rfl) md kd bd .nil pass0 (pa_cons (pv 0) (pa_cons (pe_callB call_len_seq (by rfl) T.len PySem.boot_len (pa_cons (pv 3) pa_nil)) pa_nil))) pa_nil)) (pg_tup rfl (pgs_cons (pg_name (i := 4) scTo.nd rfl (.inl rfl)) (pgs_cons (pg_name (i := 5) scTo.nd rfl (.inl rfl)) (pgs_cons (pg_name (i := 6) scTo.nd rfl (.inl rfl)) pgs_nil)))))
      (Evl.pss_cut (ps_set (i := 7) scTo.nd rfl (Or.inl rfl) (pe_dget hu (pe_ix ix_list (pv 1) pe_int (fun _ _ => rfl)) (pe_tup (pa_cons (pv 4) (pa_cons (pv 5) (pa_cons (pv 6) pa_nil)))) (fun _ _ => rfl)))
      (pss_one (ps_expr (pe_bm PySem.F.plainAttrs_list PySem.F.slot_list_append PySem.F.type_list_append mt_append (pv 2) (pa_cons (pe_ifExp (pt_cmpR op_eq (pe_call Gd hr (by rfl) md kd bd .nil pass0 (pa_cons (pv 0) (pa_cons pe_int pa_nil))) pe_int (nomark _)) (pe_tup (pa_cons (pv 4) (pa_cons (pv 5) (pa_cons (pv 6) (pa_cons (pv 7) pa_nil))))) (pe_tup (pa_cons (pv 5) (pa_cons (pv 4) (pa_cons (pv 6) (pa_cons (pv 7) pa_nil)))))) pa_nil)))))))
    (pss_one (ps_ret (pe_lst (pa_cons (pe_lc (own := [("_law_name", 8)]) (g := gName 8) (tt := tYes) (te := tTup (tCons (tVar 8) (tCons (tDGet (tOp (rIxL K) (tVar 1) (tC (.int 1))) (tVar 8)) tNil))) rfl scTo.nd (pi_list (pe_ix ix_list (pv 1) pe_int (fun _ _ => rfl))) (blkOk_by (N := nTo) (sc := defScope sTold) (by decide +kernel)) (fun _ _ _ _ _ => pg_name (i := 8) scTo.nd rfl (Or.inl rfl)) (fun _ _ _ _ _ => pts_nil)
        (fun _ _ _ _ _ => by exact pe_tup (pa_cons (pv 8) (pa_cons (pe_dget hu (pe_ix ix_list (pv 1) pe_int (fun _ _ => rfl)) (pv 8) (fun _ _ => rfl)) pa_nil)))) (pa_cons (pv 2) pa_nil)))))), ?_⟩
  have nR := A0.nR
  -- the ties, in order
  refine ⟨fun σ H1 => ∃ (ta l : Addr) (zs : List (Addr × List Key)), σ = [some (.ref p), some (.ref R), some (.ref ta), some (.ref l), none, none, none, none, none] ∧ (zs.map (·.2)).Perm ((spanK nm rs).map (·.1)) ∧ (∀ z ∈ zs, H1 z.1 = some (.tup (z.2.map kV))) ∧ H1 ta = some (.lst []) ∧ H1 l = some (.lst (zs.map fun z => V.ref z.1)) ∧ H ta = none ∧ H l = none ∧ ta ≠ l ∧ Same H H1, ?_, ?_⟩
  · refine ⟨by show 0 ≤ sizeLine; omega, fun ta hta => ?_⟩
    have s1 := same_new (o := .lst []) hta
    have hta1 : (upd H ta (.lst [])) ta = some (.lst []) := upd_same
    generalize upd H ta (.lst []) = H1 at *
    refine ⟨_, rfl, R, _, _, V.ref t, rfl, rfl, SqL.of (s1 _ _ A0.hR), atI_nat (j := 2) rfl, t, spanK nm rs, rfl, s1 _ _ A0.ht, by rw [spanK_len]; have := ok.few; omega, fun kv hkv kv' hkv' => ?_, fun kv hkv => ?_, fun zs l pm hz _ hl => ?_⟩
    · obtain ⟨r, _, rfl⟩ := List.mem_map.mp hkv
      obtain ⟨r', _, rfl⟩ := List.mem_map.mp hkv'
      exact like3 _ _ _ _ _ _
    · obtain ⟨r, _, rfl⟩ := List.mem_map.mp hkv
      exact fun e => by cases e
    have s2 := same_new (o := .lst (zs.map fun z => V.ref z.1)) hl
    exact ⟨_, _, rfl, ta, l, zs, rfl, pm, fun z m => s2 _ _ (hz z m), s2 _ _ hta1, upd_same, hta, s1.free hl, ne_of_none hta1 hl, s1.trans s2⟩
  rintro σ H1 ⟨ta, l, zs, rfl, pm, hz, hta, hl, ta0, l0, ntl, s1⟩
  have S1 := S.same s1
  have A1 := A0.same s1
  have nta := S.ne ta0
  have nl := S.ne l0
  have fl := ok.few
  have zl : zs.length = rs.length := by have := pm.length_eq; rwa [List.length_map, List.length_map, spanK_len] at this
  -- the loop
  refine ⟨fun σ H2 => ∃ (v4 v5 v6 v7 : Option V) (us : List Addr) (tl : List TieV) (rw' : List RowV), σ = [some (.ref p), some (.ref R), some (.ref ta), some (.ref l), v4, v5, v6, v7, none] ∧ H2 ta = some (.lst (us.map V.ref)) ∧ Paired (fun t tv => H2 t = some (.tup (TieV.tup tv))) us tl ∧ Paired (RowOf nm) tl rw' ∧ rw'.Perm rs ∧ Pen H2 p g ∧ Bt p H H2, ?_, ?_⟩
  · obtain ⟨rest0, er0, pr0⟩ : ∃ rest : List RowV, zs.map (·.2) = rest.map (spanKey nm) ∧ rest.Perm rs := by
      have e : (spanK nm rs).map (·.1) = rs.map (spanKey nm) := by
        unfold spanK
        rw [List.map_map]
        rfl
      rw [e] at pm
      obtain ⟨rest, h1, h2⟩ := perm_lift (spanKey nm) pm rs rfl
      exact ⟨rest, h2.symm, h1⟩
    refine ⟨fun mm σ H2 => ∃ (v4 v5 v6 v7 : Option V) (us : List Addr) (tl : List TieV) (dn rest : List RowV) (zs : List (Addr × List Key)), mm = rest.length ∧ σ = [some (.ref p), some (.ref R), some (.ref ta), some (.ref l), v4, v5, v6, v7, none] ∧ H2 ta = some (.lst (us.map V.ref)) ∧ us.length ≤ dn.length ∧ Paired (fun t tv => H2 t = some (.tup (TieV.tup tv))) us tl ∧ Paired (RowOf nm) tl dn ∧ (dn ++ rest).Perm rs ∧ zs.map (·.2) = rest.map (spanKey nm) ∧ (∀ z ∈ zs, H2 z.1 = some (.tup (z.2.map kV))) ∧ H2 l = some (.lst (zs.map fun z => V.ref z.1)) ∧ Pen H2 p g ∧ Bt p H H2, ⟨_, none, none, none, none, [], [], [], rest0, zs, rfl, rfl, hta, Nat.le_refl _, .nil, .nil, pr0, er0, hz, hl, S1, Bt.same s1⟩, ?_⟩
    rintro mm1 σ H2 ⟨v4, v5, v6, v7, us, tl, dn, rest, zs, emm, rfl, hta2, ul, pu, pr, prm, er, hz2, hl2, S2, b2⟩
    have zrl : zs.length = rest.length := by have := congrArg List.length er; rwa [List.length_map, List.length_map] at this
    have drl : dn.length + rest.length = rs.length := by rw [← List.length_append]; exact prm.length_eq
    refine ⟨_, rfl, by show 0 ≤ sizeLine; omega, fun e he => ?_⟩
    have se := same_new (o := .lst []) he
    have he1 : (upd H2 e (.lst [])) e = some (.lst []) := upd_same
    generalize upd H2 e (.lst []) = H3 at *
    have hta3 := se _ _ hta2
    have hl3 := se _ _ hl2
    have S3 := S2.same se
    have b3 := b2.trans (Bt.same se)
    refine ⟨l, e, _, rfl, rfl, SqL.of hl3, SqL.of he1, _, rfl, ?_⟩
    by_cases c : rest = []
    · subst c
      rw [List.append_nil] at prm
      have z0 : zs = [] := List.length_eq_zero_iff.mp zrl
      subst z0
      exact ⟨v4, v5, v6, v7, us, tl, dn, rfl, hta3, Paired.mapP pu fun u tv e => se _ _ e, pr, prm, S3, b3⟩
    · have rp : 0 < rest.length := List.length_pos_iff.mpr c
      have zn : (zs.map fun z => V.ref z.1) ≠ [] := fun z => by
        have := congrArg List.length z
        rw [List.length_map] at this
        have : zs.length = 0 := this
        omega
      rw [decide_eq_false zn]
      refine ⟨fun σ H2 => ∃ (v4 v5 v6 v7 : Option V) (us : List Addr) (tl : List TieV) (dn rest : List RowV) (zs : List (Addr × List Key)), rest.length < mm1 ∧ σ = [some (.ref p), some (.ref R), some (.ref ta), some (.ref l), v4, v5, v6, v7, none] ∧ H2 ta = some (.lst (us.map V.ref)) ∧ us.length ≤ dn.length ∧ Paired (fun t tv => H2 t = some (.tup (TieV.tup tv))) us tl ∧ Paired (RowOf nm) tl dn ∧ (dn ++ rest).Perm rs ∧ zs.map (·.2) = rest.map (spanKey nm) ∧ (∀ z ∈ zs, H2 z.1 = some (.tup (z.2.map kV))) ∧ H2 l = some (.lst (zs.map fun z => V.ref z.1)) ∧ Pen H2 p g ∧ Bt p H H2, fun σ' H' ⟨a1, a2, a3, a4, a5, a6, a7, a8, a9, lt, q⟩ => ⟨_, lt, a1, a2, a3, a4, a5, a6, a7, a8, a9, rfl, q⟩, ?_⟩
      -- one of them
      refine ⟨fun σ H4 => ∃ (r : RowV) (zs' : List (Addr × List Key)) (rest' : List RowV), σ = [some (.ref p), some (.ref R), some (.ref ta), some (.ref l), some (.str (nmAt nm r.i)), some (.str (nmAt nm r.j)), some (.str r.kd), v7, none] ∧ rest'.length < rest.length ∧ (dn ++ [r] ++ rest').Perm rs ∧ zs'.map (·.2) = rest'.map (spanKey nm) ∧ (∀ z ∈ zs', H4 z.1 = some (.tup (z.2.map kV))) ∧ H4 l = some (.lst (zs'.map fun z => V.ref z.1)) ∧ H4 ta = some (.lst (us.map V.ref)) ∧ Paired (fun t tv => H4 t = some (.tup (TieV.tup tv))) us tl ∧ Pen H4 p g ∧ Bt p H H4, ?_, ?_⟩
      · refine ⟨_, rfl, .inl ⟨rfl, _, SqL.of hl3⟩, _, rfl, _, rfl, l, _, rfl, .inl (SqL.of hl3), p, g, zs.length, by rw [List.length_map]; rfl, S3, by omega, by omega, fun z H4 hz' S4 b4 => ?_⟩
        have hl4 := b4 _ _ hl3 nl.1
        obtain ⟨y, hy⟩ : ∃ y, zs[z]? = some y := ⟨_, List.getElem?_eq_getElem hz'⟩
        obtain ⟨r, hr⟩ : ∃ r, rest[z]? = some r := ⟨_, List.getElem?_eq_getElem (by omega)⟩
        have ey : y.2 = spanKey nm r := by
          have h1 : (zs.map (·.2))[z]? = some y.2 := by rw [List.getElem?_map, hy]; rfl
          rw [er, List.getElem?_map, hr] at h1
          exact (Option.some.inj h1).symm
        have hy4 : H4 y.1 = some (.tup (y.2.map kV)) := b4 _ _ (se _ _ (hz2 y (List.mem_of_getElem? hy))) (fun e => by
          have h1 := se _ _ (hz2 y (List.mem_of_getElem? hy))
          obtain ⟨_, _, _, SS⟩ := S3
          rw [e, SS.hp] at h1
          cases h1)
        have yl : y.1 ≠ l := ne_of hy4 hl4 (by intro z; cases z)
        refine ⟨l, _, (z : Int), z, V.ref y.1, rfl, rfl, hl4, by omega, by omega, ?_, by rw [List.getElem?_map, hy]; rfl, ?_⟩
        · rw [List.length_map]
          have := seqIndex_of (k := (z : Int)) (n := zs.length) (by omega) (by omega)
          rwa [Int.toNat_natCast] at this
        have hy5 : (upd H4 l (.lst ((zs.map fun z => V.ref z.1).eraseIdx z))) y.1 = some (.tup [.str (nmAt nm r.i), .str (nmAt nm r.j), .str r.kd]) := by rw [upd_ne yl, hy4, ey]; rfl
        refine ⟨y.1, _, rfl, SqT.of hy5, rfl, _, _, rfl, _, _, rfl, _, _, rfl, rfl, ?_⟩
        have keep : ∀ b xs, H3 b = some (.tup xs) → (upd H4 l (.lst ((zs.map fun z => V.ref z.1).eraseIdx z))) b = some (.tup xs) := fun b xs e => by
          have nb : b ≠ p := fun q => by
            obtain ⟨_, _, _, SS⟩ := S3
            rw [q, SS.hp] at e
            cases e
          have e4 := b4 _ _ e nb
          rw [upd_ne (ne_of e4 hl4 (by intro z; cases z))]
          exact e4
        refine ⟨r, zs.eraseIdx z, rest.eraseIdx z, rfl, by rw [List.length_eraseIdx_of_lt (by omega)]; omega, ?_, by rw [map_erase, er, ← map_erase], fun x hx => keep _ _ (se _ _ (hz2 x ((List.eraseIdx_sublist zs z).subset hx))), by rw [upd_same, ← map_erase], by rw [upd_ne ntl]; exact b4 _ _ hta3 nta.1, Paired.mapP pu fun u tv e => keep _ _ (se _ _ e), S4.upd nl.1 nl.2, (b3.trans b4).off l0⟩
        refine List.Perm.trans ?_ prm
        rw [List.append_assoc]
        exact List.Perm.append_left dn (erase_perm hr)
      rintro σ H4 ⟨r, zs', rest', rfl, lt', prm', er', hz4, hl4, hta4, pu4, S4, b4⟩
      have rm : r ∈ rs := prm'.mem_iff.mp (List.mem_append_left _ (List.mem_append_right _ (by simp)))
      have A4 := A0.bt b4
      have rlt := ok.fit.lt r rm
      -- its width
      refine ⟨fun σ H5 => σ = [some (.ref p), some (.ref R), some (.ref ta), some (.ref l), some (.str (nmAt nm r.i)), some (.str (nmAt nm r.j)), some (.str r.kd), some (.int r.w), none] ∧ Same H4 H5, ?_, ?_⟩
      · refine ⟨_, rfl, R, _, _, V.ref t, rfl, rfl, SqL.of A4.hR, atI_nat (j := 2) rfl, _, rfl, _, rfl, _, rfl, by show 3 ≤ sizeLine; omega, fun u hu' => ?_⟩
        have su := same_new (o := .tup [V.str (nmAt nm r.i), V.str (nmAt nm r.j), V.str r.kd]) hu'
        have hu1 : (upd H4 u (.tup [V.str (nmAt nm r.i), V.str (nmAt nm r.j), V.str r.kd])) u = some (.tup ((spanKey nm r).map kV)) := upd_same
        exact ⟨t, _, rfl, by rw [← ok.val rm]; exact DGet.t (su _ _ A4.ht) hu1, rfl, su⟩
      rintro σ H5 ⟨rfl, s5⟩
      refine ⟨_, rfl, .inl ⟨rfl, _, SqL.of (s5 _ _ hta4)⟩, _, rfl, p, g, 2, rfl, S4.same s5, by decide, by decide, fun z H6 hz6 S6 b6 => ?_⟩
      have b06 := (b4.trans (Bt.same s5)).trans b6
      have np : ∀ {b : Addr} {xs : List V}, H4 b = some (.tup xs) → b ≠ p := fun {b xs} e q => by
        obtain ⟨_, _, _, SS⟩ := S4
        rw [q, SS.hp] at e
        cases e
      have fin : ∀ (x y : Str) (u : Addr), H6 u = none → RowOf nm ⟨x, y, r.kd, r.w⟩ r → ∃ (l' : Addr) (xs : List V) (v : V), V.ref ta = V.ref l' ∧ [V.ref u] = [v] ∧ (upd H6 u (.tup [.str x, .str y, .str r.kd, .int r.w])) l' = some (.lst xs) ∧ xs.length < sizeLine ∧
          ∃ (v4 v5 v6 v7' : Option V) (us : List Addr) (tl : List TieV) (dn rest : List RowV) (zs : List (Addr × List Key)), rest.length < mm1 ∧ [some (V.ref p), some (.ref R), some (.ref ta), some (.ref l), some (.str (nmAt nm r.i)), some (.str (nmAt nm r.j)), some (.str r.kd), some (.int r.w), none] = [some (.ref p), some (.ref R), some (.ref ta), some (.ref l), v4, v5, v6, v7', none] ∧ (upd (upd H6 u (.tup [.str x, .str y, .str r.kd, .int r.w])) l' (.lst (xs ++ [v]))) ta = some (.lst (us.map V.ref)) ∧ us.length ≤ dn.length ∧ Paired (fun t tv => (upd (upd H6 u (.tup [.str x, .str y, .str r.kd, .int r.w])) l' (.lst (xs ++ [v]))) t = some (.tup (TieV.tup tv))) us tl ∧ Paired (RowOf nm) tl dn ∧ (dn ++ rest).Perm rs ∧ zs.map (·.2) = rest.map (spanKey nm) ∧ (∀ z ∈ zs, (upd (upd H6 u (.tup [.str x, .str y, .str r.kd, .int r.w])) l' (.lst (xs ++ [v]))) z.1 = some (.tup (z.2.map kV))) ∧ (upd (upd H6 u (.tup [.str x, .str y, .str r.kd, .int r.w])) l' (.lst (xs ++ [v]))) l = some (.lst (zs.map fun z => V.ref z.1)) ∧ Pen (upd (upd H6 u (.tup [.str x, .str y, .str r.kd, .int r.w])) l' (.lst (xs ++ [v]))) p g ∧ Bt p H (upd (upd H6 u (.tup [.str x, .str y, .str r.kd, .int r.w])) l' (.lst (xs ++ [v]))) := fun x y u hu' ro => by
        have su := same_new (o := .tup [V.str x, V.str y, V.str r.kd, V.int r.w]) hu'
        have hta7 := su _ _ (b6 _ _ (s5 _ _ hta4) nta.1)
        have hu7 : (upd H6 u (.tup [V.str x, V.str y, V.str r.kd, V.int r.w])) u = some (.tup [V.str x, V.str y, V.str r.kd, V.int r.w]) := upd_same
        have hl7 := su _ _ (b6 _ _ (s5 _ _ hl4) nl.1)
        have tup7 : ∀ {b : Addr} {xs : List V}, H4 b = some (.tup xs) → (upd H6 u (.tup [V.str x, V.str y, V.str r.kd, V.int r.w])) b = some (.tup xs) := fun e => su _ _ (b6 _ _ (s5 _ _ e) (np e))
        have S7 := S6.same su
        generalize upd H6 u (.tup [V.str x, V.str y, V.str r.kd, V.int r.w]) = H7 at *
        have b7 := b06.trans (Bt.same su)
        have tn : ∀ {b : Addr} {xs : List V}, H7 b = some (.tup xs) → b ≠ ta := fun e => ne_of e hta7 (by intro z; cases z)
        refine ⟨ta, _, V.ref u, rfl, rfl, hta7, Evl.sz_lt (by rw [List.length_map]; omega), _, _, _, _, us ++ [u], tl ++ [⟨x, y, r.kd, r.w⟩], dn ++ [r], rest', zs', by omega, rfl, by rw [upd_same, List.map_append]; rfl, by rw [List.length_append, List.length_append]; show _ + 1 ≤ _ + 1; omega, ?_, paired_snoc pr ro, prm', er', fun z hz => ?_, by rw [upd_ne ntl.symm]; exact hl7, S7.upd nta.1 nta.2, b7.off ta0⟩
        · refine paired_snoc (Paired.mapP pu4 fun u' tv e => ?_) ?_
          · rw [upd_ne (tn (tup7 e))]
            exact tup7 e
          · rw [upd_ne (tn hu7)]
            exact hu7
        · rw [upd_ne (tn (tup7 (hz4 z hz)))]
          exact tup7 (hz4 z hz)
      have gi := nmAt_get (nm := nm) (i := r.i) (by omega)
      have gj := nmAt_get (nm := nm) (i := r.j) rlt.2
      refine ⟨rfl, _, rfl, ?_⟩
      refine ite2 (fun _ => ?_) (fun _ => ?_)
      · exact ⟨_, rfl, _, rfl, _, rfl, _, rfl, by show 4 ≤ sizeLine; omega, fun u hu' => fin _ _ u hu' ⟨r.i, r.j, gi, gj, by omega, by omega, rfl, rfl⟩⟩
      · exact ⟨_, rfl, _, rfl, _, rfl, _, rfl, by show 4 ≤ sizeLine; omega, fun u hu' => fin _ _ u hu' ⟨r.j, r.i, gj, gi, by omega, by omega, rfl, rfl⟩⟩
  rintro σ H2 ⟨v4, v5, v6, v7, us, tl, rw', rfl, hta2, pu, pr, prm, S2, b2⟩
  have A2 := A0.bt b2
  refine ⟨_, rfl, R, _, _, V.ref o, rfl, rfl, SqL.of A2.hR, atI_nat (j := 0) rfl, o, rfl, ⟨_, SqL.of A2.ho⟩, fun D hD => ?_⟩
  have nD := S2.ne hD
  refine lc_it (walk_list (xs := nm.map V.str)) (fun i H3 => ∃ ts : List Addr, H3 D = some (.lst (ts.map V.ref)) ∧ ts.length = i ∧ (∀ (j : Nat) (u : Addr), ts[j]? = some u → ∃ x y, nm[j]? = some x ∧ cl[j]? = some y ∧ H3 u = some (.tup [.str x, .str y])) ∧ Same H2 H3) ⟨[], upd_same, rfl, fun j u h => by simp at h, same_new hD⟩ (fun i H3 _ ⟨_, _, _, _, s⟩ => SqL.of (s _ _ A2.ho)) ?_ ?_
  · rintro i x H4 H3 hi ⟨ts, hD3, tsl, each, s3⟩ ⟨rfl, hx⟩
    rw [List.length_map] at hi
    rw [List.getElem?_map] at hx
    obtain ⟨y, hy, rfl⟩ := Option.map_eq_some_iff.mp hx
    have cn := ok.cn
    obtain ⟨c, hc⟩ : ∃ c, cl[i]? = some c := ⟨_, List.getElem?_eq_getElem (by omega)⟩
    have n7 := ok.n7
    refine ⟨rfl, tyes ?_⟩
    refine ⟨_, rfl, _, rfl, R, _, _, V.ref h, rfl, rfl, SqL.of (s3 _ _ A2.hR), atI_nat (j := 1) rfl, _, rfl, h, _, rfl, by rw [← A2.tell _ _ _ hy hc]; exact DGet.k (k := Sum.inr y) (s3 _ _ A2.hh), by show 2 ≤ sizeLine; omega, fun u hu' => ?_⟩
    have su := same_new (o := .tup [V.str y, V.str c]) hu'
    have nuD : u ≠ D := fun e => by subst e; rw [hD3] at hu'; cases hu'
    refine ⟨_, su _ _ hD3, Evl.sz_lt (by rw [List.length_map]; omega), ts ++ [u], by rw [upd_same, List.map_append]; rfl, by rw [List.length_append, tsl]; rfl, fun j u' hj => ?_, Same.off (s3.trans su) hD⟩
    by_cases q : j < i
    · rw [List.getElem?_append_left (by omega)] at hj
      obtain ⟨x1, y1, g1, g2, g3⟩ := each j u' hj
      exact ⟨x1, y1, g1, g2, by rw [upd_ne (ne_of g3 hD3 (by intro z; cases z))]; exact su _ _ g3⟩
    · have jl := (List.getElem?_eq_some_iff.mp hj).1
      rw [List.length_append, tsl] at jl
      have ji : j = i := by have : j < i + 1 := jl; omega
      subst ji
      rw [List.getElem?_append_right (by omega), tsl, Nat.sub_self] at hj
      have hj : u = u' := Option.some.inj hj
      subst hj
      exact ⟨y, c, hy, hc, by rw [upd_ne nuD]; exact upd_same⟩
  · rintro H3 ⟨ts, hD3, tsl, each, s3⟩
    rw [List.length_map] at tsl
    refine ⟨_, rfl, by show 2 ≤ sizeLine; omega, fun L hL => ?_⟩
    have sL := same_new (o := .lst [V.ref D, V.ref ta]) hL
    have s23 := s3.trans sL
    exact k L D ta us tl rw' _ (b2.free S2 (s3.free hL)) ⟨ta0, b2.free S2 hD⟩ upd_same ⟨ts, sL _ _ hD3, tsl, fun j u hj => by
      obtain ⟨x1, y1, g1, g2, g3⟩ := each j u hj
      exact ⟨x1, y1, g1, g2, sL _ _ g3⟩⟩ (s23 _ _ hta2) (Paired.mapP pu fun u tv e => s23 _ _ e) pr prm (S2.same s23) (b2.trans (Bt.same s23))
end
end Nm
set_option autoImplicit false
set_option maxRecDepth 100000
set_option maxHeartbeats 16000000
/-! _law_value -/
namespace Nm
open PySem PySem.Spec PyProof.Rows L2
/-- rows in order -/
def SortRows (rs rw' : List RowV) : Prop := rs.Perm rw' ∧ rs.Pairwise (fun x y => lexK (rowK y.key) (rowK x.key) = false)
theorem RowsFit.perm {n : Nat} {rs rs' : List RowV} (h : RowsFit n rs) (p : rs'.Perm rs) : RowsFit n rs' :=
  ⟨fun r hr => h.lt r (p.mem_iff.mp hr), fun r hr => h.kw r (p.mem_iff.mp hr), fun r hr => h.w1 r (p.mem_iff.mp hr), (p.map _).nodup_iff.mpr h.nd⟩
/-- a web that was made, apart from what stood there before -/
structure NewW (C : Addr) (H H' : Hp) (we : Addr) (nm cl : List Str) (rs : List RowV) : Prop where
  ex : ∃ q dc r wd : Addr, WebX C H' we q dc r wd nm cl rs ∧ H we = none ∧ H q = none ∧ H dc = none ∧ H r = none ∧ H wd = none
section
variable {C : Addr} {H : Hp} {Q : VK} {E : XK}
theorem web_make {pl tt : Addr} {nm cl : List Str} {tl : List TieV} {rw' : List RowV} (hpl : PlacesAt H pl nm cl) (htt : TiesAt H tt tl) (n1 : 1 ≤ nm.length) (n9 : nm.length ≤ 1000) (nd : nm.Nodup) (nw : ∀ x ∈ nm, isWordB x = true) (cw : ∀ x ∈ cl, isWordB x = true)
    (pr : Paired (RowOf nm) tl rw') (fit : RowsFit nm.length rw') (few : rw'.length ≤ 4800) (k : ∀ (we : Addr) (rs : List RowV) (H' : Hp), NewW C H H' we nm cl rs → SortRows rs rw' → Same H H' → Q (.ref we) H') :
    ∀ (p dx : Addr), H p = none → H dx = none → dx ≠ p → spWebI C [.ref p, .ref pl, .ref tt] (upd (upd H dx (.own p)) p (.ins C dx [])) (fun v H' => v = .non ∧ Q (.ref p) H') E := by
  intro p dx hp0 hdx0 ne
  have s4 : Same H (upd (upd H dx (.own p)) p (.ins C dx [])) := (same_new hdx0).trans (same_new (by rw [upd_ne ne.symm]; exact hp0))
  have hp4 : (upd (upd H dx (.own p)) p (.ins C dx [])) p = some (.ins C dx []) := upd_same
  generalize upd (upd H dx (.own p)) p (.ins C dx []) = H4 at *
  have tll : tl.length = rw'.length := Paired.length pr
  refine ⟨p, dx, pl, tt, nm, cl, tl, rfl, hp4, ?_, ?_, n1, n9, nd, nw, cw, fun t ht => ?_, tspots_nd nd pr fit.lt fit.nd, by omega, fun q dc r wb rs rw2 H5 hq0 hdc0 hr0' hwb0 web pr2 pm srt bt => ⟨rfl, ?_⟩⟩
  · obtain ⟨ts, h1, h2, h3⟩ := hpl
    exact ⟨ts, s4 _ _ h1, h2, fun i t ht => by
      obtain ⟨x, y, a, b, c⟩ := h3 i t ht
      exact ⟨x, y, a, b, s4 _ _ c⟩⟩
  · obtain ⟨kb, us, h1, h2⟩ := htt
    exact ⟨kb, us, s4 _ _ h1, Paired.mapP h2 fun u tv e => s4 _ _ e⟩
  · obtain ⟨r, hr, h⟩ := paired_left pr t ht
    exact rowOf_ok nd (fit.lt r hr).1 (fit.kw r hr) (fit.w1 r hr) h
  · have e : rw2 = rw' := rows_uniq nd pr2 pr
    subst e
    exact k p rs H5 ⟨⟨q, dc, r, wb, web, hp0, s4.free hq0, s4.free hdc0, s4.free hr0', s4.free hwb0⟩⟩ ⟨pm, srt⟩ fun b o e => bt _ _ (s4 _ _ e) (ne_of_none e hp0)
end
section
variable {P : Program} {w : World} {K : PySem.W.Frag} {mg : Str → Option Value} {base : Heap}
def spVa (C : Addr) : Sp := fun vs H Q _ => ∃ (p g R : Addr) (nm cl : List Str) (ck : List (Key × V)) (rs : List RowV), vs = [.ref p, .ref R] ∧ Pen H p g ∧ RawG H p g R nm cl ck rs ∧ RawOk nm cl rs ∧
  ∀ (we : Addr) (rs' : List RowV) (H' : Hp), NewW C H H' we nm cl rs' → SortRows rs' rs → Pen H' p g → Bt p H H' → Q (.ref we) H'
abbrev nVa : List Str := ["_law_pen_here", "_law_raw_here", "_law_places", "_law_ties_here"]
theorem scVa : FnScope nVa ["_law_pen_here", "_law_raw_here"] (defScope sValue) := ⟨rfl, rfl, rfl, by decide +kernel, rfl, by decide +kernel, by decide +kernel⟩
theorem ok_value {f C fi : Addr} {fd fdi : FuncData} (F : Fun K "_law_value" "_law_value" sValue f fd) (T : TxtM K mg C fi) (Gd : Def P w K mg base "_law_draw" ["_law_pen_here", "_law_bound"] 2 spPn) (Gt : Def P w K mg base "_law_told" ["_law_pen_here", "_law_raw_here"] 3 spTo)
    (Gi : FnOk P w K mg base CX0 5 fi fdi ["self", "places", "ties"] (spWebI C)) (bi : Binds K fdi ["self", "places", "ties"] []) : FnOk P w K mg base CX0 7 f fd ["_law_pen_here", "_law_raw_here"] (spVa C) := by
  obtain ⟨fd', fdd, Gd, md, kd, bd⟩ := Gd.ex
  obtain ⟨ft, fdt, Gt, mt, kt, bt⟩ := Gt.ex
  refine F.ok scVa (fun vs H Q E h => ?_) (fun cdv A outer s H vs Q E hr h => ?_)
  · obtain ⟨_, _, _, _, _, _, _, rfl, _⟩ := h
    rfl
  obtain ⟨p, g, R, nm, cl, ck, rs, rfl, S, A0, ok, k⟩ := h
  refine ⟨_, Evl.pss_cut (ps_asg (pe_call Gt (hr.mono (by decide)) (by rfl) mt kt bt .nil pass0 (pa_cons (pv 0) (pa_cons (pv 1) pa_nil))) (pg_lst rfl (pgs_cons (pg_name (i := 2) scVa.nd rfl (.inl rfl)) (pgs_cons (pg_name (i := 3) scVa.nd rfl (.inl rfl)) pgs_nil))))
    (pss_one (ps_ret (pe_make T.mkC Gi hr (by rfl) T.mgC bi .nil pass0 (pa_cons (pv 2) (pa_cons (pe_ifExp (pt_cmpR op_eq (pe_call Gd (hr.mono (by decide)) (by rfl) md kd bd .nil pass0 (pa_cons (pv 0) (pa_cons pe_int pa_nil))) pe_int (nomark _)) (pe_callTy call_tuple_of (by rfl) T.tuple (by decide +kernel) (pa_cons (pv 3) pa_nil)) (pv 3)) pa_nil))))), ?_⟩
  have lim := sizeLine_eq
  have few := ok.few
  have n7 := ok.n7
  refine ⟨fun σ H1 => ∃ (pl ta : Addr) (us : List Addr) (tl : List TieV) (rw' : List RowV), σ = [some (.ref p), some (.ref R), some (.ref pl), some (.ref ta)] ∧ PlacesAt H1 pl nm cl ∧ H ta = none ∧ H1 ta = some (.lst (us.map V.ref)) ∧ Paired (fun t tv => H1 t = some (.tup (TieV.tup tv))) us tl ∧ Paired (RowOf nm) tl rw' ∧ rw'.Perm rs ∧ Pen H1 p g ∧ Bt p H H1, ?_, ?_⟩
  · refine ⟨_, rfl, _, rfl, p, g, R, nm, cl, ck, rs, rfl, S, A0, ok, fun L pl ta us tl rw' H1 _ ⟨ta0, _⟩ hL hpl hta pu pr pm S1 b1 => ?_⟩
    exact ⟨L, _, rfl, SqL.of hL, rfl, _, _, rfl, _, _, rfl, rfl, pl, ta, us, tl, rw', rfl, hpl, ta0, hta, pu, pr, pm, S1, b1⟩
  rintro σ H1 ⟨pl, ta, us, tl, rw', rfl, hpl, ta0, hta, pu, pr, pm, S1, b1⟩
  have nta := S.ne ta0
  have fit' := ok.fit.perm pm
  have len' : rw'.length ≤ 4800 := by rw [pm.length_eq]; omega
  have np : ∀ {H2 : Hp} {b : Addr} {xs : List V}, Pen H2 p g → H2 b = some (.tup xs) → b ≠ p := fun {H2 b xs} Z e q => by
    obtain ⟨_, _, _, SS⟩ := Z
    rw [q, SS.hp] at e
    cases e
  refine ⟨_, rfl, _, rfl, p, g, 2, rfl, S1, by decide, by decide, fun z H2 hz S2 b2 => ⟨rfl, _, rfl, ?_⟩⟩
  have hta2 := b2 _ _ hta nta.1
  have pu2 : Paired (fun t tv => H2 t = some (.tup (TieV.tup tv))) us tl := Paired.mapP pu fun u tv e => b2 _ _ e (np S1 e)
  have hpl2 : PlacesAt H2 pl nm cl := by
    obtain ⟨ts, h1, h2, h3⟩ := hpl
    have npl : pl ≠ p := fun e => by
      obtain ⟨_, _, _, SS⟩ := S1
      rw [e, SS.hp] at h1
      have h1 := HO.lst.inj (Option.some.inj h1)
      match ts, h1 with
      | a :: b :: r, h1 => cases (List.cons.inj (List.cons.inj h1).2).1
    exact ⟨ts, b2 _ _ h1 npl, h2, fun i t ht => by
      obtain ⟨x, y, a, b, c⟩ := h3 i t ht
      exact ⟨x, y, a, b, b2 _ _ c (np S1 c)⟩⟩
  have fin : ∀ (H3 : Hp) (tt : Addr), Same H2 H3 → TiesAt H3 tt tl → ∀ (q dx : Addr), H3 q = none → H3 dx = none → dx ≠ q → spWebI C [.ref q, .ref pl, .ref tt] (upd (upd H3 dx (.own q)) q (.ins C dx [])) (fun v H' => v = .non ∧ Q (.ref q) H') E := fun H3 tt s3 ht =>
    web_make (by
      obtain ⟨ts, h1, h2, h3⟩ := hpl2
      exact ⟨ts, s3 _ _ h1, h2, fun i t ht => by
        obtain ⟨x, y, a, b, c⟩ := h3 i t ht
        exact ⟨x, y, a, b, s3 _ _ c⟩⟩) ht ok.n1 (by omega) ok.nd ok.nw ok.cw pr fit' len' fun we rs' H4 N so s4 => by
      have s24 := s3.trans s4
      obtain ⟨q, dc, r, wd, X, n1, n2, n3, n4, n5⟩ := N.ex
      have fr : ∀ {x : Addr}, H3 x = none → H x = none := fun h => (b1.trans b2).free S2 (s3.free h)
      exact k we rs' H4 ⟨⟨q, dc, r, wd, X, fr n1, fr n2, fr n3, fr n4, fr n5⟩⟩ ⟨so.1.trans pm, so.2⟩ (S2.same s24) ((b1.trans b2).trans (Bt.same s24))
  refine ite2 (fun _ => ?_) (fun _ => ?_)
  · refine ⟨_, rfl, ta, _, rfl, .inl ⟨SqL.of hta2, fun tt htt => ?_⟩⟩
    have s3 := same_new (o := .tup (us.map V.ref)) htt
    exact fin _ tt s3 ⟨false, us, upd_same, Paired.mapP pu2 fun u tv e => s3 _ _ e⟩
  · exact ⟨_, rfl, fin H2 ta (Same.refl H2) ⟨true, us, hta2, pu2⟩⟩
end
end Nm
set_option autoImplicit false
set_option maxRecDepth 100000
set_option maxHeartbeats 4000000
/-! the signs of a word are signs -/
namespace Nm
open PySem L2
theorem digs_low {c : Nat} (h : ("0123456789" : Str).cps.contains c = true) : c < 1114112 := by
  have m : c ∈ ("0123456789" : Str).cps := by simpa using h
  have all : ∀ c ∈ ("0123456789" : Str).cps.toList, c < 1114112 := by decide +kernel
  exact all c (Array.mem_toList_iff.mpr m)
theorem lets_low {c : Nat} (h : c ∈ ("abcdefghijklmnopqrstuvwxyz" : Str).cps.toList) : c < 1114112 := by
  have all : ∀ c ∈ ("abcdefghijklmnopqrstuvwxyz" : Str).cps.toList, c < 1114112 := by decide +kernel
  exact all c h
theorem tail_goes {goes : Nat → Bool} {l : List Nat} : ∀ c ∈ l.drop (l.length - (l.reverse.takeWhile goes).length), goes c = true := by
  intro c hc
  have e : l.drop (l.length - (l.reverse.takeWhile goes).length) = (l.reverse.takeWhile goes).reverse := by
    have h1 : l.reverse.take (l.reverse.takeWhile goes).length = l.reverse.takeWhile goes := by
      conv => lhs; rw [← List.takeWhile_append_dropWhile (p := goes) (l := l.reverse)]
      rw [List.take_append_of_le_length (by
        have : (l.reverse.takeWhile goes ++ l.reverse.dropWhile goes).takeWhile goes = l.reverse.takeWhile goes := by rw [List.takeWhile_append_dropWhile]
        rw [this]
        exact Nat.le_refl _)]
      have : (l.reverse.takeWhile goes ++ l.reverse.dropWhile goes).takeWhile goes = l.reverse.takeWhile goes := by rw [List.takeWhile_append_dropWhile]
      rw [this, List.take_length]
    rw [← h1, List.reverse_take, List.reverse_reverse]
    congr 1
    rw [h1, List.length_reverse]
  rw [e, List.mem_reverse] at hc
  have := List.all_takeWhile (p := goes) (l := l.reverse)
  rw [List.all_eq_true] at this
  exact this c hc
theorem word_low {x : Str} (h : isWordB x = true) : ∀ c ∈ x.cps.toList, c < 1114112 := by
  unfold isWordB at h
  simp only [Bool.and_eq_true, decide_eq_true_eq, List.all_eq_true] at h
  have lt := h.2
  intro c hc
  have e : letB x = if PySem.stripSame ("0123456789" : Str).cps.contains false true x then x else PySem.stripped ("0123456789" : Str).cps.contains false true x := rfl
  by_cases s : PySem.stripSame ("0123456789" : Str).cps.contains false true x = true
  · rw [if_pos s] at e
    rw [e] at lt
    exact lets_low (lt c hc)
  · rw [if_neg s] at e
    have e2 : (letB x).cps.toList = x.cps.toList.take (PySem.stripHi ("0123456789" : Str).cps.contains true x 0) := by
      rw [e]
      show (x.cps.extract 0 _).toList = _
      rw [Array.toList_extract]
      simp [PySem.stripLo]
    rw [← List.take_append_drop (PySem.stripHi ("0123456789" : Str).cps.contains true x 0) x.cps.toList] at hc
    rcases List.mem_append.mp hc with m | m
    · rw [← e2] at m
      exact lets_low (lt c m)
    · have hx : PySem.stripHi ("0123456789" : Str).cps.contains true x 0 = x.cps.toList.length - (x.cps.toList.reverse.takeWhile ("0123456789" : Str).cps.contains).length := by
        unfold PySem.stripHi
        rw [if_pos rfl, List.drop_zero]
        rfl
      rw [hx] at m
      exact digs_low (tail_goes c m)
theorem word_ok {x : Str} (h : isWordB x = true) : PyData.strOk x = true := by
  unfold PyData.strOk
  rw [← Array.all_toList, List.all_eq_true]
  intro c hc
  exact decide_eq_true (word_low h c hc)
end Nm
set_option autoImplicit false
set_option maxRecDepth 100000
set_option maxHeartbeats 16000000
/-! _law_ties, _law_is -/
namespace Nm
open PySem PySem.Spec PyProof.Rows L2
/-! ### texts in order -/
def leS (x y : Str) : Prop := ¬ (y.cps.toList < x.cps.toList)
theorem leS_tr {x y z : Str} (h1 : leS x y) (h2 : leS y z) : leS x z := fun h => by
  have a : keyLt (Sum.inr y) (Sum.inr x) = false := decide_eq_false h1
  have b : keyLt (Sum.inr z) (Sum.inr y) = false := decide_eq_false h2
  have c := keyLt_tr a b
  have d : keyLt (Sum.inr z) (Sum.inr x) = true := decide_eq_true h
  rw [c] at d
  cases d
theorem rising_pw : ∀ (l : List Str) (p : Str), risingS p l = true → (p :: l).Pairwise leS
  | [], p, _ => List.pairwise_singleton _ _
  | x :: r, p, h => by
    have h : (!ltCps x.cps.toList p.cps.toList && risingS x r) = true := h
    rw [Bool.and_eq_true, ltCps_eq] at h
    have h1 : leS p x := of_decide_eq_false (by simpa using h.1)
    have ih := rising_pw r x h.2
    refine List.pairwise_cons.mpr ⟨fun y hy => ?_, ih⟩
    rcases List.mem_cons.mp hy with e | hy
    · rw [e]; exact h1
    · exact leS_tr h1 ((List.pairwise_cons.mp ih).1 y hy)
theorem sorted_pw {l : List Str} (h : sortedS l = true) : l.Pairwise leS := by
  cases l with
  | nil => exact List.Pairwise.nil
  | cons x r => exact rising_pw r x h
/-! ### rows in order -/
def rowLe (x y : RowV) : Prop := lexK (rowK y.key) (rowK x.key) = false
theorem rowLe_i {x y : RowV} (h : x.i < y.i) : rowLe x y := by
  show lexK (Sum.inl (y.i : Int) :: _) (Sum.inl (x.i : Int) :: _) = false
  rw [lexK_ne (fun e => by have := Sum.inl.inj e; omega)]
  exact decide_eq_false (by omega)
theorem rowLe_j {x y : RowV} (hi : x.i = y.i) (h : x.j < y.j) : rowLe x y := by
  show lexK (Sum.inl (y.i : Int) :: Sum.inl (y.j : Int) :: _) (Sum.inl (x.i : Int) :: Sum.inl (x.j : Int) :: _) = false
  rw [lexK_eq (by rw [hi]), lexK_ne (fun e => by have := Sum.inl.inj e; omega)]
  exact decide_eq_false (by omega)
theorem rowLe_k {x y : RowV} (hi : x.i = y.i) (hj : x.j = y.j) (ne : x.kd ≠ y.kd) (h : leS x.kd y.kd) : rowLe x y := by
  show lexK (Sum.inl (y.i : Int) :: Sum.inl (y.j : Int) :: Sum.inr y.kd :: _) (Sum.inl (x.i : Int) :: Sum.inl (x.j : Int) :: Sum.inr x.kd :: _) = false
  rw [lexK_eq (by rw [hi]), lexK_eq (by rw [hj]), lexK_ne (fun e => ne (Sum.inr.inj e).symm)]
  exact decide_eq_false h
theorem rowKey_inj {x y : RowV} (h : rowK x.key = rowK y.key) : x = y := by
  have h : [Sum.inl (x.i : Int), Sum.inl (x.j : Int), Sum.inr x.kd, Sum.inl x.w] = [Sum.inl (y.i : Int), Sum.inl (y.j : Int), Sum.inr y.kd, Sum.inl y.w] := h
  obtain ⟨e1, h⟩ := List.cons.inj h
  obtain ⟨e2, h⟩ := List.cons.inj h
  obtain ⟨e3, h⟩ := List.cons.inj h
  obtain ⟨e4, _⟩ := List.cons.inj h
  have e1 := Sum.inl.inj e1
  have e2 := Sum.inl.inj e2
  cases x
  cases y
  simp only at e1 e2 e3 e4
  have e3 := Sum.inr.inj e3
  have e4 := Sum.inl.inj e4
  subst e3 e4
  congr 1 <;> omega
theorem SortRows.one {rs rs' l : List RowV} (h : SortRows rs l) (h' : SortRows rs' l) : rs = rs' := by
  have e : rs.map (fun r => rowK r.key) = rs'.map (fun r => rowK r.key) := sorted_one (List.pairwise_map.mpr h.2) (List.pairwise_map.mpr h'.2) ((h.1.trans h'.1.symm).map _)
  have gen : ∀ (a b : List RowV), a.map (fun r => rowK r.key) = b.map (fun r => rowK r.key) → a = b := by
    intro a
    induction a with
    | nil =>
      intro b h
      cases b with
      | nil => rfl
      | cons y b => cases h
    | cons x a ih =>
      intro b h
      cases b with
      | nil => cases h
      | cons y b =>
        obtain ⟨h1, h2⟩ := List.cons.inj h
        rw [rowKey_inj h1, ih b h2]
  exact gen _ _ e
theorem SortRows.self {rs l : List RowV} (h : SortRows rs l) : SortRows rs rs := ⟨List.Perm.refl _, h.2⟩
theorem filter_split {α : Type} (p q : α → Bool) (dis : ∀ x, p x = true → q x = true → False) : ∀ l : List α, (l.filter fun x => p x || q x).Perm (l.filter p ++ l.filter q)
  | [] => List.Perm.refl _
  | x :: l => by
    have ih := filter_split p q dis l
    cases hp : p x with
    | true =>
      have hq : q x = false := by
        cases h : q x with
        | true => exact (dis x hp h).elim
        | false => rfl
      rw [List.filter_cons_of_pos (by simp [hp]), List.filter_cons_of_pos hp, List.filter_cons_of_neg (by simp [hq]), List.cons_append]
      exact ih.cons x
    | false =>
      cases hq : q x with
      | true =>
        rw [List.filter_cons_of_pos (by simp [hq]), List.filter_cons_of_neg (by simp [hp]), List.filter_cons_of_pos hq]
        exact (ih.cons x).trans List.perm_middle.symm
      | false =>
        rw [List.filter_cons_of_neg (by simp [hp, hq]), List.filter_cons_of_neg (by simp [hp]), List.filter_cons_of_neg (by simp [hq])]
        exact ih
/-- ahead of a pair of places -/
def aheadB (i j : Nat) (r : RowV) : Bool := decide (r.i < i ∨ r.i = i ∧ r.j < j)
def atB (i j : Nat) (r : RowV) : Bool := decide (r.i = i ∧ r.j = j)
structure TiesTo (rs out : List RowV) (i j : Nat) : Prop where
  pm : out.Perm (rs.filter (aheadB i j))
  pw : out.Pairwise rowLe
theorem TiesTo.nil (rs : List RowV) : TiesTo rs [] 0 0 := by
  refine ⟨?_, List.Pairwise.nil⟩
  have : rs.filter (aheadB 0 0) = [] := by
    rw [List.filter_eq_nil_iff]
    intro r _
    unfold aheadB
    simp
  rw [this]
theorem TiesTo.conv {rs out : List RowV} {i j i' j' : Nat} (h : TiesTo rs out i j) (e : ∀ r ∈ rs, aheadB i j r = aheadB i' j' r) : TiesTo rs out i' j' :=
  ⟨by rw [← List.filter_congr e]; exact h.pm, h.pw⟩
theorem TiesTo.put {rs out blk : List RowV} {i j : Nat} (h : TiesTo rs out i j) (bp : blk.Perm (rs.filter (atB i j))) (bw : blk.Pairwise rowLe) : TiesTo rs (out ++ blk) i (j + 1) := by
  refine ⟨?_, ?_⟩
  · have e : rs.filter (aheadB i (j + 1)) = rs.filter fun r => aheadB i j r || atB i j r := by
      refine List.filter_congr fun r _ => ?_
      unfold aheadB atB
      rw [← Bool.decide_or]
      exact decide_eq_decide.mpr ⟨fun h => by omega, fun h => by omega⟩
    rw [e]
    refine (h.pm.append bp).trans (filter_split _ _ (fun r a b => ?_) rs).symm
    have a := of_decide_eq_true a
    have b := of_decide_eq_true b
    omega
  · refine List.pairwise_append.mpr ⟨h.pw, bw, fun x hx y hy => ?_⟩
    have a := of_decide_eq_true (List.mem_filter.mp (h.pm.mem_iff.mp hx)).2
    have b := of_decide_eq_true (List.mem_filter.mp (bp.mem_iff.mp hy)).2
    rcases a with a | ⟨a, c⟩
    · exact rowLe_i (by omega)
    · exact rowLe_j (by omega) (by omega)
theorem TiesTo.done {rs out : List RowV} {n : Nat} (h : TiesTo rs out n 0) (lt : ∀ r ∈ rs, r.i < r.j ∧ r.j < n) : SortRows out rs := by
  have e : rs.filter (aheadB n 0) = rs := by
    rw [List.filter_eq_self]
    intro r hr
    have := lt r hr
    exact decide_eq_true (.inl (by omega))
  exact ⟨by rw [← e]; exact h.pm, h.pw⟩
/-- the block of a pair of places, by its kinds in order -/
theorem blk_rows {rs : List RowV} {i j n : Nat} (fit : RowsFit n rs) {ks : List Str} (pm : ks.Perm ((rs.filter (atB i j)).map (·.kd))) (so : ks.Pairwise leS) :
    ∃ blk : List RowV, blk.map (·.kd) = ks ∧ blk.Perm (rs.filter (atB i j)) ∧ blk.Pairwise rowLe ∧ ∀ r ∈ blk, r ∈ rs ∧ r.i = i ∧ r.j = j := by
  obtain ⟨blk, h1, h2⟩ := perm_lift (fun r : RowV => r.kd) pm (rs.filter (atB i j)) rfl
  have mem : ∀ r ∈ blk, r ∈ rs ∧ r.i = i ∧ r.j = j := fun r hr => by
    have := List.mem_filter.mp (h1.mem_iff.mp hr)
    exact ⟨this.1, of_decide_eq_true this.2⟩
  refine ⟨blk, h2, h1, ?_, mem⟩
  have nd : (blk.map fun r => (r.i, r.j, r.kd)).Nodup := by
    refine ((h1.map fun r => (r.i, r.j, r.kd)).nodup_iff).mpr ?_
    exact (List.filter_sublist.map _).nodup fit.nd
  rw [← h2] at so
  clear h1 h2 pm
  induction blk with
  | nil => exact List.Pairwise.nil
  | cons x l ih =>
    rw [List.map_cons, List.nodup_cons] at nd
    rw [List.map_cons] at so
    have so := List.pairwise_cons.mp so
    refine List.pairwise_cons.mpr ⟨fun y hy => ?_, ih so.2 (fun r hr => mem r (List.mem_cons_of_mem _ hr)) nd.2⟩
    have mx := mem x List.mem_cons_self
    have my := mem y (List.mem_cons_of_mem _ hy)
    refine rowLe_k (by omega) (by omega) (fun e => nd.1 (List.mem_map.mpr ⟨y, hy, ?_⟩)) (so.1 _ (List.mem_map.mpr ⟨y, hy, rfl⟩))
    rw [mx.2.1, mx.2.2, my.2.1, my.2.2, e]
/-! ### pairs of texts -/
def dStrs (l : List Str) : PyData := .tuple (l.map PyData.str)
theorem dp_strs {K : PySem.W.Frag} {H : Hp} : ∀ l : List Str, DpAll K H (l.map V.str) (l.map PyData.str)
  | [] => .nil
  | x :: l => .cons (.str x) (dp_strs l)
theorem lay_strs : ∀ l : List Str, (∀ x ∈ l, PyData.strOk x = true) → PyData.canLayAll0 (l.map PyData.str) = true ∧ PyData.depthAll (l.map PyData.str) = 0
  | [], _ => ⟨rfl, by simp [PyData.depthAll]⟩
  | x :: l, h => by
    obtain ⟨a, b⟩ := lay_strs l fun y hy => h y (List.mem_cons_of_mem _ hy)
    have c : PyData.canLay0 (.str x) = true := by
      simp only [PyData.canLay0]
      exact h x List.mem_cons_self
    rw [List.map_cons]
    refine ⟨?_, ?_⟩
    · simp only [PyData.canLayAll0, c, a, Bool.and_self]
    · simp only [PyData.depthAll, PyData.depth, b]
      omega
theorem shaped_strs {l : List Str} (h : ∀ x ∈ l, isWordB x = true) : SeqAt.shaped (dStrs l) = true := by
  obtain ⟨a, b⟩ := lay_strs l fun x hx => word_ok (h x hx)
  unfold dStrs SeqAt.shaped
  rw [Bool.and_eq_true, decide_eq_true_eq]
  refine ⟨?_, ?_⟩
  · simp only [PyData.canLay0]
    exact a
  · simp only [PyData.depth]
    omega
theorem eqv_strs : ∀ a b : List Str, PyData.eqvAll (a.map PyData.str) (b.map PyData.str) = decide (a = b)
  | [], [] => rfl
  | [], _ :: _ => rfl
  | _ :: _, [] => rfl
  | x :: a, y :: b => by
    show (PyData.eqv (.str x) (.str y) && PyData.eqvAll (a.map PyData.str) (b.map PyData.str)) = _
    rw [eqv_strs a b]
    have e : PyData.eqv (.str x) (.str y) = decide (x = y) := by
      simp only [PyData.eqv]
      by_cases c : x = y
      · subst c; simp
      · simp [c]
    rw [e, ← Bool.decide_and]
    exact decide_eq_decide.mpr ⟨fun h => by rw [h.1, h.2], fun h => by
      obtain ⟨h1, h2⟩ := List.cons.inj h
      exact ⟨h1, h2⟩⟩
end Nm
set_option autoImplicit false
set_option maxRecDepth 100000
set_option maxHeartbeats 16000000
/-! _law_ties -/
namespace Nm
open PySem PySem.Spec PyProof.Rows L2
theorem ne_of_none' {H : Hp} {a b : Addr} {o : HO} (h : H a = some o) (n : H b = none) : b ≠ a := fun e => by rw [e, h] at n; cases n
theorem paired_app {α β : Type} {F : α → β → Prop} : ∀ {l l' : List α} {m m' : List β}, Paired F l m → Paired F l' m' → Paired F (l ++ l') (m ++ m')
  | _, _, _, _, .nil, h => h
  | _, _, _, _, .cons r t, h => .cons r (paired_app t h)
section
variable {P : Program} {w : World} {K : PySem.W.Frag} {mg : Str → Option Value} {base : Heap}
def spLt : Sp := fun vs H Q _ => ∃ (p g R : Addr) (nm cl : List Str) (rs : List RowV), vs = [.ref R] ∧ Raw H p g R nm cl rs ∧ RawOk nm cl rs ∧ rs.length < 64 ∧
  ∀ (a : Addr) (out : List RowV) (H' : Hp), H a = none → OrdAt H' a nm out → SortRows out rs → Same H H' → Q (.ref a) H'
abbrev nLt : List Str := ["_law_raw_here", "_law_order", "_law_found", "_law_i", "_law_j", "_law_kinds", "_law_one", "_law_other", "_law_kind"]
theorem scLt : FnScope nLt ["_law_raw_here"] (defScope sTies) := ⟨rfl, rfl, rfl, by decide +kernel, rfl, by decide +kernel, by decide +kernel⟩
abbrev eLt (K : PySem.W.Frag) : TE := tTup (tCons (tOp (rIxL K) (tVar 1) (tVar 3)) (tCons (tOp (rIxL K) (tVar 1) (tVar 4)) (tCons (tVar 8) (tCons (tDGet (tOp (rIxL K) (tVar 0) (tC (.int 2))) (tTup (tCons (tOp (rIxL K) (tVar 1) (tVar 3)) (tCons (tOp (rIxL K) (tVar 1) (tVar 4)) (tCons (tVar 8) tNil))))) tNil))))
theorem ok_lties {f : Addr} {fd : FuncData} (F : Fun K "_law_ties" "_law_ties" sTies f fd) (T : TxtC mg) : FnOk P w K mg base CX0 1 f fd ["_law_raw_here"] spLt := by
  refine F.ok scLt (fun vs H Q E h => ?_) (fun cdv A outer s H vs Q E hr h => ?_)
  · obtain ⟨_, _, _, _, _, _, rfl, _⟩ := h
    rfl
  obtain ⟨p, g, R, nm, cl, rs, rfl, ⟨o, h, t, A0⟩, ok, r64, k⟩ := h
  have hu := hu_of hr
  have lim := sizeLine_eq
  have n7 := ok.n7
  refine ⟨_, Evl.pss_cut (ps_asg (pe_tup (pa_cons (pe_ix ix_list (pv 0) pe_int (fun _ _ => rfl)) (pa_cons (pe_lst pa_nil) pa_nil))) (pg_tup rfl (pgs_cons (pg_name (i := 1) scLt.nd rfl (.inr rfl)) (pgs_cons (pg_name (i := 2) scLt.nd rfl (.inl rfl)) pgs_nil))))
    (Evl.pss_cut (ps_for PassesOwn.never rfl (pi_range1 (by rfl) T.range (pa_cons (pe_callB call_len_seq (by rfl) T.len PySem.boot_len (pa_cons (pv 1) pa_nil)) pa_nil)) (pg_name (i := 3) scLt.nd rfl (Or.inr rfl))
      (pss_one (ps_for PassesOwn.never rfl (pi_range2 (by rfl) T.range (pa_cons (pe_op op_add (pv 3) pe_int) (pa_cons (pe_callB call_len_seq (by rfl) T.len PySem.boot_len (pa_cons (pv 1) pa_nil)) pa_nil))) (pg_name (i := 4) scLt.nd rfl (Or.inr rfl))
        (Evl.pss_cut (ps_set (i := 5) scLt.nd rfl (Or.inl rfl) (pe_callB cr_sortedS (by rfl) T.sorted (by decide +kernel) (pa_cons (pe_lock (pe_lc (own := [("_law_one", 6), ("_law_other", 7), ("_law_kind", 8)]) (g := gTup K 3 (gCons (gName 6) (gCons (gName 7) (gCons (gName 8) gNil)))) (tt := tTest (tOp (rEqD K) (tTup (tCons (tVar 6) (tCons (tVar 7) tNil))) (tTup (tCons (tOp (rIxL K) (tVar 1) (tVar 3)) (tCons (tOp (rIxL K) (tVar 1) (tVar 4)) tNil))))) (te := tVar 8) rfl scLt.nd (pi_keys (pe_ix ix_list (pv 0) pe_int (fun _ _ => rfl))) (blkOk_by (N := nLt) (sc := defScope sTies) (by decide +kernel))
            (fun _ _ _ _ _ => pg_tup rfl (pgs_cons (pg_name (i := 6) scLt.nd rfl (Or.inl rfl)) (pgs_cons (pg_name (i := 7) scLt.nd rfl (Or.inl rfl)) (pgs_cons (pg_name (i := 8) scLt.nd rfl (Or.inl rfl)) pgs_nil))))
            (fun _ _ _ _ _ => by exact pts_one (pt_cmpR (op_eqD hr.units) (pe_tup (pa_cons (pv 6) (pa_cons (pv 7) pa_nil))) (pe_tup (pa_cons (pe_ix ix_list (pv 1) (pv 3) (fun _ _ => rfl)) (pa_cons (pe_ix ix_list (pv 1) (pv 4) (fun _ _ => rfl)) pa_nil))) (nomark _)))
            (fun _ _ _ _ _ => pv 8))) pa_nil)))
        (pss_one (ps_set (i := 2) scLt.nd rfl (Or.inl rfl) (pe_op op_cat (pv 2) (pe_lc (own := [("_law_kind", 8)]) (g := gName 8) (tt := tYes) (te := eLt K) rfl scLt.nd (pi_list (pv 5)) (blkOk_by (N := nLt) (sc := defScope sTies) (by decide +kernel)) (fun _ _ _ _ _ => pg_name (i := 8) scLt.nd rfl (Or.inl rfl)) (fun _ _ _ _ _ => pts_nil)
            (fun _ _ _ _ _ => by exact pe_tup (pa_cons (pe_ix ix_list (pv 1) (pv 3) (fun _ _ => rfl)) (pa_cons (pe_ix ix_list (pv 1) (pv 4) (fun _ _ => rfl)) (pa_cons (pv 8) (pa_cons (pe_dget hu (pe_ix ix_list (pv 0) pe_int (fun _ _ => rfl)) (pe_tup (pa_cons (pe_ix ix_list (pv 1) (pv 3) (fun _ _ => rfl)) (pa_cons (pe_ix ix_list (pv 1) (pv 4) (fun _ _ => rfl)) (pa_cons (pv 8) pa_nil)))) (fun _ _ => rfl)) pa_nil)))))))))))))
    (pss_one (ps_ret (pv 2)))), ?_⟩
  refine ⟨fun σ H1 => ∃ fo, σ = [some (.ref R), some (.ref o), some (.ref fo), none, none, none, none, none, none] ∧ H fo = none ∧ H1 fo = some (.lst []) ∧ Same H H1, ?_, ?_⟩
  · refine ⟨_, rfl, R, _, _, V.ref o, rfl, rfl, SqL.of A0.hR, atI_nat (j := 0) rfl, by show 0 ≤ sizeLine; omega, fun fo hfo => ⟨by show 2 ≤ sizeLine; omega, fun u hu' => ?_⟩⟩
    have s1 := same_new (o := .lst []) hfo
    have s2 := same_new (o := .tup [V.ref o, V.ref fo]) hu'
    exact ⟨u, _, rfl, SqT.of upd_same, rfl, _, _, rfl, _, _, rfl, rfl, fo, rfl, hfo, s2 _ _ upd_same, s1.trans s2⟩
  rintro σ H1 ⟨fo, rfl, fo0, hfo, s1⟩
  have A1 := A0.same s1
  refine ⟨fun σ H2 => ∃ (a : Addr) (v3 v4 v5 : Option V) (out : List RowV), σ = [some (.ref R), some (.ref o), some (.ref a), v3, v4, v5, none, none, none] ∧ H a = none ∧ OrdAt H2 a nm out ∧ TiesTo rs out nm.length 0 ∧ Same H H2, ?_, ?_⟩
  · refine ⟨_, rfl, o, _, rfl, .inl (SqL.of A1.ho), _, rfl, by rw [List.length_map]; omega, by rw [List.length_map]; omega, ?_⟩
    rw [List.length_map]
    refine for_range (lo := 0) (n := ((nm.length : Nat) : Int).toNat) (fun i σ H2 => ∃ (a : Addr) (v3 v4 v5 : Option V) (out : List RowV), σ = [some (.ref R), some (.ref o), some (.ref a), v3, v4, v5, none, none, none] ∧ H a = none ∧ OrdAt H2 a nm out ∧ TiesTo rs out i 0 ∧ Same H H2)
      ⟨fo, none, none, none, [], rfl, fo0, ⟨[], hfo, .nil⟩, TiesTo.nil rs, s1⟩ ?_ ?_
    · rintro i σ H2 hi ⟨a, v3, v4, v5, out, rfl, a0, oa, tt, s2⟩
      rw [Int.toNat_natCast] at hi
      rw [show (0 : Int) + (i : Int) = (i : Int) from Int.zero_add _]
      have A2 := A0.same s2
      refine ⟨_, rfl, _, _, rfl, rfl, _, rfl, o, _, rfl, .inl (SqL.of A2.ho), _, _, rfl, ⟨by omega, by omega, by rw [List.length_map]; omega, by rw [List.length_map]; omega⟩, ?_⟩
      refine for_range (lo := (i : Int) + 1) (n := (((nm.map V.str).length : Int) - ((i : Int) + 1)).toNat) (fun q σ H3 => ∃ (a : Addr) (v4 v5 : Option V) (out : List RowV), σ = [some (.ref R), some (.ref o), some (.ref a), some (.int (i : Int)), v4, v5, none, none, none] ∧ H a = none ∧ OrdAt H3 a nm out ∧ TiesTo rs out i (i + 1 + q) ∧ Same H H3)
        ⟨a, v4, v5, out, rfl, a0, oa, tt.conv (fun r hr => decide_eq_decide.mpr (by have := ok.fit.lt r hr; omega)), s2⟩ ?_ ?_
      · rintro q σ H3 hq ⟨a, v4, v5, out, rfl, a0, oa, tt, s3⟩
        rw [List.length_map] at hq
        obtain ⟨j, ej⟩ : ∃ j : Nat, j = i + 1 + q := ⟨_, rfl⟩
        rw [show (i : Int) + 1 + (q : Int) = (j : Int) by omega]
        rw [← ej] at tt
        have hj : j < nm.length := by omega
        have A3 := A0.same s3
        have gi := nmAt_get (nm := nm) (i := i) hi
        have gj := nmAt_get (nm := nm) (i := j) hj
        have wi := ok.nw _ (List.mem_of_getElem? gi)
        have wj := ok.nw _ (List.mem_of_getElem? gj)
        -- the kinds between the two
        refine ⟨fun σ H4 => ∃ (ks : Addr) (blk : List RowV), σ = [some (.ref R), some (.ref o), some (.ref a), some (.int (i : Int)), some (.int (j : Int)), some (.ref ks), none, none, none] ∧ H4 ks = some (.lst ((blk.map (·.kd)).map V.str)) ∧ blk.Perm (rs.filter (atB i j)) ∧ blk.Pairwise rowLe ∧ (∀ r ∈ blk, r ∈ rs ∧ r.i = i ∧ r.j = j) ∧ Same H3 H4, ?_, ?_⟩
        · refine ⟨t, _, A3.ht, trivial, fun od => ?_⟩
          have lockT : (upd H3 t (.frz od (.dT (spanK nm rs)))) t = some (.frz od (.dT (spanK nm rs))) := upd_same
          have keep3 : ∀ b u, H3 b = some u → b ≠ t → (upd H3 t (.frz od (.dT (spanK nm rs)))) b = some u := fun b u e n => by rw [upd_ne n]; exact e
          generalize hH : upd H3 t (.frz od (.dT (spanK nm rs))) = HL at *
          have nRt : R ≠ t := ne_of A3.hR A3.ht (by intro z; cases z)
          have not' : o ≠ t := ne_of A3.ho A3.ht (by intro z; cases z)
          refine ⟨_, rfl, R, _, _, V.ref t, rfl, rfl, SqL.of (keep3 _ _ A3.hR nRt), atI_nat (j := 2) rfl, t, od, rfl, .inr ⟨_, lockT, fun D hD => ?_⟩⟩
          have nDt : D ≠ t := fun e => by rw [e, lockT] at hD; cases hD
          refine lc_it walk_keysT (fun m H4 => H4 D = some (.lst ((((rs.take m).filter (atB i j)).map (·.kd)).map V.str)) ∧ H4 t = some (.frz od (.dT (spanK nm rs))) ∧ ∀ b u, H3 b = some u → b ≠ t → H4 b = some u)
            ⟨upd_same, by rw [upd_ne nDt.symm]; exact lockT, fun b u e n => by rw [upd_ne (ne_of_none (keep3 b u e n) hD)]; exact keep3 b u e n⟩ (fun m H4 _ h => h.2.1) ?_ ?_
          · rintro m x H5 H4 hm ⟨hD4, ht4, k4⟩ ⟨rfl, key, v, qk, hkv, rfl, hqk⟩
            unfold spanK at hkv
            rw [List.getElem?_map] at hkv
            obtain ⟨r, hr, e⟩ := Option.map_eq_some_iff.mp hkv
            cases e
            have rm := List.mem_of_getElem? hr
            have rlt := ok.fit.lt r rm
            have w1 := ok.nw _ (List.mem_of_getElem? (nmAt_get (nm := nm) (i := r.i) (by omega)))
            have w2 := ok.nw _ (List.mem_of_getElem? (nmAt_get (nm := nm) (i := r.j) rlt.2))
            refine ⟨qk, _, rfl, SqT.of hqk, rfl, _, _, rfl, _, _, rfl, _, _, rfl, rfl, rfl, ?_⟩
            refine ⟨_, rfl, _, rfl, by show 2 ≤ sizeLine; omega, fun u1 h1 => ?_⟩
            have su1 := same_new (o := .tup [kV (Sum.inr (nmAt nm r.i)), kV (Sum.inr (nmAt nm r.j))]) h1
            have hu1 : (upd H4 u1 (.tup [kV (Sum.inr (nmAt nm r.i)), kV (Sum.inr (nmAt nm r.j))])) u1 = some (.tup ([nmAt nm r.i, nmAt nm r.j].map V.str)) := upd_same
            have ho4 := su1 _ _ (k4 _ _ A3.ho not')
            generalize upd H4 u1 (.tup [kV (Sum.inr (nmAt nm r.i)), kV (Sum.inr (nmAt nm r.j))]) = H5 at *
            refine ⟨_, rfl, _, rfl, o, _, _, V.str (nmAt nm i), rfl, rfl, SqL.of ho4, atI_nat (by rw [List.getElem?_map, gi]; rfl), _, rfl, _, rfl, o, _, _, V.str (nmAt nm j), rfl, rfl, SqL.of ho4, atI_nat (by rw [List.getElem?_map, gj]; rfl), by show 2 ≤ sizeLine; omega, fun u2 h2 => ?_⟩
            have su2 := same_new (o := .tup [V.str (nmAt nm i), V.str (nmAt nm j)]) h2
            have hu2 : (upd H5 u2 (.tup [V.str (nmAt nm i), V.str (nmAt nm j)])) u2 = some (.tup ([nmAt nm i, nmAt nm j].map V.str)) := upd_same
            have hu1' := su2 _ _ hu1
            generalize upd H5 u2 (.tup [V.str (nmAt nm i), V.str (nmAt nm j)]) = H6 at *
            have s46 := su1.trans su2
            refine ⟨dStrs [nmAt nm r.i, nmAt nm r.j], dStrs [nmAt nm i, nmAt nm j], .tup (SqT.of hu1') (dp_strs _), .tup (SqT.of hu2) (dp_strs _), shaped_strs (fun x hx => ?_), shaped_strs (fun x hx => ?_), _, rfl, ?_⟩
            · simp only [List.mem_cons, List.not_mem_nil, or_false] at hx
              rcases hx with rfl | rfl
              · exact w1
              · exact w2
            · simp only [List.mem_cons, List.not_mem_nil, or_false] at hx
              rcases hx with rfl | rfl
              · exact wi
              · exact wj
            have eq : PyData.eqv (dStrs [nmAt nm r.i, nmAt nm r.j]) (dStrs [nmAt nm i, nmAt nm j]) = atB i j r := by
              rw [show PyData.eqv (dStrs [nmAt nm r.i, nmAt nm r.j]) (dStrs [nmAt nm i, nmAt nm j]) = PyData.eqvAll ([nmAt nm r.i, nmAt nm r.j].map PyData.str) ([nmAt nm i, nmAt nm j].map PyData.str) from rfl, eqv_strs]
              refine decide_eq_decide.mpr ⟨fun h => ?_, fun h => by rw [h.1, h.2]⟩
              obtain ⟨e1, h⟩ := List.cons.inj h
              obtain ⟨e2, _⟩ := List.cons.inj h
              exact ⟨nmAt_inj ok.nd (by omega) hi e1, nmAt_inj ok.nd rlt.2 hj e2⟩
            rw [eq]
            have k6 : ∀ b u, H3 b = some u → b ≠ t → H6 b = some u := fun b u e n => s46 _ _ (k4 b u e n)
            have tk : (rs.take (m + 1)).filter (atB i j) = (rs.take m).filter (atB i j) ++ [r].filter (atB i j) := by rw [List.take_add_one, hr, List.filter_append]; rfl
            have len9 : (((rs.take m).filter (atB i j)).map (·.kd)).length ≤ 1000 := by
              rw [List.length_map]
              exact Nat.le_trans (List.length_filter_le _ _) (by rw [List.length_take]; have := ok.few; omega)
            cases hb : atB i j r with
            | true =>
              refine ⟨_, rfl, _, s46 _ _ hD4, Evl.sz_lt (by rw [List.length_map]; omega), ?_, by rw [upd_ne nDt.symm]; exact s46 _ _ ht4, fun b u e n => ?_⟩
              · rw [upd_same, tk, List.filter_cons_of_pos hb, List.filter_nil, List.map_append, List.map_append]
                rfl
              · rw [upd_ne (ne_of_none (keep3 b u e n) hD)]
                exact k6 b u e n
            | false =>
              refine ⟨?_, s46 _ _ ht4, k6⟩
              rw [tk, List.filter_cons_of_neg (by simp [hb]), List.filter_nil, List.append_nil]
              exact s46 _ _ hD4
          · rintro H4 ⟨hD4, ht4, k4⟩
            rw [spanK_len, List.take_length] at hD4
            refine ⟨ht4, ?_⟩
            have hD5 : (upd H4 t (.dT (spanK nm rs))) D = some (.lst (((rs.filter (atB i j)).map (·.kd)).map V.str)) := by rw [upd_ne nDt]; exact hD4
            have s5 : Same H3 (upd H4 t (.dT (spanK nm rs))) := fun b u e => by
              by_cases c : b = t
              · subst c
                rw [A3.ht] at e
                cases e
                exact upd_same
              · rw [upd_ne c]
                exact k4 b u e c
            generalize upd H4 t (.dT (spanK nm rs)) = H5 at *
            refine ⟨D, _, rfl, SqL.of hD5, by rw [List.length_map]; exact Nat.lt_of_le_of_lt (List.length_filter_le _ _) r64, fun ys ks pm so hks => ?_⟩
            obtain ⟨blk, e1, e2, e3, e4⟩ := blk_rows (i := i) (j := j) ok.fit pm (sorted_pw so)
            have s6 := same_new (o := .lst (ys.map V.str)) hks
            exact ⟨ks, blk, rfl, by rw [e1]; exact upd_same, e2, e3, e4, s5.trans s6⟩
        rintro σ H4 ⟨ks, blk, rfl, hks, bp, bw, bm, s4⟩
        have s04 := s3.trans s4
        have A4 := A0.same s04
        obtain ⟨us, hus, pus⟩ := oa
        have bl : blk.length ≤ 1000 := by rw [bp.length_eq]; exact Nat.le_trans (List.length_filter_le _ _) ok.few
        have ol : out.length ≤ 1000 := by rw [tt.pm.length_eq]; exact Nat.le_trans (List.length_filter_le _ _) ok.few
        have ul : us.length = out.length := Paired.length pus
        refine ⟨_, rfl, _, rfl, ks, rfl, ⟨_, SqL.of hks⟩, fun D hD => ?_⟩
        refine lc_it (walk_list (xs := (blk.map (·.kd)).map V.str)) (fun m H5 => ∃ os : List Addr, H5 D = some (.lst (os.map V.ref)) ∧ os.length = m ∧ Paired (fun t (r : RowV) => ∃ x y, nm[r.i]? = some x ∧ nm[r.j]? = some y ∧ H5 t = some (.tup [.str x, .str y, .str r.kd, .int r.w])) os (blk.take m) ∧ Same H4 H5)
          ⟨[], upd_same, rfl, .nil, same_new hD⟩ (fun m H5 _ ⟨_, _, _, _, s⟩ => SqL.of (s _ _ hks)) ?_ ?_
        · rintro m x H6 H5 hm ⟨os, hD5, osl, po, s5⟩ ⟨rfl, hx⟩
          rw [List.getElem?_map, List.getElem?_map] at hx
          obtain ⟨kd, hkd, rfl⟩ := Option.map_eq_some_iff.mp hx
          obtain ⟨r, hr, rfl⟩ := Option.map_eq_some_iff.mp hkd
          obtain ⟨rm, ri, rj⟩ := bm r (List.mem_of_getElem? hr)
          have ml := (List.getElem?_eq_some_iff.mp hr).1
          have A5 := A4.same s5
          refine ⟨rfl, tyes ?_⟩
          refine ⟨_, rfl, _, rfl, o, _, _, V.str (nmAt nm i), rfl, rfl, SqL.of A5.ho, atI_nat (by rw [List.getElem?_map, gi]; rfl), _, rfl, _, rfl, o, _, _, V.str (nmAt nm j), rfl, rfl, SqL.of A5.ho, atI_nat (by rw [List.getElem?_map, gj]; rfl), _, rfl, ?_⟩
          refine ⟨_, rfl, R, _, _, V.ref t, rfl, rfl, SqL.of A5.hR, atI_nat (j := 2) rfl, _, rfl, _, rfl, o, _, _, V.str (nmAt nm i), rfl, rfl, SqL.of A5.ho, atI_nat (by rw [List.getElem?_map, gi]; rfl), _, rfl, _, rfl, o, _, _, V.str (nmAt nm j), rfl, rfl, SqL.of A5.ho, atI_nat (by rw [List.getElem?_map, gj]; rfl), _, rfl, by show 3 ≤ sizeLine; omega, fun u hu' => ?_⟩
          have su := same_new (o := .tup [V.str (nmAt nm i), V.str (nmAt nm j), V.str r.kd]) hu'
          have hu1 : (upd H5 u (.tup [V.str (nmAt nm i), V.str (nmAt nm j), V.str r.kd])) u = some (.tup ((spanKey nm r).map kV)) := by
            rw [upd_same]
            show _ = some (HO.tup [V.str (nmAt nm r.i), V.str (nmAt nm r.j), V.str r.kd])
            rw [ri, rj]
          generalize upd H5 u (.tup [V.str (nmAt nm i), V.str (nmAt nm j), V.str r.kd]) = H7 at *
          refine ⟨t, _, rfl, by rw [← ok.val rm]; exact DGet.t (su _ _ A5.ht) hu1, by show 4 ≤ sizeLine; omega, fun z hz => ?_⟩
          have sz := same_new (o := .tup [V.str (nmAt nm i), V.str (nmAt nm j), V.str r.kd, V.int r.w]) hz
          have s57 := su.trans sz
          have nzD : z ≠ D := ne_of_none' (su _ _ hD5) hz
          refine ⟨_, s57 _ _ hD5, Evl.sz_lt (by rw [List.length_map]; omega), os ++ [z], by rw [upd_same, List.map_append]; rfl, by rw [List.length_append, osl]; rfl, ?_, Same.off (s5.trans s57) hD⟩
          rw [List.take_add_one, hr]
          refine paired_snoc (Paired.mapP po fun t' r' ⟨x', y', h1, h2, h3⟩ => ⟨x', y', h1, h2, ?_⟩) ⟨nmAt nm i, nmAt nm j, by rw [ri]; exact gi, by rw [rj]; exact gj, by rw [upd_ne nzD]; exact upd_same⟩
          rw [upd_ne (ne_of h3 hD5 (by intro z; cases z))]
          exact s57 _ _ h3
        · rintro H5 ⟨os, hD5, osl, po, s5⟩
          rw [List.length_map, List.length_map] at osl po
          rw [List.take_length] at po
          have s45 := s4.trans s5
          refine ⟨a, D, _, _, rfl, rfl, s45 _ _ hus, hD5, by rw [List.length_map, List.length_map]; omega, fun z hz => ?_⟩
          have sz := same_new (o := .lst (us.map V.ref ++ os.map V.ref)) hz
          have s05 := s04.trans s5
          refine ⟨z, _, _, out ++ blk, rfl, s05.free hz, ⟨us ++ os, by rw [upd_same, List.map_append], paired_app (Paired.mapP pus fun t' r' ⟨x', y', h1, h2, h3⟩ => ⟨x', y', h1, h2, sz _ _ (s45 _ _ h3)⟩) (Paired.mapP po fun t' r' ⟨x', y', h1, h2, h3⟩ => ⟨x', y', h1, h2, sz _ _ h3⟩)⟩, ?_, s05.trans sz⟩
          rw [show i + 1 + (q + 1) = j + 1 by omega]
          exact tt.put bp bw
      · rintro σ H3 ⟨a, v4, v5, out, rfl, a0, oa, tt, s3⟩
        rw [List.length_map] at tt
        exact ⟨a, _, v4, v5, out, rfl, a0, oa, tt.conv (fun r hr => decide_eq_decide.mpr (by have := ok.fit.lt r hr; omega)), s3⟩
    · rintro σ H2 ⟨a, v3, v4, v5, out, rfl, a0, oa, tt, s2⟩
      rw [Int.toNat_natCast] at tt
      exact ⟨a, v3, v4, v5, out, rfl, a0, oa, tt, s2⟩
  rintro σ H2 ⟨a, v3, v4, v5, out, rfl, a0, oa, tt, s2⟩
  exact ⟨_, rfl, k a out H2 a0 oa (tt.done ok.fit.lt) s2⟩
end
end Nm
set_option autoImplicit false
set_option maxRecDepth 100000
set_option maxHeartbeats 16000000
/-! _law_is, _law_kinds_of -/
namespace Nm
open PySem PySem.Spec PyProof.Rows L2
/-- a web stands there -/
def WebIs (C : Addr) (H : Hp) (we : Addr) (nm cl : List Str) (rs : List RowV) : Prop := ∃ q dc r wd : Addr, WebX C H we q dc r wd nm cl rs
theorem WebIs.same {C : Addr} {H H' : Hp} {we : Addr} {nm cl : List Str} {rs : List RowV} (h : WebIs C H we nm cl rs) (s : Same H H') : WebIs C H' we nm cl rs := by
  obtain ⟨q, dc, r, wd, X⟩ := h
  exact ⟨q, dc, r, wd, X.same s⟩
def dRw (nm : List Str) (r : RowV) : PyData := .tuple [.str (nmAt nm r.i), .str (nmAt nm r.j), .str r.kd, .int r.w]
def dOrd (nm : List Str) (rs : List RowV) : PyData := .list (rs.map (dRw nm))
theorem dp_ords {K : PySem.W.Frag} {H : Hp} {nm : List Str} : ∀ {ts : List Addr} {rs : List RowV}, Paired (fun t (r : RowV) => ∃ x y, nm[r.i]? = some x ∧ nm[r.j]? = some y ∧ H t = some (.tup [.str x, .str y, .str r.kd, .int r.w])) ts rs → DpAll K H (ts.map V.ref) (rs.map (dRw nm))
  | _, _, .nil => .nil
  | _, _, .cons ⟨x, y, h1, h2, h3⟩ t => by
    refine .cons ?_ (dp_ords t)
    unfold dRw
    rw [nmAt_of h1, nmAt_of h2]
    exact .tup (SqT.of h3) (.cons (.str _) (.cons (.str _) (.cons (.str _) (.cons (.int _) .nil))))
theorem dp_ord {K : PySem.W.Frag} {H : Hp} {nm : List Str} {a : Addr} {rs : List RowV} (h : OrdAt H a nm rs) : Dp K H (.ref a) (dOrd nm rs) := by
  obtain ⟨ts, h1, h2⟩ := h
  exact .lst (SqL.of h1) (dp_ords h2)
theorem lay_ords {nm : List Str} {n : Nat} (nw : ∀ x ∈ nm, isWordB x = true) (e : nm.length = n) : ∀ rs : List RowV, (∀ r ∈ rs, r.i < r.j ∧ r.j < n) → (∀ r ∈ rs, isWordB r.kd = true) → PyData.canLayAll0 (rs.map (dRw nm)) = true ∧ PyData.depthAll (rs.map (dRw nm)) ≤ 1
  | [], _, _ => ⟨rfl, by simp [PyData.depthAll]⟩
  | r :: rs, h, k => by
    obtain ⟨a, b⟩ := lay_ords nw e rs (fun x hx => h x (List.mem_cons_of_mem _ hx)) fun x hx => k x (List.mem_cons_of_mem _ hx)
    have lt := h r List.mem_cons_self
    have w1 := word_ok (nw _ (List.mem_of_getElem? (nmAt_get (nm := nm) (i := r.i) (by omega))))
    have w2 := word_ok (nw _ (List.mem_of_getElem? (nmAt_get (nm := nm) (i := r.j) (by omega))))
    have w3 := word_ok (k r List.mem_cons_self)
    rw [List.map_cons]
    refine ⟨?_, ?_⟩
    · simp only [PyData.canLayAll0, PyData.canLay0, dRw, w1, w2, w3, a, Bool.and_self]
    · simp only [PyData.depthAll, PyData.depth, dRw]
      omega
theorem shaped_ord {nm : List Str} {rs : List RowV} (nw : ∀ x ∈ nm, isWordB x = true) (fit : RowsFit nm.length rs) : SeqAt.shaped (dOrd nm rs) = true := by
  obtain ⟨a, b⟩ := lay_ords nw rfl rs fit.lt fit.kw
  unfold dOrd SeqAt.shaped
  rw [Bool.and_eq_true, decide_eq_true_eq]
  refine ⟨?_, ?_⟩
  · simp only [PyData.canLay0]
    exact a
  · simp only [PyData.depth]
    omega
theorem eqv_ords (nm : List Str) : ∀ rs : List RowV, PyData.eqvAll (rs.map (dRw nm)) (rs.map (dRw nm)) = true
  | [] => rfl
  | r :: rs => by
    show (PyData.eqv (dRw nm r) (dRw nm r) && PyData.eqvAll (rs.map (dRw nm)) (rs.map (dRw nm))) = true
    rw [eqv_ords nm rs]
    simp [dRw, PyData.eqv, PyData.eqvAll]
theorem eqv_ord (nm : List Str) (rs : List RowV) : PyData.eqv (dOrd nm rs) (dOrd nm rs) = true := (show PyData.eqv (dOrd nm rs) (dOrd nm rs) = PyData.eqvAll (rs.map (dRw nm)) (rs.map (dRw nm)) from rfl).trans (eqv_ords nm rs)
def dStrL (l : List Str) : PyData := .list (l.map PyData.str)
theorem dp_strL {K : PySem.W.Frag} {H : Hp} {a : Addr} {l : List Str} (h : H a = some (.lst (l.map V.str))) : Dp K H (.ref a) (dStrL l) := .lst (SqL.of h) (dp_strs l)
theorem shaped_strL {l : List Str} (h : ∀ x ∈ l, isWordB x = true) : SeqAt.shaped (dStrL l) = true := by
  obtain ⟨a, b⟩ := lay_strs l fun x hx => word_ok (h x hx)
  unfold dStrL SeqAt.shaped
  rw [Bool.and_eq_true, decide_eq_true_eq]
  refine ⟨?_, ?_⟩
  · simp only [PyData.canLay0]
    exact a
  · simp only [PyData.depth]
    omega
theorem eqv_strL (a b : List Str) : PyData.eqv (dStrL a) (dStrL b) = decide (a = b) := (show PyData.eqv (dStrL a) (dStrL b) = PyData.eqvAll (a.map PyData.str) (b.map PyData.str) from rfl).trans (eqv_strs a b)
section
variable {P : Program} {w : World} {K : PySem.W.Frag} {mg : Str → Option Value} {base : Heap}
def spIs (C : Addr) : Sp := fun vs H Q _ => ∃ (p g R we : Addr) (nm cl : List Str) (rs rs' : List RowV), vs = [.ref we, .ref R] ∧ WebIs C H we nm cl rs' ∧ Raw H p g R nm cl rs ∧ RawOk nm cl rs ∧ SortRows rs' rs ∧ rs.length < 64 ∧ ∀ H', Same H H' → Q (.bl true) H'
abbrev nIs : List Str := ["_law_web", "_law_raw_here", "_law_name"]
theorem scIs : FnScope nIs ["_law_web", "_law_raw_here"] (defScope sIs) := ⟨rfl, rfl, rfl, by decide +kernel, rfl, by decide +kernel, by decide +kernel⟩
theorem ok_is {f C : Addr} {fd : FuncData} (F : Fun K "_law_is" "_law_is" sIs f fd) (T : TxtW K mg C) (Gp : MethD P w K mg base C "places" ["self"] 1 (spPlaces C)) (Gs : MethD P w K mg base C "ties" ["self"] 1 (spTies C)) (Gc : MethD P w K mg base C "colour" ["self", "name"] 2 (spColour C)) (Gt : Def P w K mg base "_law_ties" ["_law_raw_here"] 1 spLt) : FnOk P w K mg base CX0 3 f fd ["_law_web", "_law_raw_here"] (spIs C) := by
  obtain ⟨fp, fdp, Gp, mp, bp⟩ := Gp.ex
  obtain ⟨fs, fds, Gs, ms, bs⟩ := Gs.ex
  obtain ⟨fc, fdc, Gc, mc, bc⟩ := Gc.ex
  obtain ⟨ft, fdt, Gt, mt, kt, bt⟩ := Gt.ex
  refine F.ok scIs (fun vs H Q E h => ?_) (fun cdv A outer s H vs Q E hr h => ?_)
  · obtain ⟨_, _, _, _, _, _, _, _, rfl, _⟩ := h
    rfl
  obtain ⟨p, g, R, we, nm, cl, rs, rs', rfl, ⟨q, dc, r, wd, X⟩, ⟨o, h, t, A0⟩, ok, so, r64, k⟩ := h
  have hu := hu_of hr
  have lim := sizeLine_eq
  have n7 := ok.n7
  have cn := ok.cn
  have hr1 := hr.mono (by decide : 2 ≤ 2)
  refine ⟨_, Evl.pss_cut (ps_if (PW.pt (pw_or (pt_cmpR (op_neD hr.units) (pe_meth0 (pv 0) T.cl mp Gp (hr.mono (by decide)) bp .nil pass0) (pe_ix ix_list (pv 1) pe_int (fun _ _ => rfl)) (nomark _)) (pw_or1 (pt_cmpR (op_neD hr.units) (pe_meth0 (pv 0) T.cl ms Gs (hr.mono (by decide)) bs .nil pass0) (pe_call Gt (hr.mono (by decide)) (by rfl) mt kt bt .nil pass0 (pa_cons (pv 1) pa_nil)) (nomark _))))) (pss_one (ps_ret pe_bl)) pss_nil)
    (pss_one (ps_ret (pe_cmpR (op_eqD hr.units)
      (pe_lc (own := [("_law_name", 2)]) (g := gName 2) (tt := tYes) (te := tMeth C "colour" (spColour C) [] E0 (tVar 0) (tCons (tVar 2) tNil)) rfl scIs.nd (pi_list (pe_ix ix_list (pv 1) pe_int (fun _ _ => rfl))) (blkOk_by (N := nIs) (sc := defScope sIs) (by decide +kernel)) (fun _ _ _ _ _ => pg_name (i := 2) scIs.nd rfl (Or.inl rfl)) (fun _ _ _ _ _ => pts_nil) (fun _ _ _ _ _ => by exact pe_meth (pv 0) T.cl mc Gc hr1 bc .nil pass0 (pa_cons (pv 2) pa_nil)))
      (pe_lc (own := [("_law_name", 2)]) (g := gName 2) (tt := tYes) (te := tDGet (tOp (rIxL K) (tVar 1) (tC (.int 1))) (tVar 2)) rfl scIs.nd (pi_list (pe_ix ix_list (pv 1) pe_int (fun _ _ => rfl))) (blkOk_by (N := nIs) (sc := defScope sIs) (by decide +kernel)) (fun _ _ _ _ _ => pg_name (i := 2) scIs.nd rfl (Or.inl rfl)) (fun _ _ _ _ _ => pts_nil) (fun _ _ _ _ _ => by exact pe_dget hu (pe_ix ix_list (pv 1) pe_int (fun _ _ => rfl)) (pv 2) (fun _ _ => rfl))) (nomark _)))), ?_⟩
  obtain ⟨dx, hwe⟩ := X.hp
  have fit' := ok.fit.perm so.1
  refine ⟨fun σ H1 => σ = [some (.ref we), some (.ref R), none] ∧ Same H H1, ?_, ?_⟩
  · refine ⟨_, rfl, we, dx, _, rfl, hwe, rfl, ?_⟩
    refine tnI ⟨we, q, dc, r, wd, nm, cl, rs', rfl, X, by omega, fun l1 H1 _ hl1 s1 => ?_⟩
    refine ⟨_, rfl, R, _, _, V.ref o, rfl, rfl, SqL.of (s1 _ _ A0.hR), atI_nat (j := 0) rfl, ?_⟩
    refine ⟨dStrL nm, dStrL nm, dp_strL hl1, dp_strL (s1 _ _ A0.ho), shaped_strL ok.nw, shaped_strL ok.nw, _, rfl, ?_⟩
    rw [eqv_strL, decide_eq_true rfl]
    refine ⟨_, rfl, we, dx, _, rfl, s1 _ _ hwe, rfl, ?_⟩
    refine tnI ⟨we, q, dc, r, wd, nm, cl, rs', rfl, X.same s1, fun l2 H2 _ hl2 s2 => ?_⟩
    refine ⟨_, rfl, p, g, R, nm, cl, rs, rfl, ⟨o, h, t, (A0.same s1).same s2⟩, ok, r64, fun a out H3 _ ha so' s3 => ?_⟩
    have e : rs' = out := so.one so'
    subst e
    have hl3 : OrdAt H3 l2 nm rs' := ext_tie hl2 (fun _ => s3 _ _) (fun _ _ => s3 _ _)
    refine ⟨dOrd nm rs', dOrd nm rs', dp_ord hl3, dp_ord ha, shaped_ord ok.nw fit', shaped_ord ok.nw fit', _, rfl, ?_⟩
    rw [eqv_ord]
    exact ⟨rfl, (s1.trans s2).trans s3⟩
  rintro σ H1 ⟨rfl, s1⟩
  have A1 := A0.same s1
  have X1 := X.same s1
  refine ⟨_, rfl, R, _, _, V.ref o, rfl, rfl, SqL.of A1.hR, atI_nat (j := 0) rfl, o, rfl, ⟨_, SqL.of A1.ho⟩, fun D hD => ?_⟩
  refine lc_it (walk_list (xs := nm.map V.str)) (fun i H2 => H2 D = some (.lst ((cl.take i).map V.str)) ∧ Same H1 H2) ⟨upd_same, same_new hD⟩ (fun i H2 _ h => SqL.of (h.2 _ _ A1.ho)) ?_ ?_
  · rintro i x H3 H2 hi ⟨hD2, s2⟩ ⟨rfl, hx⟩
    rw [List.length_map] at hi
    rw [List.getElem?_map] at hx
    obtain ⟨y, hy, rfl⟩ := Option.map_eq_some_iff.mp hx
    obtain ⟨c, hc⟩ : ∃ c, cl[i]? = some c := ⟨_, List.getElem?_eq_getElem (by omega)⟩
    refine ⟨rfl, tyes ?_⟩
    refine ⟨_, rfl, we, dx, _, rfl, s2 _ _ (s1 _ _ hwe), rfl, _, rfl, tnI ⟨we, q, dc, r, wd, nm, cl, rs', i, y, c, rfl, X1.same s2, ok.nd, by omega, hy, hc, ?_⟩⟩
    refine ⟨_, hD2, Evl.sz_lt (by rw [List.length_map, List.length_take]; omega), ?_, Same.off s2 hD⟩
    rw [upd_same, List.take_add_one, hc, List.map_append]
    rfl
  · rintro H2 ⟨hD2, s2⟩
    rw [List.length_map, List.take_of_length_le (by omega)] at hD2
    have A2 := A1.same s2
    refine ⟨_, rfl, R, _, _, V.ref o, rfl, rfl, SqL.of A2.hR, atI_nat (j := 0) rfl, o, rfl, ⟨_, SqL.of A2.ho⟩, fun D2 hD' => ?_⟩
    refine lc_it (walk_list (xs := nm.map V.str)) (fun i H3 => H3 D2 = some (.lst ((cl.take i).map V.str)) ∧ Same H2 H3) ⟨upd_same, same_new hD'⟩ (fun i H3 _ h => SqL.of (h.2 _ _ A2.ho)) ?_ ?_
    · rintro i x H4 H3 hi ⟨hD3, s3⟩ ⟨rfl, hx⟩
      rw [List.length_map] at hi
      rw [List.getElem?_map] at hx
      obtain ⟨y, hy, rfl⟩ := Option.map_eq_some_iff.mp hx
      obtain ⟨c, hc⟩ : ∃ c, cl[i]? = some c := ⟨_, List.getElem?_eq_getElem (by omega)⟩
      have A3 := A2.same s3
      refine ⟨rfl, tyes ?_⟩
      refine ⟨_, rfl, R, _, _, V.ref h, rfl, rfl, SqL.of A3.hR, atI_nat (j := 1) rfl, _, rfl, h, _, rfl, by rw [← colK_at (by omega) ok.nd hy hc]; exact DGet.k (k := Sum.inr y) A3.hh, ?_⟩
      refine ⟨_, hD3, Evl.sz_lt (by rw [List.length_map, List.length_take]; omega), ?_, Same.off s3 hD'⟩
      rw [upd_same, List.take_add_one, hc, List.map_append]
      rfl
    · rintro H3 ⟨hD3, s3⟩
      rw [List.length_map, List.take_of_length_le (by omega)] at hD3
      refine ⟨dStrL cl, dStrL cl, dp_strL (s3 _ _ hD2), dp_strL hD3, shaped_strL ok.cw, shaped_strL ok.cw, ?_⟩
      rw [eqv_strL, decide_eq_true rfl]
      exact k H3 ((s1.trans s2).trans s3)
/-! ### _law_kinds_of -/
theorem dedT_ndR (zs : List Str) : ∀ i, i ≤ zs.length → (dedT (zs.take i)).Nodup
  | 0, _ => by simp [dedT]
  | i + 1, h => by
    obtain ⟨k, hk⟩ : ∃ k, zs[i]? = some k := ⟨_, List.getElem?_eq_getElem h⟩
    have ih := dedT_ndR zs i (by omega)
    rw [dedT_next hk]
    split
    · exact ih
    · rename_i c
      exact List.nodup_cons.mpr ⟨c, ih⟩
end
end Nm
set_option autoImplicit false
set_option maxRecDepth 100000
set_option maxHeartbeats 4000000
/-! lines of texts of webs -/
namespace Nm
open PySem PySem.Spec PyProof.Rows L2
def lnP (x c : Str) : Str := Txt.join " " ["place", x, c]
def lnT (x y k : Str) (w : Int) : Str := Txt.join " " ["tie", x, y, k, toString w]
theorem tl_join3 (a b c : Str) : TL.tl (Txt.join " " [a, b, c]) = TL.tl a ++ (32 :: (TL.tl b ++ (32 :: TL.tl c))) := by
  rw [TL.join_eq, TL.tl_join]
  rfl
theorem tl_join5 (a b c d e : Str) : TL.tl (Txt.join " " [a, b, c, d, e]) = TL.tl a ++ (32 :: (TL.tl b ++ (32 :: (TL.tl c ++ (32 :: (TL.tl d ++ (32 :: TL.tl e))))))) := by
  rw [TL.join_eq, TL.tl_join]
  rfl
/-- what stands in words and numbers -/
def ldB (c : Nat) : Bool := decide ((97 ≤ c ∧ c ≤ 122) ∨ (48 ≤ c ∧ c ≤ 57))
theorem digs_ld {c : Nat} (h : ("0123456789" : Str).cps.contains c = true) : ldB c = true := by
  have m : c ∈ ("0123456789" : Str).cps := by simpa using h
  have all : ∀ c ∈ ("0123456789" : Str).cps.toList, ldB c = true := by decide +kernel
  exact all c (Array.mem_toList_iff.mpr m)
theorem lets_ld {c : Nat} (h : c ∈ ("abcdefghijklmnopqrstuvwxyz" : Str).cps.toList) : ldB c = true := by
  have all : ∀ c ∈ ("abcdefghijklmnopqrstuvwxyz" : Str).cps.toList, ldB c = true := by decide +kernel
  exact all c h
theorem word_signs {x : Str} (h : isWordB x = true) : ∀ c ∈ TL.tl x, (97 ≤ c ∧ c ≤ 122) ∨ (48 ≤ c ∧ c ≤ 57) := by
  unfold isWordB at h
  simp only [Bool.and_eq_true, decide_eq_true_eq, List.all_eq_true] at h
  have lt := h.2
  intro c hc
  suffices z : ldB c = true by exact of_decide_eq_true z
  have e : letB x = if PySem.stripSame ("0123456789" : Str).cps.contains false true x then x else PySem.stripped ("0123456789" : Str).cps.contains false true x := rfl
  by_cases s : PySem.stripSame ("0123456789" : Str).cps.contains false true x = true
  · rw [if_pos s] at e
    rw [e] at lt
    exact lets_ld (lt c hc)
  · rw [if_neg s] at e
    have e2 : (letB x).cps.toList = x.cps.toList.take (PySem.stripHi ("0123456789" : Str).cps.contains true x 0) := by
      rw [e]
      show (x.cps.extract 0 _).toList = _
      rw [Array.toList_extract]
      simp [PySem.stripLo]
    have hc : c ∈ x.cps.toList := hc
    rw [← List.take_append_drop (PySem.stripHi ("0123456789" : Str).cps.contains true x 0) x.cps.toList] at hc
    rcases List.mem_append.mp hc with m | m
    · rw [← e2] at m
      exact lets_ld (lt c m)
    · have hx : PySem.stripHi ("0123456789" : Str).cps.contains true x 0 = x.cps.toList.length - (x.cps.toList.reverse.takeWhile ("0123456789" : Str).cps.contains).length := by
        unfold PySem.stripHi
        rw [if_pos rfl, List.drop_zero]
        rfl
      rw [hx] at m
      exact digs_ld (tail_goes c m)
theorem dig_range {ch : Char} (h : ch.isDigit = true) : 48 ≤ ch.toNat ∧ ch.toNat ≤ 57 := by
  unfold Char.isDigit at h
  simp only [Bool.and_eq_true, decide_eq_true_eq] at h
  exact ⟨h.1, h.2⟩
theorem num_signs {n : Int} (h0 : 0 ≤ n) : ∀ c ∈ TL.tl (toString n : Str), 48 ≤ c ∧ c ≤ 57 := by
  obtain ⟨m, rfl⟩ := Int.eq_ofNat_of_zero_le h0
  intro c hc
  have hc : c ∈ TL.tl (Str.ofString (toString ((m : Nat) : Int))) := hc
  rw [TL.tl_num] at hc
  unfold TL.numL at hc
  obtain ⟨ch, hch, e⟩ := List.mem_map.mp hc
  have r := dig_range (Nat.isDigit_of_mem_toDigits (by decide) (by decide) hch)
  rw [← e]
  exact r
/-- a line has no sign of the other kind in it -/
theorem word_len {z : Str} (h : isWordB z = true) : 1 ≤ z.length ∧ z.length ≤ 12 := by
  unfold isWordB at h
  simp only [Bool.and_eq_true, decide_eq_true_eq] at h
  have := len_rstripChars z "0123456789"
  have e : letB z = Txt.rstripChars z "0123456789" := rfl
  rw [← e] at this
  omega
theorem num_len {n : Int} (h0 : 0 ≤ n) (h1 : n < 10000000) : (toString n : Str).length ≤ 7 := toString_length_le h0 (by decide) h1
theorem no32_word {z : Str} (h : isWordB z = true) : 32 ∉ TL.tl z := fun m => by
  have := word_signs h 32 m
  omega
theorem no32_num {n : Int} (h0 : 0 ≤ n) : 32 ∉ TL.tl (toString n : Str) := fun m => by
  have := num_signs h0 32 m
  omega
theorem lnP_split {x c : Str} (hx : isWordB x = true) (hc : isWordB c = true) : Txt.split (lnP x c) " " = [("place" : Str), x, c] := by
  refine TL.split_join (s := 32) (S := []) rfl (by decide +kernel) (by simp) fun p hp => ?_
  rcases List.mem_cons.mp hp with e | hp
  · subst e
    decide +kernel
  rcases List.mem_cons.mp hp with e | hp
  · subst e
    exact no32_word hx
  rw [List.mem_singleton.mp hp]
  exact no32_word hc
theorem lnT_split {x y k : Str} {w : Int} (hx : isWordB x = true) (hy : isWordB y = true) (hk : isWordB k = true) (hw : 0 ≤ w) : Txt.split (lnT x y k w) " " = [("tie" : Str), x, y, k, (toString w : Str)] := by
  refine TL.split_join (s := 32) (S := []) rfl (by decide +kernel) (by simp) fun p hp => ?_
  rcases List.mem_cons.mp hp with e | hp
  · subst e
    decide +kernel
  rcases List.mem_cons.mp hp with e | hp
  · subst e
    exact no32_word hx
  rcases List.mem_cons.mp hp with e | hp
  · subst e
    exact no32_word hy
  rcases List.mem_cons.mp hp with e | hp
  · subst e
    exact no32_word hk
  rw [List.mem_singleton.mp hp]
  exact no32_num hw
theorem lnP_len {x c : Str} (hx : isWordB x = true) (hc : isWordB c = true) : (lnP x c).length ≤ 31 := by
  have a := word_len hx
  have b := word_len hc
  rw [TL.len_tl] at a b ⊢
  unfold lnP
  rw [tl_join3]
  have e : (TL.tl ("place" : Str)).length = 5 := by decide +kernel
  simp only [List.length_append, List.length_cons, e]
  omega
theorem lnT_len {x y k : Str} {w : Int} (hx : isWordB x = true) (hy : isWordB y = true) (hk : isWordB k = true) (hw : 0 ≤ w) (hw2 : w < 10000000) : (lnT x y k w).length ≤ 50 := by
  have a := word_len hx
  have b := word_len hy
  have c := word_len hk
  have d := num_len hw hw2
  rw [TL.len_tl] at a b c d ⊢
  unfold lnT
  rw [tl_join5]
  have e : (TL.tl ("tie" : Str)).length = 3 := by decide +kernel
  simp only [List.length_append, List.length_cons, e]
  omega
/-- a line of a text of a web -/
inductive LnV where
  | pl (x c : Str)
  | ti (t : TieV)
def LnV.txt : LnV → Str
  | .pl x c => lnP x c
  | .ti t => lnT t.x t.y t.kd t.w
def LnV.Ok : LnV → Prop
  | .pl x c => isWordB x = true ∧ isWordB c = true
  | .ti t => isWordB t.x = true ∧ isWordB t.y = true ∧ isWordB t.kd = true ∧ 1 ≤ t.w ∧ t.w ≤ 1000000
theorem LnV.len {l : LnV} (h : l.Ok) : l.txt.length ≤ 50 := by
  cases l with
  | pl x c => exact Nat.le_trans (lnP_len h.1 h.2) (by decide)
  | ti t => exact lnT_len h.1 h.2.1 h.2.2.1 (by have := h.2.2.2.1; omega) (by have := h.2.2.2.2; omega)
/-- a row as it is told -/
def tieR (nm : List Str) (r : RowV) : TieV := ⟨nmAt nm r.i, nmAt nm r.j, r.kd, r.w⟩
end Nm
set_option autoImplicit false
set_option maxRecDepth 100000
set_option maxHeartbeats 16000000
/-! colour_pairs, times, web_text -/
namespace Nm
open PySem PySem.Spec PyProof.Rows L2
section
variable {P : Program} {w : World} {K : PySem.W.Frag} {mg : Str → Option Value} {base : Heap}
/-! ### colour_pairs -/
/-! ### times -/
theorem NewW.from {C : Addr} {H H1 H2 : Hp} {we : Addr} {nm cl : List Str} {rs : List RowV} (s : Same H H1) (N : NewW C H1 H2 we nm cl rs) : NewW C H H2 we nm cl rs := by
  obtain ⟨q, dc, r, wd, X, n1, n2, n3, n4, n5⟩ := N.ex
  exact ⟨q, dc, r, wd, X, s.free n1, s.free n2, s.free n3, s.free n4, s.free n5⟩
end
end Nm
set_option autoImplicit false
set_option maxRecDepth 100000
set_option maxHeartbeats 16000000
/-! web_text, read_width, read_place, read_tie -/
namespace Nm
open PySem PySem.Spec PyProof.Rows L2
theorem RawOk.perm {nm cl : List Str} {rs rs' : List RowV} (ok : RawOk nm cl rs) (p : rs'.Perm rs) : RawOk nm cl rs' :=
  ⟨ok.n1, ok.n7, ok.nd, ok.nw, ok.cn, ok.cw, ok.fit.perm p, fun r hr => ok.w6 r (p.mem_iff.mp hr), by rw [p.length_eq]; exact ok.few⟩
section
variable {P : Program} {w : World} {K : PySem.W.Frag} {mg : Str → Option Value} {base : Heap}
/-! ### web_text -/
end
end Nm
set_option autoImplicit false
set_option maxRecDepth 100000
set_option maxHeartbeats 16000000
/-! read_width, read_place, read_tie -/
namespace Nm
open PySem PySem.Spec PyProof.Rows L2
theorem FnOk.or {P : Program} {w : World} {K : PySem.W.Frag} {mg : Str → Option Value} {base : Heap} {CX : CXT} {k : Nat} {f : Addr} {fd : FuncData} {ps : List Str} {sp sp' : Sp} (F : FnOk P w K mg base CX k f fd ps sp) (G : FnOk P w K mg base CX k f fd ps sp') :
    FnOk P w K mg base CX k f fd ps (fun vs H Q E => sp vs H Q E ∨ sp' vs H Q E) :=
  ⟨fun vs H Q E h => h.elim (F.len vs H Q E) (G.len vs H Q E), fun A outer s H args us vs Q E hr e b v h => h.elim (F.run A outer s H args us vs Q E hr e b v) (G.run A outer s H args us vs Q E hr e b v)⟩
/-- the words of a line -/
def LnV.words : LnV → List Str
  | .pl x c => ["place", x, c]
  | .ti t => ["tie", t.x, t.y, t.kd, (toString t.w : Str)]
theorem LnV.split {l : LnV} (h : l.Ok) : Txt.split l.txt " " = l.words := by
  cases l with
  | pl x c => exact lnP_split h.1 h.2
  | ti t => exact lnT_split h.1 h.2.1 h.2.2.1 (by have := h.2.2.2.1; omega)
section
variable {P : Program} {w : World} {K : PySem.W.Frag} {mg : Str → Option Value} {base : Heap}
/-! ### read_width -/
/-! ### read_place, read_tie -/
end
end Nm
set_option autoImplicit false
set_option maxRecDepth 100000
set_option maxHeartbeats 4000000
/-! for .. in d.items(), d a locked dict with keys that are tuples -/
namespace Nm
open PySem PySem.Spec PyProof.Rows L2
section
variable {X : Cx} {pins : List (Addr × Obj)} {σ : L2.St} {H : Hp} {s : Shared} {d : Addr} {o : Obj}
end
section
variable {P : Program} {w : World} {K : PySem.W.Frag} {d : Addr} {o : Obj} {es : Array DictEntry} {ep : Nat}
end
section
variable {X : Cx} {e : Expr} {td : TE} {apos cpos : Pos}
end
end Nm
set_option autoImplicit false
set_option maxRecDepth 100000
set_option maxHeartbeats 4000000
/-! list(e.values()) of a dict with keys that are tuples -/
namespace Nm
open PySem PySem.Spec PyProof.Rows L2
section
variable {X : Cx} {e : Expr} {te : TE} {p apos cpos pos : Pos}
end
end Nm
set_option autoImplicit false
set_option maxRecDepth 100000
set_option maxHeartbeats 16000000
/-! read_web -/
namespace Nm
open PySem PySem.Spec PyProof.Rows L2
/-- the names, the colours and the ties that lines tell -/
def plN : List LnV → List Str
  | [] => []
  | .pl x _ :: r => x :: plN r
  | .ti _ :: r => plN r
def plC : List LnV → List Str
  | [] => []
  | .pl _ c :: r => c :: plC r
  | .ti _ :: r => plC r
def tiL : List LnV → List TieV
  | [] => []
  | .pl _ _ :: r => tiL r
  | .ti t :: r => t :: tiL r
theorem plN_app : ∀ a b : List LnV, plN (a ++ b) = plN a ++ plN b
  | [], _ => rfl
  | .pl x _ :: r, b => congrArg (x :: ·) (plN_app r b)
  | .ti _ :: r, b => plN_app r b
theorem plC_app : ∀ a b : List LnV, plC (a ++ b) = plC a ++ plC b
  | [], _ => rfl
  | .pl _ c :: r, b => congrArg (c :: ·) (plC_app r b)
  | .ti _ :: r, b => plC_app r b
theorem tiL_app : ∀ a b : List LnV, tiL (a ++ b) = tiL a ++ tiL b
  | [], _ => rfl
  | .pl _ _ :: r, b => tiL_app r b
  | .ti t :: r, b => congrArg (t :: ·) (tiL_app r b)
/-- lines that a web can be read from: words, each name once, each tie behind its places -/
structure LinesOk (ls : List LnV) (rw' : List RowV) : Prop where
  ok : ∀ l ∈ ls, l.Ok
  few : ls.length ≤ 1000
  n1 : 1 ≤ (plN ls).length
  nd : (plN ls).Nodup
  kn : ∀ (i : Nat) (t : TieV), ls[i]? = some (.ti t) → t.x ∈ plN (ls.take i) ∧ t.y ∈ plN (ls.take i)
  pr : Paired (RowOf (plN ls)) (tiL ls) rw'
  fit : RowsFit (plN ls).length rw'
theorem LinesOk.tie {ls : List LnV} {rw' : List RowV} (h : LinesOk ls rw') {t : TieV} (ht : t ∈ tiL ls) : t.Ok (plN ls) := by
  obtain ⟨r, hr, e⟩ := paired_left h.pr t ht
  exact rowOf_ok h.nd (h.fit.lt r hr).1 (h.fit.kw r hr) (h.fit.w1 r hr) e
section
variable {P : Program} {w : World} {K : PySem.W.Frag} {mg : Str → Option Value} {base : Heap}
/-! ### read_web -/
end
end Nm
set_option autoImplicit false
set_option maxRecDepth 100000
set_option maxHeartbeats 16000000
/-! _law_text -/
namespace Nm
open PySem PySem.Spec PyProof.Rows L2
section
variable {P : Program} {w : World} {K : PySem.W.Frag} {mg : Str → Option Value} {base : Heap}
end
end Nm
set_option autoImplicit false
set_option maxRecDepth 100000
set_option maxHeartbeats 16000000
/-! _law_other_text -/
namespace Nm
open PySem PySem.Spec PyProof.Rows L2
/-- tuples stay -/
def TK (H H' : Hp) : Prop := ∀ b xs, H b = some (.tup xs) → H' b = some (.tup xs)
theorem TK.bt {H H' : Hp} {p g : Addr} (S : Pen H p g) (b : Bt p H H') : TK H H' := fun c xs e => b _ _ e fun z => by
  obtain ⟨_, _, _, SS⟩ := S
  rw [z, SS.hp] at e
  cases e
theorem TK.trans {H H1 H2 : Hp} (a : TK H H1) (b : TK H1 H2) : TK H H2 := fun c xs e => b _ _ (a _ _ e)
theorem TK.same {H H' : Hp} (s : Same H H') : TK H H' := fun c xs e => s _ _ e
theorem TK.lst {H : Hp} {q : Addr} {ys : List V} {o : HO} (h : H q = some (.lst ys)) : TK H (upd H q o) := fun c xs e => by
  rw [upd_ne (fun z => by rw [z, h] at e; cases e)]
  exact e
/-- lines so far, the ties that they tell, and their rows -/
structure OtTo (nm cl : List Str) (i : Nat) (ls : List LnV) (done : List RowV) : Prop where
  ok : ∀ l ∈ ls, l.Ok
  nmE : plN ls = nm.take i
  clE : plC ls = cl.take i
  kn : ∀ (q : Nat) (t : TieV), ls[q]? = some (.ti t) → t.x ∈ plN (ls.take q) ∧ t.y ∈ plN (ls.take q)
  pr : Paired (RowOf nm) (tiL ls) done
  len : ls.length = i + done.length
theorem OtTo.nil (nm cl : List Str) : OtTo nm cl 0 [] [] :=
  ⟨fun _ h => (List.not_mem_nil h).elim, rfl, rfl, (fun q t h => by simp at h), .nil, rfl⟩
theorem OtTo.snoc {nm cl : List Str} {i : Nat} {ls : List LnV} {done : List RowV} (h : OtTo nm cl i ls done) {l : LnV} {q : Nat} {t : TieV} (e : (ls ++ [l])[q]? = some (.ti t)) : (q < ls.length ∧ ls[q]? = some (.ti t)) ∨ (q = ls.length ∧ l = .ti t) := by
  rcases Nat.lt_or_ge q ls.length with lt | ge
  · rw [List.getElem?_append_left lt] at e
    exact .inl ⟨lt, e⟩
  · rw [List.getElem?_append_right ge] at e
    rcases Nat.eq_zero_or_pos (q - ls.length) with z | z
    · rw [z] at e
      exact .inr ⟨by omega, Option.some.inj e⟩
    · rw [List.getElem?_eq_none (by rw [List.length_singleton]; omega)] at e
      cases e
theorem take_snoc {α : Type} {l : List α} {x : α} {q : Nat} (h : q ≤ l.length) : (l ++ [x]).take q = l.take q := by
  rw [List.take_append_of_le_length h]
theorem OtTo.place {nm cl : List Str} {i : Nat} {ls : List LnV} {done : List RowV} (h : OtTo nm cl i ls done) {x c : Str} (hx : nm[i]? = some x) (hc : cl[i]? = some c) (wx : isWordB x = true) (wc : isWordB c = true) : OtTo nm cl (i + 1) (ls ++ [.pl x c]) done := by
  refine ⟨fun l hl => ?_, ?_, ?_, fun q t e => ?_, ?_, ?_⟩
  · rcases List.mem_append.mp hl with m | m
    · exact h.ok l m
    · rw [List.mem_singleton.mp m]
      exact ⟨wx, wc⟩
  · rw [plN_app, h.nmE, List.take_add_one, hx]
    rfl
  · rw [plC_app, h.clE, List.take_add_one, hc]
    rfl
  · rcases h.snoc e with ⟨lt, e⟩ | ⟨_, e⟩
    · rw [take_snoc (by omega)]
      exact h.kn q t e
    · cases e
  · rw [tiL_app]
    simp only [tiL, List.append_nil]
    exact h.pr
  · rw [List.length_append, h.len]
    show i + done.length + 1 = _
    omega
theorem OtTo.tie {nm cl : List Str} {i : Nat} {ls : List LnV} {done : List RowV} (h : OtTo nm cl i ls done) {t : TieV} {r : RowV} (o : LnV.Ok (.ti t)) (e : RowOf nm t r) (mx : t.x ∈ nm.take i) (my : t.y ∈ nm.take i) : OtTo nm cl i (ls ++ [.ti t]) (done ++ [r]) := by
  refine ⟨fun l hl => ?_, ?_, ?_, fun q t' e' => ?_, ?_, ?_⟩
  · rcases List.mem_append.mp hl with m | m
    · exact h.ok l m
    · rw [List.mem_singleton.mp m]
      exact o
  · rw [plN_app, h.nmE]
    simp only [plN, List.append_nil]
  · rw [plC_app, h.clE]
    simp only [plC, List.append_nil]
  · rcases h.snoc e' with ⟨lt, e'⟩ | ⟨eq, e'⟩
    · rw [take_snoc (by omega)]
      exact h.kn q t' e'
    · cases e'
      rw [eq, take_snoc (Nat.le_refl _), List.take_length, h.nmE]
      exact ⟨mx, my⟩
  · rw [tiL_app]
    exact paired_app h.pr (.cons e .nil)
  · rw [List.length_append, List.length_append, h.len]
    show i + done.length + 1 = i + (done.length + 1)
    omega
theorem OtTo.lines {nm cl : List Str} {ls : List LnV} {done rs : List RowV} (ok : RawOk nm cl rs) (h : OtTo nm cl nm.length ls done) (pm : done.Perm rs) (r64 : rs.length < 64) : LinesOk ls done ∧ plN ls = nm ∧ plC ls = cl := by
  have e1 : plN ls = nm := by rw [h.nmE, List.take_length]
  have e2 : plC ls = cl := by rw [h.clE, ← ok.cn, List.take_length]
  have n7 := ok.n7
  have n1 := ok.n1
  have dl := pm.length_eq
  refine ⟨⟨h.ok, by rw [h.len]; omega, by rw [e1]; exact n1, by rw [e1]; exact ok.nd, h.kn, by rw [e1]; exact h.pr, by rw [e1]; exact ok.fit.perm pm⟩, e1, e2⟩
def RAt (nm : List Str) (H : Hp) (t : Addr) (r : RowV) : Prop := ∃ x y, nm[r.i]? = some x ∧ nm[r.j]? = some y ∧ H t = some (.tup [.str x, .str y, .str r.kd, .int r.w])
theorem RAt.tk {nm : List Str} {H H' : Hp} {t : Addr} {r : RowV} (k : TK H H') (h : RAt nm H t r) : RAt nm H' t r := by
  obtain ⟨x, y, a, b, e⟩ := h
  exact ⟨x, y, a, b, k _ _ e⟩
/-- what stands in a turn -/
structure OtAt (H H2 : Hp) (p g le li kn : Addr) (nm cl : List Str) (i j : Nat) (ls : List LnV) (L done : List RowV) : Prop where
  hle : OrdAt H2 le nm L
  hli : H2 li = some (.lst ((ls.map LnV.txt).map V.str))
  hkn : H2 kn = some (.lst ((nm.take j).map V.str))
  n1 : le ≠ li
  n2 : le ≠ kn
  n3 : li ≠ kn
  l0 : H le = none
  i0 : H li = none
  k0 : H kn = none
  S : Pen H2 p g
  B : Bt p H H2
  T : OtTo nm cl i ls done
section
variable {H H2 H3 : Hp} {p g le li kn : Addr} {nm cl : List Str} {i j : Nat} {ls : List LnV} {L done : List RowV}
theorem OtAt.same (A : OtAt H H2 p g le li kn nm cl i j ls L done) (s : Same H2 H3) : OtAt H H3 p g le li kn nm cl i j ls L done :=
  ⟨ext_tie A.hle (fun _ => s _ _) (fun _ _ => s _ _), s _ _ A.hli, s _ _ A.hkn, A.n1, A.n2, A.n3, A.l0, A.i0, A.k0, A.S.same s, A.B.trans (Bt.same s), A.T⟩
theorem OtAt.bt (A : OtAt H H2 p g le li kn nm cl i j ls L done) (S0 : Pen H p g) (S3 : Pen H3 p g) (b : Bt p H2 H3) : OtAt H H3 p g le li kn nm cl i j ls L done :=
  ⟨ext_tie A.hle (fun _ e => b _ _ e (S0.ne A.l0).1) (TK.bt A.S b), b _ _ A.hli (S0.ne A.i0).1, b _ _ A.hkn (S0.ne A.k0).1, A.n1, A.n2, A.n3, A.l0, A.i0, A.k0, S3, A.B.trans b, A.T⟩
theorem OtAt.line (A : OtAt H H2 p g le li kn nm cl i j ls L done) (S0 : Pen H p g) {i' : Nat} {l : LnV} {done' : List RowV} (T' : OtTo nm cl i' (ls ++ [l]) done') :
    OtAt H (upd H2 li (.lst ((ls.map LnV.txt).map V.str ++ [V.str l.txt]))) p g le li kn nm cl i' j (ls ++ [l]) L done' :=
  ⟨ext_tie A.hle (fun _ e => by rw [upd_ne A.n1]; exact e) (TK.lst A.hli), by rw [upd_same, List.map_append, List.map_append]; rfl, by rw [upd_ne A.n3.symm]; exact A.hkn, A.n1, A.n2, A.n3, A.l0, A.i0, A.k0, A.S.upd (S0.ne A.i0).1 (S0.ne A.i0).2, A.B.off A.i0, T'⟩
end
section
variable {P : Program} {w : World} {K : PySem.W.Frag} {mg : Str → Option Value} {base : Heap}
end
end Nm
set_option autoImplicit false
set_option maxRecDepth 100000
set_option maxHeartbeats 16000000
/-! need_names of names that are there -/
namespace Nm
open PySem PySem.Spec PyProof.Rows L2
/-- a dict from names to texts -/
def tdK (ps : List (Str × Str)) : List (Key × V) := ps.map fun p => (Sum.inr p.1, V.str p.2)
theorem WebX.dict {C : Addr} {H : Hp} {we q dc r wd a : Addr} {nm cl : List Str} {rs : List RowV} {kvs : List (Key × V)} {o : HO} (X : WebX C H we q dc r wd nm cl rs) (ha : H a = some (.dK kvs)) (n : dc ≠ a) : WebX C (upd H a o) we q dc r wd nm cl rs := by
  obtain ⟨⟨dx, h1⟩, h2, h3, ⟨ts, h4, h5⟩, h6⟩ := X
  have f : ∀ {b : Addr} {z : HO}, H b = some z → z ≠ .dK kvs → b ≠ a := fun e n => ne_of e ha n
  refine ⟨⟨dx, by rw [upd_ne (f h1 (by intro z; cases z))]; exact h1⟩, by rw [upd_ne (f h2 (by intro z; cases z))]; exact h2, by rw [upd_ne n]; exact h3, ⟨ts, by rw [upd_ne (f h4 (by intro z; cases z))]; exact h4, Paired.mapP h5 fun t r ⟨x, y, e1, e2, e3⟩ => ⟨x, y, e1, e2, by rw [upd_ne (f e3 (by intro z; cases z))]; exact e3⟩⟩, by rw [upd_ne (f h6 (by intro z; cases z))]; exact h6⟩
/-- a web whose own dict of colours is not this one -/
def WebF (C : Addr) (H : Hp) (we a : Addr) (nm cl : List Str) (rs : List RowV) : Prop := ∃ q dc r wd : Addr, WebX C H we q dc r wd nm cl rs ∧ dc ≠ a
theorem WebF.same {C : Addr} {H H' : Hp} {we a : Addr} {nm cl : List Str} {rs : List RowV} (h : WebF C H we a nm cl rs) (s : Same H H') : WebF C H' we a nm cl rs := by
  obtain ⟨q, dc, r, wd, X, n⟩ := h
  exact ⟨q, dc, r, wd, X.same s, n⟩
theorem WebF.is {C : Addr} {H : Hp} {we a : Addr} {nm cl : List Str} {rs : List RowV} (h : WebF C H we a nm cl rs) : WebIs C H we nm cl rs := by
  obtain ⟨q, dc, r, wd, X, n⟩ := h
  exact ⟨q, dc, r, wd, X⟩
theorem WebIs.free {C : Addr} {H : Hp} {we a : Addr} {nm cl : List Str} {rs : List RowV} (h : WebIs C H we nm cl rs) (n : H a = none) : WebF C H we a nm cl rs := by
  obtain ⟨q, dc, r, wd, X⟩ := h
  exact ⟨q, dc, r, wd, X, fun e => by have := X.hdc; rw [e, n] at this; cases this⟩
section
variable {P : Program} {w : World} {K : PySem.W.Frag} {mg : Str → Option Value} {base : Heap}
end
end Nm
set_option autoImplicit false
set_option maxRecDepth 100000
set_option maxHeartbeats 16000000
/-! renamed, coloured -/
namespace Nm
open PySem PySem.Spec PyProof.Rows L2
/-- what a web's parts keep to, its rows in order -/
structure WbOk (nm cl : List Str) (rs : List RowV) : Prop extends RawOk nm cl rs where
  so : SortRows rs rs
theorem WbOk.of {nm cl : List Str} {rs rs' : List RowV} (ok : RawOk nm cl rs) (h : SortRows rs' rs) : WbOk nm cl rs' := ⟨ok.perm h.1, h.self⟩
/-- pairs put behind one another stand at their places -/
def PlTo (H : Hp) (D : Addr) (nm cl : List Str) (i : Nat) : Prop := ∃ ts : List Addr, H D = some (.lst (ts.map V.ref)) ∧ ts.length = i ∧ ∀ (j : Nat) (t : Addr), ts[j]? = some t → ∃ x y, nm[j]? = some x ∧ cl[j]? = some y ∧ H t = some (.tup [.str x, .str y])
theorem PlTo.nil {H : Hp} {D : Addr} {nm cl : List Str} : PlTo (upd H D (.lst [])) D nm cl 0 := ⟨[], upd_same, rfl, fun j t h => by simp at h⟩
theorem PlTo.put {H : Hp} {D t : Addr} {nm cl : List Str} {i : Nat} {x c : Str} {acc : List V} (h : PlTo H D nm cl i) (hD : H D = some (.lst acc)) (hx : nm[i]? = some x) (hc : cl[i]? = some c) (ht : H t = some (.tup [.str x, .str c])) : PlTo (upd H D (.lst (acc ++ [V.ref t]))) D nm cl (i + 1) := by
  obtain ⟨ts, h1, h2, h3⟩ := h
  rw [hD] at h1
  have e := HO.lst.inj (Option.some.inj h1)
  subst e
  refine ⟨ts ++ [t], by rw [upd_same, List.map_append]; rfl, by rw [List.length_append, h2]; rfl, fun j u hu => ?_⟩
  have k : TK H (upd H D (.lst (ts.map V.ref ++ [V.ref t]))) := TK.lst hD
  rcases Nat.lt_or_ge j ts.length with lt | ge
  · rw [List.getElem?_append_left lt] at hu
    obtain ⟨x, y, a, b, e⟩ := h3 j u hu
    exact ⟨x, y, a, b, k _ _ e⟩
  · rw [List.getElem?_append_right ge] at hu
    rcases Nat.eq_zero_or_pos (j - ts.length) with z | z
    · rw [z] at hu
      cases hu
      have e : j = i := by omega
      subst e
      exact ⟨x, c, hx, hc, k _ _ ht⟩
    · rw [List.getElem?_eq_none (by rw [List.length_singleton]; omega)] at hu
      cases hu
theorem PlTo.same {H H' : Hp} {D : Addr} {nm cl : List Str} {i : Nat} (h : PlTo H D nm cl i) (s : Same H H') : PlTo H' D nm cl i := by
  obtain ⟨ts, h1, h2, h3⟩ := h
  exact ⟨ts, s _ _ h1, h2, fun j t e => by obtain ⟨x, y, a, b, c⟩ := h3 j t e; exact ⟨x, y, a, b, s _ _ c⟩⟩
theorem PlTo.done {H : Hp} {D : Addr} {nm cl : List Str} (h : PlTo H D nm cl nm.length) : PlacesAt H D nm cl := h
/-- ties put behind one another -/
def TiTo (H : Hp) (D : Addr) (tl : List TieV) : Prop := ∃ us : List Addr, H D = some (.lst (us.map V.ref)) ∧ Paired (fun t tv => H t = some (.tup (TieV.tup tv))) us tl
theorem TiTo.nil {H : Hp} {D : Addr} : TiTo (upd H D (.lst [])) D [] := ⟨[], upd_same, .nil⟩
theorem TiTo.put {H : Hp} {D t : Addr} {tl : List TieV} {tv : TieV} {acc : List V} (h : TiTo H D tl) (hD : H D = some (.lst acc)) (ht : H t = some (.tup (TieV.tup tv))) : TiTo (upd H D (.lst (acc ++ [V.ref t]))) D (tl ++ [tv]) := by
  obtain ⟨us, h1, h2⟩ := h
  rw [hD] at h1
  have e := HO.lst.inj (Option.some.inj h1)
  subst e
  have k : TK H (upd H D (.lst (us.map V.ref ++ [V.ref t]))) := TK.lst hD
  exact ⟨us ++ [t], by rw [upd_same, List.map_append]; rfl, paired_app (Paired.mapP h2 fun a b e => k _ _ e) (.cons (k _ _ ht) .nil)⟩
theorem TiTo.same {H H' : Hp} {D : Addr} {tl : List TieV} (h : TiTo H D tl) (s : Same H H') : TiTo H' D tl := by
  obtain ⟨us, h1, h2⟩ := h
  exact ⟨us, s _ _ h1, Paired.mapP h2 fun a b e => s _ _ e⟩
theorem TiTo.done {H : Hp} {D : Addr} {tl : List TieV} (h : TiTo H D tl) : TiesAt H D tl := by
  obtain ⟨us, h1, h2⟩ := h
  exact ⟨true, us, h1, h2⟩
theorem TiesAt.same {H H' : Hp} {D : Addr} {tl : List TieV} (h : TiesAt H D tl) (s : Same H H') : TiesAt H' D tl := by
  obtain ⟨kb, us, h1, h2⟩ := h
  exact ⟨kb, us, s _ _ h1, Paired.mapP h2 fun a b e => s _ _ e⟩
/-- the ties of a web as a list of tuples that may be handed on -/
theorem OrdAt.ties {H : Hp} {r : Addr} {nm : List Str} {rs : List RowV} (h : OrdAt H r nm rs) : TiesAt H r (rs.map (tieR nm)) := by
  obtain ⟨ts, h1, h2⟩ := h
  refine ⟨true, ts, h1, ?_⟩
  clear h1
  induction h2 with
  | nil => exact .nil
  | cons e p ih =>
    obtain ⟨x, y, a, b, c⟩ := e
    refine .cons ?_ ih
    rw [c]
    unfold tieR TieV.tup
    rw [nmAt_of a, nmAt_of b]
section
variable {P : Program} {w : World} {K : PySem.W.Frag} {mg : Str → Option Value} {base : Heap}
/-! ### renamed -/
end
end Nm
set_option autoImplicit false
set_option maxRecDepth 100000
set_option maxHeartbeats 16000000
/-! coloured; places and rows within -/
namespace Nm
open PySem PySem.Spec PyProof.Rows L2
section
variable {P : Program} {w : World} {K : PySem.W.Frag} {mg : Str → Option Value} {base : Heap}
/-! ### coloured -/
end
end Nm
set_option autoImplicit false
set_option maxRecDepth 100000
set_option maxHeartbeats 16000000
/-! within -/
namespace Nm
open PySem PySem.Spec PyProof.Rows L2
theorem nd_lenW {α : Type} [DecidableEq α] : ∀ {l m : List α}, l.Nodup → (∀ x ∈ l, x ∈ m) → l.length ≤ m.length
  | [], _, _, _ => Nat.zero_le _
  | a :: l, m, nd, h => by
    rw [List.nodup_cons] at nd
    have ha := h a List.mem_cons_self
    have i := nd_lenW (l := l) (m := m.erase a) nd.2 fun x hx => (List.mem_erase_of_ne (fun e : x = a => nd.1 (by rw [← e]; exact hx))).mpr (h x (List.mem_cons_of_mem _ hx))
    rw [List.length_erase_of_mem ha] at i
    have := List.length_pos_of_mem ha
    rw [List.length_cons]
    omega
section
variable {P : Program} {w : World} {K : PySem.W.Frag} {mg : Str → Option Value} {base : Heap}
abbrev nWi : List Str := ["web", "names", "inside", "name", "places", "tie"]
end
end Nm
set_option autoImplicit false
set_option maxRecDepth 100000
set_option maxHeartbeats 16000000
/-! webs side by side: mathematics -/
namespace Nm
open PySem PySem.Spec PyProof.Rows L2
structure WbD where
  nm : List Str
  cl : List Str
  rs : List RowV
def WbD.Ok (w : WbD) : Prop := WbOk w.nm w.cl w.rs
def totB : List WbD → Nat
  | [] => 0
  | w :: ws => w.nm.length + totB ws
def clB : List WbD → List Str
  | [] => []
  | w :: ws => w.cl ++ clB ws
/-- what the k-th web's names lead to -/
def dcB (w : WbD) (o : Nat) : List (Str × Str) := w.nm.zip ((List.range w.nm.length).map fun i => pN (o + i))
theorem TiTo.ext {H : Hp} {D D2 : Addr} {tl tl2 : List TieV} {xs ys : List V} (h : TiTo H D tl) (h2 : TiTo H D2 tl2) (e1 : H D = some (.lst xs)) (e2 : H D2 = some (.lst ys)) : TiTo (upd H D (.lst (xs ++ ys))) D (tl ++ tl2) := by
  obtain ⟨us, a1, a2⟩ := h
  obtain ⟨us2, b1, b2⟩ := h2
  rw [e1] at a1
  rw [e2] at b1
  have a := HO.lst.inj (Option.some.inj a1)
  have b := HO.lst.inj (Option.some.inj b1)
  subst a b
  have k : TK H (upd H D (.lst (us.map V.ref ++ us2.map V.ref))) := TK.lst e1
  exact ⟨us ++ us2, by rw [upd_same, List.map_append], paired_app (Paired.mapP a2 fun x y e => k _ _ e) (Paired.mapP b2 fun x y e => k _ _ e)⟩
/-- the dicts so far -/
def DcTo (H : Hp) (D : Addr) (ws : List WbD) (k : Nat) : Prop := ∃ ds : List Addr, H D = some (.lst (ds.map V.ref)) ∧ ds.length = k ∧ ∀ (j : Nat) (w : WbD) (d : Addr), ws[j]? = some w → ds[j]? = some d → H d = some (.dK (tdK (dcB w (totB (ws.take j)))))
theorem DcTo.lst {H : Hp} {D q : Addr} {ws : List WbD} {k : Nat} {ys : List V} {o : HO} (h : DcTo H D ws k) (hq : H q = some (.lst ys)) (n : D ≠ q) : DcTo (upd H q o) D ws k := by
  obtain ⟨ds, h1, h2, h3⟩ := h
  exact ⟨ds, by rw [upd_ne n]; exact h1, h2, fun j w d a b => by have := h3 j w d a b; rw [upd_ne (ne_of this hq (by intro z; cases z))]; exact this⟩
theorem DcTo.same {H H' : Hp} {D : Addr} {ws : List WbD} {k : Nat} (h : DcTo H D ws k) (s : Same H H') : DcTo H' D ws k := by
  obtain ⟨ds, h1, h2, h3⟩ := h
  exact ⟨ds, s _ _ h1, h2, fun j w d a b => s _ _ (h3 j w d a b)⟩
end Nm
set_option autoImplicit false
set_option maxRecDepth 100000
set_option maxHeartbeats 4000000
/-! one web of those side by side, taken out again -/
namespace Nm
open PySem PySem.Spec PyProof.Rows L2
def blk (o n : Nat) : List Str := (List.range n).map fun i => pN (o + i)
end Nm
set_option autoImplicit false
set_option maxRecDepth 100000
set_option maxHeartbeats 16000000
/-! beside -/
namespace Nm
open PySem PySem.Spec PyProof.Rows L2
section
variable {C : Addr} {H : Hp} {R : Hp → Prop} {E : XK}
end
theorem TiTo.upd {H : Hp} {D q : Addr} {tl : List TieV} {z o : HO} (h : TiTo H D tl) (hq : H q = some z) (n1 : D ≠ q) (n2 : ∀ xs, z ≠ .tup xs) : TiTo (upd H q o) D tl := by
  obtain ⟨us, h1, h2⟩ := h
  exact ⟨us, by rw [upd_ne n1]; exact h1, Paired.mapP h2 fun a b e => by rw [upd_ne (ne_of e hq (n2 _).symm)]; exact e⟩
theorem PlTo.upd {H : Hp} {D q : Addr} {nm cl : List Str} {i : Nat} {z o : HO} (h : PlTo H D nm cl i) (hq : H q = some z) (n1 : D ≠ q) (n2 : ∀ xs, z ≠ .tup xs) : PlTo (upd H q o) D nm cl i := by
  obtain ⟨ts, h1, h2, h3⟩ := h
  exact ⟨ts, by rw [upd_ne n1]; exact h1, h2, fun j t e => by obtain ⟨x, y, a, b, c⟩ := h3 j t e; exact ⟨x, y, a, b, by rw [upd_ne (ne_of c hq (n2 _).symm)]; exact c⟩⟩
def DcAt (H : Hp) (D : Addr) (ds : List Addr) (ws : List WbD) (k : Nat) : Prop := H D = some (.lst (ds.map V.ref)) ∧ ds.length = k ∧ ∀ (j : Nat) (w : WbD) (d : Addr), ws[j]? = some w → ds[j]? = some d → H d = some (.dK (tdK (dcB w (totB (ws.take j)))))
theorem DcAt.same {H H' : Hp} {D : Addr} {ds : List Addr} {ws : List WbD} {k : Nat} (h : DcAt H D ds ws k) (s : Same H H') : DcAt H' D ds ws k :=
  ⟨s _ _ h.1, h.2.1, fun j w d a b => s _ _ (h.2.2 j w d a b)⟩
theorem DcAt.upd {H : Hp} {D q : Addr} {ds : List Addr} {ws : List WbD} {k : Nat} {o : HO} (h : DcAt H D ds ws k) (n1 : D ≠ q) (n2 : q ∉ ds) : DcAt (upd H q o) D ds ws k :=
  ⟨by rw [upd_ne n1]; exact h.1, h.2.1, fun j w d a b => by rw [upd_ne (fun e => n2 (by rw [← e]; exact List.mem_of_getElem? b))]; exact h.2.2 j w d a b⟩
/-- webs stand in a list -/
def WebsIn (C : Addr) (H : Hp) (as : List Addr) (ws : List WbD) : Prop := Paired (fun a (w : WbD) => WebIs C H a w.nm w.cl w.rs) as ws
theorem WebsIn.same {C : Addr} {H H' : Hp} {as : List Addr} {ws : List WbD} (h : WebsIn C H as ws) (s : Same H H') : WebsIn C H' as ws := Paired.mapP h fun a w e => WebIs.same e s
section
variable {P : Program} {w : World} {K : PySem.W.Frag} {mg : Str → Option Value} {base : Heap}
end
end Nm
set_option autoImplicit true
set_option maxRecDepth 100000
set_option maxHeartbeats 8000000
/-! len(o) by an own __len__ -/
namespace Nm
open PySem PySem.Spec PyProof.Rows L2
section
variable {X : Cx}
/-- len(o), o an instance whose class has its own __len__ -/
def rLenOwn (C : Addr) (sp : Sp) (E : XK) : List V → Hp → VK → Prop := fun xs H Q => ∃ (a dx : Addr) (fs : List (Str × V)), xs = [.ref a] ∧ H a = some (.ins C dx fs) ∧ sp [.ref a] H (fun v H1 => ∃ n : Nat, v = .int n ∧ n ≤ 1000000 ∧ Q (.int n) H1) E
theorem call_lenOwn {k : Nat} {f C : Addr} {fd : FuncData} {ps : List Str} {sp : Sp} {CX : CXT} {E : XK} (F : FnOk X.prog X.w X.K X.mg X.base CX k f fd ps sp) (M : Meth X.K C "__len__" f) (hr : Room (k + 1) X.A) (hb : Binds X.K fd ps []) (hx : Passes CX X E) :
    CallR X (.builtin "len") (rLenOwn C sp E) := by
  intro pins s σ H xs us Q I r h
  obtain ⟨a, dx, fs, rfl, ha, h⟩ := h
  obtain ⟨u, rfl, ru⟩ := vals1 r
  obtain rfl : u = Value.ref a := ru
  obtain ⟨mA, O, _⟩ := ins_get I.hok ha
  obtain ⟨od, J, _⟩ := O.look
  obtain ⟨m, fr⟩ := I.fr
  refine PySem.W.len_K fr I.ok.mod.kin J M.at_ M.fn ?_
  have hl : ([Value.ref a] : List Value).length = ps.length := by rw [← r.length]; exact F.len _ _ _ _ h
  have b := hb s [.ref a] I.kIn (by rw [List.append_nil]; exact hl)
  rw [List.append_nil] at b
  refine wpAny_call (codeAny_mono (F.run X.A.in1 X.stack s H ⟨[.ref a], []⟩ [.ref a] [.ref a] _ E hr.in1 I.env0.in1 b r h) fun r s' hq => ?_)
  cases r with
  | error e => exact hx pins σ H s e s' I hq
  | ok fl =>
    cases fl with
    | ret u =>
      obtain ⟨v, H', I', rv, n, rfl, hn, q⟩ := I.after hq
      obtain ⟨t, rfl⟩ := (show ∃ t, u = Value.int (n : Int) t from rv)
      exact ⟨⟨by omega, by omega⟩, .int n, H', I'.tok _, ⟨_, rfl⟩, q⟩
    | next => exact False.elim hq
    | brk => exact False.elim hq
    | cont => exact False.elim hq
end
end Nm
set_option autoImplicit false
set_option maxRecDepth 100000
set_option maxHeartbeats 16000000
/-! copies -/
namespace Nm
open PySem PySem.Spec PyProof.Rows L2
section
variable {P : Program} {w : World} {K : PySem.W.Frag} {mg : Str → Option Value} {base : Heap}
end
end Nm
set_option autoImplicit true
set_option autoImplicit true
set_option maxRecDepth 100000
set_option maxHeartbeats 4000000
/-! reached_from, places told by their names -/
namespace Nm
open PySem L2
abbrev strN (nm : List Str) (ks : List Nat) : List V := ks.map fun (k : Nat) => V.str (nmAt nm k)
/-- names and the lists of their neighbours -/
def nearK (nm : List Str) (as : List Addr) : List (Key × V) := (nm.zip as).map fun p => (Sum.inr p.1, V.ref p.2)
section
variable {P : Program} {w : World} {K : PySem.W.Frag} {mg : Str → Option Value} {base : Heap}
end
end Nm
set_option autoImplicit false
set_option maxRecDepth 100000
set_option maxHeartbeats 4000000
/-! d.update(e), two dicts by ints or texts -/
namespace Nm
open PySem PySem.Spec PyProof.Rows L2
section
variable {X : Cx}
end
end Nm
set_option autoImplicit false
set_option maxRecDepth 100000
set_option maxHeartbeats 16000000
/-! components -/
namespace Nm
open PySem PySem.Spec PyProof.Rows L2
/-- the neighbours of a place, as its ties come -/
def nbL (rs : List RowV) (i : Nat) : List Nat := rs.flatMap fun r => (if r.i = i then [r.j] else []) ++ (if r.j = i then [r.i] else [])
theorem nbL_mem {rs : List RowV} {x y : Nat} : y ∈ nbL rs x ↔ ∃ r ∈ rs, (r.i = x ∧ r.j = y) ∨ (r.j = x ∧ r.i = y) := by
  unfold nbL
  rw [List.mem_flatMap]
  constructor
  · rintro ⟨r, hr, h⟩
    refine ⟨r, hr, ?_⟩
    rcases List.mem_append.mp h with m | m
    · by_cases c : r.i = x
      · rw [if_pos c, List.mem_singleton] at m
        exact .inl ⟨c, m.symm⟩
      · rw [if_neg c] at m
        exact (List.not_mem_nil m).elim
    · by_cases c : r.j = x
      · rw [if_pos c, List.mem_singleton] at m
        exact .inr ⟨c, m.symm⟩
      · rw [if_neg c] at m
        exact (List.not_mem_nil m).elim
  · rintro ⟨r, hr, h⟩
    refine ⟨r, hr, ?_⟩
    rcases h with ⟨a, b⟩ | ⟨a, b⟩
    · rw [if_pos a, b]
      exact List.mem_append_left _ List.mem_cons_self
    · rw [if_pos a, b]
      exact List.mem_append_right _ List.mem_cons_self
/-- one component -/
structure Cp (n : Nat) (rs : List RowV) (p : List Nat) : Prop where
  ne : p ≠ []
  asc : p.Pairwise (· < ·)
  lt : ∀ x ∈ p, x < n
  cls : ∀ r ∈ rs, r.i ∈ p ↔ r.j ∈ p
  conn : ∀ x ∈ p, ∀ S : Nat → Prop, S x → (∀ r ∈ rs, S r.i ↔ S r.j) → ∀ y ∈ p, S y
/-- the components -/
structure Cps (n : Nat) (rs : List RowV) (pts : List (List Nat)) : Prop where
  each : ∀ p ∈ pts, Cp n rs p
  all : ∀ x < n, ∃ p ∈ pts, x ∈ p
  dis : pts.Pairwise fun p q => ∀ x ∈ p, x ∉ q
structure CpTo (n : Nat) (rs : List RowV) (pts : List (List Nat)) (pk : List Nat) : Prop where
  un : ∀ x, x ∈ pk ↔ ∃ p ∈ pts, x ∈ p
  each : ∀ p ∈ pts, Cp n rs p
  dis : pts.Pairwise fun p q => ∀ x ∈ p, x ∉ q
  nd : pk.Nodup
  lt : ∀ x ∈ pk, x < n
def nbs (n : Nat) (rs : List RowV) : List (List Nat) := (List.range n).map (nbL rs)
theorem nbs_at {n : Nat} {rs : List RowV} {x : Nat} (h : x < n) : (nbs n rs)[x]? = some (nbL rs x) := by
  unfold nbs
  rw [List.getElem?_map, List.getElem?_range h]
  rfl
theorem CpTo.nil (n : Nat) (rs : List RowV) : CpTo n rs [] [] :=
  ⟨fun x => ⟨fun h => (List.not_mem_nil h).elim, fun ⟨_, h, _⟩ => (List.not_mem_nil h).elim⟩, fun _ h => (List.not_mem_nil h).elim, List.Pairwise.nil, List.nodup_nil, fun _ h => (List.not_mem_nil h).elim⟩
theorem found_lt {n : Nat} {rs : List RowV} {s : Nat} {ks : List Nat} (f : Found (nbs n rs) s ks) : ∀ x ∈ ks, x < n := fun x hx => by
  have := f.lt x hx
  unfold nbs at this
  rwa [List.length_map, List.length_range] at this
theorem found_cp {n : Nat} {rs : List RowV} {s : Nat} {ks : List Nat} (lt : ∀ r ∈ rs, r.i < r.j ∧ r.j < n) (f : Found (nbs n rs) s ks) : Cp n rs ((List.range n).filter fun x => decide (x ∈ ks)) := by
  have fl := found_lt f
  have mem : ∀ x, x ∈ (List.range n).filter (fun x => decide (x ∈ ks)) ↔ x ∈ ks := fun x => by
    rw [List.mem_filter, decide_eq_true_eq, List.mem_range]
    exact ⟨fun h => h.2, fun h => ⟨fl x h, h⟩⟩
  have eqS : ∀ S : Nat → Prop, (∀ r ∈ rs, S r.i ↔ S r.j) → ∀ k ∈ ks, (S k ↔ S s) := fun S hS => f.least (fun z => S z ↔ S s) Iff.rfl fun x l hx hl y hy => by
    have xn := (List.getElem?_eq_some_iff.mp hl).1
    unfold nbs at xn
    rw [List.length_map, List.length_range] at xn
    rw [nbs_at xn] at hl
    cases hl
    obtain ⟨r, hr, h⟩ := nbL_mem.mp hy
    rcases h with ⟨a, b⟩ | ⟨a, b⟩
    · rw [← b, ← hS r hr, a]
      exact hx
    · rw [← b, hS r hr, a]
      exact hx
  refine ⟨fun e => ?_, List.Pairwise.filter _ List.pairwise_lt_range, fun x hx => List.mem_range.mp (List.mem_filter.mp hx).1, fun r hr => ?_, fun x hx S h0 hS y hy => ?_⟩
  · have := (mem s).mpr f.start
    rw [e] at this
    exact List.not_mem_nil this
  · rw [mem, mem]
    have l := lt r hr
    exact ⟨fun h => f.closed _ h _ (nbs_at (by omega)) _ (nbL_mem.mpr ⟨r, hr, .inl ⟨rfl, rfl⟩⟩), fun h => f.closed _ h _ (nbs_at l.2) _ (nbL_mem.mpr ⟨r, hr, .inr ⟨rfl, rfl⟩⟩)⟩
  · exact (eqS S hS y ((mem y).mp hy)).mpr ((eqS S hS x ((mem x).mp hx)).mp h0)
theorem CpTo.put {n : Nat} {rs : List RowV} {pts : List (List Nat)} {pk : List Nat} {s : Nat} {ks : List Nat} (h : CpTo n rs pts pk) (lt : ∀ r ∈ rs, r.i < r.j ∧ r.j < n) (f : Found (nbs n rs) s ks) (ns : s ∉ pk) :
    (∀ x ∈ ks, x ∉ pk) ∧ CpTo n rs (pts ++ [(List.range n).filter fun x => decide (x ∈ ks)]) (pk ++ ks) := by
  have fl := found_lt f
  have dj : ∀ x ∈ ks, x ∉ pk := f.least (fun z => z ∉ pk) ns fun x l hx hl y hy m => by
    have xn := (List.getElem?_eq_some_iff.mp hl).1
    unfold nbs at xn
    rw [List.length_map, List.length_range] at xn
    rw [nbs_at xn] at hl
    cases hl
    obtain ⟨p, hp, yp⟩ := (h.un y).mp m
    obtain ⟨r, hr, e⟩ := nbL_mem.mp hy
    refine hx ((h.un x).mpr ⟨p, hp, ?_⟩)
    rcases e with ⟨a, b⟩ | ⟨a, b⟩
    · rw [← a, (h.each p hp).cls r hr, b]
      exact yp
    · rw [← a, ← (h.each p hp).cls r hr, b]
      exact yp
  have mem : ∀ x, x ∈ (List.range n).filter (fun x => decide (x ∈ ks)) ↔ x ∈ ks := fun x => by
    rw [List.mem_filter, decide_eq_true_eq, List.mem_range]
    exact ⟨fun h => h.2, fun h => ⟨fl x h, h⟩⟩
  refine ⟨dj, fun x => ?_, fun p hp => ?_, ?_, ?_, fun x hx => ?_⟩
  · rw [List.mem_append, h.un]
    constructor
    · rintro (⟨p, hp, m⟩ | m)
      · exact ⟨p, List.mem_append_left _ hp, m⟩
      · exact ⟨_, List.mem_append_right _ List.mem_cons_self, (mem x).mpr m⟩
    · rintro ⟨p, hp, m⟩
      rcases List.mem_append.mp hp with hp | hp
      · exact .inl ⟨p, hp, m⟩
      · rw [List.mem_singleton.mp hp] at m
        exact .inr ((mem x).mp m)
  · rcases List.mem_append.mp hp with hp | hp
    · exact h.each p hp
    · rw [List.mem_singleton.mp hp]
      exact found_cp lt f
  · rw [List.pairwise_append]
    refine ⟨h.dis, List.pairwise_singleton _ _, fun a ha b hb x hx => ?_⟩
    rw [List.mem_singleton.mp hb, mem]
    exact fun m => dj x m ((h.un x).mpr ⟨a, ha, hx⟩)
  · rw [List.nodup_append]
    exact ⟨h.nd, f.nd, fun a ha b hb e => dj b hb (by rw [← e]; exact ha)⟩
  · rcases List.mem_append.mp hx with m | m
    · exact h.lt x m
    · exact fl x m
/-- lists of neighbours while they are filled -/
def NearF (H : Hp) (a : Addr) (nm : List Str) (as : List Addr) (g : Nat → List Nat) : Prop := H a = some (.dK (nearK nm as)) ∧ as.length = nm.length ∧ as.Nodup ∧ ∀ (k : Nat) (p : Addr), as[k]? = some p → H p = some (.lst (strN nm (g k)))
theorem NearF.put {H : Hp} {a p : Addr} {nm : List Str} {as : List Addr} {g g' : Nat → List Nat} {k y : Nat} (h : NearF H a nm as g) (e : as[k]? = some p) (e1 : g' k = g k ++ [y]) (e2 : ∀ j, j ≠ k → g' j = g j) : NearF (upd H p (.lst (strN nm (g k) ++ [V.str (nmAt nm y)]))) a nm as g' := by
  obtain ⟨h1, h2, h3, h4⟩ := h
  have hp := h4 k p e
  refine ⟨by rw [upd_ne (ne_of h1 hp (by intro z; cases z))]; exact h1, h2, h3, fun j q hq => ?_⟩
  by_cases c : j = k
  · subst c
    rw [e] at hq
    cases hq
    rw [upd_same, e1]
    show some (HO.lst _) = some (HO.lst (List.map _ (g j ++ [y])))
    rw [List.map_append]
    rfl
  · have nq : q ≠ p := fun z => by
      subst z
      have l1 := (List.getElem?_eq_some_iff.mp hq).1
      have l2 := (List.getElem?_eq_some_iff.mp e).1
      exact c ((List.getElem?_inj l1 h3).mp (hq.trans e.symm))
    rw [upd_ne nq, e2 j c]
    exact h4 j q hq
end Nm
set_option autoImplicit false
set_option maxRecDepth 100000
set_option maxHeartbeats 4000000
/-! how many components -/
namespace Nm
open PySem PySem.Spec PyProof.Rows L2
theorem asc_extV : ∀ {p q : List Nat}, p.Pairwise (· < ·) → q.Pairwise (· < ·) → (∀ x, x ∈ p ↔ x ∈ q) → p = q
  | [], [], _, _, _ => rfl
  | [], b :: q, _, _, h => absurd ((h b).mpr List.mem_cons_self) List.not_mem_nil
  | a :: p, [], _, _, h => absurd ((h a).mp List.mem_cons_self) List.not_mem_nil
  | a :: p, b :: q, hp, hq, h => by
    have hp' := List.pairwise_cons.mp hp
    have hq' := List.pairwise_cons.mp hq
    have e : a = b := by
      rcases List.mem_cons.mp ((h a).mp List.mem_cons_self) with e | m
      · exact e
      · rcases List.mem_cons.mp ((h b).mpr List.mem_cons_self) with e | m2
        · exact e.symm
        · have := hq'.1 a m
          have := hp'.1 b m2
          omega
    subst e
    rw [asc_extV hp'.2 hq'.2 fun x => ⟨fun m => ?_, fun m => ?_⟩]
    · rcases List.mem_cons.mp ((h x).mp (List.mem_cons_of_mem _ m)) with e | m2
      · have := hp'.1 x m
        omega
      · exact m2
    · rcases List.mem_cons.mp ((h x).mpr (List.mem_cons_of_mem _ m)) with e | m2
      · have := hq'.1 x m
        omega
      · exact m2
theorem Cps.sub {n : Nat} {rs : List RowV} {pts pts' : List (List Nat)} (h : Cps n rs pts) (h' : Cps n rs pts') : ∀ p ∈ pts, p ∈ pts' := fun p hp => by
  have c := h.each p hp
  obtain ⟨x, hx⟩ := List.exists_mem_of_ne_nil p c.ne
  obtain ⟨p', hp', hx'⟩ := h'.all x (c.lt x hx)
  have c' := h'.each p' hp'
  have e : p = p' := asc_extV c.asc c'.asc fun y => ⟨fun m => c.conn x hx (· ∈ p') hx' c'.cls y m, fun m => c'.conn x hx' (· ∈ p) hx c.cls y m⟩
  rw [e]
  exact hp'
theorem Cps.nd {n : Nat} {rs : List RowV} {pts : List (List Nat)} (h : Cps n rs pts) : pts.Nodup := by
  rw [List.nodup_iff_pairwise_ne]
  refine h.dis.imp_of_mem fun {a b} ha _ d e => ?_
  obtain ⟨x, hx⟩ := List.exists_mem_of_ne_nil a (h.each a ha).ne
  exact d x hx (by rw [← e]; exact hx)
theorem Cps.len {n : Nat} {rs : List RowV} {pts pts' : List (List Nat)} (h : Cps n rs pts) (h' : Cps n rs pts') : pts.length = pts'.length :=
  Nat.le_antisymm (nd_lenW h.nd (h.sub h')) (nd_lenW h'.nd (h'.sub h))
end Nm
set_option autoImplicit false
set_option maxRecDepth 100000
set_option maxHeartbeats 4000000
/-! list(e.values()) -/
namespace Nm
open PySem PySem.Spec PyProof.Rows L2
def rValsL : V → Hp → VK → Prop := fun x H Q => ∃ (d : Addr) (kvs : List (Key × V)), x = .ref d ∧ H d = some (.dK kvs) ∧ ∀ p, H p = none → Q (.ref p) (upd H p (.lst (kvs.map (·.2))))
def tListVals (te : TE) : TE := fun σ H Q => te σ H fun x H1 => rValsL x H1 Q
theorem kv_vals : ∀ {kvs : List (Key × V)} {vs : List (Key × Value)}, KV kvs vs → Vals (kvs.map (·.2)) (vs.map (·.2))
  | _, _, .nil => .nil
  | _, _, .cons r t => .cons r.2 (kv_vals t)
section
variable {X : Cx} {e : Expr} {te : TE} {p apos cpos pos : Pos}
theorem pe_listVals (calm : X.calm = true) (he : PE X e te) (hg : Gl X "list") (hm : X.mg "list" = none) (hv : bootBuiltins "list" = some (.type "list")) (b1 : attributeBase e "values" X.env (eval e X.env) = eval e X.env := by rfl) (b2 : (apos.endLine == cpos.line) = true := by rfl)
    (b3 : starEach [.Call (.Attribute e "values" apos) [] [] cpos] X.env = (false, eval (.Call (.Attribute e "values" apos) [] [] cpos) X.env) :: starEach [] X.env := by rfl) :
    PE X (.Call (.Name "list" p) [.Call (.Attribute e "values" apos) [] [] cpos] [] pos) (tListVals te) := by
  refine ⟨fun pins s σ H Q I hq => wpAny_Call_Name_kw (ld_blt I hg hm hv (PyProof.Rows.callWith_type1 ?_ b3 rfl))⟩
  rw [b3]
  show wpAny _ _ (spliced ((false, eval (.Call (.Attribute e "values" apos) [] [] cpos) X.env) :: backTo pos (starEach [] X.env))) _ _ s
  refine Calls.spliced_cons (wpAny_Call_method (T := "dict") (id := "dict.values") b1 rfl b2 F.plainAttrs_dict F.slot_dict_values F.type_dict_values (thn (he.run pins s σ H _ I hq) fun u sa ⟨x, Ha, Ia, rx, d, kvs, ex, hd, q⟩ => ?_))
  subst ex
  obtain rfl : u = Value.ref d := rx
  obtain ⟨hz, nosys, vs, kv, dd⟩ := Ia.hok d _ hd
  obtain ⟨ep, at_⟩ := dd.dictAt
  have lk : kvs.length = vs.length := Paired.length kv
  have Ib : Inv X pins σ Ha { sa with heap := sa.heap.push { cls := .type "dict_values", data := .fields #[.ref d] } } := Ia.kept (t' := sa.toks) fun b ob q => Heap.get?_push_of_some _ q
  refine ⟨dd.typeIs, dd.mapOf.noDict, ?_⟩
  show wpAny _ _ (callWith cpos (.builtin "dict.values") [.ref d] [] []) _ X.xe sa
  refine method_meetsIn F.slot_dict_values F.entry_dict_values rfl (PySem.evalArgs_none ⟨rfl, dd.typeIs, F.args_dict_values_1 _, _, meets_dict_values (mixKind X.prog X.w) d nosys, ⟨vs, dd⟩, Calls.spliced_nil ?_⟩)
  refine PySem.W.kdl_call (PySem.W.kdl_values (knd := mixKind X.prog X.w) (kvs := vs) (ep := ep) (d := d)) (Ia.ok.hd calm) ⟨⟨_, Heap.get?_push_size _ rfl, rfl, rfl⟩, at_.push _⟩ (by omega) fun h' tk acc c kept here items => ?_
  have el : acc.toList = vs.map (·.2) := by
    refine List.ext_getElem? fun j => ?_
    rw [Array.getElem?_toList, List.getElem?_map]
    rcases Nat.lt_or_ge j vs.length with lt | ge
    · obtain ⟨v, hv⟩ : ∃ v, acc[j]? = some v := ⟨_, Array.getElem?_eq_getElem (by rw [items.1]; exact lt)⟩
      obtain ⟨k, hk⟩ := items.2 j v hv
      rw [hv, hk]
      rfl
    · rw [Array.getElem?_eq_none (by rw [items.1]; exact ge), List.getElem?_eq_none ge]
      rfl
  refine ⟨.ref _, upd Ha _ (.lst (kvs.map (·.2))), Ib.laid (t' := tk) kept (Nat.le_refl _) ⟨by rw [List.length_map]; exact hz, acc.toList, c, by rw [el]; exact kv_vals kv, by rw [Array.toArray_toList]; exact here⟩, rfl, q _ (Ib.hok.fresh (Nat.le_refl _))⟩
end
end Nm
set_option autoImplicit false
set_option maxRecDepth 100000
set_option maxHeartbeats 8000000
/-! Web.colours, apart from rounds/Q4 -/
namespace Nm
open PySem PySem.Spec PyProof.Rows L2
theorem colK_valsN {nm cl : List Str} (h : cl.length ≤ nm.length) : (colK nm cl).map (·.2) = cl.map V.str := by
  unfold colK
  rw [List.map_map]
  have : cl = (nm.zip cl).map (·.2) := by rw [List.map_snd_zip h]
  conv => rhs; rw [this, List.map_map]
  rfl
section
variable {P : Program} {w : World} {K : PySem.W.Frag} {mg : Str → Option Value} {base : Heap}
def spColN (C : Addr) : Sp := fun vs H Q _ => ∃ (p : Addr) (nm cl : List Str) (rs : List RowV), vs = [.ref p] ∧ WebIs C H p nm cl rs ∧ cl.length = nm.length ∧ cl.length ≤ 1000 ∧
  ∀ (l : Addr) (zs : List Str) (H' : Hp), H l = none → H' l = some (.lst (zs.map V.str)) → (∀ z, z ∈ zs ↔ z ∈ cl) → zs.Nodup → zs.length ≤ cl.length → sortedS zs = true → Same H H' → Q (.ref l) H'
theorem scCsN : FnScope ["self"] ["self"] (defScope sWebColours) := ⟨rfl, rfl, rfl, by decide +kernel, rfl, by decide +kernel, by decide +kernel⟩
theorem ok_coloursN {f C : Addr} {fd : FuncData} (F : Fun K "colours" "Web.colours" sWebColours f fd) (T : TxtW K mg C) : FnOk P w K mg base CX0 1 f fd ["self"] (spColN C) := by
  refine F.ok scCsN (fun vs H Q E h => ?_) (fun cdv A outer s H vs Q E hr h => ?_)
  · obtain ⟨_, _, _, _, rfl, _⟩ := h
    rfl
  · obtain ⟨p, nm, cl, rs, rfl, ⟨q, dc, r, wd, W⟩, lc, few, k⟩ := h
    obtain ⟨dx, hp⟩ := W.hp
    refine ⟨_, pss_one (ps_ret (pe_callB (cr_sortT rfl) (by rfl) T.sorted (by decide +kernel) (pa_cons (pe_callTy (cr_setT rfl) (by rfl) T.set (by decide +kernel) (pa_cons (pe_listVals rfl (pe_fld (pv 0) rfl) (by rfl) T.list (by decide +kernel)) pa_nil)) pa_nil))), ?_⟩
    refine ⟨_, rfl, p, C, dx, _, _, rfl, hp, T.cl, T.nCo, rfl, ?_⟩
    refine ⟨dc, _, rfl, W.hdc, fun l hl => ?_⟩
    rw [colK_valsN (by omega)]
    have sl := same_new (o := .lst (cl.map V.str)) hl
    have hl1 : (upd H l (.lst (cl.map V.str))) l = some (.lst (cl.map V.str)) := upd_same
    generalize upd H l (.lst (cl.map V.str)) = Ha at *
    refine ⟨l, cl, rfl, SqL.of hl1, by omega, fun S hS => ?_⟩
    have sS := same_new (o := SetTO P w S (dedT cl)) hS
    have dl : (dedT cl).length ≤ cl.length := by
      have := dedT_len cl cl.length (Nat.le_refl _)
      rwa [List.take_length] at this
    have dm : ∀ z, z ∈ dedT cl ↔ z ∈ cl := fun z => by
      have := dedT_mem cl z cl.length (Nat.le_refl _)
      rwa [List.take_length] at this
    have dn : (dedT cl).Nodup := by
      have := dedT_ndR cl cl.length (Nat.le_refl _)
      rwa [List.take_length] at this
    refine ⟨S, dedT cl, rfl, upd_same, by omega, fun zs p2 pm so hp2 => ?_⟩
    exact k p2 zs _ ((sl.trans sS).free hp2) upd_same (fun z => by rw [pm.mem_iff]; exact dm z) (pm.nodup_iff.mpr dn) (by rw [pm.length_eq]; exact dl) so ((sl.trans sS).trans (same_new hp2))
end
end Nm
set_option autoImplicit false
set_option maxRecDepth 100000
set_option maxHeartbeats 16000000
/-! what the laws of the first stage have in common (the same lemmas stand in L06 of k06: not both) -/
namespace Nm
open PySem PySem.Spec PyProof.Rows L2
variable {K : PySem.W.Frag}
theorem SortRows.to {a b c : List RowV} (h : SortRows a b) (p : b.Perm c) : SortRows a c := ⟨h.1.trans p, h.2⟩
theorem sqL_sameR {H H' : Hp} {a : Addr} {xs : List V} (h : SqL K H a xs) (s : Same H H') : SqL K H' a xs := by
  rcases h with (h | ⟨o, h⟩) | h
  · exact .inl (.inl (s _ _ h))
  · exact .inl (.inr ⟨o, s _ _ h⟩)
  · exact .inr h
theorem WebIs.bt {C : Addr} {H H' : Hp} {we p g : Addr} {nm cl : List Str} {rs : List RowV} (n1 : 1 ≤ nm.length) (h : WebIs C H we nm cl rs) (S : Pen H p g) (b : Bt p H H') : WebIs C H' we nm cl rs := by
  obtain ⟨q, dc, r, wd, X⟩ := h
  obtain ⟨ns, seat, left, SS⟩ := id S
  have nw : ∀ {a : Addr} {o : HO}, H a = some o → True := fun _ => trivial
  obtain ⟨⟨dx, h1⟩, h2, h3, h4, h5⟩ := X
  have f : ∀ {a : Addr} {o : HO}, H a = some o → (∀ xs, o ≠ .lst xs) → a ≠ p := fun e z => ne_of e SS.hp (z _)
  have hqp : q ≠ p := fun e => by
    rw [e, SS.hp] at h2
    match nm, n1, h2 with
    | x :: r, _, h2 => cases (List.cons.inj (HO.lst.inj (Option.some.inj h2))).1
  have hrp : r ≠ p := fun e => by
    obtain ⟨ts, t1, _⟩ := h4
    rw [e, SS.hp] at t1
    have t1 := HO.lst.inj (Option.some.inj t1)
    match ts, t1 with
    | a :: c :: r, t1 => cases (List.cons.inj (List.cons.inj t1).2).1
  exact ⟨q, dc, r, wd, ⟨dx, b _ _ h1 (f h1 fun xs z => by cases z)⟩, b _ _ h2 hqp, b _ _ h3 (f h3 fun xs z => by cases z), ext_tie h4 (fun _ e => b _ _ e hrp) (fun _ _ e => b _ _ e (f e fun xs z => by cases z)), b _ _ h5 (f h5 fun xs z => by cases z)⟩
/-- a web apart from the raw web's own list -/
def WebN (C : Addr) (H : Hp) (we R : Addr) (nm cl : List Str) (rs : List RowV) : Prop := ∃ q dc r wd : Addr, WebX C H we q dc r wd nm cl rs ∧ we ≠ R ∧ q ≠ R ∧ dc ≠ R ∧ r ≠ R ∧ wd ≠ R
theorem NewW.apart {C : Addr} {H H' : Hp} {we R : Addr} {nm cl : List Str} {rs : List RowV} {o : HO} (N : NewW C H H' we nm cl rs) (h : H R = some o) : WebN C H' we R nm cl rs := by
  obtain ⟨q, dc, r, wd, X, n1, n2, n3, n4, n5⟩ := N.ex
  have f : ∀ {a : Addr}, H a = none → a ≠ R := fun n e => by rw [e, h] at n; cases n
  exact ⟨q, dc, r, wd, X, f n1, f n2, f n3, f n4, f n5⟩
theorem WebN.same {C : Addr} {H H' : Hp} {we R : Addr} {nm cl : List Str} {rs : List RowV} (h : WebN C H we R nm cl rs) (s : Same H H') : WebN C H' we R nm cl rs := by
  obtain ⟨q, dc, r, wd, X, n⟩ := h
  exact ⟨q, dc, r, wd, X.same s, n⟩
theorem WebN.is {C : Addr} {H : Hp} {we R : Addr} {nm cl : List Str} {rs : List RowV} (h : WebN C H we R nm cl rs) : WebIs C H we nm cl rs := by
  obtain ⟨q, dc, r, wd, X, _⟩ := h
  exact ⟨q, dc, r, wd, X⟩
end Nm
set_option autoImplicit false
set_option maxRecDepth 100000
set_option maxHeartbeats 16000000
/-! what is carried along over lambdas (never with k81's CR1) -/
namespace Nm
open PySem PySem.Spec PyProof.Rows L2 LamX
section
variable {P : Program} {w : World} {K : PySem.W.Frag} {mg : Str → Option Value} {base : Heap}
end
theorem lf_noref {vs : List V} {ds : List PyData} (h : Lfs vs ds) {a : Addr} : V.ref a ∉ vs := fun hm => by
  obtain ⟨d, hd⟩ := h.at _ hm
  cases hd
/-- an odd value is not the pen -/
theorem OdV.nep {H : Hp} {p g : Addr} {v : V} {d : PyData} (h : OdV H v d) (S : Pen H p g) : v ≠ .ref p := by
  obtain ⟨ns, seat, left, S⟩ := S
  have hp := S.hp
  intro e
  subst e
  cases h with
  | lf l => cases l
  | lst e l n =>
    rw [hp] at e
    cases e
    exact lf_noref l List.mem_cons_self
  | tup e l n => rw [hp] at e; cases e
  | dc0 e => rw [hp] at e; cases e
  | dc1 e hz l => rw [hp] at e; cases e
theorem OdV.bt {H H' : Hp} {p g : Addr} {v : V} {d : PyData} (h : OdV H v d) (S : Pen H p g) (b : Bt p H H') : OdV H' v d :=
  h.stay fun a o e ha _ => b _ _ ha fun z => h.nep S (by rw [e, z])
theorem tabs_bt {T : List (Addr × Str)} {H H' : Hp} {p g : Addr} (S : Pen H p g) (b : Bt p H H') (t : Tabs T H) : Tabs T H' := fun q hq => by
  obtain ⟨ps, h1, h2, h3⟩ := t q hq
  obtain ⟨ns, seat, left, S⟩ := S
  have hp := S.hp
  have n1 : q.1 ≠ p := fun e => by rw [e, hp] at h1; cases h1
  refine ⟨ps, b _ _ h1 n1, h2, fun pos cv e => ?_⟩
  obtain ⟨c, e1, e2⟩ := h3 pos cv e
  exact ⟨c, e1, b _ _ e2 fun z => by rw [z, hp] at e2; cases e2⟩
theorem tabs_same {T : List (Addr × Str)} {H H' : Hp} (s : Same H H') (t : Tabs T H) : Tabs T H' := fun q hq => by
  obtain ⟨ps, h1, h2, h3⟩ := t q hq
  refine ⟨ps, s _ _ h1, h2, fun pos cv e => ?_⟩
  obtain ⟨c, e1, e2⟩ := h3 pos cv e
  exact ⟨c, e1, s _ _ e2⟩
theorem Pen.ex {H H' : Hp} {p g : Addr} (S : Pen H p g) (x : ExtN H H') : Pen H' p g := by
  obtain ⟨ns, seat, left, S⟩ := S
  exact ⟨ns, seat, left, ⟨x _ _ S.hp (by intro _ z; cases z), x _ _ S.hg (by intro _ z; cases z), S.few, S.s0, S.l0⟩⟩
theorem Raw.ex {H H' : Hp} {p g R : Addr} {nm cl : List Str} {rs : List RowV} (A : Raw H p g R nm cl rs) (x : ExtN H H') : Raw H' p g R nm cl rs := by
  obtain ⟨o, h, t, A⟩ := A
  exact ⟨o, h, t, ⟨x _ _ A.hR (by intro _ z; cases z), x _ _ A.ho (by intro _ z; cases z), x _ _ A.hh (by intro _ z; cases z), x _ _ A.ht (by intro _ z; cases z), A.nR, A.no, A.nh, A.nt⟩⟩
theorem WebIs.ex {C : Addr} {H H' : Hp} {we : Addr} {nm cl : List Str} {rs : List RowV} (h : WebIs C H we nm cl rs) (x : ExtN H H') : WebIs C H' we nm cl rs := by
  obtain ⟨q, dc, r, wd, ⟨⟨dx, h1⟩, h2, h3, h4, h5⟩⟩ := h
  exact ⟨q, dc, r, wd, ⟨dx, x _ _ h1 (by intro _ z; cases z)⟩, x _ _ h2 (by intro _ z; cases z), x _ _ h3 (by intro _ z; cases z), ext_tie h4 (fun _ e => x _ _ e (by
    intro ps z
    subst z
    obtain ⟨ts, t1, _⟩ := h4
    rw [t1] at e
    cases e)) (fun _ _ e => x _ _ e (by intro _ z; cases z)), x _ _ h5 (by intro _ z; cases z)⟩
theorem OdV.ex {H H' : Hp} {v : V} {d : PyData} (h : OdV H v d) (x : ExtN H H') : OdV H' v d := h.stay fun a o _ ha ho => x _ _ ha (by
  intro ps z
  subst z
  rcases ho with ⟨_, e⟩ | ⟨_, e⟩ | ⟨_, e⟩ <;> cases e)
end Nm
set_option autoImplicit false
set_option maxRecDepth 100000
set_option maxHeartbeats 4000000
/-! isinstance(odd, str) and what w14's words are (never with k80's DR) -/
namespace Nm
open PySem PySem.Spec PyProof.Rows L2
theorem iteF' {b : Bool} {A B : Prop} (e : b = false) (h : B) : (if b = true then A else B) := by rw [e]; exact iteF h
theorem iteT' {b : Bool} {A B : Prop} (e : b = true) (h : A) : (if b = true then A else B) := by rw [e]; exact iteT h
def strO : V → Bool
  | .str _ => true
  | _ => false
theorem odd_ty {K : PySem.W.Frag} {H : Hp} {v : V} {d : PyData} (h : OdV H v d) : ∃ t, TyX K H v t ∧ PySem.W.kitOne K t (.type "str") = some (strO v) := by
  cases h with
  | lst e l n => exact ⟨_, TyX.base (TyOf.lst e), kit_ty (r := false) (by decide +kernel)⟩
  | tup e l n => exact ⟨_, TyX.base (TyOf.tup e), kit_ty (r := false) (by decide +kernel)⟩
  | dc0 e => exact ⟨_, TyX.base (TyOf.dK e), kit_ty (r := false) (by decide +kernel)⟩
  | dc1 e hz l => exact ⟨_, TyX.base (TyOf.dK e), kit_ty (r := false) (by decide +kernel)⟩
  | lf l =>
    cases l with
    | int hi => exact ⟨_, TyX.base (TyOf.int _), kit_ty (r := false) (by decide +kernel)⟩
    | bl b => exact ⟨_, TyX.base (TyOf.bl b), kit_ty (r := false) (by decide +kernel)⟩
    | non => exact ⟨_, TyX.base TyOf.non, kit_ty (r := false) (by decide +kernel)⟩
    | str hz hn => exact ⟨_, TyX.base (TyOf.str _), kit_ty (r := true) (by decide +kernel)⟩
theorem inV_names {z : Str} {nm : List Str} : inV (V.str z) (nm.map V.str) = decide (z ∈ nm) := by
  unfold inV
  by_cases e : z ∈ nm
  · rw [decide_eq_true e]
    exact List.any_eq_true.mpr ⟨V.str z, List.mem_map.mpr ⟨z, e, rfl⟩, decide_eq_true rfl⟩
  · rw [decide_eq_false e]
    refine List.any_eq_false.mpr fun x hx h => ?_
    obtain ⟨y, hy, rfl⟩ := List.mem_map.mp hx
    have h := of_decide_eq_true h
    exact e (h ▸ hy)
theorem flat_names (nm : List Str) : (nm.map V.str).all flatV = true := List.all_eq_true.mpr fun z hz => by obtain ⟨y, _, rfl⟩ := List.mem_map.mp hz; rfl
def smZ : List Str := "zz" :: "zzz" :: "k" :: w14
theorem smZ_text : ∀ z ∈ smZ, (reprText z).length ≤ 100 ∧ z.length ≤ 100 := by decide +kernel
theorem odv_sm {H : Hp} {z : Str} (h : z ∈ smZ) : OdV H (.str z) (.str z) := .lf (.str (smZ_text z h).1 (smZ_text z h).2)
theorem odv_w {H : Hp} {z : Str} (h : z ∈ w14) : OdV H (.str z) (.str z) := odv_sm (List.mem_cons_of_mem _ (List.mem_cons_of_mem _ (List.mem_cons_of_mem _ h)))
end Nm
set_option autoImplicit false
set_option maxRecDepth 100000
set_option maxHeartbeats 8000000
/-! places of all kinds: TwiceTold, need_once, need_places with their raises -/
namespace Nm
open PySem PySem.Spec PyProof.Rows L2
/-- the first name that equals an earlier one -/
def dupOf : List Str → List Str → Option Str
  | _, [] => none
  | seen, x :: xs => if x ∈ seen then some x else dupOf (seen ++ [x]) xs
theorem dup_none : ∀ {xs seen : List Str}, seen.Nodup → dupOf seen xs = none → (seen ++ xs).Nodup
  | [], seen, nd, _ => by rw [List.append_nil]; exact nd
  | x :: xs, seen, nd, h => by
    unfold dupOf at h
    by_cases c : x ∈ seen
    · rw [if_pos c] at h
      cases h
    · rw [if_neg c] at h
      have := dup_none (xs := xs) (seen := seen ++ [x]) (List.nodup_append.mpr ⟨nd, by simp, fun a ha b hb e => c (by rw [List.mem_singleton.mp hb] at e; rw [← e]; exact ha)⟩) h
      rw [List.append_assoc] at this
      exact this
/-- what the places hold -/
abbrev Pv2 := V × V
/-- the first value of places that is no word -/
def badP : List Pv2 → Option V
  | [] => none
  | q :: ps => if wordO q.1 = true then (if wordO q.2 = true then badP ps else some q.2) else some q.1
def strV : V → Str
  | .str z => z
  | _ => ""
theorem word_str {v : V} (h : wordO v = true) : v = .str (strV v) ∧ isWordB (strV v) = true := by
  cases v with
  | str z => exact ⟨rfl, h⟩
  | _ => cases h
/-- a list of pairs stands at p -/
def PsAt (H : Hp) (pl : Addr) (ts : List Addr) (ps : List Pv2) : Prop := H pl = some (.lst (ts.map V.ref)) ∧ Paired (fun t (q : Pv2) => H t = some (.tup [q.1, q.2])) ts ps
theorem PsAt.same {H H' : Hp} {pl : Addr} {ts : List Addr} {ps : List Pv2} (h : PsAt H pl ts ps) (s : Same H H') : PsAt H' pl ts ps := ⟨s _ _ h.1, Paired.mapP h.2 fun _ _ e => s _ _ e⟩
def OdP (H : Hp) (ps : List Pv2) : Prop := ∀ q ∈ ps, (∃ d, OdV H q.1 d) ∧ ∃ d, OdV H q.2 d
theorem OdP.same {H H' : Hp} {ps : List Pv2} (h : OdP H ps) (s : Same H H') : OdP H' ps := fun q hq => ⟨(h q hq).1.imp fun _ e => e.same s, (h q hq).2.imp fun _ e => e.same s⟩
/-- what is wrong with places -/
inductive PFault | none_ | word (v : V) | twice (z : Str)
def faultP (ps : List Pv2) : Option PFault :=
  if ps = [] then some .none_ else match badP ps with
  | some v => some (.word v)
  | none => match dupOf [] (ps.map fun q => strV q.1) with
    | some z => some (.twice z)
    | none => none
section
variable {P : Program} {w : World} {K : PySem.W.Frag} {mg : Str → Option Value} {base : Heap}
theorem ssTwi : SupS "self" "name" (defScope sTwiceToldInit) := ⟨rfl, rfl, rfl, by decide, rfl, rfl, by decide +kernel, by decide +kernel, rfl, rfl⟩
theorem ok_twiO {C f cda cc : Addr} {fd : FuncData} (F : SupF P K C f cda cc fd "TwiceTold.__init__" sTwiceToldInit "self") (X0 : XfC K C) (nN : PySem.W.findIn K (.ref C) "name" = some none) (hms : mg "super" = none)
    (Gk : Def P w K mg base "kept" ["value"] 2 spKeptO) : FnOk P w K mg base CX0 3 f fd ["self", "name"] (spOddI C "name") := by
  obtain ⟨fk, fdk, Gk, mk, kk, bk⟩ := Gk.ex
  refine sup_def (k := 2) F ssTwi hms rfl (fun vs H Q E h => ?_) (fun A outer s H vs Q E hr h => ?_)
  · obtain ⟨_, _, _, rfl, _⟩ := h
    rfl
  · obtain ⟨a, x, d, rfl, hx, ha, k⟩ := h
    refine ⟨a, _, _, ps_ost (pv 0) (pe_call Gk hr (by rfl) mk kk bk .nil pass0 (pa_cons (pv 1) pa_nil)), pa_cons (pe_joined (PJ.cons pe_str (PJ.cons (pe_fmtO hr.units (pe_exoF (pv 0))) PJ.nil))) pa_nil, ?_⟩
    refine ⟨_, rfl, x, d, rfl, hx, fun y H1 ky s1 => ?_⟩
    refine ⟨_, rfl, a, C, rfl, F.oex, nN, .inl ⟨s1 _ _ ha, fun dx hd hda => ⟨rfl, dx, upd_same, fun R hR => ?_⟩⟩⟩
    have hd2 : (upd (upd H1 dx (exd dx [("name", y)])) a (exo a C (some dx))) dx = some (exd dx [("name", y)]) := by
      rw [upd_ne hda]
      exact upd_same
    refine ⟨_, rfl, (by decide +kernel), _, rfl, a, C, dx, _, _, rfl, X0, nN, upd_same, hd2, rfl, ⟨d, odd_apart ky (s1 _ _ ha) hd⟩, fun z hz => ⟨_, rfl, ?_, ?_⟩⟩
    · rw [strLen_append, strLen_append, sizeLine_eq]
      have e1 : Str.empty.length = 0 := rfl
      have e2 : ("told twice: " : Str).length = 12 := by decide +kernel
      omega
    · exact hR _ _ (by show (1 : Nat) ≤ 1000; decide) upd_same (k y H1 dx ky s1 hd hda)
/-! ### need_once -/
/-- an exception with one field is raised -/
def Rz (CB : Addr) (fld : Str) (d : PyData) (H : Hp) (E : XK) : Prop := ∀ (dx : Addr) (y : V) (H' : Hp), H' dx = some (.xd [(fld, y)]) → OdV H' y d → Same H H' → E (.ref CB) (some dx) H'
theorem Rz.same {CB : Addr} {fld : Str} {d : PyData} {H H' : Hp} {E : XK} (h : Rz CB fld d H E) (s : Same H H') : Rz CB fld d H' E := fun dx y H2 a b c => h dx y H2 a b (s.trans c)
def spOnceX (CT : Addr) : Sp := fun vs H Q E => ∃ (p : Addr) (nm : List Str), vs = [.ref p] ∧ H p = some (.lst (nm.map V.str)) ∧ nm.length ≤ 1000 ∧ (∀ z ∈ nm, OdV H (.str z) (.str z)) ∧ (dupOf [] nm = none → ∀ H', Same H H' → Q .non H') ∧ ∀ z, dupOf [] nm = some z → Rz CT "name" (.str z) H E
theorem ok_onceX {f CT : Addr} {fd : FuncData} (F : Fun K "need_once" "need_once" sNeedOnce f fd) (T : TxtG mg) (TT : TxtOdd P w K mg base CT "TwiceTold" "name") : FnOk P w K mg base (L2.CX P w) 5 f fd ["names"] (spOnceX CT) := by
  obtain ⟨fi, fdi, iC, tI, Gi, bi⟩ := TT.ini
  refine okX (k := 4) F scNO (fun vs H Q E h => ?_) (fun cdv A outer s H vs Q E hr h => ?_)
  · obtain ⟨_, _, rfl, _⟩ := h
    rfl
  obtain ⟨p, nm, rfl, hp, h1000, hod, k, ke⟩ := h
  have tk := takes_of (X := cxOf (L2.CX P w) P w K mg base nNO "need_once" (defScope sNeedOnce) f cdv A outer s H E) (E := E) rfl rfl rfl rfl
  refine ⟨_, pss_cons (ps_set (i := 1) scNO.nd rfl (Or.inl rfl) (pe_callTy0 cr_set0K (by rfl) T.set (by decide +kernel)))
    (pss_one (ps_for (passes_of rfl) rfl (pi_list (pv 0)) (pg_name (i := 2) scNO.nd rfl (.inl rfl))
      (pss_cons (ps_if (pt_cmpR or_sinK (pv 2) (pv 1) (by rfl)) (pss_one (ps_raise rfl tk (pmk_oex TT.oex iC tI Gi (hr.mono (by decide)) bi .nil pass0 (by rfl) TT.mB (pa_cons (pv 2) pa_nil)))) pss_nil)
      (pss_one (ps_expr (pe_saddK (pv 1) (pa_cons (pv 2) pa_nil))))))), ?_⟩
  refine ⟨rfl, fun se hse => ?_⟩
  have s2 := same_new (o := SetK P w se (fun _ => false) 0) hse
  refine ⟨_, rfl, p, rfl, ⟨_, SqL.of (s2 _ _ hp)⟩, ?_⟩
  refine for_list (xs := nm.map V.str) (fun i σ H2 => ∃ v2 S n, σ = [some (.ref p), some (.ref se), v2] ∧ H2 se = some (SetK P w se S n) ∧ n ≤ i ∧ (∀ z : Str, S (Sum.inr z) = decide (z ∈ nm.take i)) ∧ dupOf [] nm = dupOf (nm.take i) (nm.drop i) ∧ Same H H2)
    ⟨none, fun _ => false, 0, rfl, upd_same, Nat.le_refl _, (fun z => by rw [List.take_zero]; simp), rfl, s2⟩ (fun i σ H2 _ h => by obtain ⟨_, _, _, _, _, _, _, _, h⟩ := h; exact SqL.of (h _ _ hp)) ?_ ?_
  · rintro i v σ H2 hi ⟨v2, S, n, rfl, hS, hn, hSk, hdup, s3⟩
    have hil := (List.getElem?_eq_some_iff.mp hi).1
    rw [List.length_map] at hil
    rw [List.getElem?_map] at hi
    obtain ⟨x, hx, rfl⟩ := Option.map_eq_some_iff.mp hi
    have hdr : nm.drop i = x :: nm.drop (i + 1) := by
      have g := List.getElem?_eq_some_iff.mp hx
      rw [List.drop_eq_getElem_cons g.1, g.2]
    rw [hdr, show dupOf (nm.take i) (x :: nm.drop (i + 1)) = if x ∈ nm.take i then some x else dupOf (nm.take i ++ [x]) (nm.drop (i + 1)) from rfl] at hdup
    refine ⟨_, rfl, _, rfl, Sum.inr x, se, S, n, rfl, rfl, hS, _, rfl, ?_⟩
    show (if (if false = true then !S (Sum.inr x) else S (Sum.inr x)) = true then _ else _)
    by_cases c : x ∈ nm.take i
    · rw [if_pos c] at hdup
      refine iteT' (by show S (Sum.inr x) = true; rw [hSk, decide_eq_true c]) ?_
      refine ⟨_, rfl, (by show (1 : Nat) ≤ 1000; decide), fun a ha => ?_⟩
      exact raise_odd ((hod x (List.mem_of_getElem? hx)).same s3) ha s3 fun dx y H' h1 h2 h3 => ke x hdup dx y H' h1 h2 h3
    · rw [if_neg c] at hdup
      refine iteF' (by show S (Sum.inr x) = false; rw [hSk, decide_eq_false c]) ?_
      refine ⟨_, rfl, ⟨se, S, n, rfl, hS⟩, _, rfl, se, Sum.inr x, S, n, rfl, rfl, hS, by unfold scanBound; omega, ?_⟩
      refine ⟨_, _, _, rfl, upd_same, ?_, fun z => ?_, ?_, fun b o e => ?_⟩
      · split <;> omega
      · rw [List.take_add_one, hx, Option.toList_some]
        by_cases e : z = x
        · subst e
          simp
        · have e1 : (Sum.inr z : Key) ≠ Sum.inr x := fun h => e (Sum.inr.inj h)
          simp [e, e1, hSk]
      · rw [hdup, List.take_add_one, hx]
        rfl
      · rw [upd_ne (ne_of_none e hse)]
        exact s3 b o e
  · rintro σ H2 ⟨v2, S, n, rfl, hS, hn, hSk, hdup, s3⟩
    rw [List.length_map, List.drop_length] at hdup
    exact k hdup H2 s3
/-! ### need_places -/
def spNpX (CB CN CT : Addr) : Sp := fun vs H Q E => ∃ (p : Addr) (ts : List Addr) (ps : List Pv2), vs = [.ref p] ∧ PsAt H p ts ps ∧ OdP H ps ∧ ps.length ≤ 1000 ∧ (faultP ps = none → ∀ H', Same H H' → Q .non H') ∧
  (faultP ps = some .none_ → Rz CB "number" (.int 0) H E) ∧ (∀ v d, faultP ps = some (.word v) → OdV H v d → Rz CN "name" d H E) ∧ ∀ z, faultP ps = some (.twice z) → Rz CT "name" (.str z) H E
theorem ok_npX {f CB CN CT : Addr} {fd : FuncData} (F : Fun K "need_places" "need_places" sNeedPlaces f fd) (T : TxtG mg) (TB : TxtOdd P w K mg base CB "BadNumber" "number") (Gw : ∃ f fd, FnOk P w K mg base (L2.CX P w) 5 f fd ["value"] (spNeedO CN) ∧ mg "need_word" = some (.ref f) ∧ PySem.W.keepIn K (.ref f) = true ∧ Binds K fd ["value"] [])
    (Go : ∃ f fd, FnOk P w K mg base (L2.CX P w) 5 f fd ["names"] (spOnceX CT) ∧ mg "need_once" = some (.ref f) ∧ PySem.W.keepIn K (.ref f) = true ∧ Binds K fd ["names"] []) : FnOk P w K mg base (L2.CX P w) 6 f fd ["places"] (spNpX CB CN CT) := by
  obtain ⟨fw, fdw, Gw, mw, kw, bw⟩ := Gw
  obtain ⟨fo, fdo, Go, mo, ko, bo⟩ := Go
  obtain ⟨fi, fdi, iC, tI, Gi, bi⟩ := TB.ini
  refine okX (k := 5) F scNP (fun vs H Q E h => ?_) (fun cdv A outer s H vs Q E hr h => ?_)
  · obtain ⟨_, _, _, rfl, _⟩ := h
    rfl
  obtain ⟨p, ts, ps, rfl, ⟨hp, hts⟩, hod, h1000, k, ke0, kew, ket⟩ := h
  have tk := takes_of (X := cxOf (L2.CX P w) P w K mg base nNP "need_places" (defScope sNeedPlaces) f cdv A outer s H E) (E := E) rfl rfl rfl rfl
  have tl : ts.length = ps.length := Paired.length hts
  refine ⟨_, pss_cons (ps_if (pt_cmpR op_eq (pe_callB call_len_seq (by rfl) T.len PySem.boot_len (pa_cons (pv 0) pa_nil)) pe_int (nomark _)) (pss_one (ps_raise rfl tk (pmk_oex TB.oex iC tI Gi (hr.mono (by decide)) bi .nil pass0 (by rfl) TB.mB (pa_cons pe_int pa_nil)))) pss_nil)
    (pss_cons (ps_for (passes_of rfl) rfl (pi_list (pv 0)) (pg_tup rfl (pgs_cons (pg_name (i := 1) scNP.nd rfl (.inl rfl)) (pgs_cons (pg_name (i := 2) scNP.nd rfl (.inl rfl)) pgs_nil)))
      (pss_cons (ps_expr (pe_call Gw hr (by rfl) mw kw bw .nil (passes_call tk fun _ _ _ _ h => h) (pa_cons (pv 1) pa_nil)))
      (pss_one (ps_expr (pe_call Gw hr (by rfl) mw kw bw .nil (passes_call tk fun _ _ _ _ h => h) (pa_cons (pv 2) pa_nil))))))
    (pss_one (ps_expr (pe_call Go (hr.mono (by decide)) (by rfl) mo ko bo .nil (passes_call tk fun _ _ _ _ h => h) (pa_cons (pe_lc (own := [("name", 1), ("_", 3)]) (g := gTup K 2 (gCons (gName 1) (gCons (gName 3) gNil))) (tt := tYes) (te := tVar 1) rfl scNP.nd (pi_list (pv 0)) (blkOk_by (N := nNP) (sc := defScope sNeedPlaces) (by decide +kernel))
        (fun _ _ _ _ _ => pg_tup rfl (pgs_cons (pg_name (i := 1) scNP.nd rfl (Or.inl rfl)) (pgs_cons (pg_name (i := 3) scNP.nd rfl (Or.inl rfl)) pgs_nil))) (fun _ _ _ _ _ => pts_nil) (fun _ _ _ _ _ => pv 1)) pa_nil))))), ?_⟩
  refine ⟨_, rfl, p, _, rfl, .inl (SqL.of hp), rfl, _, rfl, ?_⟩
  by_cases e0 : ps = []
  · refine iteT' (decide_eq_true (by rw [List.length_map, tl, e0]; rfl)) ?_
    refine ⟨(by show (1 : Nat) ≤ 1000; decide), fun a ha => ?_⟩
    exact raise_odd (.lf (.int (by decide))) ha (Same.refl _) fun dx y H' h1 h2 h3 => ke0 (by unfold faultP; rw [if_pos e0]) dx y H' h1 h2 h3
  have n0 : ps.length ≠ 0 := fun z => e0 (List.length_eq_zero_iff.mp z)
  refine iteF' (decide_eq_false fun z => n0 (by
    rw [List.length_map, tl] at z
    injection z with z
    omega)) ?_
  have fe : faultP ps = match badP ps with
    | some v => some (.word v)
    | none => match dupOf [] (ps.map fun q => strV q.1) with
      | some z => some (.twice z)
      | none => none := by
    unfold faultP
    rw [if_neg e0]
  refine ⟨_, rfl, p, rfl, ⟨_, SqL.of hp⟩, ?_⟩
  refine for_list (xs := ts.map V.ref) (fun i σ H1 => ∃ v1 v2, σ = [some (.ref p), v1, v2, none] ∧ badP ps = badP (ps.drop i) ∧ (∀ q ∈ ps.take i, wordO q.1 = true ∧ wordO q.2 = true) ∧ Same H H1) ⟨none, none, rfl, rfl, (fun q h => by rw [List.take_zero] at h; cases h), Same.refl H⟩ (fun i σ H1 _ h => by obtain ⟨_, _, _, _, _, h⟩ := h; exact SqL.of (h _ _ hp)) ?_ ?_
  · rintro i v σ H1 hi ⟨v1, v2, rfl, hb, hw, s1⟩
    rw [List.getElem?_map] at hi
    obtain ⟨t, ht, rfl⟩ := Option.map_eq_some_iff.mp hi
    obtain ⟨q, hq, htt⟩ := paired_get hts ht
    have qm := List.mem_of_getElem? hq
    obtain ⟨⟨d1, o1⟩, ⟨d2, o2⟩⟩ := hod q qm
    have hdr : ps.drop i = q :: ps.drop (i + 1) := by
      have g := List.getElem?_eq_some_iff.mp hq
      rw [List.drop_eq_getElem_cons g.1, g.2]
    rw [hdr, show badP (q :: ps.drop (i + 1)) = if wordO q.1 = true then (if wordO q.2 = true then badP (ps.drop (i + 1)) else some q.2) else some q.1 from rfl] at hb
    refine ⟨t, _, rfl, SqT.of (s1 _ _ htt), rfl, _, _, rfl, _, _, rfl, rfl, ?_⟩
    refine ⟨_, rfl, tnI ⟨q.1, d1, rfl, o1.same s1, fun w1 H2 s2 => ?_, fun w1 => ?_⟩⟩
    rotate_left
    · rw [if_neg (by rw [w1]; exact Bool.false_ne_true)] at hb
      rw [hb] at fe
      exact Rz.same (kew q.1 d1 fe o1) s1
    rw [if_pos w1] at hb
    refine ⟨_, rfl, tnI ⟨q.2, d2, rfl, o2.same (s1.trans s2), fun w2 H3 s3 => ?_, fun w2 => ?_⟩⟩
    rotate_left
    · rw [if_neg (by rw [w2]; exact Bool.false_ne_true)] at hb
      rw [hb] at fe
      exact Rz.same (kew q.2 d2 fe o2) (s1.trans s2)
    rw [if_pos w2] at hb
    refine ⟨_, _, rfl, hb, fun x hx => ?_, (s1.trans s2).trans s3⟩
    rw [List.take_add_one, hq] at hx
    rcases List.mem_append.mp hx with m | m
    · exact hw x m
    · rw [Option.toList_some, List.mem_singleton] at m
      rw [m]
      exact ⟨w1, w2⟩
  rintro σ H1 ⟨v1, v2, rfl, hb, hw, s1⟩
  rw [List.length_map, tl] at hb hw
  rw [List.drop_length] at hb
  rw [List.take_length] at hw
  have hb : badP ps = none := hb
  rw [hb] at fe
  refine ⟨_, rfl, p, rfl, ⟨_, SqL.of (s1 _ _ hp)⟩, fun D hD => ?_⟩
  have hp1 := s1 _ _ hp
  refine lc_list (xs := ts.map V.ref) (fun i H4 => H4 D = some (.lst (((ps.map fun q => strV q.1).take i).map V.str)) ∧ Same H1 H4) ⟨upd_same, same_new hD⟩ (fun i H4 _ h => SqL.of (h.2 _ _ hp1)) ?_ ?_
  · rintro i x H4 hx ⟨hD4, s4⟩
    have hi := (List.getElem?_eq_some_iff.mp hx).1
    rw [List.length_map] at hi
    rw [List.getElem?_map] at hx
    obtain ⟨t, ht, rfl⟩ := Option.map_eq_some_iff.mp hx
    obtain ⟨q, hq, htt⟩ := paired_get hts ht
    have wq := (word_str (hw q (List.mem_of_getElem? hq)).1).1
    refine ⟨t, _, rfl, SqT.of (s4 _ _ (s1 _ _ htt)), rfl, _, _, rfl, _, _, rfl, rfl, rfl, tyes ?_⟩
    refine ⟨_, rfl, _, hD4, Evl.sz_lt (by rw [List.length_map, List.length_take]; omega), ?_, fun b o e => ?_⟩
    · rw [upd_same, List.take_add_one, List.getElem?_map, hq, List.map_append]
      conv => lhs; rw [wq]
      rfl
    · rw [upd_ne (ne_of_none e hD)]
      exact s4 b o e
  · rintro H4 ⟨hD4, s4⟩
    rw [List.length_map, tl, ← List.length_map (f := fun q : Pv2 => strV q.1), List.take_length] at hD4
    refine tnI ⟨D, _, rfl, hD4, by rw [List.length_map]; exact h1000, fun z hz => ?_, fun e H5 s5 => ?_, fun z e => ?_⟩
    · obtain ⟨q, hq, rfl⟩ := List.mem_map.mp hz
      obtain ⟨d, o⟩ := (hod q hq).1
      have wq := (word_str (hw q hq).1).1
      rw [wq] at o
      cases o with
      | lf l =>
        cases l with
        | str a b => exact .lf (.str a b)
    · rw [e] at fe
      exact k fe H5 ((s1.trans s4).trans s5)
    · rw [e] at fe
      exact Rz.same (ket z fe) (s1.trans s4)
end
end Nm
set_option autoImplicit false
set_option maxRecDepth 100000
set_option maxHeartbeats 8000000
/-! BadTie, UnknownName of odd values; Web.__contains__ of odd values -/
namespace Nm
open PySem PySem.Spec PyProof.Rows L2
section
variable {P : Program} {w : World} {K : PySem.W.Frag} {mg : Str → Option Value} {base : Heap}
theorem ok_tieO {C f cda cc : Addr} {fd : FuncData} (F : SupF P K C f cda cc fd "BadTie.__init__" sBadTieInit "self") (X0 : XfC K C) (nN : PySem.W.findIn K (.ref C) "number" = some none) (hms : mg "super" = none)
    (Gk : Def P w K mg base "kept" ["value"] 2 spKeptO) : FnOk P w K mg base CX0 3 f fd ["self", "number"] (spOddI C "number") := by
  obtain ⟨fk, fdk, Gk, mk, kk, bk⟩ := Gk.ex
  refine sup_def (k := 2) F ssTie hms rfl (fun vs H Q E h => ?_) (fun A outer s H vs Q E hr h => ?_)
  · obtain ⟨_, _, _, rfl, _⟩ := h
    rfl
  · obtain ⟨a, x, d, rfl, hx, ha, k⟩ := h
    refine ⟨a, _, _, ps_ost (pv 0) (pe_call Gk hr (by rfl) mk kk bk .nil pass0 (pa_cons (pv 1) pa_nil)), pa_cons (pe_joined (PJ.cons pe_str (PJ.cons (pe_fmtO hr.units (pe_exoF (pv 0))) PJ.nil))) pa_nil, ?_⟩
    refine ⟨_, rfl, x, d, rfl, hx, fun y H1 ky s1 => ?_⟩
    refine ⟨_, rfl, a, C, rfl, F.oex, nN, .inl ⟨s1 _ _ ha, fun dx hd hda => ⟨rfl, dx, upd_same, fun R hR => ?_⟩⟩⟩
    have hd2 : (upd (upd H1 dx (exd dx [("number", y)])) a (exo a C (some dx))) dx = some (exd dx [("number", y)]) := by
      rw [upd_ne hda]
      exact upd_same
    refine ⟨_, rfl, (by decide +kernel), _, rfl, a, C, dx, _, _, rfl, X0, nN, upd_same, hd2, rfl, ⟨d, odd_apart ky (s1 _ _ ha) hd⟩, fun z hz => ⟨_, rfl, ?_, ?_⟩⟩
    · rw [strLen_append, strLen_append, sizeLine_eq]
      have e1 : Str.empty.length = 0 := rfl
      have e2 : ("no such tie can stand: " : Str).length = 23 := by decide +kernel
      omega
    · exact hR _ _ (by show (1 : Nat) ≤ 1000; decide) upd_same (k y H1 dx ky s1 hd hda)
end
end Nm
set_option autoImplicit false
set_option maxRecDepth 100000
set_option maxHeartbeats 16000000
/-! ties of all kinds: tie_spot, need_ties with its raise -/
namespace Nm
open PySem PySem.Spec PyProof.Rows L2
theorem strO_str {v : V} (h : strO v = true) : ∃ z, v = .str z := by
  cases v with
  | str z => exact ⟨z, rfl⟩
  | _ => cases h
/-- what stands for a tie -/
inductive Tv
  | non
  | t4 (a b k m : V)
  | t3 (a b k : V)
  | l4 (a b k m : V)
def TvAt (H : Hp) (v : V) : Tv → Prop
  | .non => v = .non
  | .t4 a b k m => ∃ t, v = .ref t ∧ H t = some (.tup [a, b, k, m])
  | .t3 a b k => ∃ t, v = .ref t ∧ H t = some (.tup [a, b, k])
  | .l4 a b k m => ∃ t, v = .ref t ∧ H t = some (.lst [a, b, k, m])
theorem TvAt.same {H H' : Hp} {v : V} {e : Tv} (h : TvAt H v e) (s : Same H H') : TvAt H' v e := by
  cases e with
  | non => exact h
  | t4 a b k m => exact ⟨h.choose, h.choose_spec.1, s _ _ h.choose_spec.2⟩
  | t3 a b k => exact ⟨h.choose, h.choose_spec.1, s _ _ h.choose_spec.2⟩
  | l4 a b k m => exact ⟨h.choose, h.choose_spec.1, s _ _ h.choose_spec.2⟩
def Tv.vals : Tv → List V
  | .non => []
  | .t4 a b k m => [a, b, k, m]
  | .t3 a b k => [a, b, k]
  | .l4 a b k m => [a, b, k, m]
def OdT (H : Hp) (e : Tv) : Prop := ∀ v ∈ e.vals, ∃ d, OdV H v d
theorem OdT.same {H H' : Hp} {e : Tv} (h : OdT H e) (s : Same H H') : OdT H' e := fun v hv => (h v hv).imp fun _ o => o.same s
/-- the tie that it is, if it can stand at all -/
def okT1 (nm : List Str) : Tv → Option TieV
  | .t4 (.str x) (.str y) (.str z) (.int w) => if x ≠ y ∧ x ∈ nm ∧ y ∈ nm ∧ isWordB z = true ∧ 1 ≤ w then some ⟨x, y, z, w⟩ else none
  | _ => none
theorem okT1_ok {nm : List Str} {e : Tv} {tv : TieV} (h : okT1 nm e = some tv) : tv.Ok nm ∧ e = .t4 (.str tv.x) (.str tv.y) (.str tv.kd) (.int tv.w) := by
  unfold okT1 at h
  split at h
  · split at h
    · rename_i c
      cases h
      exact ⟨⟨c.2.1, c.2.2.1, c.1, c.2.2.2.1, c.2.2.2.2⟩, rfl⟩
    · cases h
  · cases h
noncomputable instance decMK (q : List L2.Key) (l : List (List L2.Key)) : Decidable (q ∈ l) := Classical.propDecidable _
/-- the tie behind those ahead of it -/
noncomputable def standT (nm : List Str) (prev : List TieV) (e : Tv) : Option TieV := (okT1 nm e).bind fun t => if t.spot ∈ prev.map TieV.spot then none else some t
/-- the first of them that cannot stand; those that stand -/
noncomputable def runT (nm : List Str) : List TieV → List Tv → List TieV × Option Nat
  | prev, [] => (prev, none)
  | prev, e :: es => match standT nm prev e with
    | some t => runT nm (prev ++ [t]) es
    | none => (prev, some prev.length)
theorem okT1_none {nm : List Str} {a b k m : V} (h : ∀ (x y z : Str) (w : Int), a = .str x → b = .str y → k = .str z → m = .int w → ¬ (x ≠ y ∧ x ∈ nm ∧ y ∈ nm ∧ isWordB z = true ∧ 1 ≤ w)) : okT1 nm (.t4 a b k m) = none := by
  unfold okT1
  split
  · rename_i x y z w e
    cases e
    rw [if_neg (h x y z w rfl rfl rfl rfl)]
  · rfl
section
variable {P : Program} {w : World} {K : PySem.W.Frag} {mg : Str → Option Value} {base : Heap}
def spTs : Sp := fun vs H Q _ => ∃ (x : V) (d : Addr) (e : Tv) (nm : List Str) (kvs : List (Key × V)), vs = [x, .ref d] ∧ TvAt H x e ∧ OdT H e ∧ H d = some (.dK kvs) ∧ kvs.map (·.1) = nm.map Sum.inr ∧
  (okT1 nm e = none → ∀ H', Same H H' → Q .non H') ∧ ∀ tv, okT1 nm e = some tv → ∀ (r : Addr) (H' : Hp), H r = none → H' r = some (.tup (tv.spot.map kV)) → Same H H' → Q (.ref r) H'
theorem ok_spotT {f : Addr} {fd : FuncData} (F : Fun K "tie_spot" "tie_spot" sTieSpot f fd) (T : TxtH mg) (Gw : Def P w K mg base "is_word" ["value"] 1 spWordO) (Gn : Def P w K mg base "is_number" ["value", "least"] 2 spNumO) : FnOk P w K mg base CX0 3 f fd ["tie", "names"] spTs := by
  obtain ⟨fw, fdw, Gw, mw, kw, bw⟩ := Gw.ex
  obtain ⟨fn, fdn, Gn, mn, kn, bn⟩ := Gn.ex
  refine F.ok scSp (fun vs H Q E h => ?_) (fun cdv A outer s H vs Q E hr h => ?_)
  · obtain ⟨_, _, _, _, _, rfl, _⟩ := h
    rfl
  obtain ⟨x0, d, e, nm, kvs, rfl, hx0, hod, hd, hk, kn0, ks⟩ := h
  have hu := hu_of hr
  refine ⟨_, pss_cons (ps_if (PW.pt (pw_or (pt_not (pt_val (pe_callB call_isi (by rfl) T.isinstance (by decide +kernel) (pa_cons (pv 0) (pa_cons (pe_bltn (v := .ty "tuple") (by rfl) T.tuple (by decide +kernel) rfl) pa_nil))))) (pw_or1 (pt_cmpR op_ne (pe_callB call_len_seq (by rfl) T.len PySem.boot_len (pa_cons (pv 0) pa_nil)) pe_int (nomark _))))) (pss_one (ps_ret pe_non)) pss_nil)
    (pss_cons (ps_asg (pv 0) (pg_tup rfl (pgs_cons (pg_name (i := 2) scSp.nd rfl (.inl rfl)) (pgs_cons (pg_name (i := 3) scSp.nd rfl (.inl rfl)) (pgs_cons (pg_name (i := 4) scSp.nd rfl (.inl rfl)) (pgs_cons (pg_name (i := 5) scSp.nd rfl (.inl rfl)) pgs_nil))))))
    (pss_cons (ps_if (PW.pt (pw_or (pt_not (pt_val (pe_callB call_isi (by rfl) T.isinstance (by decide +kernel) (pa_cons (pv 2) (pa_cons (pe_bltn (v := .ty "str") (by rfl) T.str (by decide +kernel) rfl) pa_nil))))) (pw_or (pt_not (pt_val (pe_callB call_isi (by rfl) T.isinstance (by decide +kernel) (pa_cons (pv 3) (pa_cons (pe_bltn (v := .ty "str") (by rfl) T.str (by decide +kernel) rfl) pa_nil))))) (pw_or1 (pt_cmpR op_eq (pv 2) (pv 3) (nomark _)))))) (pss_one (ps_ret pe_non)) pss_nil)
    (pss_cons (ps_if (PW.pt (pw_or (pt_cmp (pc_dnotin hu (pv 2) (pv 1))) (pw_or1 (pt_cmp (pc_dnotin hu (pv 3) (pv 1)))))) (pss_one (ps_ret pe_non)) pss_nil)
    (pss_cons (ps_if (PW.pt (pw_or (pt_not (pt_val (pe_call Gw (hr.mono (by decide)) (by rfl) mw kw bw .nil pass0 (pa_cons (pv 4) pa_nil)))) (pw_or1 (pt_not (pt_val (pe_call Gn hr (by rfl) mn kn bn .nil pass0 (pa_cons (pv 5) (pa_cons pe_int pa_nil)))))))) (pss_one (ps_ret pe_non)) pss_nil)
    (pss_one (ps_ret (pe_tup (pa_cons (pe_callB (call_min2S rfl) (by rfl) T.min (by decide +kernel) (pa_cons (pv 2) (pa_cons (pv 3) pa_nil))) (pa_cons (pe_callB (call_max2S rfl) (by rfl) T.max (by decide +kernel) (pa_cons (pv 2) (pa_cons (pv 3) pa_nil))) (pa_cons (pv 4) pa_nil)))))))))), ?_⟩
  cases e with
  | non =>
    obtain rfl : x0 = .non := hx0
    exact ⟨_, rfl, _, _, _, _, false, rfl, ClsV.ty "tuple", TyX.base TyOf.non, kit_ty (by decide +kernel), _, rfl, iteT (kn0 rfl H (Same.refl _))⟩
  | t3 a b k =>
    obtain ⟨t, rfl, ht⟩ := hx0
    refine ⟨_, rfl, _, _, _, _, true, rfl, ClsV.ty "tuple", TyX.base (TyOf.tup ht), kit_ty (by decide +kernel), _, rfl, iteF ?_⟩
    exact ⟨_, rfl, t, _, rfl, .inr (SqT.of ht), rfl, _, rfl, iteT (kn0 rfl H (Same.refl _))⟩
  | l4 a b k m =>
    obtain ⟨t, rfl, ht⟩ := hx0
    exact ⟨_, rfl, _, _, _, _, false, rfl, ClsV.ty "tuple", TyX.base (TyOf.lst ht), kit_ty (by decide +kernel), _, rfl, iteT (kn0 rfl H (Same.refl _))⟩
  | t4 a b k m =>
    obtain ⟨t, rfl, ht⟩ := hx0
    obtain ⟨da, oa⟩ := hod a (by simp [Tv.vals])
    obtain ⟨db, ob⟩ := hod b (by simp [Tv.vals])
    obtain ⟨dk, ok⟩ := hod k (by simp [Tv.vals])
    obtain ⟨dm, om⟩ := hod m (by simp [Tv.vals])
    refine ⟨_, rfl, _, _, _, _, true, rfl, ClsV.ty "tuple", TyX.base (TyOf.tup ht), kit_ty (by decide +kernel), _, rfl, iteF ?_⟩
    refine ⟨_, rfl, t, _, rfl, .inr (SqT.of ht), rfl, _, rfl, iteF ?_⟩
    refine ⟨_, rfl, t, _, rfl, SqT.of ht, rfl, _, _, rfl, _, _, rfl, _, _, rfl, _, _, rfl, rfl, ?_⟩
    obtain ⟨ta, tya, tam⟩ := odd_ty (K := K) oa
    obtain ⟨tb, tyb, tbm⟩ := odd_ty (K := K) ob
    refine ⟨_, rfl, _, _, _, _, strO a, rfl, ClsV.ty "str", tya, tam, _, rfl, ?_⟩
    cases ea : strO a with
    | false => exact iteT' rfl (kn0 (okT1_none fun x y z w e _ _ _ _ => by rw [e] at ea; cases ea) H (Same.refl _))
    | true =>
    obtain ⟨x, rfl⟩ := strO_str ea
    refine iteF' rfl ?_
    refine ⟨_, rfl, _, _, _, _, strO b, rfl, ClsV.ty "str", tyb, tbm, _, rfl, ?_⟩
    cases eb : strO b with
    | false => exact iteT' rfl (kn0 (okT1_none fun x y z w _ e _ _ _ => by rw [e] at eb; cases eb) H (Same.refl _))
    | true =>
    obtain ⟨y, rfl⟩ := strO_str eb
    refine iteF' rfl ?_
    refine ⟨_, rfl, _, rfl, rfl, _, rfl, ?_⟩
    by_cases exy : x = y
    · subst exy
      exact iteT' (decide_eq_true rfl) (kn0 (okT1_none fun x' y' z w e1 e2 _ _ c => by cases e1; cases e2; exact c.1 rfl) H (Same.refl _))
    refine iteF' (decide_eq_false fun e => exy (by injection e)) ?_
    have there : ∀ z : Str, (valV kvs (Sum.inr z)).isSome = decide (z ∈ nm) := fun z => by
      rw [Bool.eq_iff_iff, decide_eq_true_iff]
      constructor
      · intro h
        obtain ⟨v, hv⟩ := Option.isSome_iff_exists.mp h
        have : Sum.inr z ∈ kvs.map (·.1) := by
          unfold valV at hv
          obtain ⟨kv, hkv, _⟩ := Option.map_eq_some_iff.mp hv
          have := List.find?_some hkv
          exact List.mem_map.mpr ⟨kv, List.mem_of_find?_eq_some hkv, by simpa using this⟩
        rw [hk] at this
        obtain ⟨y, hy, e⟩ := List.mem_map.mp this
        cases e
        exact hy
      · intro h
        obtain ⟨v, hv⟩ := val_ex (kvs := kvs) (k := Sum.inr z) (by rw [hk]; exact List.mem_map.mpr ⟨z, h, rfl⟩)
        rw [hv]
        rfl
    refine ⟨_, rfl, _, rfl, d, valV kvs (Sum.inr x), rfl, DGet.k (k := Sum.inr x) hd, _, rfl, ?_⟩
    by_cases cx : x ∈ nm
    rotate_left
    · exact iteT' (by rw [there, decide_eq_false cx]; rfl) (kn0 (okT1_none fun x' y' z w e1 _ _ _ c => by cases e1; exact cx c.2.1) H (Same.refl _))
    refine iteF' (by rw [there, decide_eq_true cx]; rfl) ?_
    refine ⟨_, rfl, _, rfl, d, valV kvs (Sum.inr y), rfl, DGet.k (k := Sum.inr y) hd, _, rfl, ?_⟩
    by_cases cy : y ∈ nm
    rotate_left
    · exact iteT' (by rw [there, decide_eq_false cy]; rfl) (kn0 (okT1_none fun x' y' z w _ e2 _ _ c => by cases e2; exact cy c.2.2.1) H (Same.refl _))
    refine iteF' (by rw [there, decide_eq_true cy]; rfl) ?_
    refine ⟨_, rfl, k, dk, rfl, ok, fun H1 s1 => ⟨_, rfl, ?_⟩⟩
    cases ew : wordO k with
    | false => exact iteT' rfl (kn0 (okT1_none fun x' y' z w _ _ e3 _ c => by rw [e3] at ew; rw [show wordO (.str z) = isWordB z from rfl, c.2.2.2.1] at ew; cases ew) H1 s1)
    | true =>
    refine iteF' rfl ?_
    refine ⟨_, rfl, m, dm, 1, rfl, om.same s1, _, rfl, ?_⟩
    cases en : fromO 1 m with
    | false => exact iteT' rfl (kn0 (okT1_none fun x' y' z w _ _ _ e4 c => by rw [e4] at en; exact absurd c.2.2.2.2 (of_decide_eq_false en)) H1 s1)
    | true =>
    refine iteF' rfl ?_
    obtain ⟨ek, kw⟩ := word_str ew
    have em : ∃ wd : Int, m = .int wd ∧ 1 ≤ wd := by
      cases m with
      | int wd => exact ⟨wd, rfl, of_decide_eq_true en⟩
      | _ => cases en
    obtain ⟨wd, rfl, w1⟩ := em
    generalize hz : strV k = z at *
    subst ek
    refine ⟨_, rfl, _, rfl, _, _, rfl, _, rfl, _, rfl, _, _, rfl, _, rfl, (by show 3 ≤ sizeLine; decide), fun r hr => ?_⟩
    exact ks ⟨x, y, z, wd⟩ (by
      show (if x ≠ y ∧ x ∈ nm ∧ y ∈ nm ∧ isWordB z = true ∧ 1 ≤ wd then some (⟨x, y, z, wd⟩ : TieV) else none) = _
      rw [if_pos ⟨exy, cx, cy, kw, w1⟩]) r _ (s1.free hr) upd_same (s1.trans (same_new hr))
/-! ### need_ties -/
/-- things that stand for ties, in a list -/
def TsAt5 (H : Hp) (ta : Addr) (vs : List V) (es : List Tv) : Prop := H ta = some (.lst vs) ∧ Paired (TvAt H) vs es ∧ ∀ e ∈ es, OdT H e
theorem TsAt5.same {H H' : Hp} {ta : Addr} {vs : List V} {es : List Tv} (h : TsAt5 H ta vs es) (s : Same H H') : TsAt5 H' ta vs es := ⟨s _ _ h.1, Paired.mapP h.2.1 fun _ _ e => e.same s, fun e he => (h.2.2 e he).same s⟩
def spNtX (CI : Addr) : Sp := fun vs H Q E => ∃ (p d : Addr) (us : List V) (es : List Tv) (nm : List Str) (kvs : List (Key × V)), vs = [.ref p, .ref d] ∧ TsAt5 H p us es ∧ H d = some (.dK kvs) ∧ kvs.map (·.1) = nm.map Sum.inr ∧ es.length ≤ 1000 ∧
  ((runT nm [] es).2 = none → ∀ H', Same H H' → Q .non H') ∧ ∀ n, (runT nm [] es).2 = some n → Rz CI "number" (.int (n : Int)) H E
theorem ok_ntX {f CI : Addr} {fd : FuncData} (F : Fun K "need_ties" "need_ties" sNeedTies f fd) (T : TxtH mg) (TI : TxtOdd P w K mg base CI "BadTie" "number") (Gs : Def P w K mg base "tie_spot" ["tie", "names"] 3 spTs) : FnOk P w K mg base (L2.CX P w) 5 f fd ["ties", "names"] (spNtX CI) := by
  obtain ⟨fs, fds, Gs, ms, ks, bs⟩ := Gs.ex
  obtain ⟨fi, fdi, iC, tI, Gi, bi⟩ := TI.ini
  refine okX (k := 4) F scNT (fun vs H Q E h => ?_) (fun cdv A outer s H vs Q E hr h => ?_)
  · obtain ⟨_, _, _, _, _, _, rfl, _⟩ := h
    rfl
  obtain ⟨p, d, us, es, nm, kvs, rfl, ⟨hp, pr, hod⟩, hd, hk, htl, k, ke⟩ := h
  have hu := hu_of hr
  have tk := takes_of (X := cxOf (L2.CX P w) P w K mg base nNT "need_ties" (defScope sNeedTies) f cdv A outer s H E) (E := E) rfl rfl rfl rfl
  have ul : us.length = es.length := Paired.length pr
  refine ⟨_, pss_cons (ps_set (i := 2) scNT.nd rfl (Or.inl rfl) (pe_callTy0 cr_setKT (by rfl) T.set (by decide +kernel)))
    (pss_one (ps_for (passes_of rfl) rfl (pi_enB true (by rfl) T.enumerate (pa_cons (pv 0) pa_nil)) (pg_tup rfl (pgs_cons (pg_name (i := 3) scNT.nd rfl (.inl rfl)) (pgs_cons (pg_name (i := 4) scNT.nd rfl (.inl rfl)) pgs_nil)))
      (pss_cons (ps_set (i := 5) scNT.nd rfl (Or.inl rfl) (pe_call Gs (hr.mono (by decide)) (by rfl) ms ks bs .nil pass0 (pa_cons (pv 4) (pa_cons (pv 1) pa_nil))))
      (pss_cons (ps_if (PW.pt (pw_or (pt_cmp (pc_isN (pv 5))) (pw_or1 (pt_cmpR (or_inKT hu) (pv 5) (pv 2) (by rfl))))) (pss_one (ps_raise rfl tk (pmk_oex TI.oex iC tI Gi (hr.mono (by decide)) bi .nil pass0 (by rfl) TI.mB (pa_cons (pv 3) pa_nil)))) pss_nil)
      (pss_one (ps_expr (pe_addKT hu (pv 2) (pa_cons (pv 5) pa_nil)))))))), ?_⟩
  refine ⟨rfl, fun sp hsp => ?_⟩
  have s1 := same_new (o := KSetO P w sp []) hsp
  have hsp1 : (upd H sp (KSetO P w sp [])) sp = some (KSetO P w sp []) := upd_same
  refine ⟨_, rfl, p, _, rfl, SqB.of (k := true) (s1 _ _ hp), ?_⟩
  refine for_it (walk_enB (k := true) (xs := us)) (fun i σ H2 => ∃ v3 v4 v5 L tl, σ = [some (.ref p), some (.ref d), some (.ref sp), v3, v4, v5] ∧ H2 sp = some (KSetO P w sp L) ∧ KIn H2 L ∧ (∀ q, q ∈ L.map (·.2) ↔ q ∈ tl.map TieV.spot) ∧ L.length = i ∧ tl.length = i ∧ runT nm [] es = runT nm tl (es.drop i) ∧ Same H H2)
    ⟨none, none, none, [], [], rfl, hsp1, (fun e m => (List.not_mem_nil m).elim), (fun q => Iff.rfl), rfl, rfl, rfl, s1⟩ (fun i σ H2 _ h => by obtain ⟨_, _, _, _, _, _, _, _, _, _, _, _, h⟩ := h; exact SqB.of (k := true) (h _ _ hp)) ?_ ?_
  · rintro i x σ H2 H3 hi ⟨v3, v4, v5, L, tl, rfl, hsp2, kin, hL, hlen, tlen, run, s2⟩ ⟨tp, x1, y1, rfl, htp, rfl, e1, e2⟩
    have e2 : us[i]? = some y1 := e2
    obtain ⟨e, he, hte⟩ := paired_get pr e2
    cases e1
    have hdr : es.drop i = e :: es.drop (i + 1) := by
      have g := List.getElem?_eq_some_iff.mp he
      rw [List.drop_eq_getElem_cons g.1, g.2]
    rw [hdr, show runT nm tl (e :: es.drop (i + 1)) = (match standT nm tl e with | some t => runT nm (tl ++ [t]) (es.drop (i + 1)) | none => (tl, some tl.length)) from rfl] at run
    have il : i < 1000 := by
      have := (List.getElem?_eq_some_iff.mp he).1
      omega
    have s3 : Same H2 (upd H2 tp (.tup [V.int (i : Nat), y1])) := same_new htp
    have htp3 : (upd H2 tp (.tup [V.int (i : Nat), y1])) tp = some (.tup [V.int (i : Nat), y1]) := upd_same
    generalize upd H2 tp (.tup [V.int (i : Nat), y1]) = H3 at *
    have s03 := s2.trans s3
    have lfi : Lf (.int ((i : Nat) : Int)) (.int ((i : Nat) : Int)) := .int (by
      rw [Int.natAbs_natCast]
      by_cases z : i = 0
      · rw [z]; decide
      · exact (Nat.log2_lt z).mpr (Nat.lt_of_lt_of_le il (by decide)))
    refine ⟨tp, _, rfl, SqT.of htp3, rfl, _, _, rfl, _, _, rfl, rfl, ?_⟩
    refine ⟨_, rfl, _, rfl, y1, d, e, nm, kvs, rfl, hte.same s03, (hod e (List.mem_of_getElem? he)).same s03, s03 _ _ hd, hk, fun hno H4 s4 => ?_, fun tv htv r H4 hr0 hr4 s4 => ?_⟩
    · have hs : standT nm tl e = none := by unfold standT; rw [hno]; rfl
      rw [hs] at run
      refine ⟨_, rfl, _, rfl, iteT' (decide_eq_true rfl) ?_⟩
      refine ⟨_, rfl, (by show (1 : Nat) ≤ 1000; decide), fun a ha => ?_⟩
      exact raise_odd (.lf lfi) ha (s03.trans s4) fun dx y H' h1 h2 h3 => ke i (by rw [run, tlen]) dx y H' h1 h2 h3
    have s34 := s3.trans s4
    have hsp4 := s34 _ _ hsp2
    have kin4 := kin.same s34
    have hn : decide (V.ref r = V.non) = false := decide_eq_false (fun z => by cases z)
    refine ⟨_, rfl, _, rfl, ?_⟩
    rw [hn]
    refine iteF ?_
    refine ⟨_, rfl, _, rfl, r, sp, tv.spot, L, rfl, rfl, hr4, hsp4, kin4, fun b hb => ⟨_, rfl, ?_⟩⟩
    by_cases c : tv.spot ∈ tl.map TieV.spot
    · have hs : standT nm tl e = none := by
        unfold standT
        rw [htv]
        show (if tv.spot ∈ tl.map TieV.spot then none else some tv) = none
        rw [if_pos c]
      rw [hs] at run
      obtain rfl : b = true := hb.mpr ((hL _).mpr c)
      refine iteT ?_
      refine ⟨_, rfl, (by show (1 : Nat) ≤ 1000; decide), fun a ha => ?_⟩
      exact raise_odd (.lf lfi) ha (s03.trans s4) fun dx y H' h1 h2 h3 => ke i (by rw [run, tlen]) dx y H' h1 h2 h3
    have hs : standT nm tl e = some tv := by
      unfold standT
      rw [htv]
      show (if tv.spot ∈ tl.map TieV.spot then none else some tv) = some tv
      rw [if_neg c]
    rw [hs] at run
    have nin : tv.spot ∉ L.map (·.2) := fun m => c ((hL _).mp m)
    have hb0 : b = false := by
      cases b with
      | false => rfl
      | true => exact absurd (hb.mp rfl) nin
    subst hb0
    refine iteF ?_
    refine ⟨_, rfl, ⟨sp, L, rfl, hsp4⟩, _, rfl, sp, r, tv.spot, L, rfl, rfl, hr4, hsp4, kin4, nin, by omega, fun L' pm => ?_⟩
    refine ⟨_, _, _, L', tl ++ [tv], rfl, upd_same, fun e m => ?_, fun q => ?_, by rw [pm.length_eq, List.length_cons, hlen], by rw [List.length_append, tlen]; rfl, run, fun b o e => ?_⟩
    · have he : H4 e.1 = some (.tup (e.2.map kV)) := by
        rcases List.mem_cons.mp (pm.mem_iff.mp m) with rfl | m
        · exact hr4
        · exact kin4 e m
      rw [upd_ne (ne_of he hsp4 (by intro z; cases z))]
      exact he
    · rw [(pm.map (·.2)).mem_iff, List.map_cons, List.mem_cons, List.map_append, List.mem_append, ← hL q, List.map_cons, List.map_nil, List.mem_singleton]
      exact Or.comm
    · rw [upd_ne (ne_of_none e hsp)]
      exact s34 _ _ (s2 b o e)
  · rintro σ H2 ⟨v3, v4, v5, L, tl, rfl, hsp2, kin, hL, hlen, tlen, run, s2⟩
    rw [ul, List.drop_length] at run
    exact k (by rw [run]; rfl) H2 s2
end
end Nm
set_option autoImplicit false
set_option maxRecDepth 100000
set_option maxHeartbeats 8000000
/-! _law_odd -/
namespace Nm
open PySem PySem.Spec PyProof.Rows L2
def oddZ : List Str := ["", "A", "0", "a b", "a0a", "abcdefghi", "a00000", "1a", "a\n", " a", "a-", "zz", "x9999"]
/-- what the law draws -/
structure Fine (v : V) : Prop where
  str : ∀ z, v = .str z → z ∈ oddZ
  int : ∀ i, v = .int i → -5 ≤ i ∧ i ≤ 2
/-- an odd value that is new since H0 -/
def OddN (H0 H : Hp) (v : V) : Prop := (∃ d, OdV H v d) ∧ Fine v ∧ ∀ a, v = .ref a → H0 a = none
theorem fine_ref {a : Addr} : Fine (.ref a) := ⟨(by intro _ e; cases e), (by intro _ e; cases e)⟩
theorem Lf.oddN {H0 H : Hp} {v : V} {d : PyData} (h : Lf v d) (f : Fine v) : OddN H0 H v := ⟨⟨d, .lf h⟩, f, fun a e => by subst e; cases h⟩
theorem OddN.same {H0 H H' : Hp} {v : V} (h : OddN H0 H v) (s : Same H H') : OddN H0 H' v := ⟨h.1.imp fun _ z => z.same s, h.2⟩
theorem OddN.bt {H0 H H' : Hp} {p g : Addr} {v : V} (h : OddN H0 H v) (b : Bt p H H') (hp : H0 p ≠ none) : OddN H0 H' v :=
  ⟨h.1.imp fun _ z => z.stay fun a o e ha _ => b _ _ ha fun z => hp (z ▸ h.2.2 a e), h.2⟩
section
variable {P : Program} {w : World} {K : PySem.W.Frag} {mg : Str → Option Value} {base : Heap}
def spOdd : Sp := fun vs H Q _ => ∃ (p g : Addr), vs = [.ref p] ∧ Pen H p g ∧ ∀ (v : V) (H' : Hp), OddN H H' v → Pen H' p g → Bt p H H' → Q v H'
abbrev nOdd : List Str := ["_law_pen_here", "_law_some"]
theorem scOdd : FnScope nOdd ["_law_pen_here"] (defScope sOdd) := ⟨rfl, rfl, rfl, by decide +kernel, rfl, by decide +kernel, by decide +kernel⟩
theorem ok_odd {f : Addr} {fd : FuncData} (F : Fun K "_law_odd" "_law_odd" sOdd f fd) (Go : Def P w K mg base "_law_one_of" ["_law_pen_here", "_law_some"] 3 spOne) : FnOk P w K mg base CX0 4 f fd ["_law_pen_here"] spOdd := by
  obtain ⟨fo, fdo, Go, mo, ko, bo⟩ := Go.ex
  refine F.ok scOdd (fun vs H Q E h => ?_) (fun cdv A outer s H vs Q E hr h => ?_)
  · obtain ⟨_, _, rfl, _⟩ := h
    rfl
  obtain ⟨p, g, rfl, S, k⟩ := h
  refine ⟨_, Evl.pss_cut (ps_set (i := 1) scOdd.nd rfl (Or.inl rfl) (pe_lst (pa_cons pe_non (pa_cons pe_bl (pa_cons pe_bl (pa_cons (pe_un un_neg pe_int) (pa_cons pe_int (pa_cons pe_int (pa_cons pe_int (pa_cons pe_str (pa_cons pe_str (pa_cons pe_str (pa_cons pe_str (pa_cons pe_str (pa_cons pe_str (pa_cons pe_str (pa_cons pe_str
      (pa_cons (pe_tup pa_nil) (pa_cons (pe_lst pa_nil) (pa_cons pe_dnewK (pa_cons (pe_tup (pa_cons pe_str pa_nil)) pa_nil)))))))))))))))))))))
    (pss_one (ps_ret (pe_call Go hr (by rfl) mo ko bo .nil pass0 (pa_cons (pv 0) (pa_cons (pe_op op_cat (pv 1) (pe_lst (pa_cons (pe_lst (pa_cons pe_str pa_nil)) (pa_cons (pe_disp (pps_cons pe_str pe_int pps_nil) (by rfl) (by rfl) (fun z => by cases z) (by decide)) (pa_cons pe_str (pa_cons pe_str (pa_cons pe_str (pa_cons pe_str (pa_cons pe_str (pa_cons (pe_un un_neg pe_int) (pa_cons (pe_tup (pa_cons pe_str (pa_cons pe_str (pa_cons pe_str (pa_cons pe_int pa_nil))))) pa_nil))))))))))) pa_nil))))), ?_⟩
  have hp0 : H p ≠ none := by
    obtain ⟨ns, seat, left, S⟩ := S
    rw [S.hp]
    intro e
    cases e
  have lf1 : ∀ {H1 : Hp} {z : Str}, z ∈ oddZ → (reprText z).length ≤ 100 → z.length ≤ 100 → OddN H H1 (.str z) := fun hz h1 h2 => Lf.oddN (.str h1 h2) ⟨fun _ e => by cases e; exact hz, (by intro _ e; cases e)⟩
  have li1 : ∀ {H1 : Hp} {i : Int}, -5 ≤ i → i ≤ 2 → OddN H H1 (.int i) := fun {H1 i} h1 h2 => Lf.oddN (.int (by
    have : i.natAbs ≤ 5 := by omega
    by_cases z : i.natAbs = 0
    · rw [z]; decide
    · exact (Nat.log2_lt z).mpr (Nat.lt_of_le_of_lt this (by decide)))) ⟨(by intro _ e; cases e), fun _ e => by cases e; exact ⟨h1, h2⟩⟩
  refine ⟨fun σ H1 => ∃ (l : Addr) (xs : List V), σ = [some (.ref p), some (.ref l)] ∧ H1 l = some (.lst xs) ∧ H l = none ∧ xs.length = 19 ∧ (∀ v ∈ xs, OddN H H1 v) ∧ Same H H1, ?_, ?_⟩
  · refine ⟨_, rfl, by show (0 : Nat) ≤ sizeLine; decide, fun p1 h1 => ?_⟩
    have s1 := same_new (o := .tup []) h1
    have e1 : (upd H p1 (.tup [])) p1 = some (.tup []) := upd_same
    generalize upd H p1 (.tup []) = H1 at *
    refine ⟨by show (0 : Nat) ≤ sizeLine; decide, fun p2 h2 => ?_⟩
    have s2 := same_new (o := .lst []) h2
    have e2 : (upd H1 p2 (.lst [])) p2 = some (.lst []) := upd_same
    generalize upd H1 p2 (.lst []) = H2 at *
    refine fun p3 h3 => ?_
    have s3 := same_new (o := .dK []) h3
    have e3 : (upd H2 p3 (.dK [])) p3 = some (.dK []) := upd_same
    generalize upd H2 p3 (.dK []) = H3 at *
    refine ⟨by show (1 : Nat) ≤ sizeLine; decide, fun p4 h4 => ?_⟩
    have s4 := same_new (o := .tup [.str "a"]) h4
    have e4 : (upd H3 p4 (.tup [.str "a"])) p4 = some (.tup [.str "a"]) := upd_same
    generalize upd H3 p4 (.tup [.str "a"]) = H4 at *
    refine ⟨by show (19 : Nat) ≤ sizeLine; decide, fun l hl => ?_⟩
    have s5 := fun o => same_new (o := o) hl
    refine ⟨l, _, rfl, upd_same, (s1.trans (s2.trans (s3.trans s4))).free hl, rfl, ?_, (s1.trans (s2.trans (s3.trans (s4.trans (s5 _)))))⟩
    intro v hv
    refine OddN.same ?_ (s5 _)
    have f1 := h1
    have f2 := s1.free h2
    have f3 := (s1.trans s2).free h3
    have f4 := (s1.trans (s2.trans s3)).free h4
    simp only [List.mem_cons, List.not_mem_nil, or_false] at hv
    rcases hv with rfl | rfl | rfl | rfl | rfl | rfl | rfl | rfl | rfl | rfl | rfl | rfl | rfl | rfl | rfl | rfl | rfl | rfl | rfl
    · exact Lf.oddN .non ⟨(by intro _ e; cases e), (by intro _ e; cases e)⟩
    · exact Lf.oddN (.bl _) ⟨(by intro _ e; cases e), (by intro _ e; cases e)⟩
    · exact Lf.oddN (.bl _) ⟨(by intro _ e; cases e), (by intro _ e; cases e)⟩
    · exact li1 (by decide) (by decide)
    · exact li1 (by decide) (by decide)
    · exact li1 (by decide) (by decide)
    · exact li1 (by decide) (by decide)
    · exact lf1 (by decide +kernel) (by decide +kernel) (by decide +kernel)
    · exact lf1 (by decide +kernel) (by decide +kernel) (by decide +kernel)
    · exact lf1 (by decide +kernel) (by decide +kernel) (by decide +kernel)
    · exact lf1 (by decide +kernel) (by decide +kernel) (by decide +kernel)
    · exact lf1 (by decide +kernel) (by decide +kernel) (by decide +kernel)
    · exact lf1 (by decide +kernel) (by decide +kernel) (by decide +kernel)
    · exact lf1 (by decide +kernel) (by decide +kernel) (by decide +kernel)
    · exact lf1 (by decide +kernel) (by decide +kernel) (by decide +kernel)
    · exact ⟨⟨_, .tup (s4 _ _ (s3 _ _ (s2 _ _ e1))) .nil (by decide)⟩, fine_ref, fun a e => by cases e; exact f1⟩
    · exact ⟨⟨_, .lst (s4 _ _ (s3 _ _ e2)) .nil (by decide)⟩, fine_ref, fun a e => by cases e; exact f2⟩
    · exact ⟨⟨_, .dc0 (s4 _ _ e3)⟩, fine_ref, fun a e => by cases e; exact f3⟩
    · exact ⟨⟨_, .tup e4 (.cons (.str (by decide +kernel) (by decide +kernel)) .nil) (by decide)⟩, fine_ref, fun a e => by cases e; exact f4⟩
  rintro σ H1 ⟨l, xs, rfl, hl, hl0, hn, hx, s1⟩
  have S1 : Pen H1 p g := by
    obtain ⟨ns, seat, left, S⟩ := S
    exact ⟨ns, seat, left, ⟨s1 _ _ S.hp, s1 _ _ S.hg, S.few, S.s0, S.l0⟩⟩
  refine ⟨_, rfl, _, rfl, ?_⟩
  refine ⟨by show (1 : Nat) ≤ sizeLine; decide, fun p1 h1 => ?_⟩
  have t1 := same_new (o := .lst [.str "a"]) h1
  have e1 : (upd H1 p1 (.lst [.str "a"])) p1 = some (.lst [.str "a"]) := upd_same
  generalize upd H1 p1 (.lst [.str "a"]) = H2 at *
  refine fun p2 h2 => ⟨upd_same, [(Sum.inr "a", V.int 1)], rfl, by decide, ?_⟩
  have t2 : Same H2 (upd (upd H2 p2 (.dK [])) p2 (.dK (mergeK [] [(Sum.inr "a", V.int 1)]))) := fun b o e => by
    have n := ne_of_none e h2
    rw [upd_ne n, upd_ne n]
    exact e
  have e2 : (upd (upd H2 p2 (.dK [])) p2 (.dK (mergeK [] [(Sum.inr "a", V.int 1)]))) p2 = some (.dK [(Sum.inr "a", V.int 1)]) := by
    rw [upd_same]
    rfl
  generalize upd (upd H2 p2 (.dK [])) p2 (.dK (mergeK [] [(Sum.inr "a", V.int 1)])) = H3 at *
  refine ⟨_, rfl, by show (4 : Nat) ≤ sizeLine; decide, fun p3 h3 => ?_⟩
  have t3 := same_new (o := .tup [.str "a", .str "b", .str "k", .int 1]) h3
  have e3 : (upd H3 p3 (.tup [.str "a", .str "b", .str "k", .int 1])) p3 = some (.tup [.str "a", .str "b", .str "k", .int 1]) := upd_same
  generalize upd H3 p3 (.tup [.str "a", .str "b", .str "k", .int 1]) = H4 at *
  refine ⟨by show (9 : Nat) ≤ sizeLine; decide, fun p4 h4 => ?_⟩
  have t4 := fun o => same_new (o := o) h4
  have lim := sizeLine_eq
  have f1 := s1.free h1
  have f2 := (s1.trans t1).free h2
  have f3 := (s1.trans (t1.trans t2)).free h3
  have s4 := s1.trans (t1.trans (t2.trans t3))
  refine ⟨l, p4, xs, _, rfl, rfl, t4 _ _ _ (t3 _ _ (t2 _ _ (t1 _ _ hl))), upd_same, by rw [hn]; show (28 : Nat) ≤ sizeLine; decide, fun q hq => ?_⟩
  have s5 := fun o => s4.trans ((t4 _).trans (same_new (o := o) hq))
  refine ⟨p, g, q, _, rfl, ?_, upd_same, ?_, by rw [List.length_append]; omega, by rw [List.length_append, hn]; show (28 : Nat) ≤ 1000; decide, fun i v H' hi S' b' => ?_⟩
  · obtain ⟨ns, seat, left, S⟩ := S
    exact ⟨ns, seat, left, ⟨s5 _ _ _ S.hp, s5 _ _ _ S.hg, S.few, S.s0, S.l0⟩⟩
  · intro e
    subst e
    exact hp0 (s4.free ((t4 _).free hq))
  · refine k v H' (OddN.bt (p := p) (g := g) ?_ b' hp0) S' fun b o e n => b' _ _ (s5 _ _ _ e) n
    have hm := List.mem_of_getElem? hi
    refine OddN.same ?_ ((t4 _).trans (same_new hq))
    rcases List.mem_append.mp hm with hm | hm
    · exact (hx v hm).same (t1.trans (t2.trans t3))
    · simp only [List.mem_cons, List.not_mem_nil, or_false] at hm
      rcases hm with rfl | rfl | rfl | rfl | rfl | rfl | rfl | rfl | rfl
      · exact ⟨⟨_, .lst (t3 _ _ (t2 _ _ e1)) (.cons (.str (by decide +kernel) (by decide +kernel)) .nil) (by decide)⟩, fine_ref, fun a e => by cases e; exact f1⟩
      · exact ⟨⟨_, .dc1 (t3 _ _ e2) (by decide +kernel) (.int (by decide))⟩, fine_ref, fun a e => by cases e; exact f2⟩
      · exact lf1 (by decide +kernel) (by decide +kernel) (by decide +kernel)
      · exact lf1 (by decide +kernel) (by decide +kernel) (by decide +kernel)
      · exact lf1 (by decide +kernel) (by decide +kernel) (by decide +kernel)
      · exact lf1 (by decide +kernel) (by decide +kernel) (by decide +kernel)
      · exact lf1 (by decide +kernel) (by decide +kernel) (by decide +kernel)
      · exact li1 (by decide) (by decide)
      · exact ⟨⟨_, .tup e3 (.cons (.str (by decide +kernel) (by decide +kernel)) (.cons (.str (by decide +kernel) (by decide +kernel)) (.cons (.str (by decide +kernel) (by decide +kernel)) (.cons (.int (by decide)) .nil)))) (by decide)⟩, fine_ref, fun a e => by cases e; exact f3⟩
end
end Nm
set_option autoImplicit true
set_option maxRecDepth 100000
set_option maxHeartbeats 4000000
/-! for i, c in enumerate(a text) -/
namespace Nm
open PySem PySem.Spec PyProof.Rows L2
theorem drawsS {prog : Program} {w : World} {A : Around} (hh : A.handled = none) (it : Addr) (x : Str) (t : Tok) :
    Draws prog w A it [it] x.cps.size (fun i v => ∃ c u, x.cps[i]? = some c ∧ v = .str ⟨#[c]⟩ u) (fun i h => h.IsStrIter it (strIterType x) x t i) := by
  cases ha : x.cps.all (· < 128)
  · have e : strIterType x = "str_iterator" := by simp [strIterType, ha]
    rw [e]
    exact Draws.strWide hh it x t
  · have e : strIterType x = "str_ascii_iterator" := by simp [strIterType, ha]
    rw [e]
    exact Draws.strAscii hh it x t
/-- the signs of x, each in a new pair with its number -/
def ItS (x : Str) : It :=
  ⟨fun i _ => i < x.cps.size, fun i H v H' => ∃ (T : Addr) (c : Nat), v = .ref T ∧ H T = none ∧ H' = upd H T (.tup [.int (i : Nat), .str ⟨#[c]⟩]) ∧ x.cps[i]? = some c, fun i _ => i = x.cps.size⟩
theorem turn_enS {P : Program} {w : World} {K : PySem.W.Frag} {elts : List Expr} {kk : Nat} {tpos : Pos} (x : Str) (t : Tok) (e it : Addr) :
    Turn P w K (.Tuple elts kk tpos) (ItS x) [e, it] e (fun i h => (∃ old, IsEnum h e it ((i : Nat) : Int) old) ∧ h.IsStrIter it (strIterType x) x t i ∧ e ≠ it) where
  mem := by simp
  obj := fun i h st b hb => by
    obtain ⟨⟨old, he⟩, ⟨o, ho, hc, hd⟩, _⟩ := st
    have e' : b = e ∨ b = it := by simpa using hb
    rcases e' with z | z
    · rw [z]; exact ⟨_, he, fun v q => nomatch q⟩
    · rw [z]; exact ⟨o, ho, fun v q => by rw [hd] at q; cases q⟩
  keep := fun i h h' st k => by
    obtain ⟨⟨old, he⟩, ⟨o, ho, r⟩, hne⟩ := st
    exact ⟨⟨old, k e (by simp) _ he⟩, ⟨o, k it (by simp) o ho, r⟩, hne⟩
  item := by
    intro X hP hw hK hc i pins s σ H E I hf st hg
    subst hP hw hK
    obtain ⟨⟨old, he⟩, hit, hne⟩ := st
    have hg : i < x.cps.size := hg
    have hel : e < s.heap.objs.size := Heap.lt_size he
    have hil : it < s.heap.objs.size := by obtain ⟨_, q, _⟩ := hit; exact Heap.lt_size q
    have D := drawsS (prog := X.prog) (w := X.w) (A := X.A.in1) (I.ok.hd hc) it x t
    refine wpAny_pyNext_enum_itemD D he hit hg hne (by simpa using hne) fun u h' tk ⟨c, tc, hcx, hu⟩ ho hit' hT hsz hk => ?_
    subst hu
    refine ⟨_, rfl, wpAny_letOwnedTupleGo_enum (s := { s with heap := h', toks := tk + 1 }) ho fun h'' he' sb => ?_⟩
    have hT2 : h''.get? s.heap.objs.size = some { cls := .type "tuple", data := .seq #[.int i tk, .str ⟨#[c]⟩ tc] } := (sb.2 _ (Nat.ne_of_gt hel)).trans hT
    have new : ObjOk X.prog X.w (upd H s.heap.objs.size (.tup [.int (i : Nat), .str ⟨#[c]⟩])) h'' s.heap.objs.size (.tup [.int (i : Nat), .str ⟨#[c]⟩]) :=
      ⟨by show 2 ≤ sizeLine; decide, [.int i tk, .str ⟨#[c]⟩ tc], .cons ⟨_, rfl⟩ (.cons ⟨_, rfl⟩ .nil), ⟨_, hT2, rfl, _, rfl⟩⟩
    have I1 : Inv X pins σ (upd H s.heap.objs.size (.tup [.int (i : Nat), .str ⟨#[c]⟩])) { s with heap := h'', toks := tk + 1 } :=
      I.turnedNew (ch := [e, it]) (fun b ob hb q => (sb.2 b (fun z => hb (by simp [z]))).trans (hk b ob (fun z => hb (by simp [z])) (fun z => hb (by simp [z])) q)) hf (Nat.le_refl _) new
    have hit'' : h''.IsStrIter it (strIterType x) x t (i + 1) := by
      obtain ⟨o, ho2, r⟩ := hit'
      exact ⟨o, (sb.2 it (Ne.symm hne)).trans ho2, r⟩
    refine ⟨.ref s.heap.objs.size, _, I1, rfl, ⟨_, c, rfl, I.hok.fresh (Nat.le_refl _), rfl, hcx⟩, ⟨⟨.str ⟨#[c]⟩ tc, ?_⟩, hit'', hne⟩, fun b hb => ?_⟩
    · have e1 : ((i + 1 : Nat) : Int) = (i : Int) + 1 := by omega
      rw [e1]; exact he'
    · have hb' : b < s.heap.objs.size := by
        have e' : b = e ∨ b = it := by simpa using hb
        rcases e' with z | z <;> rw [z] <;> assumption
      rw [upd_ne (Nat.ne_of_lt hb')]
      exact (hf b hb).1
  done := by
    intro X hP hw hK hc i pins s σ H E I hf st hg
    subst hP hw hK
    obtain ⟨⟨old, he⟩, hit, hne⟩ := st
    have hg : i = x.cps.size := hg
    subst hg
    obtain ⟨f0, f1, f2, f3, f4, f5⟩ := hf it (by simp)
    have D := drawsS (prog := X.prog) (w := X.w) (A := X.A.in1) (I.ok.hd hc) it x t
    exact wpAny_pyNext_enum_endD D he hit fun h' eb => ⟨rfl, I.turned (t' := s.toks) (fun b o hb q => eb b o hb q) f0 f1 f3 f4 f5⟩
  self := fun A i s Q E st h => let ⟨⟨_, he⟩, _⟩ := st; wpAny_pyIter_enum he h
/-- enumerate(x), x a text -/
def iEnumS (ta : TA) : TI := fun σ H R => ta σ H fun vs H1 => ∃ x, vs = [.str x] ∧ R (ItS x) H1
theorem pi_enumS {X : Cx} {e : Expr} {ta : TA} {p pos tpos : Pos} {elts : List Expr} {kk : Nat} (hg : Gl X "enumerate") (hm : X.mg "enumerate" = none) (ha : PA X [e] ta) (hs : starEach [e] X.env = [(false, eval e X.env)] := by rfl) :
    PI X (.Tuple elts kk tpos) (.Call (.Name "enumerate" p) [e] [] pos) (iEnumS ta) := by
  refine ⟨fun pins s σ H R I h => ?_⟩
  refine Call_ (ld_blt I hg hm boot_enumerate (PyProof.Rows.callWith_type1 (thn (ha.run pos pins s σ H _ I h) fun us s1 ⟨vs, H1, I1, r1, q1⟩ => ?_) hs rfl))
  obtain ⟨x, ex, q⟩ := q1
  subst ex
  obtain ⟨u, rfl, ru⟩ := vals1 r1
  obtain ⟨t, rfl⟩ := (show ∃ t, u = Value.str x t from ru)
  have bnd : ∀ b ∈ [s1.heap.objs.size + 1, s1.heap.objs.size], s1.heap.objs.size ≤ b := fun b hb => by
    have e' : b = s1.heap.objs.size + 1 ∨ b = s1.heap.objs.size := by simpa using hb
    omega
  refine call_enumerate_str fun h' he hit hsz hk => wpAny_pyIter_enum he ?_
  have I2 : Inv X pins σ H1 { s1 with heap := h' } := I1.kept (t' := s1.toks) hk
  exact ⟨s1.heap.objs.size + 1, [s1.heap.objs.size + 1, s1.heap.objs.size], _, _, H1, rfl, I2, turn_enS x t (s1.heap.objs.size + 1) s1.heap.objs.size, ⟨⟨.none, he⟩, hit, Nat.succ_ne_self _⟩, fun b hb => I1.fpOk (bnd b hb) (I1.hok.fresh (bnd b hb)), q⟩
theorem walk_enS {x : Str} : Walk (ItS x) x.cps.size (fun _ => True) (YPair (fun i => some (.int (i : Nat))) (fun i => (x.cps[i]?).map fun c => V.str ⟨#[c]⟩)) := by
  refine ⟨fun i _ hi _ => hi, fun _ _ => rfl, fun i H v H' _ _ y => ?_⟩
  obtain ⟨T, c, h1, h2, h3, h4⟩ := y
  exact ⟨T, .int (i : Nat), .str ⟨#[c]⟩, h1, h2, h3, rfl, by show (x.cps[i]?).map _ = _; rw [h4]; rfl⟩
end Nm
set_option autoImplicit false
set_option maxRecDepth 100000
set_option maxHeartbeats 8000000
/-! _law_is_word -/
namespace Nm
open PySem PySem.Spec PyProof.Rows L2
abbrev abcS : Str := "abcdefghijklmnopqrstuvwxyz"
abbrev digS : Str := "0123456789"
/-- the signs that are no letters -/
def headB (z : Str) (i : Nat) : Bool := match z.cps[i]? with
  | some c => !decide (c ∈ abcS.cps.toList)
  | none => false
def headL (z : Str) (n : Nat) : List Nat := (List.range n).filter (headB z)
theorem headL_len (z : Str) (n : Nat) : (headL z n).length ≤ n := by
  have := List.length_filter_le (headB z) (List.range n)
  rw [List.length_range] at this
  exact this
def manyW (z : Str) : Nat := match headL z z.cps.size with
  | [] => z.length
  | a :: _ => a
def lwB (z : Str) : Bool := decide (1 ≤ manyW z) && decide (manyW z ≤ 8) && decide (z.length ≤ manyW z + 4) && decide (((_root_.L2.cutS z (some (manyW z : Int)) none).cps.toList.filter fun c => !decide (c ∈ digS.cps.toList)) = [])
def lwO : V → Bool
  | .str z => lwB z
  | _ => false
theorem odd_same : ∀ z ∈ oddZ, lwB z = isWordB z := by decide +kernel
theorem Fine.same {v : V} (h : Fine v) : lwO v = wordO v := by
  cases v with
  | str z => exact odd_same z (h.str z rfl)
  | _ => rfl
section
variable {P : Program} {w : World} {K : PySem.W.Frag} {mg : Str → Option Value} {base : Heap}
def spLw : Sp := fun vs H Q _ => ∃ (x : V) (d : PyData), vs = [x] ∧ OdV H x d ∧ ∀ H', Same H H' → Q (.bl (lwO x)) H'
abbrev nLw : List Str := ["_law_value_here", "_law_at", "_law_sign", "_law_head", "_law_many"]
theorem scLw : FnScope nLw ["_law_value_here"] (defScope sLawIsWord) := ⟨rfl, rfl, rfl, by decide +kernel, rfl, by decide +kernel, by decide +kernel⟩
theorem ok_lw {f : Addr} {fd : FuncData} (F : Fun K "_law_is_word" "_law_is_word" sLawIsWord f fd) (T : TxtG mg) (Te : mg "enumerate" = none) : FnOk P w K mg base CX0 1 f fd ["_law_value_here"] spLw := by
  refine F.ok scLw (fun vs H Q E h => ?_) (fun cdv A outer s H vs Q E hr h => ?_)
  · obtain ⟨_, _, rfl, _⟩ := h
    rfl
  obtain ⟨x, d, rfl, hx, k⟩ := h
  have hu := hu_of hr
  refine ⟨_, pss_cons (ps_if (pt_not (pt_val (pe_callB call_isi (by rfl) T.isinstance (by decide +kernel) (pa_cons (pv 0) (pa_cons (pe_bltn (v := .ty "str") (by rfl) T.str (by decide +kernel) rfl) pa_nil))))) (pss_one (ps_ret pe_bl)) pss_nil)
    (Evl.pss_cut (ps_setLc (i := 3) (own := [("_law_at", 1), ("_law_sign", 2)]) (g := gTup K 2 (gCons (gName 1) (gCons (gName 2) gNil))) (te := tVar 1) rfl scLw.nd rfl rfl (sw_true rfl rfl rfl (by decide +kernel)) (pi_enumS (by rfl) Te (pa_cons (pv 0) pa_nil))
        (blkOk_by (N := nLw) (sc := defScope sLawIsWord) (by decide +kernel)) (fun _ _ _ _ _ => pg_tup rfl (pgs_cons (pg_name (i := 1) scLw.nd rfl (Or.inl rfl)) (pgs_cons (pg_name (i := 2) scLw.nd rfl (Or.inl rfl)) pgs_nil)))
        (fun _ _ _ _ _ => pts_one (pt_cmpR op_notIn_sign (pv 2) pe_str (by rfl))) (fun _ _ _ _ _ => pv 1))
    (Evl.pss_cut (ps_set (i := 4) scLw.nd rfl (Or.inl rfl) (pe_ifExp (pt_cmpR (op_neE (Nat.lt_of_succ_lt hu)) (pv 3) (pe_lst pa_nil) (by rfl)) (pe_ix ix_list (pv 3) pe_int (fun _ _ => rfl)) (pe_callB call_len_str (by rfl) T.len PySem.boot_len (pa_cons (pv 0) pa_nil))))
    (pss_cons (ps_if (PW.pt (pw_or (pt_not (pt_chain op_le op_le pe_int (pv 4) pe_int)) (pw_or1 (pt_cmpR op_gt (pe_op op_sub (pe_callB call_len_str (by rfl) T.len PySem.boot_len (pa_cons (pv 0) pa_nil)) (pv 4)) pe_int (nomark _))))) (pss_one (ps_ret pe_bl)) pss_nil)
    (pss_one (ps_ret (pe_cmpR (op_eqE (Nat.lt_of_succ_lt hu)) (pe_lc (own := [("_law_sign", 2)]) (g := gName 2) (te := tVar 2) rfl scLw.nd (pi_str (pe_slice sl_str (pv 0) (po_some (pv 4)) po_none))
          (blkOk_by (N := nLw) (sc := defScope sLawIsWord) (by decide +kernel)) (fun _ _ _ _ _ => pg_name (i := 2) scLw.nd rfl (Or.inl rfl)) (fun _ _ _ _ _ => pts_one (pt_cmpR op_notIn_sign (pv 2) pe_str (by rfl)))
          (fun _ _ _ _ _ => pv 2)) (pe_lst pa_nil) (by rfl))))))), ?_⟩
  cases hx with
  | lst e l n =>
    refine ⟨_, rfl, _, _, _, _, false, rfl, ClsV.ty "str", TyX.base (TyOf.lst e), kit_ty (by decide +kernel), _, rfl, iteT ?_⟩
    exact k H fun _ _ e => e
  | tup e l n =>
    refine ⟨_, rfl, _, _, _, _, false, rfl, ClsV.ty "str", TyX.base (TyOf.tup e), kit_ty (by decide +kernel), _, rfl, iteT ?_⟩
    exact k H fun _ _ e => e
  | dc0 e =>
    refine ⟨_, rfl, _, _, _, _, false, rfl, ClsV.ty "str", TyX.base (TyOf.dK e), kit_ty (by decide +kernel), _, rfl, iteT ?_⟩
    exact k H fun _ _ e => e
  | dc1 e hz l =>
    refine ⟨_, rfl, _, _, _, _, false, rfl, ClsV.ty "str", TyX.base (TyOf.dK e), kit_ty (by decide +kernel), _, rfl, iteT ?_⟩
    exact k H fun _ _ e => e
  | lf l =>
    cases l with
    | non =>
      refine ⟨_, rfl, _, _, _, _, false, rfl, ClsV.ty "str", TyX.base TyOf.non, kit_ty (by decide +kernel), _, rfl, iteT ?_⟩
      exact k H fun _ _ e => e
    | bl b =>
      refine ⟨_, rfl, _, _, _, _, false, rfl, ClsV.ty "str", TyX.base (TyOf.bl b), kit_ty (by decide +kernel), _, rfl, iteT ?_⟩
      exact k H fun _ _ e => e
    | int hi =>
      refine ⟨_, rfl, _, _, _, _, false, rfl, ClsV.ty "str", TyX.base (TyOf.int _), kit_ty (by decide +kernel), _, rfl, iteT ?_⟩
      exact k H fun _ _ e => e
    | @str z hz hn =>
      refine ⟨_, rfl, _, _, _, _, true, rfl, ClsV.ty "str", TyX.base (TyOf.str z), kit_ty (by decide +kernel), _, rfl, iteF ?_⟩
      have hn : z.cps.size ≤ 100 := hn
      refine ⟨fun σ H1 => ∃ (D : Addr) (v1 v2 : Option V), σ = [some (.str z), v1, v2, some (.ref D), none] ∧ H1 D = some (.lst (natV (headL z z.cps.size))) ∧ Same H H1, ?_, ?_⟩
      · refine ⟨_, rfl, z, rfl, fun D hD => ?_⟩
        refine lc_it walk_enS (fun i H1 => H1 D = some (.lst (natV (headL z i))) ∧ Same H H1) ⟨upd_same, same_new hD⟩ (fun _ _ _ _ => trivial) ?_ ?_
        · rintro i x H1 H2 hi ⟨hD1, s1⟩ ⟨T', x1, y1, rfl, hT, rfl, e1, e2⟩
          cases e1
          have sT := same_new (o := .tup [V.int (i : Nat), y1]) hT
          have hc : z.cps[i]? = some z.cps[i] := Array.getElem?_eq_getElem hi
          have e2 : (z.cps[i]?).map (fun c => V.str ⟨#[c]⟩) = some y1 := e2
          rw [hc] at e2
          cases e2
          have st : headL z (i + 1) = headL z i ++ (if headB z i = true then [i] else []) := by
            unfold headL
            rw [List.range_succ, List.filter_append]
            cases hh : headB z i <;> simp [hh]
          have hb : headB z i = !decide (z.cps[i] ∈ abcS.cps.toList) := by
            unfold headB
            rw [hc]
          refine ⟨T', _, rfl, SqT.of upd_same, rfl, _, _, rfl, _, _, rfl, rfl, ?_⟩
          generalize upd H1 T' (.tup [V.int (i : Nat), V.str ⟨#[z.cps[i]]⟩]) = H3 at *
          refine ⟨rfl, ?_⟩
          refine ⟨_, rfl, z.cps[i], _, rfl, rfl, _, rfl, ?_⟩
          rw [← hb]
          cases hh : headB z i with
          | false =>
            rw [hh] at st
            refine iteF ⟨?_, s1.trans sT⟩
            rw [st]
            simpa using sT _ _ hD1
          | true =>
            rw [hh] at st
            refine iteT ?_
            refine ⟨_, rfl, _, sT _ _ hD1, Evl.sz_lt (by have := headL_len z i; unfold natV; rw [List.length_map]; omega), ?_, same_off (s1.trans sT) hD⟩
            rw [upd_same, st]
            unfold natV
            rw [List.map_append]
            rfl
        · rintro H1 ⟨hD1, s1⟩
          exact ⟨D, _, _, rfl, hD1, s1⟩
      rintro σ H1 ⟨D, v1, v2, rfl, hD, s1⟩
      refine ⟨fun σ H2 => σ = [some (.str z), v1, v2, some (.ref D), some (.int (manyW z : Int))] ∧ Same H H2, ?_, ?_⟩
      · have lim := sizeLine_eq
        refine ⟨_, rfl, (by show (0 : Nat) ≤ sizeLine; omega), fun q hq => ?_⟩
        have sq := same_new (o := .lst []) hq
        refine ⟨D, q, _, rfl, rfl, SqL.of (sq _ _ hD), SqL.of upd_same, _, rfl, ?_⟩
        cases hh : headL z z.cps.size with
        | nil =>
          have hm : manyW z = z.length := by unfold manyW; rw [hh]
          refine iteF ?_
          refine ⟨_, rfl, _, rfl, Evl.sz_of (show z.length ≤ 100000 by show z.cps.size ≤ _; omega), ?_⟩
          rw [hm]
          exact ⟨rfl, s1.trans sq⟩
        | cons a r =>
          have hm : manyW z = a := by unfold manyW; rw [hh]
          refine iteT ?_
          refine ⟨_, rfl, D, _, _, V.int (a : Int), rfl, rfl, SqL.of (sq _ _ hD), ?_, ?_⟩
          · rw [hh]
            exact atI_nat (j := 0) rfl
          · rw [hm]
            exact ⟨rfl, s1.trans sq⟩
      rintro σ H2 ⟨rfl, s2⟩
      have lim := sizeLine_eq
      have hw : lwB z = (decide (1 ≤ manyW z) && decide (manyW z ≤ 8) && decide (z.length ≤ manyW z + 4) && decide (((_root_.L2.cutS z (some (manyW z : Int)) none).cps.toList.filter fun c => !decide (c ∈ digS.cps.toList)) = [])) := rfl
      have k : ∀ H', Same H H' → Q (.bl (lwB z)) H' := k
      generalize manyW z = m at *
      refine ⟨_, rfl, _, _, rfl, rfl, _, rfl, ?_⟩
      show (if decide ((1 : Int) ≤ (m : Int)) = true then _ else _)
      by_cases h1 : 1 ≤ m
      · rw [if_pos (decide_eq_true (by omega))]
        refine ⟨_, _, rfl, rfl, _, rfl, ?_⟩
        show (if (!decide ((m : Int) ≤ 8)) = true then _ else _)
        by_cases h8 : m ≤ 8
        · rw [decide_eq_true (show (m : Int) ≤ 8 by omega)]
          refine iteF ?_
          refine ⟨_, rfl, _, rfl, Evl.sz_of (show z.length ≤ 100000 by show z.cps.size ≤ _; omega), _, rfl, _, _, rfl, rfl, _, _, rfl, rfl, _, rfl, ?_⟩
          show (if decide ((4 : Int) < (z.length : Int) - (m : Int)) = true then _ else _)
          by_cases h4 : z.length ≤ m + 4
          · rw [decide_eq_false (show ¬ ((4 : Int) < (z.length : Int) - (m : Int)) by omega)]
            refine iteF ?_
            have hcl : (_root_.L2.cutS z (some (m : Int)) none).length ≤ z.length := _root_.L2.cutS_length _ _ _
            refine ⟨_, rfl, _, rfl, _, rfl, z, rfl, by show z.cps.size ≤ _; omega, _, rfl, fun D2 hD2 => ?_⟩
            generalize hy : _root_.L2.cutS z (some (m : Int)) none = y at *
            have hyl : y.cps.size ≤ 100 := Nat.le_trans hcl hn
            refine lc_it walk_str (fun i H1 => H1 D2 = some (.lst ((((y.cps.toList.take i).filter fun c => !decide (c ∈ digS.cps.toList)).map fun c => V.str ⟨#[c]⟩))) ∧ Same H H1) ⟨upd_same, s2.trans (same_new hD2)⟩ (fun _ _ _ _ => trivial) ?_ ?_
            · rintro i x H1 H3 hi ⟨hD1, s3⟩ ⟨rfl, c, hc, rfl⟩
              have hcm : y.cps.toList[i]? = some c := by rw [Array.getElem?_toList]; exact hc
              refine ⟨rfl, ?_⟩
              refine ⟨_, rfl, c, _, rfl, rfl, _, rfl, ?_⟩
              have st : (y.cps.toList.take (i + 1)).filter (fun c => !decide (c ∈ digS.cps.toList)) = (y.cps.toList.take i).filter (fun c => !decide (c ∈ digS.cps.toList)) ++ [c].filter (fun c => !decide (c ∈ digS.cps.toList)) := by
                rw [List.take_add_one, hcm, Option.toList_some, List.filter_append]
              cases hh : !decide (c ∈ digS.cps.toList) with
              | false =>
                refine iteF ⟨?_, s3⟩
                have e0 : [c].filter (fun c => !decide (c ∈ digS.cps.toList)) = [] := by simp only [List.filter_cons, hh, List.filter_nil, Bool.false_eq_true, if_false]
                rw [st, e0, List.append_nil]
                exact hD1
              | true =>
                refine iteT ?_
                have e0 : [c].filter (fun c => !decide (c ∈ digS.cps.toList)) = [c] := by simp only [List.filter_cons, hh, List.filter_nil, if_true]
                refine ⟨_, rfl, _, hD1, Evl.sz_lt ?_, ?_, ?_⟩
                · rw [List.length_map]
                  have := List.length_filter_le (fun c => !decide (c ∈ digS.cps.toList)) (y.cps.toList.take i)
                  rw [List.length_take] at this
                  omega
                · rw [upd_same, st, e0, List.map_append]
                  rfl
                · exact same_off s3 (s2.free hD2)
            · rintro H1 ⟨hD1, s3⟩
              refine ⟨by show (0 : Nat) ≤ sizeLine; omega, fun q hq => ?_⟩
              have sq := same_new (o := .lst []) hq
              refine ⟨D2, q, _, rfl, rfl, SqL.of (sq _ _ hD1), SqL.of upd_same, ?_⟩
              have e : lwB z = decide (((y.cps.toList.take y.cps.size).filter fun c => !decide (c ∈ digS.cps.toList)).map (fun c => V.str ⟨#[c]⟩) = []) := by
                rw [hw, decide_eq_true h1, decide_eq_true h8, decide_eq_true h4, List.take_of_length_le (by simp)]
                simp only [Bool.true_and, List.map_eq_nil_iff]
              rw [← e]
              exact k _ (s3.trans sq)
          · rw [decide_eq_true (show ((4 : Int) < (z.length : Int) - (m : Int)) by omega)]
            refine iteT ?_
            have e : lwB z = false := by rw [hw, decide_eq_false h4]; simp
            rw [← e]
            exact k H2 s2
        · rw [decide_eq_false (show ¬ (m : Int) ≤ 8 by omega)]
          refine iteT ?_
          have e : lwB z = false := by rw [hw, decide_eq_false h8]; simp
          rw [← e]
          exact k H2 s2
      · rw [if_neg (by rw [decide_eq_false (show ¬ (1 : Int) ≤ (m : Int) by omega)]; exact Bool.false_ne_true)]
        have e : lwB z = false := by rw [hw, decide_eq_false h1]; simp
        refine ⟨_, rfl, ?_⟩
        refine iteT ?_
        rw [← e]
        exact k H2 s2
end
end Nm
set_option autoImplicit false
set_option maxRecDepth 100000
set_option maxHeartbeats 4000000
/-! x not in t, t a tuple of data; the data of a spot -/
namespace Nm
open PySem PySem.Spec PyProof.Rows L2
section
variable {X : Cx}
end
def dSp (a b k : Str) : PyData := .tuple [.str a, .str b, .str k]
theorem dSp_eqv (a b k a' b' k' : Str) : PyData.eqv (dSp a b k) (dSp a' b' k') = decide (a = a' ∧ b = b' ∧ k = k') := by
  show ((a == a') && ((b == b') && ((k == k') && true))) = _
  by_cases h1 : a = a' <;> by_cases h2 : b = b' <;> by_cases h3 : k = k' <;> simp [h1, h2, h3]
theorem dSp_dp {K : PySem.W.Frag} {H : Hp} {u : Addr} {a b k : Str} (h : H u = some (.tup [.str a, .str b, .str k])) : Dp K H (.ref u) (dSp a b k) := .tup (SqT.of h) (.cons (.str a) (.cons (.str b) (.cons (.str k) .nil)))
theorem dSp_lay {a b k : Str} (ha : isWordB a = true) (hb : isWordB b = true) (hk : isWordB k = true) : (dSp a b k).canLay0 = true ∧ (dSp a b k).depth ≤ 1 := by
  refine ⟨?_, ?_⟩
  · simp only [dSp, PyData.canLay0, PyData.canLayAll0, word_ok ha, word_ok hb, word_ok hk, Bool.and_self]
  · simp [dSp, PyData.depth, PyData.depthAll]
theorem dSp_shaped {a b k : Str} (ha : isWordB a = true) (hb : isWordB b = true) (hk : isWordB k = true) : SeqAt.shaped (dSp a b k) = true := by
  obtain ⟨h1, h2⟩ := dSp_lay ha hb hk
  unfold SeqAt.shaped
  rw [h1, Bool.true_and, decide_eq_true_eq]
  omega
end Nm
set_option autoImplicit false
set_option maxRecDepth 100000
set_option maxHeartbeats 16000000
/-! _law_tie_due -/
namespace Nm
open PySem PySem.Spec PyProof.Rows L2
/-- all texts that can be drawn -/
def allZ : List Str := "k" :: "y" :: (oddZ ++ w14)
structure FineS (v : V) : Prop where
  str : ∀ z, v = .str z → z ∈ allZ
  int : ∀ i, v = .int i → -5 ≤ i ∧ i ≤ 10
theorem Fine.s {v : V} (h : Fine v) : FineS v := ⟨fun z e => List.mem_cons_of_mem _ (List.mem_cons_of_mem _ (List.mem_append_left _ (h.str z e))), fun i e => by have := h.int i e; omega⟩
theorem allZ_lw : ∀ z ∈ allZ, lwO (.str z) = wordO (.str z) := by decide +kernel
theorem FineS.same {v : V} (h : FineS v) : lwO v = wordO v := by
  cases v with
  | str z => exact allZ_lw z (h.str z rfl)
  | _ => rfl
theorem fineS_w {z : Str} (h : z ∈ w14) : FineS (.str z) := ⟨fun z' e => by cases e; exact List.mem_cons_of_mem _ (List.mem_cons_of_mem _ (List.mem_append_right _ h)), fun i e => by cases e⟩
theorem fineS_int {i : Int} (h : -5 ≤ i ∧ i ≤ 10) : FineS (.int i) := ⟨(by intro _ e; cases e), fun _ e => by cases e; exact h⟩
def FineT (e : Tv) : Prop := ∀ v ∈ e.vals, FineS v
theorem mm_two {a b c d : Str} (n1 : a ≠ b) (n2 : c ≠ d) (h1 : minS a b = minS c d) (h2 : maxS a b = maxS c d) : (a = c ∧ b = d) ∨ (a = d ∧ b = c) := by
  rcases pair_mm n1 with ⟨x1, x2⟩ | ⟨x1, x2⟩ <;> rcases pair_mm n2 with ⟨y1, y2⟩ | ⟨y1, y2⟩ <;> rw [x1, y1] at h1 <;> rw [x2, y2] at h2
  · exact .inl ⟨h1, h2⟩
  · exact .inr ⟨h1, h2⟩
  · exact .inr ⟨h2, h1⟩
  · exact .inl ⟨h2, h1⟩
theorem spot_known {x y z : Str} {w : Int} (ne : x ≠ y) {tl : List TieV} (hne : ∀ t ∈ tl, t.x ≠ t.y) : (⟨x, y, z, w⟩ : TieV).spot ∈ tl.map TieV.spot ↔ (∃ t ∈ tl, t.x = x ∧ t.y = y ∧ t.kd = z) ∨ ∃ t ∈ tl, t.x = y ∧ t.y = x ∧ t.kd = z := by
  constructor
  · intro h
    obtain ⟨t, ht, e⟩ := List.mem_map.mp h
    have e1 : minS t.x t.y = minS x y := by
      have := (List.cons.inj e).1
      exact Sum.inr.inj this
    have e2 : maxS t.x t.y = maxS x y := by
      have := (List.cons.inj (List.cons.inj e).2).1
      exact Sum.inr.inj this
    have e3 : t.kd = z := by
      have := (List.cons.inj (List.cons.inj (List.cons.inj e).2).2).1
      exact Sum.inr.inj this
    rcases mm_two (hne t ht) ne e1 e2 with ⟨a, b⟩ | ⟨a, b⟩
    · exact .inl ⟨t, ht, a, b, e3⟩
    · exact .inr ⟨t, ht, a, b, e3⟩
  · rintro (⟨t, ht, rfl, rfl, rfl⟩ | ⟨t, ht, rfl, rfl, rfl⟩)
    · exact List.mem_map.mpr ⟨t, ht, rfl⟩
    · refine List.mem_map.mpr ⟨t, ht, ?_⟩
      obtain ⟨a, b⟩ := mm_comm (hne t ht)
      unfold TieV.spot
      rw [a, b]
section
variable {X : Cx}
def rInDL (K : PySem.W.Frag) : R2 := fun x y H Q => ∃ d ds, Dp K H x d ∧ Dp K H y (.list ds) ∧ SeqAt.shaped d = true ∧ SeqAt.shaped (.list ds) = true ∧ Q (.bl (ds.any fun z => PyData.eqv z d)) H
theorem op_inDL (hu : X.A.units + 65 < cLine) : OpR X (compareOp .In) (rInDL X.K) := by
  intro pins s σ H x y v u Q I rx ry h
  obtain ⟨d, ds, hd, he, sd, se, q⟩ := h
  obtain ⟨as, r1⟩ := Dp.reads I d x v hd rx
  obtain ⟨bs, r2⟩ := Dp.reads I (.list ds) y u he ry
  have d1 := SeqAt.depth_of_shaped sd
  have hm : min (PyData.depthAll ds) d.depth ≤ d.depth := Nat.min_le_right _ _
  exact PySem.SeqAt.in_list_reads r2 r1 (by simpa only [PyData.canLay0] using SeqAt.canLay_of_shaped se) (SeqAt.canLay_of_shaped sd) (by omega) ⟨.bl _, H, I, rfl, q⟩
end
/-- the ties that are known, as triples -/
def KnAt (H : Hp) (kn : Addr) (tl : List TieV) : Prop := ∃ ks : List Addr, H kn = some (.lst (ks.map V.ref)) ∧ Paired (fun a (t : TieV) => H a = some (.tup [.str t.x, .str t.y, .str t.kd])) ks tl
def dKn (tl : List TieV) : List PyData := tl.map fun t => dSp t.x t.y t.kd
theorem dpKn {K : PySem.W.Frag} {H : Hp} : ∀ {ks : List Addr} {tl : List TieV}, Paired (fun a (t : TieV) => H a = some (.tup [.str t.x, .str t.y, .str t.kd])) ks tl → DpAll K H (ks.map V.ref) (dKn tl)
  | _, _, .nil => .nil
  | _, _, .cons h t => .cons (dSp_dp h) (dpKn t)
theorem layKn : ∀ {tl : List TieV}, (∀ t ∈ tl, isWordB t.x = true ∧ isWordB t.y = true ∧ isWordB t.kd = true) → PyData.canLayAll0 (dKn tl) = true ∧ PyData.depthAll (dKn tl) ≤ 1
  | [], _ => ⟨rfl, Nat.zero_le _⟩
  | t :: tl, h => by
    obtain ⟨a, b⟩ := layKn fun x hx => h x (List.mem_cons_of_mem _ hx)
    obtain ⟨h1, h2, h3⟩ := h t List.mem_cons_self
    obtain ⟨c, d⟩ := dSp_lay h1 h2 h3
    refine ⟨?_, ?_⟩
    · show ((dSp t.x t.y t.kd).canLay0 && PyData.canLayAll0 (dKn tl)) = true
      rw [c, a]
      rfl
    · show max (dSp t.x t.y t.kd).depth (PyData.depthAll (dKn tl)) ≤ 1
      omega
theorem shKn {tl : List TieV} (h : ∀ t ∈ tl, isWordB t.x = true ∧ isWordB t.y = true ∧ isWordB t.kd = true) : SeqAt.shaped (.list (dKn tl)) = true := by
  obtain ⟨a, b⟩ := layKn h
  unfold SeqAt.shaped
  rw [Bool.and_eq_true, decide_eq_true_eq]
  refine ⟨?_, ?_⟩
  · simp only [PyData.canLay0]
    exact a
  · simp only [PyData.depth]
    omega
theorem anyKn {tl : List TieV} {x y z : Str} : ((dKn tl).any fun d => PyData.eqv d (dSp x y z)) = decide (∃ t ∈ tl, t.x = x ∧ t.y = y ∧ t.kd = z) := by
  rw [Bool.eq_iff_iff, List.any_eq_true, decide_eq_true_iff]
  constructor
  · rintro ⟨d, hd, e⟩
    obtain ⟨t, ht, rfl⟩ := List.mem_map.mp hd
    rw [dSp_eqv] at e
    exact ⟨t, ht, of_decide_eq_true e⟩
  · rintro ⟨t, ht, e⟩
    refine ⟨_, List.mem_map.mpr ⟨t, ht, rfl⟩, ?_⟩
    rw [dSp_eqv]
    exact decide_eq_true e
def tdL : Option Nat → List V
  | none => []
  | some n => [.int (n : Int)]
section
variable {P : Program} {w : World} {K : PySem.W.Frag} {mg : Str → Option Value} {base : Heap}
def spTd : Sp := fun vs H Q _ => ∃ (ol ta : Addr) (nm : List Str) (us : List V) (es : List Tv), vs = [.ref ol, .ref ta] ∧ H ol = some (.lst (nm.map V.str)) ∧ TsAt5 H ta us es ∧ (∀ e ∈ es, FineT e) ∧ (∀ z ∈ nm, isWordB z = true) ∧ es.length ≤ 1000 ∧
  ∀ (r : Addr) (H' : Hp), H r = none → H' r = some (.lst (tdL (runT nm [] es).2)) → Same H H' → Q (.ref r) H'
abbrev nTd : List Str := ["_law_order", "_law_ties_here", "_law_known", "_law_number", "_law_tie", "_law_one", "_law_other", "_law_kind", "_law_width"]
theorem scTd : FnScope nTd ["_law_order", "_law_ties_here"] (defScope sTieDue) := ⟨rfl, rfl, rfl, by decide +kernel, rfl, by decide +kernel, by decide +kernel⟩
theorem ok_td {f : Addr} {fd : FuncData} (F : Fun K "_law_tie_due" "_law_tie_due" sTieDue f fd) (T : TxtH mg) (Gw : Def P w K mg base "_law_is_word" ["_law_value_here"] 1 spLw) (Gh : Def P w K mg base "_law_whole" nWh 1 spWholeO) : FnOk P w K mg base CX0 2 f fd ["_law_order", "_law_ties_here"] spTd := by
  obtain ⟨fw, fdw, Gw, mw, kw, bw⟩ := Gw.ex
  obtain ⟨fh, fdh, Gh, mh, kh, bh⟩ := Gh.ex
  refine F.ok scTd (fun vs H Q E h => ?_) (fun cdv A outer s H vs Q E hr h => ?_)
  · obtain ⟨_, _, _, _, _, rfl, _⟩ := h
    rfl
  obtain ⟨ol, ta, nm, us, es, rfl, hol, ⟨hta, pr, hod⟩, fine, wds, e1000, k⟩ := h
  have hu := hu_of hr
  have hu65 : (cxOf CX0 P w K mg base nTd "_law_tie_due" (defScope sTieDue) f cdv A outer s H E).nox.A.units + 65 < cLine := by
    have := hr.un
    show (A.deeper _).units + 65 < cLine
    omega
  have lim := sizeLine_eq
  have ul : us.length = es.length := Paired.length pr
  refine ⟨_, pss_cons (ps_set (i := 2) scTd.nd rfl (Or.inl rfl) (pe_lst pa_nil))
    (pss_cons (ps_for PassesOwn.never rfl (pi_enB true (by rfl) T.enumerate (pa_cons (pv 1) pa_nil)) (pg_tup rfl (pgs_cons (pg_name (i := 3) scTd.nd rfl (.inl rfl)) (pgs_cons (pg_name (i := 4) scTd.nd rfl (.inl rfl)) pgs_nil)))
      (pss_cons (ps_if (PW.pt (pw_or (pt_not (pt_val (pe_callB call_isi (by rfl) T.isinstance (by decide +kernel) (pa_cons (pv 4) (pa_cons (pe_bltn (v := .ty "tuple") (by rfl) T.tuple (by decide +kernel) rfl) pa_nil))))) (pw_or1 (pt_cmpR op_ne (pe_callB call_len_seq (by rfl) T.len PySem.boot_len (pa_cons (pv 4) pa_nil)) pe_int (nomark _))))) (pss_one (ps_ret (pe_lst (pa_cons (pv 3) pa_nil)))) pss_nil)
      (pss_cons (ps_asg (pv 4) (pg_tup rfl (pgs_cons (pg_name (i := 5) scTd.nd rfl (.inl rfl)) (pgs_cons (pg_name (i := 6) scTd.nd rfl (.inl rfl)) (pgs_cons (pg_name (i := 7) scTd.nd rfl (.inl rfl)) (pgs_cons (pg_name (i := 8) scTd.nd rfl (.inl rfl)) pgs_nil))))))
      (pss_cons (ps_if (PW.pt (pw_or (pt_not (pt_val (pe_callB call_isi (by rfl) T.isinstance (by decide +kernel) (pa_cons (pv 5) (pa_cons (pe_bltn (v := .ty "str") (by rfl) T.str (by decide +kernel) rfl) pa_nil))))) (pw_or (pt_not (pt_val (pe_callB call_isi (by rfl) T.isinstance (by decide +kernel) (pa_cons (pv 6) (pa_cons (pe_bltn (v := .ty "str") (by rfl) T.str (by decide +kernel) rfl) pa_nil))))) (pw_or (pt_cmpR op_notIn_seq (pv 5) (pv 0) (by rfl)) (pw_or1 (pt_cmpR op_notIn_seq (pv 6) (pv 0) (by rfl))))))) (pss_one (ps_ret (pe_lst (pa_cons (pv 3) pa_nil)))) pss_nil)
      (pss_cons (ps_if (PW.pt (pw_or (pt_cmpR op_eq (pv 5) (pv 6) (nomark _)) (pw_or (pt_not (pt_val (pe_call Gw (hr.mono (by decide)) (by rfl) mw kw bw .nil pass0 (pa_cons (pv 7) pa_nil)))) (pw_or1 (pt_not (pt_val (pe_call Gh (hr.mono (by decide)) (by rfl) mh kh bh .nil pass0 (pa_cons (pv 8) (pa_cons pe_int (pa_cons (pe_op op_pow pe_int pe_int) pa_nil)))))))))) (pss_one (ps_ret (pe_lst (pa_cons (pv 3) pa_nil)))) pss_nil)
      (pss_cons (ps_if (PW.pt (pw_or (pt_cmpR (op_inDL hu65) (pe_tup (pa_cons (pv 5) (pa_cons (pv 6) (pa_cons (pv 7) pa_nil)))) (pv 2) (by rfl)) (pw_or1 (pt_cmpR (op_inDL hu65) (pe_tup (pa_cons (pv 6) (pa_cons (pv 5) (pa_cons (pv 7) pa_nil)))) (pv 2) (by rfl))))) (pss_one (ps_ret (pe_lst (pa_cons (pv 3) pa_nil)))) pss_nil)
      (pss_one (ps_expr (pe_bm PySem.F.plainAttrs_list PySem.F.slot_list_append PySem.F.type_list_append mt_append (pv 2) (pa_cons (pe_tup (pa_cons (pv 5) (pa_cons (pv 6) (pa_cons (pv 7) pa_nil)))) pa_nil))))))))))
    (pss_one (ps_ret (pe_lst pa_nil)))), ?_⟩
  refine ⟨by show 0 ≤ sizeLine; omega, fun kn hkn => ?_⟩
  have s1 := same_new (o := .lst []) hkn
  have hkn1 : (upd H kn (.lst [])) kn = some (.lst []) := upd_same
  have bad : ∀ {i : Nat} {H2 : Hp} {r : Addr}, Same H H2 → (runT nm [] es).2 = some i → H2 r = none → ∀ H', H' = upd H2 r (.lst [.int ((i : Nat) : Int)]) → ∀ Q' : VK, (∀ (r : Addr) (H' : Hp), H r = none → H' r = some (.lst (tdL (runT nm [] es).2)) → Same H H' → Q' (.ref r) H') → Q' (.ref r) H' := fun {i H2 r} s2 e hr0 H' eH Q' k => by
    subst eH
    exact k r _ (s2.free hr0) (by rw [e]; exact upd_same) (s2.trans (same_new hr0))
  refine ⟨_, rfl, ta, _, rfl, SqB.of (k := true) (s1 _ _ hta), ?_⟩
  refine for_it (walk_enB (k := true) (xs := us)) (fun i σ H2 => ∃ v3 v4 v5 v6 v7 v8 tl, σ = [some (.ref ol), some (.ref ta), some (.ref kn), v3, v4, v5, v6, v7, v8] ∧ KnAt H2 kn tl ∧ (∀ t ∈ tl, t.Ok nm) ∧ tl.length = i ∧ runT nm [] es = runT nm tl (es.drop i) ∧ Same H H2)
    ⟨none, none, none, none, none, none, [], rfl, ⟨[], hkn1, .nil⟩, (fun t m => (List.not_mem_nil m).elim), rfl, rfl, s1⟩ (fun i σ H2 _ h => by obtain ⟨_, _, _, _, _, _, _, _, _, _, _, _, h⟩ := h; exact SqB.of (k := true) (h _ _ hta)) ?_ ?_
  rotate_left
  · rintro σ H2 ⟨v3, v4, v5, v6, v7, v8, tl, rfl, _, _, tlen, run, s2⟩
    rw [ul, List.drop_length] at run
    refine ⟨by show 0 ≤ sizeLine; omega, fun r hr0 => ?_⟩
    exact k r _ (s2.free hr0) (by rw [run]; exact upd_same) (s2.trans (same_new hr0))
  rintro i x σ H2 H3 hi ⟨v3, v4, v5, v6, v7, v8, tl, rfl, ⟨ks, hkn2, pks⟩, tok, tlen, run, s2⟩ ⟨tp, x1, y1, rfl, htp, rfl, e1, e2⟩
  have e2 : us[i]? = some y1 := e2
  obtain ⟨e, he, hte⟩ := paired_get pr e2
  cases e1
  have em := List.mem_of_getElem? he
  have hdr : es.drop i = e :: es.drop (i + 1) := by
    have g := List.getElem?_eq_some_iff.mp he
    rw [List.drop_eq_getElem_cons g.1, g.2]
  rw [hdr, show runT nm tl (e :: es.drop (i + 1)) = (match standT nm tl e with | some t => runT nm (tl ++ [t]) (es.drop (i + 1)) | none => (tl, some tl.length)) from rfl] at run
  have s3 : Same H2 (upd H2 tp (.tup [V.int (i : Nat), y1])) := same_new htp
  have htp3 : (upd H2 tp (.tup [V.int (i : Nat), y1])) tp = some (.tup [V.int (i : Nat), y1]) := upd_same
  generalize upd H2 tp (.tup [V.int (i : Nat), y1]) = H3 at *
  have s03 := s2.trans s3
  refine ⟨tp, _, rfl, SqT.of htp3, rfl, _, _, rfl, _, _, rfl, rfl, ?_⟩
  have hte3 := hte.same s03
  have hod3 := (hod e em).same s03
  have fe := fine e em
  -- one that cannot stand
  have no : ∀ {H4 : Hp}, Same H3 H4 → standT nm tl e = none → ∀ r, H4 r = none → Q (.ref r) (upd H4 r (.lst [.int ((i : Nat) : Int)])) := fun {H4} s4 hs r hr0 => by
    rw [hs] at run
    exact bad (s03.trans s4) (by rw [run, tlen]) hr0 _ rfl Q k
  have no1 : ∀ {H4 : Hp}, Same H3 H4 → okT1 nm e = none → ∀ r, H4 r = none → Q (.ref r) (upd H4 r (.lst [.int ((i : Nat) : Int)])) := fun s4 h => no s4 (by unfold standT; rw [h]; rfl)
  have s33 := Same.refl H3
  cases e with
  | non =>
    obtain rfl : y1 = .non := hte3
    exact ⟨_, rfl, _, _, _, _, false, rfl, ClsV.ty "tuple", TyX.base TyOf.non, kit_ty (by decide +kernel), _, rfl, iteT ⟨_, rfl, by show 1 ≤ sizeLine; omega, no1 s33 rfl⟩⟩
  | t3 a b k' =>
    obtain ⟨t, rfl, ht⟩ := hte3
    refine ⟨_, rfl, _, _, _, _, true, rfl, ClsV.ty "tuple", TyX.base (TyOf.tup ht), kit_ty (by decide +kernel), _, rfl, iteF ?_⟩
    exact ⟨_, rfl, t, _, rfl, .inr (SqT.of ht), rfl, _, rfl, iteT ⟨_, rfl, by show 1 ≤ sizeLine; omega, no1 s33 rfl⟩⟩
  | l4 a b k' m =>
    obtain ⟨t, rfl, ht⟩ := hte3
    exact ⟨_, rfl, _, _, _, _, false, rfl, ClsV.ty "tuple", TyX.base (TyOf.lst ht), kit_ty (by decide +kernel), _, rfl, iteT ⟨_, rfl, by show 1 ≤ sizeLine; omega, no1 s33 rfl⟩⟩
  | t4 a b kd m =>
    obtain ⟨t, rfl, ht⟩ := hte3
    obtain ⟨da, oa⟩ := hod3 a (by simp [Tv.vals])
    obtain ⟨db, ob⟩ := hod3 b (by simp [Tv.vals])
    obtain ⟨dk, ok⟩ := hod3 kd (by simp [Tv.vals])
    obtain ⟨dm, om⟩ := hod3 m (by simp [Tv.vals])
    have fk : FineS kd := fe kd (by simp [Tv.vals])
    have fm : FineS m := fe m (by simp [Tv.vals])
    refine ⟨_, rfl, _, _, _, _, true, rfl, ClsV.ty "tuple", TyX.base (TyOf.tup ht), kit_ty (by decide +kernel), _, rfl, iteF ?_⟩
    refine ⟨_, rfl, t, _, rfl, .inr (SqT.of ht), rfl, _, rfl, iteF ?_⟩
    refine ⟨_, rfl, t, _, rfl, SqT.of ht, rfl, _, _, rfl, _, _, rfl, _, _, rfl, _, _, rfl, rfl, ?_⟩
    obtain ⟨ta', tya, tam⟩ := odd_ty (K := K) oa
    obtain ⟨tb', tyb, tbm⟩ := odd_ty (K := K) ob
    refine ⟨_, rfl, _, _, _, _, strO a, rfl, ClsV.ty "str", tya, tam, _, rfl, ?_⟩
    cases ea : strO a with
    | false => exact iteT' rfl ⟨_, rfl, by show 1 ≤ sizeLine; omega, no1 s33 (okT1_none fun x y z w e _ _ _ _ => by rw [e] at ea; cases ea)⟩
    | true =>
    obtain ⟨x, rfl⟩ := strO_str ea
    refine iteF' rfl ?_
    refine ⟨_, rfl, _, _, _, _, strO b, rfl, ClsV.ty "str", tyb, tbm, _, rfl, ?_⟩
    cases eb : strO b with
    | false => exact iteT' rfl ⟨_, rfl, by show 1 ≤ sizeLine; omega, no1 s33 (okT1_none fun x y z w _ e _ _ _ => by rw [e] at eb; cases eb)⟩
    | true =>
    obtain ⟨y, rfl⟩ := strO_str eb
    refine iteF' rfl ?_
    have hol3 := s03 _ _ hol
    have nin : ∀ z : Str, (if true = true then !inV (V.str z) (nm.map V.str) else inV (V.str z) (nm.map V.str)) = !decide (z ∈ nm) := fun z => by rw [if_pos rfl, inV_names]
    refine ⟨_, rfl, _, rfl, ol, _, rfl, .inl (SqL.of hol3), rfl, flat_names nm, _, rfl, ?_⟩
    by_cases cx : x ∈ nm
    rotate_left
    · exact iteT' (by rw [nin, decide_eq_false cx]; rfl) ⟨_, rfl, by show 1 ≤ sizeLine; omega, no1 s33 (okT1_none fun x' y' z w e1 _ _ _ c => by cases e1; exact cx c.2.1)⟩
    refine iteF' (by rw [nin, decide_eq_true cx]; rfl) ?_
    refine ⟨_, rfl, _, rfl, ol, _, rfl, .inl (SqL.of hol3), rfl, flat_names nm, _, rfl, ?_⟩
    by_cases cy : y ∈ nm
    rotate_left
    · exact iteT' (by rw [nin, decide_eq_false cy]; rfl) ⟨_, rfl, by show 1 ≤ sizeLine; omega, no1 s33 (okT1_none fun x' y' z w _ e2 _ _ c => by cases e2; exact cy c.2.2.1)⟩
    refine iteF' (by rw [nin, decide_eq_true cy]; rfl) ?_
    refine ⟨_, rfl, _, rfl, rfl, _, rfl, ?_⟩
    by_cases exy : x = y
    · subst exy
      exact iteT' (decide_eq_true rfl) ⟨_, rfl, by show 1 ≤ sizeLine; omega, no1 s33 (okT1_none fun x' y' z w e1 e2 _ _ c => by cases e1; cases e2; exact c.1 rfl)⟩
    refine iteF' (decide_eq_false fun e => exy (by injection e)) ?_
    refine ⟨_, rfl, kd, dk, rfl, ok, fun H4 s4 => ⟨_, rfl, ?_⟩⟩
    rw [fk.same]
    cases ew : wordO kd with
    | false => exact iteT' rfl ⟨_, rfl, by show 1 ≤ sizeLine; omega, no1 s4 (okT1_none fun x' y' z w _ _ e3 _ c => by rw [e3] at ew; rw [show wordO (.str z) = isWordB z from rfl, c.2.2.2.1] at ew; cases ew)⟩
    | true =>
    refine iteF' rfl ?_
    refine ⟨_, rfl, 10, 50, rfl, rfl, ⟨by decide, by decide, by decide⟩, tnI ⟨m, dm, 1, _, rfl, om.same s4, _, rfl, ?_⟩⟩
    have hwm : wholeO 1 ((10 : Int) ^ ((50 : Int)).toNat) m = fromO 1 m := by
      cases m with
      | int z =>
        have big : (10 : Int) ^ ((50 : Int)).toNat = 100000000000000000000000000000000000000000000000000 := by decide +kernel
        have := fm.int z rfl
        show (decide ((1 : Int) ≤ z) && decide (z ≤ (10 : Int) ^ ((50 : Int)).toNat)) = decide ((1 : Int) ≤ z)
        rw [big, show decide (z ≤ 100000000000000000000000000000000000000000000000000) = true from decide_eq_true (by omega), Bool.and_true]
      | _ => rfl
    rw [hwm]
    cases en : fromO 1 m with
    | false => exact iteT' rfl ⟨_, rfl, by show 1 ≤ sizeLine; omega, no1 s4 (okT1_none fun x' y' z w _ _ _ e4 c => by rw [e4] at en; exact absurd c.2.2.2.2 (of_decide_eq_false en))⟩
    | true =>
    refine iteF' rfl ?_
    obtain ⟨ek, kw'⟩ := word_str ew
    have em2 : ∃ wd : Int, m = .int wd ∧ 1 ≤ wd := by
      cases m with
      | int wd => exact ⟨wd, rfl, of_decide_eq_true en⟩
      | _ => cases en
    obtain ⟨wd, rfl, w1⟩ := em2
    generalize hz : strV kd = z at *
    subst ek
    have ok1 : okT1 nm (.t4 (.str x) (.str y) (.str z) (.int wd)) = some ⟨x, y, z, wd⟩ := by
      show (if x ≠ y ∧ x ∈ nm ∧ y ∈ nm ∧ isWordB z = true ∧ 1 ≤ wd then some (⟨x, y, z, wd⟩ : TieV) else none) = _
      rw [if_pos ⟨exy, cx, cy, kw', w1⟩]
    have tvo := (okT1_ok ok1).1
    have s34 := s3.trans s4
    have wk : ∀ t ∈ tl, isWordB t.x = true ∧ isWordB t.y = true ∧ isWordB t.kd = true := fun t ht => ⟨wds _ (tok t ht).hx, wds _ (tok t ht).hy, (tok t ht).kw⟩
    have sk := spot_known (x := x) (y := y) (z := z) (w := wd) exy (tl := tl) fun t ht => (tok t ht).ne
    have hkn4 := s34 _ _ hkn2
    have pks4 := Paired.mapP pks fun a t e => s34 _ _ e
    -- either way round
    refine ⟨_, rfl, _, rfl, _, rfl, by show 3 ≤ sizeLine; omega, fun u1 hu1 => ?_⟩
    have s5 := same_new (o := .tup [V.str x, .str y, .str z]) hu1
    have e5 : (upd H4 u1 (.tup [V.str x, .str y, .str z])) u1 = some (.tup [V.str x, .str y, .str z]) := upd_same
    generalize upd H4 u1 (.tup [V.str x, .str y, .str z]) = H5 at *
    refine ⟨_, rfl, dSp x y z, dKn tl, dSp_dp e5, .lst (SqL.of (s5 _ _ hkn4)) (dpKn (Paired.mapP pks4 fun a t e => s5 _ _ e)), dSp_shaped (wds x cx) (wds y cy) kw', shKn wk, _, rfl, ?_⟩
    rw [anyKn]
    by_cases c1 : ∃ t ∈ tl, t.x = x ∧ t.y = y ∧ t.kd = z
    · refine iteT' (decide_eq_true c1) ⟨_, rfl, by show 1 ≤ sizeLine; omega, no (s4.trans s5) ?_⟩
      unfold standT
      rw [ok1]
      show (if (⟨x, y, z, wd⟩ : TieV).spot ∈ tl.map TieV.spot then none else some _) = none
      rw [if_pos (sk.mpr (.inl c1))]
    refine iteF' (decide_eq_false c1) ?_
    refine ⟨_, rfl, _, rfl, _, rfl, by show 3 ≤ sizeLine; omega, fun u2 hu2 => ?_⟩
    have s6 := same_new (o := .tup [V.str y, .str x, .str z]) hu2
    have e6 : (upd H5 u2 (.tup [V.str y, .str x, .str z])) u2 = some (.tup [V.str y, .str x, .str z]) := upd_same
    generalize upd H5 u2 (.tup [V.str y, .str x, .str z]) = H6 at *
    have s56 := s5.trans s6
    refine ⟨_, rfl, dSp y x z, dKn tl, dSp_dp e6, .lst (SqL.of (s56 _ _ hkn4)) (dpKn (Paired.mapP pks4 fun a t e => s56 _ _ e)), dSp_shaped (wds y cy) (wds x cx) kw', shKn wk, _, rfl, ?_⟩
    rw [anyKn]
    by_cases c2 : ∃ t ∈ tl, t.x = y ∧ t.y = x ∧ t.kd = z
    · refine iteT' (decide_eq_true c2) ⟨_, rfl, by show 1 ≤ sizeLine; omega, no (s4.trans s56) ?_⟩
      unfold standT
      rw [ok1]
      show (if (⟨x, y, z, wd⟩ : TieV).spot ∈ tl.map TieV.spot then none else some _) = none
      rw [if_pos (sk.mpr (.inr c2))]
    refine iteF' (decide_eq_false c2) ?_
    have hs : standT nm tl (.t4 (.str x) (.str y) (.str z) (.int wd)) = some ⟨x, y, z, wd⟩ := by
      unfold standT
      rw [ok1]
      show (if (⟨x, y, z, wd⟩ : TieV).spot ∈ tl.map TieV.spot then none else some _) = _
      rw [if_neg fun h => (sk.mp h).elim c1 c2]
    rw [hs] at run
    refine ⟨_, rfl, .inl ⟨rfl, _, SqL.of (s56 _ _ hkn4)⟩, _, rfl, _, rfl, _, rfl, by show 3 ≤ sizeLine; omega, fun u3 hu3 => ?_⟩
    have s7 := same_new (o := .tup [V.str x, .str y, .str z]) hu3
    have e7 : (upd H6 u3 (.tup [V.str x, .str y, .str z])) u3 = some (.tup [V.str x, .str y, .str z]) := upd_same
    generalize upd H6 u3 (.tup [V.str x, .str y, .str z]) = H7 at *
    have s57 := s56.trans s7
    have hkn7 := s57 _ _ hkn4
    have ksl : ks.length ≤ 1000 := by
      have h1 := Paired.length pks
      have h2 := (List.getElem?_eq_some_iff.mp he).1
      omega
    refine ⟨kn, _, _, rfl, rfl, hkn7, Evl.sz_lt (by rw [List.length_map]; omega), ?_⟩
    have nk : ∀ {q : Addr} {xs : List V}, H7 q = some (.tup xs) → q ≠ kn := fun e => ne_of e hkn7 (by intro z; cases z)
    refine ⟨_, _, _, _, _, _, tl ++ [⟨x, y, z, wd⟩], rfl, ⟨ks ++ [u3], by rw [upd_same, List.map_append]; rfl, paired_app (Paired.mapP pks4 fun a t e => ?_) (.cons ?_ .nil)⟩, fun t ht => ?_, by rw [List.length_append, tlen]; rfl, run, ?_⟩
    · have e := s57 _ _ e
      rw [upd_ne (nk e)]
      exact e
    · rw [upd_ne (nk e7)]
      exact e7
    · rcases List.mem_append.mp ht with m | m
      · exact tok t m
      · rw [List.mem_singleton.mp m]
        exact tvo
    · exact Same.off (s03.trans (s4.trans s57)) hkn
end
end Nm
set_option autoImplicit false
set_option maxRecDepth 100000
set_option maxHeartbeats 16000000
/-! Web.__init__ of places and ties of all kinds -/
namespace Nm
open PySem PySem.Spec PyProof.Rows L2
theorem FnOk.lift {P : Program} {w : World} {K : PySem.W.Frag} {mg : Str → Option Value} {base : Heap} {CX : CXT} {k : Nat} {f : Addr} {fd : FuncData} {ps : List Str} {sp : Sp} (F : FnOk P w K mg base CX0 k f fd ps sp) : FnOk P w K mg base CX k f fd ps sp :=
  ⟨F.len, fun A outer s H args us vs Q E hr e b v h => codeAny_mono (F.run A outer s H args us vs Q E hr e b v h) fun r s' q => by
    cases r with
    | error e => exact q.elim
    | ok fl =>
      cases fl with
      | ret u => exact q
      | _ => exact q⟩
/-- names and colours of places that can stand -/
abbrev nmP (ps : List Pv2) : List Str := ps.map fun q => strV q.1
abbrev clP (ps : List Pv2) : List Str := ps.map fun q => strV q.2
theorem bad_none : ∀ {ps : List Pv2}, badP ps = none → ∀ q ∈ ps, wordO q.1 = true ∧ wordO q.2 = true
  | [], _, _, h => (List.not_mem_nil h).elim
  | q :: ps, hb, x, hx => by
    unfold badP at hb
    by_cases w1 : wordO q.1 = true
    · rw [if_pos w1] at hb
      by_cases w2 : wordO q.2 = true
      · rw [if_pos w2] at hb
        rcases List.mem_cons.mp hx with rfl | m
        · exact ⟨w1, w2⟩
        · exact bad_none hb x m
      · rw [if_neg w2] at hb
        cases hb
    · rw [if_neg w1] at hb
      cases hb
theorem fault_none {ps : List Pv2} (h : faultP ps = none) : ps ≠ [] ∧ badP ps = none ∧ (nmP ps).Nodup := by
  unfold faultP at h
  by_cases e : ps = []
  · rw [if_pos e] at h
    cases h
  rw [if_neg e] at h
  cases hb : badP ps with
  | some v => rw [hb] at h; cases h
  | none =>
    rw [hb] at h
    cases hd : dupOf [] (ps.map fun q => strV q.1) with
    | some z => rw [hd] at h; cases h
    | none => exact ⟨e, rfl, by simpa using dup_none (seen := []) List.nodup_nil hd⟩
theorem PsAt.places {H : Hp} {pl : Addr} {ts : List Addr} {ps : List Pv2} (h : PsAt H pl ts ps) (w : ∀ q ∈ ps, wordO q.1 = true ∧ wordO q.2 = true) : PlacesAt H pl (nmP ps) (clP ps) := by
  refine ⟨ts, h.1, by rw [List.length_map]; exact Paired.length h.2, fun i t ht => ?_⟩
  obtain ⟨q, hq, e⟩ := paired_get h.2 ht
  obtain ⟨w1, w2⟩ := w q (List.mem_of_getElem? hq)
  have e1 := (word_str w1).1
  have e2 := (word_str w2).1
  refine ⟨strV q.1, strV q.2, by rw [List.getElem?_map, hq]; rfl, by rw [List.getElem?_map, hq]; rfl, ?_⟩
  rw [e, ← e1, ← e2]
section
variable {P : Program} {w : World} {K : PySem.W.Frag} {mg : Str → Option Value} {base : Heap}
def spWebP (C CB CN CT : Addr) : Sp := fun vs H Q E => ∃ (p dx pl tt : Addr) (ts : List Addr) (ps : List Pv2), vs = [.ref p, .ref pl, .ref tt] ∧ H p = some (.ins C dx []) ∧ PsAt H pl ts ps ∧ OdP H ps ∧ ps.length ≤ 1000 ∧ faultP ps ≠ none ∧
  (faultP ps = some .none_ → Rz CB "number" (.int 0) H E) ∧ (∀ v d, faultP ps = some (.word v) → OdV H v d → Rz CN "name" d H E) ∧ ∀ z, faultP ps = some (.twice z) → Rz CT "name" (.str z) H E
theorem ok_webP {f C CB CN CT : Addr} {fd : FuncData} (F : Fun K "__init__" "Web.__init__" sWebInit f fd) (Gp : ∃ f fd, FnOk P w K mg base (L2.CX P w) 6 f fd ["places"] (spNpX CB CN CT) ∧ mg "need_places" = some (.ref f) ∧ PySem.W.keepIn K (.ref f) = true ∧ Binds K fd ["places"] []) : FnOk P w K mg base (L2.CX P w) 7 f fd ["self", "places", "ties"] (spWebP C CB CN CT) := by
  obtain ⟨fp, fdp, Gp, mp, kp, bp⟩ := Gp
  refine okX (k := 6) F scWI (fun vs H Q E h => ?_) (fun cdv A outer s H vs Q E hr h => ?_)
  · obtain ⟨_, _, _, _, _, _, rfl, _⟩ := h
    rfl
  obtain ⟨p, dx, pl, tt, ts, ps, rfl, hp, hpl, hod, h1000, hf, e0, ew, et⟩ := h
  have tk := takes_of (X := cxOf (L2.CX P w) P w K mg base nWI "Web.__init__" (defScope sWebInit) f cdv A outer s H E) (E := E) rfl rfl rfl rfl
  refine ⟨_, pss_cons (ps_expr (pe_call Gp hr (by rfl) mp kp bp .nil (passes_call tk fun _ _ _ _ h => h) (pa_cons (pv 1) pa_nil))) pss_never, ?_⟩
  exact ⟨_, rfl, tnI ⟨pl, ts, ps, rfl, hpl, hod, h1000, fun e => absurd e hf, e0, ew, et⟩⟩
def spWebT (C CI : Addr) : Sp := fun vs H Q E => ∃ (p dx pl tt : Addr) (ts : List Addr) (ps : List Pv2) (us : List V) (es : List Tv) (n : Nat), vs = [.ref p, .ref pl, .ref tt] ∧ H p = some (.ins C dx []) ∧ PsAt H pl ts ps ∧ OdP H ps ∧ ps.length ≤ 1000 ∧ faultP ps = none ∧ TsAt5 H tt us es ∧ es.length ≤ 1000 ∧ (runT (nmP ps) [] es).2 = some n ∧
  ∀ (dx : Addr) (y : V) (H' : Hp), H' dx = some (.xd [("number", y)]) → OdV H' y (.int (n : Int)) → But p H H' → E (.ref CI) (some dx) H'
theorem ok_webT {f C CB CN CT CI : Addr} {fd : FuncData} (F : Fun K "__init__" "Web.__init__" sWebInit f fd) (T : TxtW K mg C) (Gp : ∃ f fd, FnOk P w K mg base (L2.CX P w) 6 f fd ["places"] (spNpX CB CN CT) ∧ mg "need_places" = some (.ref f) ∧ PySem.W.keepIn K (.ref f) = true ∧ Binds K fd ["places"] [])
    (Gt : ∃ f fd, FnOk P w K mg base (L2.CX P w) 5 f fd ["ties", "names"] (spNtX CI) ∧ mg "need_ties" = some (.ref f) ∧ PySem.W.keepIn K (.ref f) = true ∧ Binds K fd ["ties", "names"] []) : FnOk P w K mg base (L2.CX P w) 7 f fd ["self", "places", "ties"] (spWebT C CI) := by
  obtain ⟨fp, fdp, Gp, mp, kp, bp⟩ := Gp
  obtain ⟨ft, fdt, Gt, mt, kt, bt⟩ := Gt
  refine okX (k := 6) F scWI (fun vs H Q E h => ?_) (fun cdv A outer s H vs Q E hr h => ?_)
  · obtain ⟨_, _, _, _, _, _, _, _, _, rfl, _⟩ := h
    rfl
  obtain ⟨p, dx, pl, tt, ts, ps, us, es, n, rfl, hp, hps, hod, h1000, hf, hts, e1000, hrun, ke⟩ := h
  have tk := takes_of (X := cxOf (L2.CX P w) P w K mg base nWI "Web.__init__" (defScope sWebInit) f cdv A outer s H E) (E := E) rfl rfl rfl rfl
  obtain ⟨pne, pbad, nd⟩ := fault_none hf
  have wds := bad_none pbad
  have hpl := hps.places wds
  have hcl : (nmP ps).length ≤ (clP ps).length := by rw [List.length_map, List.length_map]; exact Nat.le_refl _
  have hn : (nmP ps).length ≤ 1000 := by rw [List.length_map]; exact h1000
  generalize hnm : nmP ps = nm at *
  generalize hclz : clP ps = cl at *
  refine ⟨_, pss_cons (ps_expr (pe_call Gp hr (by rfl) mp kp bp .nil (passes_call tk fun _ _ _ _ h => h) (pa_cons (pv 1) pa_nil)))
    (Evl.pss_cut (ps_fld (pv 0) (pe_dc (own := [("name", 7), ("colour", 8)]) (g := gTup K 2 (gCons (gName 7) (gCons (gName 8) gNil))) (tt := tYes) rfl scWI.nd (pi_list (pv 1)) (blkOk_by (N := nWI) (sc := defScope sWebInit) (by decide +kernel))
        (fun _ _ _ _ _ => pg_tup rfl (pgs_cons (pg_name (i := 7) scWI.nd rfl (Or.inl rfl)) (pgs_cons (pg_name (i := 8) scWI.nd rfl (Or.inl rfl)) pgs_nil))) (fun _ _ _ _ _ => pts_nil) (fun _ _ _ _ _ => pv 7) (fun _ _ _ _ _ => pv 8)) rfl)
    (pss_cons (ps_expr (pe_call Gt (hr.mono (by decide)) (by rfl) mt kt bt .nil (passes_call tk fun _ _ _ _ h => h) (pa_cons (pv 2) (pa_cons (pe_fld (pv 0) rfl) pa_nil)))) pss_never)), ?_⟩
  refine ⟨_, rfl, tnI ⟨pl, ts, ps, rfl, hps, hod, h1000, fun _ H1 s1 => ?_, (fun e => by rw [hf] at e; cases e), (fun v d e => by rw [hf] at e; cases e), (fun z e => by rw [hf] at e; cases e)⟩⟩
  have hp1 := s1 _ _ hp
  have b1 : But p H H1 := But.of s1
  refine ⟨fun σ H2 => ∃ dc, σ = [some (.ref p), some (.ref pl), some (.ref tt), none, none, none, none, none, none, none] ∧ H2 p = some (.ins C dx (putF "_colour_of" (.ref dc) [])) ∧ H2 dc = some (.dK (colK nm cl)) ∧ But p H H2, ?_, ?_⟩
  · obtain ⟨ts1, hpl1, hlen, hts1⟩ := hpl.but hp b1
    refine ⟨_, rfl, pl, rfl, ⟨_, SqL.of hpl1⟩, fun D hD => ?_⟩
    refine dc_walk (walk_list (xs := ts1.map V.ref)) (fun i H2 => H2 D = some (.dK ((colK nm cl).take i)) ∧ Same H1 H2) ⟨upd_same, same_new hD⟩ (fun i H2 _ h => SqL.of (h.2 _ _ hpl1)) ?_ ?_
    · rintro i x H2 H3 hi ⟨hD2, s2⟩ ⟨rfl, hx⟩
      rw [List.length_map] at hi
      rw [List.getElem?_map] at hx
      obtain ⟨t, ht, rfl⟩ := Option.map_eq_some_iff.mp hx
      obtain ⟨x, y, hx, hy, htt'⟩ := hts1 i t ht
      refine ⟨t, _, rfl, SqT.of (s2 _ _ htt'), rfl, _, _, rfl, _, _, rfl, rfl, rfl, tyes ?_⟩
      have hk : ((colK nm cl).take i).map (·.1) = (nm.take i).map Sum.inr := by rw [List.map_take, colK_keys hcl, List.map_take]
      have hkl : ((colK nm cl).take i).length ≤ i := by rw [List.length_take]; omega
      have hci : (colK nm cl)[i]? = some (Sum.inr x, V.str y) := by
        unfold colK
        have hz : (nm.zip cl)[i]? = some (x, y) := by rw [List.getElem?_zip_eq_some]; exact ⟨hx, hy⟩
        rw [List.getElem?_map, hz]
        rfl
      refine ⟨_, rfl, _, rfl, _, Sum.inr x, rfl, hD2, Evl.sz_lt (by omega), ?_, fun b o e => ?_⟩
      · rw [upd_same, putK_new _ (nm_new nd hx hk), List.take_add_one, hci]
        rfl
      · rw [upd_ne (ne_of_none e hD)]
        exact s2 b o e
    · rintro H2 ⟨hD2, s2⟩
      rw [List.length_map, hlen, List.take_of_length_le (by unfold colK; rw [List.length_map, List.length_zip]; omega)] at hD2
      have hp2 := s2 _ _ hp1
      have npD : D ≠ p := ne_of hD2 hp2 (by intro z; cases z)
      refine ⟨_, rfl, p, C, dx, _, rfl, hp2, T.cl, T.nCo, (by show 0 < 1000; decide), D, rfl, upd_same, by rw [upd_ne npD]; exact hD2, ?_⟩
      exact (b1.trans (But.of s2)).trans But.upd
  rintro σ H2 ⟨dc, rfl, hp2, hdc2, b2⟩
  have hts2 : TsAt5 H2 tt us es := by
    refine ⟨b2 _ _ hts.1 (ne_of hts.1 hp (by intro z; cases z)), Paired.mapP hts.2.1 fun v e h => ?_, fun e he v hv => ?_⟩
    · cases e with
      | non => exact h
      | t4 a b k m => exact ⟨h.choose, h.choose_spec.1, b2 _ _ h.choose_spec.2 (ne_of h.choose_spec.2 hp (by intro z; cases z))⟩
      | t3 a b k => exact ⟨h.choose, h.choose_spec.1, b2 _ _ h.choose_spec.2 (ne_of h.choose_spec.2 hp (by intro z; cases z))⟩
      | l4 a b k m => exact ⟨h.choose, h.choose_spec.1, b2 _ _ h.choose_spec.2 (ne_of h.choose_spec.2 hp (by intro z; cases z))⟩
    · obtain ⟨d, o⟩ := hts.2.2 e he v hv
      exact ⟨d, o.stay fun b u _ hb ho => b2 _ _ hb (fun z => by
        rw [z, hp] at hb
        rcases ho with ⟨_, rfl⟩ | ⟨_, rfl⟩ | ⟨_, rfl⟩ <;> cases hb)⟩
  refine ⟨_, rfl, _, rfl, p, C, dx, _, _, rfl, hp2, T.cl, T.nCo, (by rw [lookup_putF, if_pos rfl]), tnI ⟨tt, dc, us, es, nm, colK nm cl, rfl, hts2, hdc2, colK_keys hcl, e1000, (fun e => by rw [hrun] at e; cases e), fun m e dx y H' h1 h2 h3 => ?_⟩⟩
  obtain rfl : n = m := Option.some.inj (hrun.symm.trans e)
  exact ke dx y H' h1 h2 (b2.trans (But.of h3))
/-- all of it -/
abbrev spWebX (C CB CN CT CI : Addr) : Sp := fun vs H Q E => spWebI C vs H Q E ∨ (spWebP C CB CN CT vs H Q E ∨ spWebT C CI vs H Q E)
end
end Nm
set_option autoImplicit false
set_option maxRecDepth 100000
set_option maxHeartbeats 16000000
/-! _law_due -/
namespace Nm
open PySem PySem.Spec PyProof.Rows L2
/-- the names that are told twice -/
def dups : List Str → List Str → List Str
  | _, [] => []
  | seen, x :: xs => if x ∈ seen then x :: dups (seen ++ [x]) xs else dups (seen ++ [x]) xs
theorem dups_dup : ∀ {xs seen : List Str}, (dupOf seen xs = none ∧ dups seen xs = []) ∨ ∃ z r, dupOf seen xs = some z ∧ dups seen xs = z :: r
  | [], _ => .inl ⟨rfl, rfl⟩
  | x :: xs, seen => by
    by_cases c : x ∈ seen
    · exact .inr ⟨x, dups (seen ++ [x]) xs, if_pos c, if_pos c⟩
    · have e1 : dupOf seen (x :: xs) = dupOf (seen ++ [x]) xs := if_neg c
      have e2 : dups seen (x :: xs) = dups (seen ++ [x]) xs := if_neg c
      rw [e1, e2]
      exact dups_dup
noncomputable def dueL (ps : List Pv2) (es : List Tv) : List V := match faultP ps with
  | some .none_ => [.str "number", .int 0]
  | some (.word v) => [.str "name", v]
  | some (.twice z) => [.str "twice", .str z]
  | none => match (runT (nmP ps) [] es).2 with
    | some n => [.str "tie", .int (n : Int)]
    | none => []
theorem fault_word {ps : List Pv2} {v : V} (e0 : ps ≠ []) (h : badP ps = some v) : faultP ps = some (.word v) := by
  unfold faultP
  rw [if_neg e0, h]
theorem fault_twice {ps : List Pv2} {z : Str} (e0 : ps ≠ []) (h : badP ps = none) (h2 : dupOf [] (nmP ps) = some z) : faultP ps = some (.twice z) := by
  unfold faultP
  have h2 : dupOf [] (ps.map fun q => strV q.1) = some z := h2
  rw [if_neg e0, h]
  simp only [h2]
theorem fault_no {ps : List Pv2} (e0 : ps ≠ []) (h : badP ps = none) (h2 : dupOf [] (nmP ps) = none) : faultP ps = none := by
  unfold faultP
  have h2 : dupOf [] (ps.map fun q => strV q.1) = none := h2
  rw [if_neg e0, h]
  simp only [h2]
def FineP (ps : List Pv2) : Prop := ∀ q ∈ ps, FineS q.1 ∧ FineS q.2
section
variable {P : Program} {w : World} {K : PySem.W.Frag} {mg : Str → Option Value} {base : Heap}
def spDu : Sp := fun vs H Q _ => ∃ (pl ta : Addr) (ts : List Addr) (ps : List Pv2) (us : List V) (es : List Tv), vs = [.ref pl, .ref ta] ∧ PsAt H pl ts ps ∧ OdP H ps ∧ FineP ps ∧ ps.length ≤ 1000 ∧ TsAt5 H ta us es ∧ (∀ e ∈ es, FineT e) ∧ es.length ≤ 1000 ∧
  ∀ (r : Addr) (H' : Hp), H r = none → H' r = some (.lst (dueL ps es)) → Same H H' → Q (.ref r) H'
abbrev nDu : List Str := ["_law_places", "_law_ties_here", "_law_name", "_law_colour", "_law_word", "_law_order", "_law_at", "_law_twice", "_law_wrong"]
theorem scDu : FnScope nDu ["_law_places", "_law_ties_here"] (defScope sDueWay) := ⟨rfl, rfl, rfl, by decide +kernel, rfl, by decide +kernel, by decide +kernel⟩
theorem ok_du {f : Addr} {fd : FuncData} (F : Fun K "_law_due" "_law_due" sDueWay f fd) (T : TxtH mg) (Gw : Def P w K mg base "_law_is_word" ["_law_value_here"] 1 spLw) (Gt : Def P w K mg base "_law_tie_due" ["_law_order", "_law_ties_here"] 2 spTd) : FnOk P w K mg base CX0 3 f fd ["_law_places", "_law_ties_here"] spDu := by
  obtain ⟨fw, fdw, Gw, mw, kw, bw⟩ := Gw.ex
  obtain ⟨ft, fdt, Gt, mt, kt, bt⟩ := Gt.ex
  refine F.ok scDu (fun vs H Q E h => ?_) (fun cdv A outer s H vs Q E hr h => ?_)
  · obtain ⟨_, _, _, _, _, _, rfl, _⟩ := h
    rfl
  obtain ⟨pl, ta, ts, ps, us, es, rfl, ⟨hpl, hts⟩, hod, fine, p1000, hta, fineT, e1000, k⟩ := h
  have hu := hu_of hr
  have lim := sizeLine_eq
  have tl : ts.length = ps.length := Paired.length hts
  refine ⟨_, pss_cons (ps_if (pt_cmpR op_eq (pe_callB call_len_seq (by rfl) T.len PySem.boot_len (pa_cons (pv 0) pa_nil)) pe_int (nomark _)) (pss_one (ps_ret (pe_lst (pa_cons pe_str (pa_cons pe_int pa_nil))))) pss_nil)
    (Evl.pss_cut (ps_for PassesOwn.never rfl (pi_list (pv 0)) (pg_tup rfl (pgs_cons (pg_name (i := 2) scDu.nd rfl (.inl rfl)) (pgs_cons (pg_name (i := 3) scDu.nd rfl (.inl rfl)) pgs_nil)))
      (pss_one (ps_for PassesOwn.never rfl (pi_tup (pe_tup (pa_cons (pv 2) (pa_cons (pv 3) pa_nil)))) (pg_name (i := 4) scDu.nd rfl (.inl rfl))
        (pss_one (ps_if (pt_not (pt_val (pe_call Gw (hr.mono (by decide)) (by rfl) mw kw bw .nil pass0 (pa_cons (pv 4) pa_nil)))) (pss_one (ps_ret (pe_lst (pa_cons pe_str (pa_cons (pv 4) pa_nil))))) pss_nil)))))
    (Evl.pss_cut (ps_set (i := 5) scDu.nd rfl (Or.inr rfl) (pe_lc (own := [("_law_name", 2), ("_law_colour", 3)]) (g := gTup K 2 (gCons (gName 2) (gCons (gName 3) gNil))) (tt := tYes) (te := tVar 2) rfl scDu.nd (pi_list (pv 0)) (blkOk_by (N := nDu) (sc := defScope sDueWay) (by decide +kernel))
        (fun _ _ _ _ _ => pg_tup rfl (pgs_cons (pg_name (i := 2) scDu.nd rfl (Or.inl rfl)) (pgs_cons (pg_name (i := 3) scDu.nd rfl (Or.inl rfl)) pgs_nil))) (fun _ _ _ _ _ => pts_nil) (fun _ _ _ _ _ => pv 2)))
    (Evl.pss_cut (ps_setLc (i := 7) (own := [("_law_at", 6), ("_law_name", 2)]) (g := gTup K 2 (gCons (gName 6) (gCons (gName 2) gNil))) (tt := tTest (tOp (rIn K false) (tVar 2) (tSl (rSlL K) (tVar 5) tNoPart (tPart (tVar 6))))) (te := tVar 2) rfl scDu.nd rfl rfl (sw_true rfl rfl rfl (by decide +kernel)) (pi_enB true (by rfl) T.enumerate (pa_cons (pv 5) pa_nil)) (blkOk_by (N := nDu) (sc := defScope sDueWay) (by decide +kernel))
        (fun _ _ _ _ _ => pg_tup rfl (pgs_cons (pg_name (i := 6) scDu.nd rfl (Or.inl rfl)) (pgs_cons (pg_name (i := 2) scDu.nd rfl (Or.inl rfl)) pgs_nil))) (fun _ _ _ _ _ => by exact pts_one (pt_cmpR op_in_seq (pv 2) (pe_slice sl_list (pv 5) po_none (po_some (pv 6))) (by rfl))) (fun _ _ _ _ _ => pv 2))
    (pss_cons (ps_if (pt_cmpR (op_neE (Nat.lt_of_succ_lt hu)) (pv 7) (pe_lst pa_nil) (by rfl)) (pss_one (ps_ret (pe_lst (pa_cons pe_str (pa_cons (pe_ix ix_list (pv 7) pe_int (fun _ _ => rfl)) pa_nil))))) pss_nil)
    (Evl.pss_cut (ps_set (i := 8) scDu.nd rfl (Or.inl rfl) (pe_call Gt hr (by rfl) mt kt bt .nil pass0 (pa_cons (pv 5) (pa_cons (pv 1) pa_nil))))
    (pss_one (ps_ret (pe_ifExp (pt_cmpR (op_neE (Nat.lt_of_succ_lt hu)) (pv 8) (pe_lst pa_nil) (by rfl)) (pe_lst (pa_cons pe_str (pa_cons (pe_ix ix_list (pv 8) pe_int (fun _ _ => rfl)) pa_nil))) (pe_lst pa_nil))))))))), ?_⟩
  refine ⟨_, rfl, pl, _, rfl, .inl (SqL.of hpl), rfl, _, rfl, ?_⟩
  by_cases e0 : ps = []
  · refine iteT' (decide_eq_true (by rw [List.length_map, tl, e0]; rfl)) ⟨by show 2 ≤ sizeLine; omega, fun r hr0 => k r _ hr0 ?_ (same_new hr0)⟩
    rw [upd_same]
    unfold dueL faultP
    rw [if_pos e0]
  have n0 : ps.length ≠ 0 := fun z => e0 (List.length_eq_zero_iff.mp z)
  refine iteF' (decide_eq_false fun z => n0 (by
    rw [List.length_map, tl] at z
    injection z with z
    omega)) ?_
  -- each a word
  refine ⟨fun σ H1 => ∃ v2 v3 v4, σ = [some (.ref pl), some (.ref ta), v2, v3, v4, none, none, none, none] ∧ badP ps = none ∧ Same H H1, ?_, ?_⟩
  · refine ⟨_, rfl, pl, rfl, ⟨_, SqL.of hpl⟩, ?_⟩
    refine for_it (walk_list (xs := ts.map V.ref)) (fun i σ H1 => ∃ v2 v3 v4, σ = [some (.ref pl), some (.ref ta), v2, v3, v4, none, none, none, none] ∧ badP ps = badP (ps.drop i) ∧ Same H H1) ⟨none, none, none, rfl, rfl, Same.refl H⟩ (fun i σ H1 _ h => by obtain ⟨_, _, _, _, _, h⟩ := h; exact SqL.of (h _ _ hpl)) ?_ ?_
    rotate_left
    · rintro σ H1 ⟨v2, v3, v4, rfl, hb, s1⟩
      rw [List.length_map, tl, List.drop_length] at hb
      exact ⟨v2, v3, v4, rfl, hb, s1⟩
    rintro i x σ H1' H1 hi ⟨v2, v3, v4, rfl, hb, s1⟩ ⟨rfl, hx⟩
    rw [List.getElem?_map] at hx
    obtain ⟨t, ht, rfl⟩ := Option.map_eq_some_iff.mp hx
    obtain ⟨q, hq, htt⟩ := paired_get hts ht
    have qm := List.mem_of_getElem? hq
    obtain ⟨⟨d1, o1⟩, ⟨d2, o2⟩⟩ := hod q qm
    obtain ⟨f1, f2⟩ := fine q qm
    have hdr : ps.drop i = q :: ps.drop (i + 1) := by
      have g := List.getElem?_eq_some_iff.mp hq
      rw [List.drop_eq_getElem_cons g.1, g.2]
    rw [hdr, show badP (q :: ps.drop (i + 1)) = if wordO q.1 = true then (if wordO q.2 = true then badP (ps.drop (i + 1)) else some q.2) else some q.1 from rfl] at hb
    refine ⟨t, _, rfl, SqT.of (s1 _ _ htt), rfl, _, _, rfl, _, _, rfl, rfl, ?_⟩
    refine ⟨_, rfl, _, rfl, by show 2 ≤ sizeLine; omega, fun tp htp => ?_⟩
    have s2 := same_new (o := .tup [q.1, q.2]) htp
    have e2 : (upd H1 tp (.tup [q.1, q.2])) tp = some (.tup [q.1, q.2]) := upd_same
    generalize upd H1 tp (.tup [q.1, q.2]) = H2 at *
    have s12 := s1.trans s2
    refine ⟨tp, rfl, ⟨_, SqT.of e2⟩, ?_⟩
    refine for_it (walk_tup (xs := [q.1, q.2])) (fun j σ H3 => ∃ v4, σ = [some (.ref pl), some (.ref ta), some q.1, some q.2, v4, none, none, none, none] ∧ (0 < j → wordO q.1 = true) ∧ (1 < j → wordO q.2 = true) ∧ H3 tp = some (.tup [q.1, q.2]) ∧ Same H H3) ⟨v4, rfl, (fun h => absurd h (by omega)), (fun h => absurd h (by omega)), e2, s12⟩ (fun j σ H3 _ h => by obtain ⟨_, _, _, _, h, _⟩ := h; exact SqT.of h) ?_ ?_
    rotate_left
    · rintro σ H3 ⟨v4, rfl, w1, w2, _, s3⟩
      have w1 := w1 (by show 0 < 2; decide)
      have w2 := w2 (by show 1 < 2; decide)
      rw [if_pos w1, if_pos w2] at hb
      exact ⟨_, _, _, rfl, hb, s3⟩
    rintro j y σ H3' H3 hj ⟨v4, rfl, w1, w2, htp3, s3⟩ ⟨rfl, hy⟩
    have told : ∀ (H4 : Hp) (v : V), Same H H4 → badP ps = some v → ∀ r, H4 r = none → Q (.ref r) (upd H4 r (.lst [V.str "name", v])) := fun H4 v s4 e r hr0 => by
      have fe := fault_word e0 e
      refine k r _ (s4.free hr0) ?_ (s4.trans (same_new hr0))
      rw [upd_same]
      unfold dueL
      rw [fe]
    match j, hy with
    | 0, hy =>
      obtain rfl : q.1 = y := by simpa using hy
      refine ⟨_, rfl, q.1, d1, rfl, o1.same s3, fun H4 s4 => ⟨_, rfl, ?_⟩⟩
      rw [f1.same]
      cases ew : wordO q.1 with
      | false =>
        rw [if_neg (by rw [ew]; exact Bool.false_ne_true)] at hb
        exact iteT' rfl ⟨_, rfl, by show 2 ≤ sizeLine; omega, told H4 q.1 (s3.trans s4) hb⟩
      | true => exact iteF' rfl ⟨_, rfl, fun _ => rfl, (fun h => absurd h (by omega)), s4 _ _ htp3, s3.trans s4⟩
    | 1, hy =>
      obtain rfl : q.2 = y := by simpa using hy
      have w1 := w1 (by omega)
      refine ⟨_, rfl, q.2, d2, rfl, o2.same s3, fun H4 s4 => ⟨_, rfl, ?_⟩⟩
      rw [f2.same]
      cases ew : wordO q.2 with
      | false =>
        rw [if_pos w1, if_neg (by rw [ew]; exact Bool.false_ne_true)] at hb
        exact iteT' rfl ⟨_, rfl, by show 2 ≤ sizeLine; omega, told H4 q.2 (s3.trans s4) hb⟩
      | true => exact iteF' rfl ⟨_, rfl, fun _ => w1, fun _ => rfl, s4 _ _ htp3, s3.trans s4⟩
    | j + 2, hy => simp at hy
  rintro σ H1 ⟨v2, v3, v4, rfl, hb, s1⟩
  have wds := bad_none hb
  have npl : (nmP ps).length = ps.length := List.length_map ..
  -- the names
  refine ⟨fun σ H2 => ∃ ol, σ = [some (.ref pl), some (.ref ta), v2, v3, v4, some (.ref ol), none, none, none] ∧ H2 ol = some (.lst ((nmP ps).map V.str)) ∧ Same H H2, ?_, ?_⟩
  · refine ⟨_, rfl, pl, rfl, ⟨_, SqL.of (s1 _ _ hpl)⟩, fun D hD => ?_⟩
    have hp1 := s1 _ _ hpl
    refine lc_it (walk_list (xs := ts.map V.ref)) (fun i H4 => H4 D = some (.lst (((nmP ps).take i).map V.str)) ∧ Same H1 H4) ⟨upd_same, same_new hD⟩ (fun i H4 _ h => SqL.of (h.2 _ _ hp1)) ?_ ?_
    · rintro i x H4' H4 hi ⟨hD4, s4⟩ ⟨rfl, hx⟩
      rw [List.length_map] at hi
      rw [List.getElem?_map] at hx
      obtain ⟨t, ht, rfl⟩ := Option.map_eq_some_iff.mp hx
      obtain ⟨q, hq, htt⟩ := paired_get hts ht
      have wq := (word_str (wds q (List.mem_of_getElem? hq)).1).1
      refine ⟨t, _, rfl, SqT.of (s4 _ _ (s1 _ _ htt)), rfl, _, _, rfl, _, _, rfl, rfl, rfl, tyes ?_⟩
      refine ⟨_, rfl, _, hD4, Evl.sz_lt (by rw [List.length_map, List.length_take]; omega), ?_, Same.off s4 hD⟩
      rw [upd_same, List.take_add_one, List.getElem?_map, hq, List.map_append]
      conv => lhs; rw [wq]
      rfl
    · rintro H4 ⟨hD4, s4⟩
      rw [List.length_map, tl, ← npl, List.take_length] at hD4
      exact ⟨D, rfl, hD4, s1.trans s4⟩
  rintro σ H2 ⟨ol, rfl, hol, s2⟩
  have nwd : ∀ z ∈ nmP ps, isWordB z = true := fun z hz => by
    obtain ⟨q, hq, rfl⟩ := List.mem_map.mp hz
    exact (word_str (wds q hq).1).2
  generalize hnm : nmP ps = nm at *
  -- those told twice
  refine ⟨fun σ H3 => ∃ tw, σ = [some (.ref pl), some (.ref ta), v2, v3, v4, some (.ref ol), none, some (.ref tw), none] ∧ H3 tw = some (.lst ((dups [] nm).map V.str)) ∧ Same H2 H3, ?_, ?_⟩
  · refine ⟨_, rfl, ol, _, rfl, SqB.of (k := true) hol, fun D hD => ?_⟩
    refine lc_it (walk_enB (k := true) (xs := nm.map V.str)) (fun i H4 => ∃ acc, H4 D = some (.lst (acc.map V.str)) ∧ acc.length ≤ i ∧ dups [] nm = acc ++ dups (nm.take i) (nm.drop i) ∧ Same H2 H4) ⟨[], upd_same, Nat.le_refl _, rfl, same_new hD⟩ (fun i H4 _ h => by obtain ⟨_, _, _, _, h⟩ := h; exact SqB.of (k := true) (h _ _ hol)) ?_ ?_
    · rintro i x H4 H5 hi ⟨acc, hD4, al, hdup, s4⟩ ⟨tp, x1, y1, rfl, htp, rfl, e1, e2⟩
      rw [List.length_map] at hi
      have e2 : (nm.map V.str)[i]? = some y1 := e2
      rw [List.getElem?_map] at e2
      obtain ⟨z, hz, rfl⟩ := Option.map_eq_some_iff.mp e2
      cases e1
      have hdr : nm.drop i = z :: nm.drop (i + 1) := by
        have g := List.getElem?_eq_some_iff.mp hz
        rw [List.drop_eq_getElem_cons g.1, g.2]
      rw [hdr, show dups (nm.take i) (z :: nm.drop (i + 1)) = if z ∈ nm.take i then z :: dups (nm.take i ++ [z]) (nm.drop (i + 1)) else dups (nm.take i ++ [z]) (nm.drop (i + 1)) from rfl] at hdup
      have tk : nm.take (i + 1) = nm.take i ++ [z] := by rw [List.take_add_one, hz]; rfl
      have s5 : Same H4 (upd H4 tp (.tup [V.int (i : Nat), .str z])) := same_new htp
      have htp5 : (upd H4 tp (.tup [V.int (i : Nat), .str z])) tp = some (.tup [V.int (i : Nat), .str z]) := upd_same
      generalize upd H4 tp (.tup [V.int (i : Nat), .str z]) = H5 at *
      refine ⟨tp, _, rfl, SqT.of htp5, rfl, _, _, rfl, _, _, rfl, rfl, rfl, ?_⟩
      have s45 := s4.trans s5
      refine ⟨_, rfl, _, rfl, _, rfl, _, rfl, ol, _, rfl, SqL.of (s45 _ _ hol), fun l hl => ?_⟩
      rw [cut_upto]
      have s6 := same_new (o := .lst ((nm.map V.str).take i)) hl
      have e6 : (upd H5 l (.lst ((nm.map V.str).take i))) l = some (.lst ((nm.take i).map V.str)) := by rw [upd_same, List.map_take]
      have hD6 := s6 _ _ (s5 _ _ hD4)
      generalize upd H5 l (.lst ((nm.map V.str).take i)) = H6 at *
      have s46 := s45.trans s6
      refine ⟨l, _, rfl, .inl (SqL.of e6), rfl, flat_names _, _, rfl, ?_⟩
      have e : (if false = true then !inV (V.str z) ((nm.take i).map V.str) else inV (V.str z) ((nm.take i).map V.str)) = decide (z ∈ nm.take i) := by rw [if_neg (by decide), inV_names]
      rw [e]
      by_cases c : z ∈ nm.take i
      · rw [if_pos c] at hdup
        refine iteT' (decide_eq_true c) ⟨_, rfl, _, hD6, Evl.sz_lt (by rw [List.length_map]; omega), acc ++ [z], ?_, by rw [List.length_append]; show acc.length + 1 ≤ i + 1; omega, ?_, Same.off s46 hD⟩
        · rw [upd_same, List.map_append]
          rfl
        · rw [hdup, tk, List.append_assoc]
          rfl
      · rw [if_neg c] at hdup
        exact iteF' (decide_eq_false c) ⟨acc, hD6, by omega, by rw [hdup, tk], s46⟩
    · rintro H4 ⟨acc, hD4, al, hdup, s4⟩
      rw [List.length_map, List.drop_length, show dups (nm.take nm.length) [] = [] from rfl, List.append_nil] at hdup
      rw [hdup]
      exact ⟨D, rfl, hD4, s4⟩
  rintro σ H3 ⟨tw, rfl, htw, s3⟩
  have s23 := s2.trans s3
  refine ⟨_, rfl, by show 0 ≤ sizeLine; omega, fun l hl => ?_⟩
  have s4 := same_new (o := .lst []) hl
  have e4 : (upd H3 l (.lst [])) l = some (.lst []) := upd_same
  generalize upd H3 l (.lst []) = H4 at *
  refine ⟨tw, l, _, rfl, rfl, SqL.of (s4 _ _ htw), SqL.of e4, _, rfl, ?_⟩
  rcases dups_dup (xs := nm) (seen := []) with ⟨d1, d2⟩ | ⟨z, r, d1, d2⟩
  rotate_left
  · have htw4 := s4 _ _ htw
    rw [d2] at htw4 ⊢
    rw [← hnm] at d1
    have fe := fault_twice e0 hb d1
    refine iteT' rfl ⟨_, rfl, tw, _, _, V.str z, rfl, rfl, SqL.of htw4, atI_nat (j := 0) rfl, by show 2 ≤ sizeLine; omega, fun r hr0 => ?_⟩
    have sf := s23.trans s4
    refine k r _ (sf.free hr0) ?_ (sf.trans (same_new hr0))
    rw [upd_same]
    unfold dueL
    rw [fe]
  rw [d2]
  have fe := fault_no e0 hb (by rw [hnm]; exact d1)
  refine iteF' rfl ?_
  have s24 := s23.trans s4
  have hol4 := s4 _ _ (s3 _ _ hol)
  -- ties
  refine ⟨fun σ H5 => ∃ wr, σ = [some (.ref pl), some (.ref ta), v2, v3, v4, some (.ref ol), none, some (.ref tw), some (.ref wr)] ∧ H5 wr = some (.lst (tdL (runT nm [] es).2)) ∧ Same H4 H5, ?_, ?_⟩
  · exact ⟨_, rfl, _, rfl, tnI ⟨ol, ta, nm, us, es, rfl, hol4, hta.same s24, fineT, nwd, e1000, fun r H5 _ hr5 s5 => ⟨r, rfl, hr5, s5⟩⟩⟩
  rintro σ H5 ⟨wr, rfl, hwr, s5⟩
  have s25 := s24.trans s5
  refine ⟨_, rfl, by show 0 ≤ sizeLine; omega, fun l2 hl2 => ?_⟩
  have s6 := same_new (o := .lst []) hl2
  have e6 : (upd H5 l2 (.lst [])) l2 = some (.lst []) := upd_same
  generalize upd H5 l2 (.lst []) = H6 at *
  refine ⟨wr, l2, _, rfl, rfl, SqL.of (s6 _ _ hwr), SqL.of e6, _, rfl, ?_⟩
  have sf := s25.trans s6
  cases hrun : (runT nm [] es).2 with
  | none =>
    refine iteF' rfl ⟨by show 0 ≤ sizeLine; omega, fun r hr0 => ?_⟩
    refine k r _ (sf.free hr0) ?_ (sf.trans (same_new hr0))
    rw [upd_same]
    unfold dueL
    rw [fe, hnm, hrun]
  | some n =>
    rw [hrun] at hwr
    refine iteT' rfl ⟨_, rfl, wr, _, _, V.int (n : Int), rfl, rfl, SqL.of (s6 _ _ hwr), atI_nat (j := 0) rfl, by show 2 ≤ sizeLine; omega, fun r hr0 => ?_⟩
    refine k r _ (sf.free hr0) ?_ (sf.trans (same_new hr0))
    rw [upd_same]
    unfold dueL
    rw [fe, hnm, hrun]
end
end Nm
set_option autoImplicit true
set_option maxRecDepth 100000
set_option maxHeartbeats 4000000
/-! try with several clauses, some of them with a name -/
namespace Nm
open PySem PySem.Spec PyProof.Rows L2
/-- an exception of the body, as the clauses find it -/
structure Cght (X : Cx) (pins : List (Addr × Obj)) (a : Addr) (B : Heap) (sI : Shared) (σ : L2.St) (H : Hp) (cls : Value) (d : Option Addr) (s : Shared) : Prop where
  inv : Inv X pins σ H sI
  nb : ∀ (b : Addr) (o : Obj), sI.heap.get? b = some o → ¬b ∈ frs X.stack → B.get? b = some o
  up : sI.heap.UpToSlots s.heap
  fl : HandSPX.FlyingZ B (X.env :: X.outer) a (Zc cls d) s.heap
  na : H a = none
  os : s.os = sI.os
  ag : AllBare s.gens
section
variable {X : Cx} {pins : List (Addr × Obj)} {a : Addr} {B : Heap} {sI s : Shared} {σ : L2.St} {H : Hp} {cls : Value} {d : Option Addr}
theorem Cght.here (c : Cght X pins a B sI σ H cls d s) : Inv X pins σ H s := c.inv.landed c.nb c.fl.1 c.up c.os c.ag
/-- the suite's own state -/
theorem Cght.inside (c : Cght X pins a B sI σ H cls d s) (hf : X.env.frame = some X.env.locals) : ∃ oe vs, s.heap.get? a = some oe ∧ Zc cls d oe ∧ oe.data = .fields vs ∧ Inv (X.suite a ((a, oe) :: (X.pn ++ pins))) [] σ H s := by
  obtain ⟨oe, vs, he, hz, hd⟩ := c.fl.there
  have away : a ∉ frs (X.env :: X.outer) := fun m => by
    obtain ⟨_, o', e', no⟩ := c.fl.2.2.1.mem m
    rw [he] at e'
    cases e'
    exact no _ hd
  refine ⟨oe, vs, he, hz, hd, c.here.suite he hd c.na (fun z => away (List.mem_filterMap.mpr ⟨X.env, List.mem_cons_self, by rw [hf, z]⟩)) fun m => ?_⟩
  obtain ⟨e, he', q⟩ := List.mem_filterMap.mp m
  exact away (List.mem_filterMap.mpr ⟨e, List.mem_cons_of_mem _ he', q⟩)
end
/-- these clauses do as w wishes -/
def Serves (X : Cx) (hds : List ExceptHandler) (D : Ends) (w : WX) : Prop := ∀ (pins : List (Addr × Obj)) (a : Addr) (B : Heap) (sI s : Shared) (σ : L2.St) (H : Hp) (cls : Value) (d : Option Addr), Cght X pins a B sI σ H cls d s → w cls d σ H →
  wpAny (model X.prog X.w) X.A (handleBy (.ref a) X.env hds) (SP X pins D) X.xe s
section
variable {X : Cx} {hds : List ExceptHandler} {D : Ends} {w : WX} {x n : Str} {c : Value} {i : Nat} {suite : List Stmt} {b₀ : Stmt} {np pos pos' : Pos} {ts : Addr → Value → Option Addr → TS}
theorem serves_nil (hs : X.stack = X.env :: X.outer) (hf : X.env.frame = some X.env.locals) (tk : Takes X w) : Serves X [] D w := by
  intro pins a B sI s σ H cls d c h
  refine wpAny_handleBy_nil ?_
  obtain ⟨_, _, _, oe, vs, T, oT, ts', he, hz, hd, h1, _⟩ := id c.fl
  have out : wpAny (model X.prog X.w) X.A (setFlight (.ref a) X.env.frame) (fun _ s4 => wpAny (model X.prog X.w) X.A (throw (.ref a) : Sem Flow) (SP X pins D) X.xe s4) X.xe s := by
    rw [hf]
    exact HandSPX.setFlight_upZ c.fl fun h4 hh4 up4 => wpAny_throw (tk _ _ ⟨a, B, sI, pins, σ, H, cls, d, rfl, c.inv, c.nb, c.up.trans up4, .inr (.inr (by rw [hs]; exact hh4)), c.na, c.os, c.ag, h⟩)
  unfold PySem.passOn
  refine wpAny_bind (wpAny_field he hd h1 ?_)
  rw [if_neg (show ¬ ((Value.ref T == Value.none) = true) from by simp)]
  first
    | exact wpAny_bind (wpAny_pure (wpAny_bind out))
    | exact wpAny_bind out
/-- the class of a clause, asked for -/
theorem clause_test {b : Bool} {pins : List (Addr × Obj)} {a : Addr} {B : Heap} {sI s : Shared} {σ : L2.St} {H : Hp} {cls : Value} {d : Option Addr} (k : Cght X pins a B sI σ H cls d s) (hf : X.env.frame = some X.env.locals) (hc : Names X x c) (hb : PySem.W.exmOne X.K cls c = some b)
    {R : Result → Shared → Prop} (h : R (.ok (if b = true then Flow.brk else Flow.next)) s) : codeAny (model X.prog X.w) (X.A.mark (some (.ref a))) (Code.handlers (.ref a) [.ExceptHandler (some (.Name x np)) none [] pos] X.env) R s := by
  obtain ⟨oe, vs, he, hz, hd, J⟩ := k.inside hf
  have at_ : PySem.W.Looks (model X.prog X.w) s.heap (typeOf (.ref a)) cls := fun A Q E s k q => wpAny_typeOf_ref (k _ _ he) (by rw [hz.1]; exact q)
  refine codeAny_handlers_test ?_
  have fin := (PySem.W.exm_one (M := model X.prog X.w) k.here.kIn at_ hb).here (A := X.A.mark (some (.ref a))) (s := s) (Q := fun b s₂ => R (Except.ok (if b = true then Flow.brk else Flow.next)) s₂) (E := notedBy (model X.prog X.w) (X.A.mark (some (.ref a))) X.env fun x s₂ => R (Except.error x) s₂) h
  obtain ⟨hg, hdbg, hm | ⟨hm, hv, hnn⟩⟩ := hc
  · exact ld_glob (X := X.suite a ((a, oe) :: (X.pn ++ pins))) J hg hm fin hdbg
  · exact ld_blt (X := X.suite a ((a, oe) :: (X.pn ++ pins))) J hg hm hv fin hnn hdbg
theorem serves_as (hf : X.env.frame = some X.env.locals) (hN : X.N.Nodup) (hi : X.N[i]? = some n) (hln : X.env.kindOf n = some .local) (hc : Names X x c)
    (hsu : ∀ (a : Addr) (oe : Obj) (cls : Value) (d : Option Addr) (pn : List (Addr × Obj)), Zc cls d oe → (∃ vs, oe.data = .fields vs) → PSs (X.suite a ((a, oe) :: pn)) (b₀ :: suite) (ts a cls d))
    (r : Serves X hds D w) : Serves X (.ExceptHandler (some (.Name x np)) (some n) (b₀ :: suite) pos' :: hds) D (wAs X.K c i ts w D) := by
  intro pins a B sI s σ H cls d k h
  obtain ⟨b, hb, hyes, hno⟩ := h
  refine wpAny_handleBy_cons (clause_test k hf hc hb ?_) (by intro q; cases q)
  cases b with
  | false => exact r pins a B sI s σ H cls d k (hno rfl)
  | true =>
    refine codeAny_handlers_suite_as ?_
    refine HandSPX.lands_againZ k.fl fun h4 fl4 up4 => ?_
    have k4 : Cght X pins a B sI σ H cls d { s with heap := h4 } := ⟨k.inv, k.nb, k.up.trans up4, fl4, k.na, k.os, k.ag⟩
    obtain ⟨oe, vs, he, hz, hd, J⟩ := k4.inside hf
    refine store_ok (X := X.suite a ((a, oe) :: (X.pn ++ pins))) (v := .ref a) J hN hi (.inl hln) rfl (fun s5 J5 => ?_) (.inr hln)
    refine wpAny_mono ((hsu a oe cls d (X.pn ++ pins) hz ⟨_, hd⟩).run [] s5 _ H _ J5 (hyes rfl a k.na)) (fun f s6 hsp => ?_) (fun _ _ z => False.elim z)
    have ok := k.inv.ok
    have gone : ∀ {σ6 : L2.St} {H6 : Hp} {Q : Shared → Prop}, Inv (X.suite a ((a, oe) :: (X.pn ++ pins))) [] σ6 H6 s6 → (∀ s7, Inv X pins (σ6.set i none) H6 s7 → Q s7) →
        wpAny (model X.prog X.w) X.A (do bindName X.env n .none; unbindBehindTheSuite X.env n pos') (fun _ s7 => Q s7) X.xe s6 := fun {σ6 H6 Q} J6 hq => gone_ok (J6.unsuite ok) hN hi hln hq
    cases f with
    | ret u =>
      obtain ⟨v6, σ6, H6, J6, r6, q6⟩ := hsp
      exact gone J6 fun s7 J7 => ⟨_, _, _, J7, r6, q6⟩
    | next =>
      obtain ⟨σ6, H6, J6, q6⟩ := hsp
      exact gone J6 fun s7 J7 => ⟨_, _, J7, q6⟩
    | brk =>
      obtain ⟨σ6, H6, J6, q6⟩ := hsp
      exact gone J6 fun s7 J7 => ⟨_, _, J7, q6⟩
    | cont =>
      obtain ⟨σ6, H6, J6, q6⟩ := hsp
      exact gone J6 fun s7 J7 => ⟨_, _, J7, q6⟩
theorem serves_only (hf : X.env.frame = some X.env.locals) (hc : Names X x c)
    (hsu : ∀ (a : Addr) (oe : Obj) (cls : Value) (d : Option Addr) (pn : List (Addr × Obj)), Zc cls d oe → (∃ vs, oe.data = .fields vs) → PSs (X.suite a ((a, oe) :: pn)) (b₀ :: suite) (ts a cls d))
    (r : Serves X hds D w) : Serves X (.ExceptHandler (some (.Name x np)) none (b₀ :: suite) pos' :: hds) D (fun cls d σ H => ∃ b, PySem.W.exmOne X.K cls c = some b ∧ (b = true → ∀ a, H a = none → ts a cls d D σ H) ∧ (b = false → w cls d σ H)) := by
  intro pins a B sI s σ H cls d k h
  obtain ⟨b, hb, hyes, hno⟩ := h
  refine wpAny_handleBy_cons (clause_test k hf hc hb ?_) (by intro q; cases q)
  cases b with
  | false => exact r pins a B sI s σ H cls d k (hno rfl)
  | true =>
    refine codeAny_handlers_suite ?_
    refine HandSPX.lands_againZ k.fl fun h4 fl4 up4 => ?_
    have k4 : Cght X pins a B sI σ H cls d { s with heap := h4 } := ⟨k.inv, k.nb, k.up.trans up4, fl4, k.na, k.os, k.ag⟩
    obtain ⟨oe, vs, he, hz, hd, J⟩ := k4.inside hf
    have ok := k.inv.ok
    refine wpAny_mono ((hsu a oe cls d (X.pn ++ pins) hz ⟨_, hd⟩).run [] _ _ H _ J (hyes rfl a k.na)) (fun f s6 hsp => ?_) (fun _ _ z => False.elim z)
    cases f with
    | ret u =>
      obtain ⟨v6, σ6, H6, J6, r6, q6⟩ := hsp
      exact ⟨_, _, _, J6.unsuite ok, r6, q6⟩
    | next =>
      obtain ⟨σ6, H6, J6, q6⟩ := hsp
      exact ⟨_, _, J6.unsuite ok, q6⟩
    | brk =>
      obtain ⟨σ6, H6, J6, q6⟩ := hsp
      exact ⟨_, _, J6.unsuite ok, q6⟩
    | cont =>
      obtain ⟨σ6, H6, J6, q6⟩ := hsp
      exact ⟨_, _, J6.unsuite ok, q6⟩
end
/-- THE RULE -/
theorem ps_try_serves {X : Cx} {body : List Stmt} {h₀ : ExceptHandler} {hds : List ExceptHandler} {pos : Pos} {tb : WX → TS} {w : Ends → WX} (hs : X.stack = X.env :: X.outer) (hf : X.env.frame = some X.env.locals)
    (hb : ∀ (W : WX) (pn : List (Addr × Obj)) (xe : Value → Shared → Prop), Takes (X.tr pn xe) W → PassesOwn (model X.prog X.w) X.A X.env xe → PSs (X.tr pn xe) body (tb W))
    (S : ∀ D, Serves X (h₀ :: hds) D (w D)) : PS X (.Try body (h₀ :: hds) [] [] pos) (fun D σ H => tb (w D) D σ H) := by
  refine ⟨fun pins s σ H D I h => wpAny_Try_except ?_⟩
  have ok := I.ok
  have hfr : X.A.frames = some (X.env :: X.outer) := by rw [ok.frames, hs]
  refine wpAny_mono ((hb (w D) (X.pn ++ pins) (fun e s₁ => wpAny (model X.prog X.w) X.A (noteFrame e X.env) (fun _ s₂ => wpAny (model X.prog X.w) X.A (setFlight e none) (fun _ s₃ =>
    wpAny (model X.prog X.w) X.A (handleBy e X.env (h₀ :: hds)) (SP X pins D) X.xe s₃) X.xe s₂) X.xe s₁) (fun u s' xx => ?_) PassesOwn.looking).run [] s σ H D (I.toTry _) h) (fun f s1 hsp => ?_) (fun e s1 he => he)
  · obtain ⟨a, B, sI, pins', σ', H', cls, d, rfl, J', nb, up, sky, na, os, ag, q⟩ := xx
    have sky' : Sky B (X.env :: X.outer) a (Zc cls d) X.env.locals s'.heap := by rw [← hs]; exact sky
    show wpAny (model X.prog X.w) X.A (noteFrame (.ref a) X.env) _ _ _
    exact Sky.land Zc.steady hfr hf sky' fun h3 fl3 up3 => S D pins a B sI _ σ' H' cls d ⟨J'.ofTry ok, nb, up.trans up3, fl3, na, os, ag⟩ q
  · cases f with
    | ret u =>
      obtain ⟨v, σ', H', J', r, q⟩ := hsp
      exact ⟨v, σ', H', J'.ofTry ok, r, q⟩
    | next =>
      obtain ⟨σ', H', J', q⟩ := hsp
      exact wpAny_execs_nil ⟨σ', H', J'.ofTry ok, q⟩
    | brk =>
      obtain ⟨σ', H', J', q⟩ := hsp
      exact ⟨σ', H', J'.ofTry ok, q⟩
    | cont =>
      obtain ⟨σ', H', J', q⟩ := hsp
      exact ⟨σ', H', J'.ofTry ok, q⟩
end Nm
set_option autoImplicit false
set_option maxRecDepth 100000
set_option maxHeartbeats 8000000
/-! _law_no_word; _law_outcome(lambda: ..) -/
namespace Nm
open PySem PySem.Spec PyProof.Rows L2 LamX
section
variable {P : Program} {w : World} {K : PySem.W.Frag} {mg : Str → Option Value} {base : Heap}
def spNoW : Sp := fun vs H Q _ => ∃ (p g : Addr), vs = [.ref p] ∧ Pen H p g ∧ ∀ (v : V) (H' : Hp), OddN H H' v → wordO v = false → Pen H' p g → Bt p H H' → Q v H'
abbrev nNoW : List Str := ["_law_pen_here", "_law_value_here"]
theorem scNoW : FnScope nNoW ["_law_pen_here"] (defScope sNoWord) := ⟨rfl, rfl, rfl, by decide +kernel, rfl, by decide +kernel, by decide +kernel⟩
theorem bt_same {p : Addr} {H H' : Hp} (s : Same H H') : Bt p H H' := fun b o e _ => s b o e
theorem ok_noW {f : Addr} {fd : FuncData} (F : Fun K "_law_no_word" "_law_no_word" sNoWord f fd) (Go : Def P w K mg base "_law_odd" ["_law_pen_here"] 4 spOdd) (Gw : Def P w K mg base "_law_is_word" ["_law_value_here"] 1 spLw) : FnOk P w K mg base CX0 5 f fd ["_law_pen_here"] spNoW := by
  obtain ⟨fo, fdo, Go, mo, ko, bo⟩ := Go.ex
  obtain ⟨fw, fdw, Gw, mw, kw, bw⟩ := Gw.ex
  refine F.ok scNoW (fun vs H Q E h => ?_) (fun cdv A outer s H vs Q E hr h => ?_)
  · obtain ⟨_, _, rfl, _⟩ := h
    rfl
  obtain ⟨p, g, rfl, S, k⟩ := h
  refine ⟨_, Evl.pss_cut (ps_set (i := 1) scNoW.nd rfl (Or.inl rfl) (pe_call Go (hr.mono (by decide)) (by rfl) mo ko bo .nil pass0 (pa_cons (pv 0) pa_nil)))
    (pss_one (ps_ret (pe_ifExp (pt_val (pe_call Gw (hr.mono (by decide)) (by rfl) mw kw bw .nil pass0 (pa_cons (pv 1) pa_nil))) pe_non (pv 1)))), ?_⟩
  refine ⟨fun σ H1 => ∃ v, σ = [some (.ref p), some v] ∧ OddN H H1 v ∧ Pen H1 p g ∧ Bt p H H1, ?_, ?_⟩
  · exact ⟨_, rfl, p, g, rfl, S, fun v H1 o S1 b1 => ⟨v, rfl, o, S1, b1⟩⟩
  rintro σ H1 ⟨v, rfl, o, S1, b1⟩
  obtain ⟨⟨d, hd⟩, fi, fr⟩ := o
  refine ⟨_, rfl, v, d, rfl, hd, fun H2 s2 => ⟨_, rfl, ?_⟩⟩
  rw [fi.same]
  cases hw : wordO v with
  | true => exact iteT (k _ _ (Lf.oddN .non ⟨(by intro _ e; cases e), (by intro _ e; cases e)⟩) rfl (S1.same s2) (b1.trans (bt_same s2)))
  | false => exact iteF ⟨_, rfl, k _ _ ⟨⟨d, hd.same s2⟩, fi, fr⟩ hw (S1.same s2) (b1.trans (bt_same s2))⟩
end
end Nm
set_option autoImplicit false
set_option maxRecDepth 100000
set_option maxHeartbeats 16000000
/-! _law_spoilt_place -/
namespace Nm
open PySem PySem.Spec PyProof.Rows L2
theorem cut_tail (xs : List V) (n : Nat) : cutV xs (some (n : Int)) none = xs.drop n := by
  unfold cutV
  rw [HT.sIx_nat, HT.sIx_none, List.take_of_length_le (by rw [List.length_drop]; omega)]
  rcases Nat.le_total n xs.length with h | h
  · rw [Nat.min_eq_left h]
  · rw [Nat.min_eq_right h, List.drop_length, List.drop_eq_nil_of_le h]
theorem Pen.ne_tup5 {H : Hp} {p g a : Addr} {xs : List V} (S : Pen H p g) (h : H a = some (.tup xs)) : a ≠ p := fun e => by
  obtain ⟨ns, seat, left, S⟩ := S
  rw [e, S.hp] at h
  cases h
theorem Pen.ne_refs5 {H : Hp} {p g a : Addr} {as : List Addr} (S : Pen H p g) (h : H a = some (.lst (as.map V.ref))) : a ≠ p := fun e => by
  obtain ⟨ns, seat, left, S⟩ := S
  rw [e, S.hp] at h
  have := HO.lst.inj (Option.some.inj h)
  match as, this with
  | [_], h => cases h
  | _ :: _ :: _, h => cases (List.cons.inj (List.cons.inj h).2).1
theorem PsAt.bt {H H' : Hp} {p g pl : Addr} {ts : List Addr} {ps : List Pv2} (h : PsAt H pl ts ps) (S : Pen H p g) (b : Bt p H H') : PsAt H' pl ts ps := ⟨b _ _ h.1 (S.ne_refs5 h.1), Paired.mapP h.2 fun _ _ e => b _ _ e (S.ne_tup5 e)⟩
theorem OdP.bt {H H' : Hp} {p g : Addr} {ps : List Pv2} (h : OdP H ps) (S : Pen H p g) (b : Bt p H H') : OdP H' ps := fun q hq => ⟨(h q hq).1.imp fun _ e => e.bt S b, (h q hq).2.imp fun _ e => e.bt S b⟩
theorem paired_take {α β : Type} {F : α → β → Prop} : ∀ (n : Nat) {l : List α} {m : List β}, Paired F l m → Paired F (l.take n) (m.take n)
  | 0, _, _, _ => .nil
  | _ + 1, _, _, .nil => .nil
  | n + 1, _, _, .cons h t => .cons h (paired_take n t)
theorem paired_drop {α β : Type} {F : α → β → Prop} : ∀ (n : Nat) {l : List α} {m : List β}, Paired F l m → Paired F (l.drop n) (m.drop n)
  | 0, _, _, h => h
  | _ + 1, _, _, .nil => .nil
  | n + 1, _, _, .cons _ t => paired_drop n t
section
variable {P : Program} {w : World} {K : PySem.W.Frag} {mg : Str → Option Value} {base : Heap}
def spSpl : Sp := fun vs H Q _ => ∃ (p g pl : Addr) (ts : List Addr) (ps : List Pv2), vs = [.ref p, .ref pl] ∧ Pen H p g ∧ PsAt H pl ts ps ∧ OdP H ps ∧ FineP ps ∧ ps ≠ [] ∧ ps.length ≤ 100 ∧
  ∀ (pl' : Addr) (ts' : List Addr) (ps' : List Pv2) (H' : Hp), H pl' = none → PsAt H' pl' ts' ps' → OdP H' ps' → FineP ps' → ps'.length ≤ ps.length + 1 → Pen H' p g → Bt p H H' → Q (.ref pl') H'
abbrev nSpl : List Str := ["_law_pen_here", "_law_places", "_law_at", "_law_way", "_law_name", "_law_colour"]
theorem scSpl : FnScope nSpl ["_law_pen_here", "_law_places"] (defScope sSpoiltPlace) := ⟨rfl, rfl, rfl, by decide +kernel, rfl, by decide +kernel, by decide +kernel⟩
theorem ok_spl {f : Addr} {fd : FuncData} (F : Fun K "_law_spoilt_place" "_law_spoilt_place" sSpoiltPlace f fd) (T : TxtB mg) (Gd : Def P w K mg base "_law_draw" ["_law_pen_here", "_law_bound"] 2 spPn) (Go : Def P w K mg base "_law_one_of" ["_law_pen_here", "_law_some"] 3 spOne) (Gn : Def P w K mg base "_law_no_word" ["_law_pen_here"] 5 spNoW) : FnOk P w K mg base CX0 6 f fd ["_law_pen_here", "_law_places"] spSpl := by
  obtain ⟨fd', fdd, Gd, md, kd, bd⟩ := Gd.ex
  obtain ⟨fo, fdo, Go, mo, ko, bo⟩ := Go.ex
  obtain ⟨fn, fdn, Gn, mn, kn, bn⟩ := Gn.ex
  refine F.ok scSpl (fun vs H Q E h => ?_) (fun cdv A outer s H vs Q E hr h => ?_)
  · obtain ⟨_, _, _, _, _, rfl, _⟩ := h
    rfl
  obtain ⟨p, g, pl, ts, ps, rfl, S, hps, hod, fine, pne, p100, k⟩ := h
  have hu := hu_of hr
  have lim := sizeLine_eq
  have tl : ts.length = ps.length := Paired.length hps.2
  have n0 : 1 ≤ ps.length := Nat.one_le_iff_ne_zero.mpr fun z => pne (List.length_eq_zero_iff.mp z)
  refine ⟨_, Evl.pss_cut (ps_par (i := 2) (j := 3) (by rfl) scSpl.nd rfl rfl (by decide) rfl rfl (pa_cons (pe_call Gd (hr.mono (by decide)) (by rfl) md kd bd .nil pass0 (pa_cons (pv 0) (pa_cons (pe_callB call_len_seq (by rfl) T.len PySem.boot_len (pa_cons (pv 1) pa_nil)) pa_nil))) (pa_cons (pe_call Gd (hr.mono (by decide)) (by rfl) md kd bd .nil pass0 (pa_cons (pv 0) (pa_cons pe_int pa_nil))) pa_nil)) (by rfl))
    (pss_cons (ps_if (pt_cmpR op_eq (pv 3) pe_int (nomark _)) (pss_one (ps_ret (pe_lst pa_nil))) pss_nil)
    (pss_cons (ps_asg (pe_ix ix_list (pv 1) (pv 2) (fun _ _ => rfl)) (pg_tup rfl (pgs_cons (pg_name (i := 4) scSpl.nd rfl (.inl rfl)) (pgs_cons (pg_name (i := 5) scSpl.nd rfl (.inl rfl)) pgs_nil))))
    (pss_cons (ps_if (pt_cmpR op_eq (pv 3) pe_int (nomark _)) (pss_one (ps_ret (pe_op op_cat (pe_op op_cat (pe_slice sl_list (pv 1) po_none (po_some (pv 2))) (pe_lst (pa_cons (pe_tup (pa_cons (pe_call Gn hr (by rfl) mn kn bn .nil pass0 (pa_cons (pv 0) pa_nil)) (pa_cons (pv 5) pa_nil))) pa_nil))) (pe_slice sl_list (pv 1) (po_some (pe_op op_add (pv 2) pe_int)) po_none)))) pss_nil)
    (pss_cons (ps_if (pt_cmpR op_eq (pv 3) pe_int (nomark _)) (pss_one (ps_ret (pe_op op_cat (pe_op op_cat (pe_slice sl_list (pv 1) po_none (po_some (pv 2))) (pe_lst (pa_cons (pe_tup (pa_cons (pv 4) (pa_cons (pe_call Gn hr (by rfl) mn kn bn .nil pass0 (pa_cons (pv 0) pa_nil)) pa_nil))) pa_nil))) (pe_slice sl_list (pv 1) (po_some (pe_op op_add (pv 2) pe_int)) po_none)))) pss_nil)
    (pss_one (ps_ret (pe_op op_cat (pv 1) (pe_lst (pa_cons (pe_tup (pa_cons (pv 4) (pa_cons (pe_call Go (hr.mono (by decide)) (by rfl) mo ko bo .nil pass0 (pa_cons (pv 0) (pa_cons (pe_lst (pa_cons pe_str (pa_cons pe_str (pa_cons pe_str pa_nil)))) pa_nil))) pa_nil))) pa_nil))))))))), ?_⟩
  refine ⟨fun σ H1 => ∃ (at_ way : Nat), σ = [some (.ref p), some (.ref pl), some (.int (at_ : Int)), some (.int (way : Int)), none, none] ∧ at_ < ps.length ∧ Pen H1 p g ∧ Bt p H H1, ?_, ?_⟩
  · refine ⟨_, rfl, _, rfl, pl, _, rfl, .inl (SqL.of hps.1), p, g, ps.length, by rw [List.length_map, tl]; rfl, S, n0, by omega, fun z H1 hz S1 b1 => ?_⟩
    refine ⟨_, rfl, p, g, 4, rfl, S1, by decide, by decide, fun z2 H2 hz2 S2 b2 => ?_⟩
    exact ⟨_, _, rfl, z, z2, rfl, hz, S2, b1.trans b2⟩
  rintro σ H1 ⟨at_, way, rfl, hat, S1, b1⟩
  have hps1 := hps.bt S b1
  have hod1 := hod.bt S b1
  obtain ⟨q, hq⟩ : ∃ q, ps[at_]? = some q := ⟨_, List.getElem?_eq_getElem hat⟩
  obtain ⟨t, ht⟩ : ∃ t, ts[at_]? = some t := ⟨_, List.getElem?_eq_getElem (by omega)⟩
  obtain ⟨q', hq', htt⟩ := paired_get hps1.2 ht
  obtain rfl : q = q' := Option.some.inj (hq.symm.trans hq')
  have qm := List.mem_of_getElem? hq
  obtain ⟨⟨d1, o1⟩, ⟨d2, o2⟩⟩ := hod1 q qm
  obtain ⟨f1, f2⟩ := fine q qm
  refine ⟨_, rfl, rfl, _, rfl, ?_⟩
  refine ite2 (fun _ => ?_) (fun _ => ?_)
  · refine ⟨by show 0 ≤ sizeLine; omega, fun r hr0 => ?_⟩
    have s2 := same_new (o := .lst []) hr0
    exact k r [] [] _ (b1.free S1 hr0) ⟨upd_same, .nil⟩ (fun q h => (List.not_mem_nil h).elim) (fun q h => (List.not_mem_nil h).elim) (by show 0 ≤ _; omega) (S1.same s2) (b1.trans (Bt.same s2))
  refine ⟨_, rfl, _, rfl, pl, _, _, V.ref t, rfl, rfl, SqL.of hps1.1, atI_nat (j := at_) (by rw [List.getElem?_map, ht]; rfl), t, _, rfl, SqT.of htt, rfl, _, _, rfl, _, _, rfl, rfl, ?_⟩
  have tkl : ((ts.take at_).map V.ref).length ≤ 100 := by rw [List.length_map, List.length_take]; omega
  -- one in its place
  have fin : ∀ (q2 : Pv2) (u l1 l2 : Addr) (H4 : Hp), Pen H4 p g → Bt p H1 H4 → H4 l1 = some (.lst ((ts.take at_).map V.ref)) → H4 u = some (.tup [q2.1, q2.2]) → (∃ d, OdV H4 q2.1 d) → (∃ d, OdV H4 q2.2 d) → FineS q2.1 → FineS q2.2 →
      ∀ l3, H4 l3 = none → ∀ l4, (upd H4 l3 (.lst (((ts.take at_).map V.ref) ++ [V.ref u]))) l4 = none → ∀ l5, (upd (upd H4 l3 (.lst (((ts.take at_).map V.ref) ++ [V.ref u]))) l4 (.lst ((ts.map V.ref).drop (at_ + 1)))) l5 = none →
      Q (.ref l5) (upd (upd (upd H4 l3 (.lst (((ts.take at_).map V.ref) ++ [V.ref u]))) l4 (.lst ((ts.map V.ref).drop (at_ + 1)))) l5 (.lst ((((ts.take at_).map V.ref) ++ [V.ref u]) ++ (ts.map V.ref).drop (at_ + 1)))) := fun q2 u l1 l2 H4 S4 b4 h1 hu o1 o2 f1 f2 l3 hl3 l4 hl4 l5 hl5 => by
    have s3 := same_new (o := .lst (((ts.take at_).map V.ref) ++ [V.ref u])) hl3
    generalize upd H4 l3 (.lst (((ts.take at_).map V.ref) ++ [V.ref u])) = H5 at *
    have s4 := same_new (o := .lst ((ts.map V.ref).drop (at_ + 1))) hl4
    generalize upd H5 l4 (.lst ((ts.map V.ref).drop (at_ + 1))) = H6 at *
    have s5 := same_new (o := .lst ((((ts.take at_).map V.ref) ++ [V.ref u]) ++ (ts.map V.ref).drop (at_ + 1))) hl5
    have sf := s3.trans (s4.trans s5)
    have bf : Bt p H H6 := (b1.trans b4).trans (Bt.same (s3.trans s4))
    have psf := (hps1.bt S1 b4).same sf
    refine k l5 (ts.take at_ ++ [u] ++ ts.drop (at_ + 1)) (ps.take at_ ++ [q2] ++ ps.drop (at_ + 1)) _ (bf.free ((S4.same s3).same s4) hl5) ⟨?_, ?_⟩ ?_ ?_ ?_ (S4.same sf) ((b1.trans b4).trans (Bt.same sf))
    · rw [upd_same, List.map_append, List.map_append, List.map_drop]
      rfl
    · exact paired_app (paired_app (paired_take at_ psf.2) (.cons (sf _ _ hu) .nil)) (paired_drop (at_ + 1) psf.2)
    · intro x hx
      have odf := (hod1.bt S1 b4).same sf
      rcases List.mem_append.mp hx with m | m
      · rcases List.mem_append.mp m with m | m
        · exact odf x (List.mem_of_mem_take m)
        · rw [List.mem_singleton.mp m]
          exact ⟨o1.imp fun _ z => z.same sf, o2.imp fun _ z => z.same sf⟩
      · exact odf x (List.mem_of_mem_drop m)
    · intro x hx
      rcases List.mem_append.mp hx with m | m
      · rcases List.mem_append.mp m with m | m
        · exact fine x (List.mem_of_mem_take m)
        · rw [List.mem_singleton.mp m]
          exact ⟨f1, f2⟩
      · exact fine x (List.mem_of_mem_drop m)
    · rw [List.length_append, List.length_append, List.length_take, List.length_drop]
      show min at_ ps.length + 1 + _ ≤ _
      omega
  have cut1 : cutV (ts.map V.ref) none (some (at_ : Int)) = (ts.take at_).map V.ref := by rw [cut_upto, List.map_take]
  have cut2 : cutV (ts.map V.ref) (some ((at_ : Int) + 1)) none = (ts.map V.ref).drop (at_ + 1) := by
    rw [show (at_ : Int) + 1 = ((at_ + 1 : Nat) : Int) by omega, cut_tail]
  have drl : ((ts.map V.ref).drop (at_ + 1)).length ≤ 100 := by rw [List.length_drop, List.length_map]; omega
  refine ⟨_, rfl, rfl, _, rfl, ?_⟩
  refine ite2 (fun _ => ?_) (fun _ => ?_)
  · refine ⟨_, rfl, _, rfl, _, rfl, pl, _, rfl, SqL.of hps1.1, fun l1 hl1 => ?_⟩
    rw [cut1]
    have s1 := same_new (o := .lst ((ts.take at_).map V.ref)) hl1
    have e1 : (upd H1 l1 (.lst ((ts.take at_).map V.ref))) l1 = some (.lst ((ts.take at_).map V.ref)) := upd_same
    generalize upd H1 l1 (.lst ((ts.take at_).map V.ref)) = H2 at *
    have S2 := S1.same s1
    refine ⟨_, rfl, tnI ⟨p, g, rfl, S2, fun v H3 od wv S3 b3 => ?_⟩⟩
    have e1' := b3 _ _ e1 (S2.ne_refs5 e1)
    refine ⟨_, rfl, by show 2 ≤ sizeLine; omega, fun u hu0 => ?_⟩
    have s2 := same_new (o := .tup [v, q.2]) hu0
    have e2 : (upd H3 u (.tup [v, q.2])) u = some (.tup [v, q.2]) := upd_same
    generalize upd H3 u (.tup [v, q.2]) = H4 at *
    refine ⟨by show 1 ≤ sizeLine; omega, fun l2 hl2 => ?_⟩
    have s3 := same_new (o := .lst [V.ref u]) hl2
    have e3 : (upd H4 l2 (.lst [V.ref u])) l2 = some (.lst [V.ref u]) := upd_same
    generalize upd H4 l2 (.lst [V.ref u]) = H5 at *
    have s23 := s2.trans s3
    have bf : Bt p H1 H5 := ((Bt.same s1).trans b3).trans (Bt.same s23)
    have ps5 := (hps1.bt S1 bf)
    refine ⟨l1, l2, _, _, rfl, rfl, s23 _ _ e1', e3, by show _ + 1 ≤ sizeLine; omega, fun l3 hl3 => ?_⟩
    have s6 := same_new (o := .lst ((ts.take at_).map V.ref ++ [V.ref u])) hl3
    have e6 : (upd H5 l3 (.lst ((ts.take at_).map V.ref ++ [V.ref u]))) l3 = some (.lst ((ts.take at_).map V.ref ++ [V.ref u])) := upd_same
    refine ⟨_, rfl, _, rfl, _, _, rfl, rfl, _, rfl, pl, _, rfl, SqL.of (s6 _ _ ps5.1), fun l4 hl4 => ?_⟩
    rw [cut2]
    refine ⟨l3, l4, _, _, rfl, rfl, same_new hl4 _ _ e6, upd_same, by rw [List.length_append]; show _ + 1 + _ ≤ sizeLine; omega, fun l5 hl5 => ?_⟩
    exact fin (v, q.2) u l1 l2 H5 (S3.same s23) bf (s23 _ _ e1') (s3 _ _ e2) (od.1.imp fun _ z => z.same s23) ⟨d2, o2.bt S1 bf⟩ od.2.1.s f2 l3 hl3 l4 hl4 l5 hl5
  refine ⟨_, rfl, rfl, _, rfl, ?_⟩
  refine ite2 (fun _ => ?_) (fun _ => ?_)
  · refine ⟨_, rfl, _, rfl, _, rfl, pl, _, rfl, SqL.of hps1.1, fun l1 hl1 => ?_⟩
    rw [cut1]
    have s1 := same_new (o := .lst ((ts.take at_).map V.ref)) hl1
    have e1 : (upd H1 l1 (.lst ((ts.take at_).map V.ref))) l1 = some (.lst ((ts.take at_).map V.ref)) := upd_same
    generalize upd H1 l1 (.lst ((ts.take at_).map V.ref)) = H2 at *
    have S2 := S1.same s1
    refine ⟨_, rfl, _, rfl, tnI ⟨p, g, rfl, S2, fun v H3 od wv S3 b3 => ?_⟩⟩
    have e1' := b3 _ _ e1 (S2.ne_refs5 e1)
    refine ⟨by show 2 ≤ sizeLine; omega, fun u hu0 => ?_⟩
    have s2 := same_new (o := .tup [q.1, v]) hu0
    have e2 : (upd H3 u (.tup [q.1, v])) u = some (.tup [q.1, v]) := upd_same
    generalize upd H3 u (.tup [q.1, v]) = H4 at *
    refine ⟨by show 1 ≤ sizeLine; omega, fun l2 hl2 => ?_⟩
    have s3 := same_new (o := .lst [V.ref u]) hl2
    have e3 : (upd H4 l2 (.lst [V.ref u])) l2 = some (.lst [V.ref u]) := upd_same
    generalize upd H4 l2 (.lst [V.ref u]) = H5 at *
    have s23 := s2.trans s3
    have bf : Bt p H1 H5 := ((Bt.same s1).trans b3).trans (Bt.same s23)
    have ps5 := (hps1.bt S1 bf)
    refine ⟨l1, l2, _, _, rfl, rfl, s23 _ _ e1', e3, by show _ + 1 ≤ sizeLine; omega, fun l3 hl3 => ?_⟩
    have s6 := same_new (o := .lst ((ts.take at_).map V.ref ++ [V.ref u])) hl3
    have e6 : (upd H5 l3 (.lst ((ts.take at_).map V.ref ++ [V.ref u]))) l3 = some (.lst ((ts.take at_).map V.ref ++ [V.ref u])) := upd_same
    refine ⟨_, rfl, _, rfl, _, _, rfl, rfl, _, rfl, pl, _, rfl, SqL.of (s6 _ _ ps5.1), fun l4 hl4 => ?_⟩
    rw [cut2]
    refine ⟨l3, l4, _, _, rfl, rfl, same_new hl4 _ _ e6, upd_same, by rw [List.length_append]; show _ + 1 + _ ≤ sizeLine; omega, fun l5 hl5 => ?_⟩
    exact fin (q.1, v) u l1 l2 H5 (S3.same s23) bf (s23 _ _ e1') (s3 _ _ e2) ⟨d1, o1.bt S1 bf⟩ (od.1.imp fun _ z => z.same s23) f1 od.2.1.s l3 hl3 l4 hl4 l5 hl5
  -- one more
  refine ⟨_, rfl, _, rfl, _, rfl, by show 3 ≤ sizeLine; omega, fun lw hlw => ?_⟩
  have s1 := same_new (o := .lst [V.str "x", .str "y", .str "A"]) hlw
  have e1 : (upd H1 lw (.lst [V.str "x", .str "y", .str "A"])) lw = some (.lst [V.str "x", .str "y", .str "A"]) := upd_same
  have nlp := (S1.ne hlw).1
  generalize upd H1 lw (.lst [V.str "x", .str "y", .str "A"]) = H2 at *
  have S2 := S1.same s1
  refine tnI ⟨p, g, lw, _, rfl, S2, e1, nlp, by show 1 ≤ 3; decide, by show 3 ≤ 1000; decide, fun j v H3 hv S3 b3 => ?_⟩
  have fv : FineS v ∧ ∃ d, OdV H3 v d := by
    match j, hv with
    | 0, hv =>
      obtain rfl : V.str "x" = v := by simpa using hv
      exact ⟨fineS_w (by decide), _, .lf (.str (by decide +kernel) (by decide +kernel))⟩
    | 1, hv =>
      obtain rfl : V.str "y" = v := by simpa using hv
      exact ⟨⟨fun z e => by cases e; decide +kernel, fun i e => by cases e⟩, _, .lf (.str (by decide +kernel) (by decide +kernel))⟩
    | 2, hv =>
      obtain rfl : V.str "A" = v := by simpa using hv
      exact ⟨⟨fun z e => by cases e; decide +kernel, fun i e => by cases e⟩, _, .lf (.str (by decide +kernel) (by decide +kernel))⟩
    | j + 3, hv => simp at hv
  obtain ⟨fv, dv, ov⟩ := fv
  refine ⟨by show 2 ≤ sizeLine; omega, fun u hu0 => ?_⟩
  have s2 := same_new (o := .tup [q.1, v]) hu0
  have e2 : (upd H3 u (.tup [q.1, v])) u = some (.tup [q.1, v]) := upd_same
  generalize upd H3 u (.tup [q.1, v]) = H4 at *
  refine ⟨by show 1 ≤ sizeLine; omega, fun l2 hl2 => ?_⟩
  have s3 := same_new (o := .lst [V.ref u]) hl2
  have e3 : (upd H4 l2 (.lst [V.ref u])) l2 = some (.lst [V.ref u]) := upd_same
  generalize upd H4 l2 (.lst [V.ref u]) = H5 at *
  have s23 := s2.trans s3
  have bf : Bt p H1 H5 := ((Bt.same s1).trans b3).trans (Bt.same s23)
  have ps5 := (hps1.bt S1 bf)
  refine ⟨pl, l2, _, _, rfl, rfl, ps5.1, e3, by rw [List.length_map]; show _ + 1 ≤ sizeLine; omega, fun l3 hl3 => ?_⟩
  have s6 := same_new (o := .lst (ts.map V.ref ++ [V.ref u])) hl3
  have ps6 := ps5.same s6
  refine k l3 (ts ++ [u]) (ps ++ [(q.1, v)]) _ ((b1.trans bf).free (S3.same s23) hl3) ⟨by rw [upd_same, List.map_append]; rfl, paired_app ps6.2 (.cons (s6 _ _ (s3 _ _ e2)) .nil)⟩ (fun x hx => ?_) (fun x hx => ?_) (by rw [List.length_append]; exact Nat.le_refl _) ((S3.same s23).same s6) ((b1.trans bf).trans (Bt.same s6))
  · rcases List.mem_append.mp hx with m | m
    · exact ((hod1.bt S1 bf).same s6) x m
    · rw [List.mem_singleton.mp m]
      exact ⟨⟨d1, (o1.bt S1 bf).same s6⟩, dv, (ov.same s23).same s6⟩
  · rcases List.mem_append.mp hx with m | m
    · exact fine x m
    · rw [List.mem_singleton.mp m]
      exact ⟨f1, fv⟩
end
end Nm
set_option autoImplicit false
set_option maxRecDepth 100000
set_option maxHeartbeats 16000000
/-! _law_spoilt_tie -/
namespace Nm
open PySem PySem.Spec PyProof.Rows L2
def OdX (H : Hp) (v : V) : Prop := (∃ d, OdV H v d) ∧ FineS v
theorem OdX.same {H H' : Hp} {v : V} (h : OdX H v) (s : Same H H') : OdX H' v := ⟨h.1.imp fun _ o => o.same s, h.2⟩
theorem OdX.bt {H H' : Hp} {p g : Addr} {v : V} (h : OdX H v) (S : Pen H p g) (b : Bt p H H') : OdX H' v := ⟨h.1.imp fun _ o => o.bt S b, h.2⟩
theorem OddN.x {H0 H : Hp} {v : V} (h : OddN H0 H v) : OdX H v := ⟨h.1, h.2.1.s⟩
theorem TvAt.bt {H H' : Hp} {p g : Addr} {v : V} {e : Tv} (h : TvAt H v e) (S : Pen H p g) (b : Bt p H H') : TvAt H' v e := by
  cases e with
  | non => exact h
  | t4 a b' k m => exact ⟨h.choose, h.choose_spec.1, b _ _ h.choose_spec.2 (S.ne_tup5 h.choose_spec.2)⟩
  | t3 a b' k => exact ⟨h.choose, h.choose_spec.1, b _ _ h.choose_spec.2 (S.ne_tup5 h.choose_spec.2)⟩
  | l4 a b' k m =>
    refine ⟨h.choose, h.choose_spec.1, b _ _ h.choose_spec.2 fun e => ?_⟩
    obtain ⟨ns, seat, left, S⟩ := S
    have h2 := h.choose_spec.2
    rw [e, S.hp] at h2
    have := congrArg List.length (HO.lst.inj (Option.some.inj h2))
    simp at this
theorem OdT.bt {H H' : Hp} {p g : Addr} {e : Tv} (h : OdT H e) (S : Pen H p g) (b : Bt p H H') : OdT H' e := fun v hv => (h v hv).imp fun _ o => o.bt S b
theorem TsAt5.bt {H H' : Hp} {p g ta : Addr} {us : List V} {es : List Tv} (h : TsAt5 H ta us es) (S : Pen H p g) (n : ta ≠ p) (b : Bt p H H') : TsAt5 H' ta us es := ⟨b _ _ h.1 n, Paired.mapP h.2.1 fun _ _ e => e.bt S b, fun e he => (h.2.2 e he).bt S b⟩
/-- ties, and what is said of them -/
abbrev TsX (H : Hp) (ta : Addr) (us : List V) (es : List Tv) : Prop := TsAt5 H ta us es ∧ ∀ e ∈ es, FineT e
abbrev rLenS5 (K : PySem.W.Frag) : List V → Hp → VK → Prop := fun xs H Q => ∃ p ys, xs = [.ref p] ∧ (SqL K H p ys ∨ SqT K H p ys) ∧ Q (.int ys.length) H
abbrev tIsT (K : PySem.W.Frag) : TT := tB (tCB (rIsi K) (tCons (tVar 7) (tCons (tC (.ty "tuple")) tNil)))
abbrev tLen4 (K : PySem.W.Frag) : TT := tTest (tOp rEq (tCB (rLenS5 K) (tCons (tVar 7) tNil)) (tC (.int 4)))
section
variable {P : Program} {w : World} {K : PySem.W.Frag} {mg : Str → Option Value} {base : Heap}
def spSpt : Sp := fun vs H Q _ => ∃ (p g pl ta : Addr) (ts : List Addr) (ps : List Pv2) (us : List V) (es : List Tv), vs = [.ref p, .ref pl, .ref ta] ∧ Pen H p g ∧ PsAt H pl ts ps ∧ OdP H ps ∧ FineP ps ∧ ps.length ≤ 100 ∧ TsX H ta us es ∧ ta ≠ p ∧ es.length ≤ 100 ∧
  ∀ (ta' : Addr) (us' : List V) (es' : List Tv) (H' : Hp), H ta' = none → TsX H' ta' us' es' → es'.length ≤ es.length + 1 → Pen H' p g → Bt p H H' → Q (.ref ta') H'
abbrev nSpt : List Str := ["_law_pen_here", "_law_places", "_law_ties_here", "_law_names", "_law_name", "_law_colour", "_law_kinds", "_law_tie", "_law_new", "_law_right", "_law_one", "_law_other", "_law_kind", "_law_width", "_law_at"]
theorem scSpt : FnScope nSpt ["_law_pen_here", "_law_places", "_law_ties_here"] (defScope sSpoiltTie) := ⟨rfl, rfl, rfl, by decide +kernel, rfl, by decide +kernel, by decide +kernel⟩
theorem ok_spt {f : Addr} {fd : FuncData} (F : Fun K "_law_spoilt_tie" "_law_spoilt_tie" sSpoiltTie f fd) (T : TxtH mg) (Tl : mg "list" = none) (Ti : mg "int" = none) (Ts : mg "sorted" = none) (Gd : Def P w K mg base "_law_draw" ["_law_pen_here", "_law_bound"] 2 spPn) (Go : Def P w K mg base "_law_one_of" ["_law_pen_here", "_law_some"] 3 spOne) (Gn : Def P w K mg base "_law_no_word" ["_law_pen_here"] 5 spNoW)
    (Gw : Def P w K mg base "_law_is_word" ["_law_value_here"] 1 spLw) (Gh : Def P w K mg base "_law_whole" nWh 1 spWholeO) : FnOk P w K mg base CX0 6 f fd ["_law_pen_here", "_law_places", "_law_ties_here"] spSpt := by
  obtain ⟨fd', fdd, Gd, md, kd, bd⟩ := Gd.ex
  obtain ⟨fo, fdo, Go, mo, ko, bo⟩ := Go.ex
  obtain ⟨fn, fdn, Gn, mn, kn, bn⟩ := Gn.ex
  obtain ⟨fw, fdw, Gw, mw, kw, bw⟩ := Gw.ex
  obtain ⟨fh, fdh, Gh, mh, kh, bh⟩ := Gh.ex
  refine F.ok scSpt (fun vs H Q E h => ?_) (fun cdv A outer s H vs Q E hr h => ?_)
  · obtain ⟨_, _, _, _, _, _, _, _, rfl, _⟩ := h
    rfl
  obtain ⟨p, g, pl, ta, ts, ps, us, es, rfl, S, hps, hod, fine, p100, hts, nta, e100, k⟩ := h
  have hu := hu_of hr
  have lim := sizeLine_eq
  have tl : ts.length = ps.length := Paired.length hps.2
  have ul : us.length = es.length := Paired.length hts.1.2.1
  refine ⟨_, Evl.pss_cut (ps_set (i := 3) scSpt.nd rfl (Or.inl rfl) (pe_op op_cat (pe_lc (own := [("_law_name", 4), ("_law_colour", 5)]) (g := gTup K 2 (gCons (gName 4) (gCons (gName 5) gNil))) (tt := tYes) (te := tVar 4) rfl scSpt.nd (pi_list (pv 1)) (blkOk_by (N := nSpt) (sc := defScope sSpoiltTie) (by decide +kernel))
        (fun _ _ _ _ _ => pg_tup rfl (pgs_cons (pg_name (i := 4) scSpt.nd rfl (Or.inl rfl)) (pgs_cons (pg_name (i := 5) scSpt.nd rfl (Or.inl rfl)) pgs_nil))) (fun _ _ _ _ _ => pts_nil) (fun _ _ _ _ _ => pv 4)) (pe_lst (pa_cons pe_str pa_nil))))
    (Evl.pss_cut (ps_set (i := 6) scSpt.nd rfl (Or.inl rfl) (pe_callB (cr_sortT rfl) (by rfl) Ts (by decide +kernel) (pa_cons (pe_callTy (cr_setT rfl) (by rfl) T.set (by decide +kernel) (pa_cons (pe_lc (own := [("_law_tie", 7)]) (g := gName 7) (tt := tAnd (tIsT K) (tAnd (tLen4 K) (tB (tCall spLw [] E0 (tCons (tOp (rIxT K) (tVar 7) (tC (.int 2))) tNil))))) (te := tOp (rIxT K) (tVar 7) (tC (.int 2))) rfl scSpt.nd (pi_list (pv 2)) (blkOk_by (N := nSpt) (sc := defScope sSpoiltTie) (by decide +kernel))
        (fun _ _ _ _ _ => pg_name (i := 7) scSpt.nd rfl (Or.inl rfl))
        (fun _ _ _ _ _ => by exact pts_one (PW.pt (pw_and (pt_val (pe_callB call_isi (by rfl) T.isinstance (by decide +kernel) (pa_cons (pv 7) (pa_cons (pe_bltn (v := .ty "tuple") (by rfl) T.tuple (by decide +kernel) rfl) pa_nil)))) (pw_and (pt_cmpR op_eq (pe_callB call_len_seq (by rfl) T.len PySem.boot_len (pa_cons (pv 7) pa_nil)) pe_int (nomark _)) (pw_and1 (pt_val (pe_call Gw (hr.mono (by decide)) (by rfl) mw kw bw .nil pass0 (pa_cons (pe_ix ix_tup (pv 7) pe_int (fun _ _ => rfl)) pa_nil))))))))
        (fun _ _ _ _ _ => by exact pe_ix ix_tup (pv 7) pe_int (fun _ _ => rfl))) pa_nil)) pa_nil)))
    (Evl.pss_cut (ps_set (i := 6) scSpt.nd rfl (Or.inl rfl) (pe_op op_cat (pv 6) (pe_op op_rep (pe_lst (pa_cons pe_str pa_nil)) (pe_callTy call_int1 (by rfl) Ti (by decide +kernel) (pa_cons (pe_cmpR op_lt (pe_callB call_len_seq (by rfl) T.len PySem.boot_len (pa_cons (pv 6) pa_nil)) pe_int (nomark _)) pa_nil)))))
    (Evl.pss_cut (ps_set (i := 7) scSpt.nd rfl (Or.inl rfl) (pe_lst (pa_cons (pe_call Go (hr.mono (by decide)) (by rfl) mo ko bo .nil pass0 (pa_cons (pv 0) (pa_cons (pv 3) pa_nil))) (pa_cons (pe_call Go (hr.mono (by decide)) (by rfl) mo ko bo .nil pass0 (pa_cons (pv 0) (pa_cons (pv 3) pa_nil))) (pa_cons (pe_call Go (hr.mono (by decide)) (by rfl) mo ko bo .nil pass0 (pa_cons (pv 0) (pa_cons (pv 6) pa_nil))) (pa_cons (pe_op op_add pe_int (pe_call Gd (hr.mono (by decide)) (by rfl) md kd bd .nil pass0 (pa_cons (pv 0) (pa_cons pe_int pa_nil)))) pa_nil))))))
    (Evl.pss_cut (ps_if (pt_cmpR op_eq (pe_call Gd (hr.mono (by decide)) (by rfl) md kd bd .nil pass0 (pa_cons (pv 0) (pa_cons pe_int pa_nil))) pe_int (nomark _)) (pss_one (ps_asg (pe_call Gn hr (by rfl) mn kn bn .nil pass0 (pa_cons (pv 0) pa_nil)) (pg_sub (pv 7) (pe_call Gd (hr.mono (by decide)) (by rfl) md kd bd .nil pass0 (pa_cons (pv 0) (pa_cons pe_int pa_nil))) set_list))) pss_nil)
    (Evl.pss_cut (ps_set (i := 8) scSpt.nd rfl (Or.inl rfl) (pe_call Go (hr.mono (by decide)) (by rfl) mo ko bo .nil pass0 (pa_cons (pv 0) (pa_cons (pe_op op_cat (pe_lst (pa_cons (pe_callTy call_tuple_of (by rfl) T.tuple (by decide +kernel) (pa_cons (pv 7) pa_nil)) (pa_cons (pe_callTy call_tuple_of (by rfl) T.tuple (by decide +kernel) (pa_cons (pv 7) pa_nil)) (pa_cons (pe_callTy call_tuple_of (by rfl) T.tuple (by decide +kernel) (pa_cons (pe_slice sl_list (pv 7) po_none (po_some pe_int)) pa_nil)) (pa_cons (pe_callTy call_list_of (by rfl) Tl (by decide +kernel) (pa_cons (pv 7) pa_nil)) (pa_cons pe_non pa_nil)))))) (pe_slice sl_list (pv 2) po_none (po_some pe_int))) pa_nil))))
    (Evl.pss_cut (ps_setLc (i := 9) (own := [("_law_tie", 7)]) (g := gName 7) (tt := tAnd (tIsT K) (tAnd (tLen4 K) (tB (tCall spWholeO [] E0 (tCons (tOp (rIxT K) (tVar 7) (tC (.int 3))) (tCons (tC (.int 1)) (tCons (tC (.int 9)) tNil))))))) (te := tVar 7) rfl scSpt.nd rfl rfl (sw_true rfl rfl rfl (by decide +kernel)) (pi_list (pv 2)) (blkOk_by (N := nSpt) (sc := defScope sSpoiltTie) (by decide +kernel))
        (fun _ _ _ _ _ => pg_name (i := 7) scSpt.nd rfl (Or.inl rfl))
        (fun _ _ _ _ _ => by exact pts_one (PW.pt (pw_and (pt_val (pe_callB call_isi (by rfl) T.isinstance (by decide +kernel) (pa_cons (pv 7) (pa_cons (pe_bltn (v := .ty "tuple") (by rfl) T.tuple (by decide +kernel) rfl) pa_nil)))) (pw_and (pt_cmpR op_eq (pe_callB call_len_seq (by rfl) T.len PySem.boot_len (pa_cons (pv 7) pa_nil)) pe_int (nomark _)) (pw_and1 (pt_val (pe_call Gh (hr.mono (by decide)) (by rfl) mh kh bh .nil pass0 (pa_cons (pe_ix ix_tup (pv 7) pe_int (fun _ _ => rfl)) (pa_cons pe_int (pa_cons pe_int pa_nil))))))))))
        (fun _ _ _ _ _ => pv 7))
    (Evl.pss_cut (ps_if (PW.pt (pw_and (pt_cmpR (op_neE (Nat.lt_of_succ_lt hu)) (pv 9) (pe_lst pa_nil) (by rfl)) (pw_and1 (pt_cmpR op_eq (pe_call Gd (hr.mono (by decide)) (by rfl) md kd bd .nil pass0 (pa_cons (pv 0) (pa_cons pe_int pa_nil))) pe_int (nomark _)))))
        (pss_cons (ps_asg (pe_call Go (hr.mono (by decide)) (by rfl) mo ko bo .nil pass0 (pa_cons (pv 0) (pa_cons (pv 9) pa_nil))) (pg_tup rfl (pgs_cons (pg_name (i := 10) scSpt.nd rfl (.inl rfl)) (pgs_cons (pg_name (i := 11) scSpt.nd rfl (.inl rfl)) (pgs_cons (pg_name (i := 12) scSpt.nd rfl (.inl rfl)) (pgs_cons (pg_name (i := 13) scSpt.nd rfl (.inl rfl)) pgs_nil))))))
        (pss_one (ps_set (i := 8) scSpt.nd rfl (Or.inl rfl) (pe_tup (pa_cons (pv 11) (pa_cons (pv 10) (pa_cons (pv 12) (pa_cons (pe_op op_add (pv 13) pe_int) pa_nil)))))))) pss_nil)
    (Evl.pss_cut (ps_set (i := 14) scSpt.nd rfl (Or.inl rfl) (pe_call Gd (hr.mono (by decide)) (by rfl) md kd bd .nil pass0 (pa_cons (pv 0) (pa_cons (pe_op op_add (pe_callB call_len_seq (by rfl) T.len PySem.boot_len (pa_cons (pv 2) pa_nil)) pe_int) pa_nil))))
    (pss_one (ps_ret (pe_op op_cat (pe_op op_cat (pe_slice sl_list (pv 2) po_none (po_some (pv 14))) (pe_lst (pa_cons (pv 8) pa_nil))) (pe_slice sl_list (pv 2) (po_some (pv 14)) po_none)))))))))))), ?_⟩
  -- names
  refine ⟨fun σ H1 => ∃ (nl : Addr) (xs : List V), σ = [some (.ref p), some (.ref pl), some (.ref ta), some (.ref nl), none, none, none, none, none, none, none, none, none, none, none] ∧ H1 nl = some (.lst xs) ∧ nl ≠ p ∧ 1 ≤ xs.length ∧ xs.length ≤ 101 ∧ (∀ v ∈ xs, OdX H1 v) ∧ Same H H1, ?_, ?_⟩
  · refine ⟨_, rfl, pl, rfl, ⟨_, SqL.of hps.1⟩, fun D hD => ?_⟩
    refine lc_it (walk_list (xs := ts.map V.ref)) (fun i H4 => H4 D = some (.lst ((ps.take i).map (·.1))) ∧ Same H H4) ⟨upd_same, same_new hD⟩ (fun i H4 _ h => SqL.of (h.2 _ _ hps.1)) ?_ ?_
    · rintro i x H4' H4 hi ⟨hD4, s4⟩ ⟨rfl, hx⟩
      rw [List.length_map] at hi
      rw [List.getElem?_map] at hx
      obtain ⟨t, ht, rfl⟩ := Option.map_eq_some_iff.mp hx
      obtain ⟨q, hq, htt⟩ := paired_get hps.2 ht
      refine ⟨t, _, rfl, SqT.of (s4 _ _ htt), rfl, _, _, rfl, _, _, rfl, rfl, rfl, tyes ?_⟩
      refine ⟨_, rfl, _, hD4, Evl.sz_lt (by rw [List.length_map, List.length_take]; omega), ?_, Same.off s4 hD⟩
      rw [upd_same, List.take_add_one, hq, List.map_append]
      rfl
    · rintro H4 ⟨hD4, s4⟩
      rw [List.length_map, tl, List.take_length] at hD4
      refine ⟨by show 1 ≤ sizeLine; omega, fun l hl => ?_⟩
      have s5 := same_new (o := .lst [V.str "zz"]) hl
      refine ⟨D, l, _, _, rfl, rfl, s5 _ _ hD4, upd_same, by rw [List.length_map]; show _ + 1 ≤ sizeLine; omega, fun nl hnl => ?_⟩
      have s6 := same_new (o := .lst (ps.map (·.1) ++ [V.str "zz"])) hnl
      have sf := s4.trans (s5.trans s6)
      refine ⟨nl, _, rfl, upd_same, (((S.same s4).same s5).ne hnl).1, by rw [List.length_append]; show 1 ≤ _ + 1; omega, by rw [List.length_append, List.length_map]; show _ + 1 ≤ 101; omega, fun v hv => ?_, sf⟩
      rcases List.mem_append.mp hv with m | m
      · obtain ⟨q, hq, rfl⟩ := List.mem_map.mp m
        exact ⟨(hod q hq).1.imp fun _ o => o.same sf, (fine q hq).1⟩
      · rw [List.mem_singleton.mp m]
        exact ⟨⟨_, .lf (.str (by decide +kernel) (by decide +kernel))⟩, ⟨fun z e => by cases e; decide +kernel, fun i e => by cases e⟩⟩
  rintro σ H1 ⟨nl, xs, rfl, hnl, nnl, x1, x101, odx, s1⟩
  have S1 := S.same s1
  have hts1 : TsX H1 ta us es := ⟨hts.1.same s1, hts.2⟩
  -- kinds
  refine ⟨fun σ H2 => ∃ (kl : Addr) (zs : List Str), σ = [some (.ref p), some (.ref pl), some (.ref ta), some (.ref nl), none, none, some (.ref kl), none, none, none, none, none, none, none, none] ∧ H2 kl = some (.lst (zs.map V.str)) ∧ (∀ z ∈ zs, OdX H2 (.str z)) ∧ zs.length ≤ 100 ∧ Same H1 H2, ?_, ?_⟩
  · refine ⟨_, rfl, ta, rfl, ⟨_, SqL.of hts1.1.1⟩, fun D hD => ?_⟩
    refine lc_it (walk_list (xs := us)) (fun i H4 => ∃ zs : List Str, H4 D = some (.lst (zs.map V.str)) ∧ (∀ z ∈ zs, OdX H4 (.str z)) ∧ zs.length ≤ i ∧ Same H1 H4) ⟨[], upd_same, (fun z h => (List.not_mem_nil h).elim), Nat.le_refl _, same_new hD⟩ (fun i H4 _ h => by obtain ⟨_, _, _, _, h⟩ := h; exact SqL.of (h _ _ hts1.1.1)) ?_ ?_
    · rintro i x H4' H4 hi ⟨zs, hD4, odz, zl, s4⟩ ⟨rfl, hx⟩
      obtain ⟨e, he, hte⟩ := paired_get hts1.1.2.1 hx
      have em := List.mem_of_getElem? he
      have hte4 := hte.same s4
      have od4 := (hts1.1.2.2 e em).same s4
      have fe := hts1.2 e em
      have skip : ∃ zs : List Str, H4 D = some (.lst (zs.map V.str)) ∧ (∀ z ∈ zs, OdX H4 (.str z)) ∧ zs.length ≤ i + 1 ∧ Same H1 H4 := ⟨zs, hD4, odz, by omega, s4⟩
      refine ⟨rfl, ?_⟩
      cases e with
      | non =>
        obtain rfl : x = .non := hte4
        exact ⟨_, rfl, _, _, _, _, false, rfl, ClsV.ty "tuple", TyX.base TyOf.non, kit_ty (by decide +kernel), _, rfl, iteF' rfl (iteF' rfl skip)⟩
      | t3 a b k' =>
        obtain ⟨t, rfl, ht⟩ := hte4
        refine ⟨_, rfl, _, _, _, _, true, rfl, ClsV.ty "tuple", TyX.base (TyOf.tup ht), kit_ty (by decide +kernel), _, rfl, iteT' rfl ?_⟩
        exact ⟨_, rfl, t, _, rfl, .inr (SqT.of ht), rfl, _, rfl, iteF' rfl (iteF' rfl skip)⟩
      | l4 a b k' m =>
        obtain ⟨t, rfl, ht⟩ := hte4
        exact ⟨_, rfl, _, _, _, _, false, rfl, ClsV.ty "tuple", TyX.base (TyOf.lst ht), kit_ty (by decide +kernel), _, rfl, iteF' rfl (iteF' rfl skip)⟩
      | t4 a b kd m =>
        obtain ⟨t, rfl, ht⟩ := hte4
        obtain ⟨dk, ok⟩ := od4 kd (by simp [Tv.vals])
        have fk : FineS kd := fe kd (by simp [Tv.vals])
        refine ⟨_, rfl, _, _, _, _, true, rfl, ClsV.ty "tuple", TyX.base (TyOf.tup ht), kit_ty (by decide +kernel), _, rfl, iteT' rfl ?_⟩
        refine ⟨_, rfl, t, _, rfl, .inr (SqT.of ht), rfl, _, rfl, iteT' rfl ?_⟩
        refine ⟨_, rfl, t, _, _, kd, rfl, rfl, SqT.of ht, atI_nat (j := 2) rfl, kd, dk, rfl, ok, fun H5 s5 => ⟨_, rfl, ?_⟩⟩
        rw [fk.same]
        cases ew : wordO kd with
        | false => exact iteF' rfl ⟨zs, s5 _ _ hD4, fun z hz => (odz z hz).same s5, by omega, s4.trans s5⟩
        | true =>
        obtain ⟨ek, _⟩ := word_str ew
        generalize strV kd = z at *
        subst ek
        refine iteT' rfl ⟨_, rfl, t, _, _, V.str z, rfl, rfl, SqT.of (s5 _ _ ht), atI_nat (j := 2) rfl, _, s5 _ _ hD4, Evl.sz_lt (by rw [List.length_map]; omega), zs ++ [z], by rw [upd_same, List.map_append]; rfl, fun y hy => ?_, by rw [List.length_append]; show zs.length + 1 ≤ i + 1; omega, Same.off (s4.trans s5) hD⟩
        have keep : ∀ {v : V}, OdX H5 v → OdX (upd H5 D (.lst (zs.map V.str ++ [V.str z]))) (V.str y) ∨ True := fun _ => .inr trivial
        rcases List.mem_append.mp hy with m | m
        · have o := (odz y m).same s5
          obtain ⟨⟨d, o⟩, f⟩ := o
          cases o with
          | lf l => exact ⟨⟨d, .lf l⟩, f⟩
        · rw [List.mem_singleton.mp m]
          cases ok with
          | lf l => exact ⟨⟨_, .lf l⟩, fk⟩
    · rintro H4 ⟨zs, hD4, odz, zl, s4⟩
      rw [ul] at zl
      refine ⟨D, zs, rfl, SqL.of hD4, by omega, fun a ha => ?_⟩
      have s5 := same_new (o := SetTO P w a (dedT zs)) ha
      have dl : (dedT zs).length ≤ zs.length := by
        have := dedT_len zs zs.length (Nat.le_refl _)
        rwa [List.take_length] at this
      refine ⟨a, dedT zs, rfl, upd_same, by omega, fun zs' q pm so hq => ?_⟩
      have s6 : Same (upd H4 a (SetTO P w a (dedT zs))) _ := same_new (o := .lst (zs'.map V.str)) hq
      refine ⟨q, zs', rfl, upd_same, fun z hz => ?_, by have := pm.length_eq; omega, s4.trans (s5.trans s6)⟩
      have hz2 : z ∈ zs := by
        have h1 := pm.mem_iff.mp hz
        have h2 := dedT_mem zs z zs.length (Nat.le_refl _)
        rw [List.take_length] at h2
        exact h2.mp h1
      exact ((odz z hz2).same s5).same s6
  rintro σ H2 ⟨kl0, zs0, rfl, hkl0, odz0, zl0, s12⟩
  -- one kind at least
  refine ⟨fun σ H3 => ∃ (kl : Addr) (zs : List Str), σ = [some (.ref p), some (.ref pl), some (.ref ta), some (.ref nl), none, none, some (.ref kl), none, none, none, none, none, none, none, none] ∧ H3 kl = some (.lst (zs.map V.str)) ∧ kl ≠ p ∧ (∀ z ∈ zs, OdX H3 (.str z)) ∧ 1 ≤ zs.length ∧ zs.length ≤ 101 ∧ Same H2 H3, ?_, ?_⟩
  · refine ⟨_, rfl, by show 1 ≤ sizeLine; omega, fun u hu0 => ?_⟩
    have s3 := same_new (o := .lst [V.str "k"]) hu0
    have e3 : (upd H2 u (.lst [V.str "k"])) u = some (.lst [V.str "k"]) := upd_same
    generalize upd H2 u (.lst [V.str "k"]) = H3 at *
    refine ⟨_, rfl, kl0, _, rfl, .inl (SqL.of (s3 _ _ hkl0)), _, _, rfl, rfl, .inr ⟨_, rfl, ?_⟩⟩
    obtain ⟨ks, hks⟩ : ∃ ks : List Str, ks = if zs0.length < 2 then [("k" : Str)] else [] := ⟨_, rfl⟩
    have hn : ∀ n : Int, n = (if decide (((zs0.map V.str).length : Int) < 2) = true then 1 else 0) → (List.replicate n.toNat [V.str "k"]).flatten = ks.map V.str ∧ 0 ≤ n ∧ n ≤ 1 := fun n e => by
      rw [List.length_map] at e
      by_cases c : zs0.length < 2
      · rw [if_pos (decide_eq_true (by omega))] at e
        rw [e, hks, if_pos c]
        exact ⟨rfl, by decide, by decide⟩
      · rw [if_neg (by rw [decide_eq_false (by omega)]; exact Bool.false_ne_true)] at e
        rw [e, hks, if_neg c]
        exact ⟨rfl, by decide, by decide⟩
    obtain ⟨h1, h2, h3⟩ := hn _ rfl
    refine ⟨u, _, _, rfl, rfl, e3, by omega, by omega, by show 1 * _ ≤ sizeLine; omega, fun q hq => ?_⟩
    rw [h1]
    have s4 := same_new (o := .lst (ks.map V.str)) hq
    refine ⟨kl0, q, _, _, rfl, rfl, s4 _ _ (s3 _ _ hkl0), upd_same, ?_, fun kl hkl => ?_⟩
    · rw [List.length_map, List.length_map, hks]
      split
      · show _ + 1 ≤ sizeLine; omega
      · show _ + 0 ≤ sizeLine; omega
    have s5 := same_new (o := .lst (zs0.map V.str ++ ks.map V.str)) hkl
    have sf := s3.trans (s4.trans s5)
    refine ⟨kl, zs0 ++ ks, rfl, by rw [upd_same, List.map_append], ((((S1.same s12).same s3).same s4).ne hkl).1, fun z hz => ?_, ?_, ?_, sf⟩
    · rcases List.mem_append.mp hz with m | m
      · exact (odz0 z m).same sf
      · rw [hks] at m
        split at m
        · rw [List.mem_singleton.mp m]
          exact ⟨⟨_, .lf (.str (by decide +kernel) (by decide +kernel))⟩, ⟨fun z e => by cases e; decide +kernel, fun i e => by cases e⟩⟩
        · cases m
    · rw [List.length_append, hks]
      split
      · show 1 ≤ _ + 1; omega
      · show 1 ≤ _ + 0; omega
    · rw [List.length_append, hks]
      split
      · show _ + 1 ≤ 101; omega
      · show _ + 0 ≤ 101; omega
  rintro σ H3 ⟨kl, zs, rfl, hkl, nkl, odz, z1, z101, s23⟩
  have s13 := s12.trans s23
  have S3 := S1.same s13
  have hts3 : TsX H3 ta us es := ⟨hts1.1.same s13, hts1.2⟩
  have hnl3 := s13 _ _ hnl
  have odx3 : ∀ v ∈ xs, OdX H3 v := fun v hv => (odx v hv).same s13
  have b03 : Bt p H H3 := Bt.same (s1.trans s13)
  clear odx hts1 S1 hnl odz0 hkl0
  -- a tie
  refine ⟨fun σ H4 => ∃ (Hb : Hp) (tl : Addr) (a b kd m : V), σ = [some (.ref p), some (.ref pl), some (.ref ta), some (.ref nl), none, none, some (.ref kl), some (.ref tl), none, none, none, none, none, none, none] ∧ H4 tl = some (.lst [a, b, kd, m]) ∧ Hb tl = none ∧ OdX Hb a ∧ OdX Hb b ∧ OdX Hb kd ∧ OdX Hb m ∧ Pen Hb p g ∧ Bt p H Hb ∧ TsX Hb ta us es ∧ Pen H4 p g ∧ Bt p Hb H4, ?_, ?_⟩
  · refine ⟨_, rfl, _, rfl, tnI ⟨p, g, nl, xs, rfl, S3, hnl3, nnl, x1, by omega, fun j1 a H4 ha S4 b4 => ?_⟩⟩
    have oa := (odx3 a (List.mem_of_getElem? ha)).bt S3 b4
    have hnl4 := b4 _ _ hnl3 nnl
    refine ⟨_, rfl, _, rfl, tnI ⟨p, g, nl, xs, rfl, S4, hnl4, nnl, x1, by omega, fun j2 b H5 hb S5 b5 => ?_⟩⟩
    have b35 := b4.trans b5
    have ob := (odx3 b (List.mem_of_getElem? hb)).bt S3 b35
    refine ⟨_, rfl, _, rfl, tnI ⟨p, g, kl, _, rfl, S5, b35 _ _ hkl nkl, nkl, by rw [List.length_map]; exact z1, by rw [List.length_map]; omega, fun j3 kd H6 hk S6 b6 => ?_⟩⟩
    have b36 := b35.trans b6
    have okd : OdX H6 kd := by
      rw [List.getElem?_map] at hk
      obtain ⟨z, hz, rfl⟩ := Option.map_eq_some_iff.mp hk
      exact (odz z (List.mem_of_getElem? hz)).bt S3 b36
    refine ⟨_, rfl, p, g, 2, rfl, S6, by decide, by decide, fun z H7 hz S7 b7 => ⟨1, (z : Int), rfl, rfl, ?_⟩⟩
    have b37 := b36.trans b7
    refine ⟨by show 4 ≤ sizeLine; omega, fun tl htl => ?_⟩
    have om : OdX H7 (.int (1 + (z : Int))) := ⟨⟨_, .lf (.int (by
      have : z = 0 ∨ z = 1 := by omega
      rcases this with rfl | rfl <;> decide))⟩, fineS_int (by omega)⟩
    have s8 := same_new (o := .lst [a, b, kd, .int (1 + (z : Int))]) htl
    exact ⟨H7, tl, a, b, kd, _, rfl, upd_same, htl, ((oa.bt S4 b5).bt S5 b6).bt S6 b7, (ob.bt S5 b6).bt S6 b7, okd.bt S6 b7, om, S7, b03.trans b37, ⟨hts3.1.bt S3 nta b37, hts3.2⟩, S7.same s8, Bt.same s8⟩
  rintro σ H4 ⟨Hb, tl4, a4, b4', k4, m4, rfl, htl4, htlb, oa4, ob4, ok4, om4, Sb, b0b, htsb, S4, bb4⟩
  have ntl : tl4 ≠ p := (Sb.ne htlb).1
  have ntg : tl4 ≠ g := (Sb.ne htlb).2
  -- spoilt or not
  refine ⟨fun σ H5 => ∃ (a b kd m : V), σ = [some (.ref p), some (.ref pl), some (.ref ta), some (.ref nl), none, none, some (.ref kl), some (.ref tl4), none, none, none, none, none, none, none] ∧ H5 tl4 = some (.lst [a, b, kd, m]) ∧ OdX H5 a ∧ OdX H5 b ∧ OdX H5 kd ∧ OdX H5 m ∧ Pen H5 p g ∧ Bt p H H5 ∧ TsX H5 ta us es, ?_, ?_⟩
  · refine ⟨_, rfl, p, g, 2, rfl, S4, by decide, by decide, fun z H5 hz S5 b5 => ⟨rfl, _, rfl, ite2 (fun _ => ?_) (fun _ => ?_)⟩⟩
    rotate_left
    · have b := bb4.trans b5
      exact ⟨_, _, _, _, rfl, b5 _ _ htl4 ntl, oa4.bt Sb b, ob4.bt Sb b, ok4.bt Sb b, om4.bt Sb b, S5, b0b.trans b, ⟨htsb.1.bt Sb nta b, htsb.2⟩⟩
    refine ⟨_, rfl, tnI ⟨p, g, rfl, S5, fun v H6 od wv S6 b6 => ?_⟩⟩
    refine ⟨_, rfl, _, rfl, p, g, 4, rfl, S6, by decide, by decide, fun z2 H7 hz2 S7 b7 => ?_⟩
    have htl5 := b5 _ _ htl4 ntl
    have htl7 := (b6.trans b7) _ _ htl5 ntl
    have ixz : ixN ([a4, b4', k4, m4] : List V).length (z2 : Int) = some z2 := by
      have : z2 = 0 ∨ z2 = 1 ∨ z2 = 2 ∨ z2 = 3 := by omega
      rcases this with rfl | rfl | rfl | rfl <;> rfl
    refine ⟨tl4, _, (z2 : Int), z2, rfl, rfl, htl7, ixz, ?_⟩
    have b8 : Bt p Hb (upd H7 tl4 (.lst (([a4, b4', k4, m4] : List V).set z2 v))) := (((bb4.trans b5).trans b6).trans b7).off htlb
    have ov : OdX (upd H7 tl4 (.lst (([a4, b4', k4, m4] : List V).set z2 v))) v := ⟨od.1.imp fun _ o => o.stay fun q u e hq _ => by
      have h5 := od.2.2 q e
      have n1 : q ≠ tl4 := fun z => by rw [z, htl5] at h5; cases h5
      have n2 : q ≠ p := fun z => by
        obtain ⟨ns, seat, left, S5⟩ := S5
        rw [z, S5.hp] at h5
        cases h5
      rw [upd_ne n1]
      exact b7 _ _ hq n2, od.2.1.s⟩
    have S8 : Pen (upd H7 tl4 (.lst (([a4, b4', k4, m4] : List V).set z2 v))) p g := by
      obtain ⟨ns, seat, left, S7⟩ := S7
      exact ⟨ns, seat, left, ⟨by rw [upd_ne ntl.symm]; exact S7.hp, by rw [upd_ne ntg.symm]; exact S7.hg, S7.few, S7.s0, S7.l0⟩⟩
    have e8 : (upd H7 tl4 (.lst (([a4, b4', k4, m4] : List V).set z2 v))) tl4 = some (.lst (([a4, b4', k4, m4] : List V).set z2 v)) := upd_same
    have oa := oa4.bt Sb b8
    have ob := ob4.bt Sb b8
    have ok := ok4.bt Sb b8
    have om := om4.bt Sb b8
    have ht8 : TsX (upd H7 tl4 (.lst (([a4, b4', k4, m4] : List V).set z2 v))) ta us es := ⟨htsb.1.bt Sb nta b8, htsb.2⟩
    generalize upd H7 tl4 (.lst (([a4, b4', k4, m4] : List V).set z2 v)) = H8 at *
    have c : z2 = 0 ∨ z2 = 1 ∨ z2 = 2 ∨ z2 = 3 := by omega
    rcases c with rfl | rfl | rfl | rfl
    · exact ⟨v, b4', k4, m4, rfl, e8, ov, ob, ok, om, S8, b0b.trans b8, ht8⟩
    · exact ⟨a4, v, k4, m4, rfl, e8, oa, ov, ok, om, S8, b0b.trans b8, ht8⟩
    · exact ⟨a4, b4', v, m4, rfl, e8, oa, ob, ov, om, S8, b0b.trans b8, ht8⟩
    · exact ⟨a4, b4', k4, v, rfl, e8, oa, ob, ok, ov, S8, b0b.trans b8, ht8⟩
  rintro σ H5 ⟨a, b, kd, m, rfl, htl, oa, ob, okd, om, S5, b05, hts5⟩
  clear oa4 ob4 ok4 om4 S4 b0b htsb htl4 htlb Sb bb4
  -- a new one
  refine ⟨fun σ H6 => ∃ (v : V) (e : Tv), σ = [some (.ref p), some (.ref pl), some (.ref ta), some (.ref nl), none, none, some (.ref kl), some (.ref tl4), some v, none, none, none, none, none, none] ∧ TvAt H6 v e ∧ OdT H6 e ∧ FineT e ∧ Pen H6 p g ∧ Bt p H H6 ∧ TsX H6 ta us es, ?_, ?_⟩
  · refine ⟨_, rfl, _, rfl, tl4, _, rfl, .inl ⟨SqL.of htl, fun t1 ht1 => ?_⟩⟩
    have s1 := same_new (o := .tup [a, b, kd, m]) ht1
    have e1 : (upd H5 t1 (.tup [a, b, kd, m])) t1 = some (.tup [a, b, kd, m]) := upd_same
    generalize upd H5 t1 (.tup [a, b, kd, m]) = H6 at *
    refine ⟨_, rfl, tl4, _, rfl, .inl ⟨SqL.of (s1 _ _ htl), fun t2 ht2 => ?_⟩⟩
    have s2 := same_new (o := .tup [a, b, kd, m]) ht2
    have e2 : (upd H6 t2 (.tup [a, b, kd, m])) t2 = some (.tup [a, b, kd, m]) := upd_same
    generalize upd H6 t2 (.tup [a, b, kd, m]) = H7 at *
    have s12 := s1.trans s2
    refine ⟨_, rfl, _, rfl, tl4, _, rfl, SqL.of (s12 _ _ htl), fun l3 hl3 => ?_⟩
    rw [show cutV [a, b, kd, m] none (some 3) = [a, b, kd] from cut_upto [a, b, kd, m] 3]
    have s3 := same_new (o := .lst [a, b, kd]) hl3
    have e3 : (upd H7 l3 (.lst [a, b, kd])) l3 = some (.lst [a, b, kd]) := upd_same
    generalize upd H7 l3 (.lst [a, b, kd]) = H8 at *
    refine ⟨l3, _, rfl, .inl ⟨SqL.of e3, fun t4 ht4 => ?_⟩⟩
    have s4 := same_new (o := .tup [a, b, kd]) ht4
    have e4 : (upd H8 t4 (.tup [a, b, kd])) t4 = some (.tup [a, b, kd]) := upd_same
    generalize upd H8 t4 (.tup [a, b, kd]) = H9 at *
    have s14 := s12.trans (s3.trans s4)
    refine ⟨_, rfl, tl4, _, rfl, .inl (SqL.of (s14 _ _ htl)), fun t5 ht5 => ?_⟩
    have s5 := same_new (o := .lst [a, b, kd, m]) ht5
    have e5 : (upd H9 t5 (.lst [a, b, kd, m])) t5 = some (.lst [a, b, kd, m]) := upd_same
    generalize upd H9 t5 (.lst [a, b, kd, m]) = H10 at *
    have s15 := s14.trans s5
    refine ⟨by show 5 ≤ sizeLine; omega, fun l6 hl6 => ?_⟩
    have s6 := same_new (o := .lst [V.ref t1, .ref t2, .ref t4, .ref t5, .non]) hl6
    have e6 : (upd H10 l6 (.lst [V.ref t1, .ref t2, .ref t4, .ref t5, .non])) l6 = some (.lst [V.ref t1, .ref t2, .ref t4, .ref t5, .non]) := upd_same
    generalize upd H10 l6 (.lst [V.ref t1, .ref t2, .ref t4, .ref t5, .non]) = H11 at *
    have s16 := s15.trans s6
    have hts11 := hts5.1.same s16
    refine ⟨_, rfl, _, rfl, ta, _, rfl, SqL.of hts11.1, fun l7 hl7 => ?_⟩
    rw [show cutV us none (some 1) = us.take 1 from cut_upto us 1]
    have s7 := same_new (o := .lst (us.take 1)) hl7
    have e7 : (upd H11 l7 (.lst (us.take 1))) l7 = some (.lst (us.take 1)) := upd_same
    generalize upd H11 l7 (.lst (us.take 1)) = H12 at *
    have u1 : (us.take 1).length ≤ 1 := by rw [List.length_take]; omega
    refine ⟨l6, l7, _, _, rfl, rfl, s7 _ _ e6, e7, by show 5 + _ ≤ sizeLine; omega, fun l8 hl8 => ?_⟩
    have s8 := same_new (o := .lst ([V.ref t1, .ref t2, .ref t4, .ref t5, .non] ++ us.take 1)) hl8
    have e8 : (upd H12 l8 (.lst ([V.ref t1, .ref t2, .ref t4, .ref t5, .non] ++ us.take 1))) l8 = some (.lst ([V.ref t1, .ref t2, .ref t4, .ref t5, .non] ++ us.take 1)) := upd_same
    have nl8 := (((S5.same s16).same s7).ne hl8).1
    generalize upd H12 l8 (.lst ([V.ref t1, .ref t2, .ref t4, .ref t5, .non] ++ us.take 1)) = H13 at *
    have s18 := s16.trans (s7.trans s8)
    have S13 := S5.same s18
    refine tnI ⟨p, g, l8, _, rfl, S13, e8, nl8, by rw [List.length_append]; show 1 ≤ 5 + _; omega, by rw [List.length_append]; show 5 + _ ≤ 1000; omega, fun j v H14 hv S14 b14 => ?_⟩
    have b514 : Bt p H5 H14 := (Bt.same s18).trans b14
    have oa' := oa.bt S5 b514
    have ob' := ob.bt S5 b514
    have ok' := okd.bt S5 b514
    have om' := om.bt S5 b514
    have ht14 : TsX H14 ta us es := ⟨hts5.1.bt S5 nta b514, hts5.2⟩
    have odt4 : OdT H14 (.t4 a b kd m) := fun x hx => by
      have hx : x ∈ [a, b, kd, m] := hx
      simp only [List.mem_cons, List.not_mem_nil, or_false] at hx
      rcases hx with rfl | rfl | rfl | rfl
      · exact oa'.1
      · exact ob'.1
      · exact ok'.1
      · exact om'.1
    have fit4 : FineT (.t4 a b kd m) := fun x hx => by
      have hx : x ∈ [a, b, kd, m] := hx
      simp only [List.mem_cons, List.not_mem_nil, or_false] at hx
      rcases hx with rfl | rfl | rfl | rfl
      · exact oa.2
      · exact ob.2
      · exact okd.2
      · exact om.2
    have sub3 : ∀ x ∈ (Tv.t3 a b kd).vals, x ∈ (Tv.t4 a b kd m).vals := fun x hx => by
      have hx : x ∈ [a, b, kd] := hx
      show x ∈ [a, b, kd, m]
      simp only [List.mem_cons, List.not_mem_nil, or_false] at hx ⊢
      rcases hx with h | h | h
      · exact .inl h
      · exact .inr (.inl h)
      · exact .inr (.inr (.inl h))
    have up : ∀ {q : Addr} {xs : List V}, H13 q = some (.tup xs) → H14 q = some (.tup xs) := fun e => b14 _ _ e (S13.ne_tup5 e)
    have b0 := b05.trans b514
    match j, hv with
    | 0, hv =>
      obtain rfl : V.ref t1 = v := by simpa using hv
      exact ⟨_, .t4 a b kd m, rfl, ⟨t1, rfl, up ((s2.trans (s3.trans (s4.trans (s5.trans (s6.trans (s7.trans s8)))))) _ _ e1)⟩, odt4, fit4, S14, b0, ht14⟩
    | 1, hv =>
      obtain rfl : V.ref t2 = v := by simpa using hv
      exact ⟨_, .t4 a b kd m, rfl, ⟨t2, rfl, up ((s3.trans (s4.trans (s5.trans (s6.trans (s7.trans s8))))) _ _ e2)⟩, odt4, fit4, S14, b0, ht14⟩
    | 2, hv =>
      obtain rfl : V.ref t4 = v := by simpa using hv
      exact ⟨_, .t3 a b kd, rfl, ⟨t4, rfl, up ((s5.trans (s6.trans (s7.trans s8))) _ _ e4)⟩, fun x hx => odt4 x (sub3 x hx), fun x hx => fit4 x (sub3 x hx), S14, b0, ht14⟩
    | 3, hv =>
      obtain rfl : V.ref t5 = v := by simpa using hv
      have e5' := (s6.trans (s7.trans s8)) _ _ e5
      have e14 : TvAt H14 (.ref t5) (.l4 a b kd m) := TvAt.bt (H := H13) ⟨t5, rfl, e5'⟩ S13 b14
      exact ⟨_, .l4 a b kd m, rfl, e14, odt4, fit4, S14, b0, ht14⟩
    | 4, hv =>
      obtain rfl : V.non = v := by simpa using hv
      exact ⟨_, .non, rfl, rfl, (fun x hx => (List.not_mem_nil hx).elim), (fun x hx => (List.not_mem_nil hx).elim), S14, b0, ht14⟩
    | j + 5, hv =>
      have hv : (us.take 1)[j]? = some v := by
        rw [List.getElem?_append_right (by show 5 ≤ j + 5; omega)] at hv
        simpa using hv
      obtain ⟨i, hi⟩ := List.getElem?_of_mem (List.mem_of_mem_take (List.mem_of_getElem? hv))
      obtain ⟨e, he, hte⟩ := paired_get ht14.1.2.1 hi
      have em := List.mem_of_getElem? he
      exact ⟨v, e, rfl, hte, ht14.1.2.2 e em, ht14.2 e em, S14, b0, ht14⟩
  rintro σ H6 ⟨v, e, rfl, hv6, od6, fi6, S6, b06, hts6⟩
  clear oa ob okd om S5 b05 hts5 htl
  -- those that are right
  refine ⟨fun σ H7 => ∃ (rl : Addr) (rv : List V), σ = [some (.ref p), some (.ref pl), some (.ref ta), some (.ref nl), none, none, some (.ref kl), some (.ref tl4), some v, some (.ref rl), none, none, none, none, none] ∧ H7 rl = some (.lst rv) ∧ rl ≠ p ∧ rv.length ≤ 100 ∧ (∀ x ∈ rv, ∃ (t : Addr) (a b kd : V) (w : Int), x = .ref t ∧ H7 t = some (.tup [a, b, kd, .int w]) ∧ OdX H7 a ∧ OdX H7 b ∧ OdX H7 kd ∧ 1 ≤ w ∧ w ≤ 9) ∧ Same H6 H7, ?_, ?_⟩
  · refine ⟨_, rfl, ta, rfl, ⟨_, SqL.of hts6.1.1⟩, fun D hD => ?_⟩
    refine lc_it (walk_list (xs := us)) (fun i H4 => ∃ rv : List V, H4 D = some (.lst rv) ∧ rv.length ≤ i ∧ (∀ x ∈ rv, ∃ (t : Addr) (a b kd : V) (w : Int), x = .ref t ∧ H6 t = some (.tup [a, b, kd, .int w]) ∧ OdX H6 a ∧ OdX H6 b ∧ OdX H6 kd ∧ 1 ≤ w ∧ w ≤ 9) ∧ Same H6 H4) ⟨[], upd_same, Nat.le_refl _, (fun z h => (List.not_mem_nil h).elim), same_new hD⟩ (fun i H4 _ h => by obtain ⟨_, _, _, _, h⟩ := h; exact SqL.of (h _ _ hts6.1.1)) ?_ ?_
    · rintro i x H4' H4 hi ⟨rv, hD4, rl, odr, s4⟩ ⟨rfl, hx⟩
      obtain ⟨e, he, hte⟩ := paired_get hts6.1.2.1 hx
      have em := List.mem_of_getElem? he
      have od4 := hts6.1.2.2 e em
      have fe := hts6.2 e em
      have skip : ∃ rv : List V, H4 D = some (.lst rv) ∧ rv.length ≤ i + 1 ∧ (∀ x ∈ rv, ∃ (t : Addr) (a b kd : V) (w : Int), x = .ref t ∧ H6 t = some (.tup [a, b, kd, .int w]) ∧ OdX H6 a ∧ OdX H6 b ∧ OdX H6 kd ∧ 1 ≤ w ∧ w ≤ 9) ∧ Same H6 H4 := ⟨rv, hD4, by omega, odr, s4⟩
      refine ⟨rfl, ?_⟩
      cases e with
      | non =>
        obtain rfl : x = .non := hte
        exact ⟨_, rfl, _, _, _, _, false, rfl, ClsV.ty "tuple", TyX.base TyOf.non, kit_ty (by decide +kernel), _, rfl, iteF' rfl (iteF' rfl skip)⟩
      | t3 a b k' =>
        obtain ⟨t, rfl, ht⟩ := hte
        have ht := s4 _ _ ht
        refine ⟨_, rfl, _, _, _, _, true, rfl, ClsV.ty "tuple", TyX.base (TyOf.tup ht), kit_ty (by decide +kernel), _, rfl, iteT' rfl ?_⟩
        exact ⟨_, rfl, t, _, rfl, .inr (SqT.of ht), rfl, _, rfl, iteF' rfl (iteF' rfl skip)⟩
      | l4 a b k' m =>
        obtain ⟨t, rfl, ht⟩ := hte
        exact ⟨_, rfl, _, _, _, _, false, rfl, ClsV.ty "tuple", TyX.base (TyOf.lst (s4 _ _ ht)), kit_ty (by decide +kernel), _, rfl, iteF' rfl (iteF' rfl skip)⟩
      | t4 a b kd m =>
        obtain ⟨t, rfl, ht0⟩ := hte
        have ht := s4 _ _ ht0
        obtain ⟨dm, om⟩ := od4 m (by simp [Tv.vals])
        refine ⟨_, rfl, _, _, _, _, true, rfl, ClsV.ty "tuple", TyX.base (TyOf.tup ht), kit_ty (by decide +kernel), _, rfl, iteT' rfl ?_⟩
        refine ⟨_, rfl, t, _, rfl, .inr (SqT.of ht), rfl, _, rfl, iteT' rfl ?_⟩
        refine ⟨_, rfl, t, _, _, m, rfl, rfl, SqT.of ht, atI_nat (j := 3) rfl, m, dm, 1, 9, rfl, om.same s4, _, rfl, ?_⟩
        cases ew : wholeO 1 9 m with
        | false => exact iteF' rfl skip
        | true =>
        have em2 : ∃ wd : Int, m = .int wd ∧ 1 ≤ wd ∧ wd ≤ 9 := by
          cases m with
          | int wd =>
            have ew : (decide ((1 : Int) ≤ wd) && decide (wd ≤ 9)) = true := ew
            rw [Bool.and_eq_true] at ew
            exact ⟨wd, rfl, of_decide_eq_true ew.1, of_decide_eq_true ew.2⟩
          | _ => cases ew
        obtain ⟨wd, rfl, w1, w9⟩ := em2
        refine iteT' rfl ⟨_, rfl, _, hD4, Evl.sz_lt (by omega), rv ++ [.ref t], upd_same, by rw [List.length_append]; show rv.length + 1 ≤ i + 1; omega, fun y hy => ?_, Same.off s4 hD⟩
        rcases List.mem_append.mp hy with m | m
        · exact odr y m
        · rw [List.mem_singleton.mp m]
          exact ⟨t, a, b, kd, wd, rfl, ht0, ⟨od4 a (by simp [Tv.vals]), fe a (by simp [Tv.vals])⟩, ⟨od4 b (by simp [Tv.vals]), fe b (by simp [Tv.vals])⟩, ⟨od4 kd (by simp [Tv.vals]), fe kd (by simp [Tv.vals])⟩, w1, w9⟩
    · rintro H4 ⟨rv, hD4, rl, odr, s4⟩
      refine ⟨D, rv, rfl, hD4, (S6.ne hD).1, by omega, fun x hx => ?_, s4⟩
      obtain ⟨t, a, b, kd, w, e, ht, oa, ob, ok, w1, w9⟩ := odr x hx
      exact ⟨t, a, b, kd, w, e, s4 _ _ ht, oa.same s4, ob.same s4, ok.same s4, w1, w9⟩
  rintro σ H7 ⟨rl, rv, rfl, hrl, nrl, rv100, odr, s67⟩
  -- the new one, or another
  refine ⟨fun σ H8 => ∃ (v : V) (e : Tv) (v10 v11 v12 v13 : Option V), σ = [some (.ref p), some (.ref pl), some (.ref ta), some (.ref nl), none, none, some (.ref kl), some (.ref tl4), some v, some (.ref rl), v10, v11, v12, v13, none] ∧ TvAt H8 v e ∧ OdT H8 e ∧ FineT e ∧ Pen H8 p g ∧ Bt p H H8 ∧ TsX H8 ta us es, ?_, ?_⟩
  · have S7 := S6.same s67
    have hv7 := hv6.same s67
    have od7 := od6.same s67
    have ht7 : TsX H7 ta us es := ⟨hts6.1.same s67, hts6.2⟩
    have b07 := b06.trans (Bt.same s67)
    refine ⟨_, rfl, by show 0 ≤ sizeLine; omega, fun l hl => ?_⟩
    have s8 := same_new (o := .lst []) hl
    refine ⟨rl, l, _, rfl, rfl, SqL.of (s8 _ _ hrl), SqL.of upd_same, _, rfl, ?_⟩
    generalize upd H7 l (.lst []) = H8 at *
    have S8 := S7.same s8
    by_cases rz : rv = []
    · refine iteF' (by rw [rz]; rfl) (iteF' rfl ?_)
      exact ⟨v, e, _, _, _, _, rfl, hv7.same s8, od7.same s8, fi6, S8, b07.trans (Bt.same s8), ⟨ht7.1.same s8, ht7.2⟩⟩
    refine iteT' (by rw [decide_eq_false rz]; rfl) ?_
    refine ⟨_, rfl, p, g, 4, rfl, S8, by decide, by decide, fun z H9 hz S9 b9 => ⟨rfl, _, rfl, ite2 (fun _ => ?_) (fun _ => ?_)⟩⟩
    rotate_left
    · exact ⟨v, e, _, _, _, _, rfl, (hv7.same s8).bt S8 b9, (od7.same s8).bt S8 b9, fi6, S9, (b07.trans (Bt.same s8)).trans b9, ⟨(ht7.1.same s8).bt S8 nta b9, ht7.2⟩⟩
    have hrl9 := b9 _ _ (s8 _ _ hrl) nrl
    refine ⟨_, rfl, _, rfl, tnI ⟨p, g, rl, rv, rfl, S9, hrl9, nrl, Nat.one_le_iff_ne_zero.mpr fun z => rz (List.length_eq_zero_iff.mp z), by omega, fun j x H10 hx S10 b10 => ?_⟩⟩
    obtain ⟨t, a, b, kd, wd, rfl, ht, oa, ob, okd, w1, w9⟩ := odr x (List.mem_of_getElem? hx)
    have b710 : Bt p H7 H10 := ((Bt.same s8).trans b9).trans b10
    have ht10 := b710 _ _ ht (S7.ne_tup5 ht)
    refine ⟨t, _, rfl, SqT.of ht10, rfl, _, _, rfl, _, _, rfl, _, _, rfl, _, _, rfl, rfl, ?_⟩
    refine ⟨_, rfl, _, rfl, _, rfl, _, rfl, _, _, rfl, rfl, by show 4 ≤ sizeLine; omega, fun t2 ht2 => ?_⟩
    have s11 := same_new (o := .tup [b, a, kd, .int (wd + 1)]) ht2
    have e11 : (upd H10 t2 (.tup [b, a, kd, .int (wd + 1)])) t2 = some (.tup [b, a, kd, .int (wd + 1)]) := upd_same
    generalize upd H10 t2 (.tup [b, a, kd, .int (wd + 1)]) = H11 at *
    have b711 := b710.trans (Bt.same s11)
    have om : OdX H11 (.int (wd + 1)) := ⟨⟨_, .lf (.int (by
      have : (wd + 1).natAbs ≤ 10 := by omega
      by_cases z : (wd + 1).natAbs = 0
      · rw [z]; decide
      · exact (Nat.log2_lt z).mpr (Nat.lt_of_le_of_lt this (by decide))))⟩, fineS_int (by omega)⟩
    have oa' := oa.bt S7 b711
    have ob' := ob.bt S7 b711
    have ok' := okd.bt S7 b711
    have all4 : ∀ x ∈ (Tv.t4 b a kd (.int (wd + 1))).vals, OdX H11 x := fun x hx => by
      have hx : x ∈ [b, a, kd, .int (wd + 1)] := hx
      simp only [List.mem_cons, List.not_mem_nil, or_false] at hx
      rcases hx with rfl | rfl | rfl | rfl
      · exact ob'
      · exact oa'
      · exact ok'
      · exact om
    exact ⟨.ref t2, .t4 b a kd (.int (wd + 1)), _, _, _, _, rfl, ⟨t2, rfl, e11⟩, fun x hx => (all4 x hx).1, fun x hx => (all4 x hx).2, S10.same s11, b07.trans b711, ⟨ht7.1.bt S7 nta b711, ht7.2⟩⟩
  rintro σ H8 ⟨v, e, v10, v11, v12, v13, rfl, hv8, od8, fi8, S8, b08, hts8⟩
  -- where
  refine ⟨fun σ H9 => ∃ at_ : Nat, σ = [some (.ref p), some (.ref pl), some (.ref ta), some (.ref nl), none, none, some (.ref kl), some (.ref tl4), some v, some (.ref rl), v10, v11, v12, v13, some (.int (at_ : Int))] ∧ at_ ≤ us.length ∧ TvAt H9 v e ∧ OdT H9 e ∧ Pen H9 p g ∧ Bt p H H9 ∧ TsX H9 ta us es, ?_, ?_⟩
  · refine ⟨_, rfl, _, rfl, ta, _, rfl, .inl (SqL.of hts8.1.1), _, _, rfl, rfl, p, g, us.length + 1, rfl, S8, by omega, by omega, fun z H9 hz S9 b9 => ?_⟩
    exact ⟨z, rfl, by omega, hv8.bt S8 b9, od8.bt S8 b9, S9, b08.trans b9, ⟨hts8.1.bt S8 nta b9, hts8.2⟩⟩
  rintro σ H9 ⟨at_, rfl, atl, hv9, od9, S9, b09, hts9⟩
  refine ⟨_, rfl, _, rfl, _, rfl, ta, _, rfl, SqL.of hts9.1.1, fun l1 hl1 => ?_⟩
  rw [cut_upto]
  have s1' := same_new (o := .lst (us.take at_)) hl1
  have e1' : (upd H9 l1 (.lst (us.take at_))) l1 = some (.lst (us.take at_)) := upd_same
  generalize upd H9 l1 (.lst (us.take at_)) = H10 at *
  refine ⟨_, rfl, by show 1 ≤ sizeLine; omega, fun l2 hl2 => ?_⟩
  have s2' := same_new (o := .lst [v]) hl2
  have e2' : (upd H10 l2 (.lst [v])) l2 = some (.lst [v]) := upd_same
  generalize upd H10 l2 (.lst [v]) = H11 at *
  have tkl : (us.take at_).length ≤ 100 := by rw [List.length_take]; omega
  have drl : (us.drop at_).length ≤ 100 := by rw [List.length_drop]; omega
  refine ⟨l1, l2, _, _, rfl, rfl, s2' _ _ e1', e2', by show _ + 1 ≤ sizeLine; omega, fun l3 hl3 => ?_⟩
  have s3' := same_new (o := .lst (us.take at_ ++ [v])) hl3
  have e3' : (upd H11 l3 (.lst (us.take at_ ++ [v]))) l3 = some (.lst (us.take at_ ++ [v])) := upd_same
  generalize upd H11 l3 (.lst (us.take at_ ++ [v])) = H12 at *
  have s13' := s1'.trans (s2'.trans s3')
  have hts12 := hts9.1.same s13'
  refine ⟨_, rfl, _, rfl, _, rfl, ta, _, rfl, SqL.of hts12.1, fun l4 hl4 => ?_⟩
  rw [cut_tail]
  have s4' := same_new (o := .lst (us.drop at_)) hl4
  have e4' : (upd H12 l4 (.lst (us.drop at_))) l4 = some (.lst (us.drop at_)) := upd_same
  generalize upd H12 l4 (.lst (us.drop at_)) = H13 at *
  refine ⟨l3, l4, _, _, rfl, rfl, s4' _ _ e3', e4', by rw [List.length_append]; show _ + 1 + _ ≤ sizeLine; omega, fun l5 hl5 => ?_⟩
  have s5' := same_new (o := .lst ((us.take at_ ++ [v]) ++ us.drop at_)) hl5
  have sf := s13'.trans (s4'.trans s5')
  have bf : Bt p H H13 := b09.trans (Bt.same (s13'.trans s4'))
  have htf := hts9.1.same sf
  refine k l5 (us.take at_ ++ [v] ++ us.drop at_) (es.take at_ ++ [e] ++ es.drop at_) _ (bf.free (S9.same (s13'.trans s4')) hl5) ⟨⟨upd_same, paired_app (paired_app (paired_take at_ htf.2.1) (.cons (hv9.same sf) .nil)) (paired_drop at_ htf.2.1), fun x hx => ?_⟩, fun x hx => ?_⟩ ?_ (S9.same sf) (b09.trans (Bt.same sf))
  · rcases List.mem_append.mp hx with m | m
    · rcases List.mem_append.mp m with m | m
      · exact htf.2.2 x (List.mem_of_mem_take m)
      · rw [List.mem_singleton.mp m]
        exact od9.same sf
    · exact htf.2.2 x (List.mem_of_mem_drop m)
  · rcases List.mem_append.mp hx with m | m
    · rcases List.mem_append.mp m with m | m
      · exact hts9.2 x (List.mem_of_mem_take m)
      · rw [List.mem_singleton.mp m]
        exact fi8
    · exact hts9.2 x (List.mem_of_mem_drop m)
  · rw [List.length_append, List.length_append, List.length_take, List.length_drop]
    show min at_ es.length + 1 + _ ≤ _
    omega
end
end Nm
set_option autoImplicit false
set_option maxRecDepth 100000
set_option maxHeartbeats 8000000
/-! repr of odd values within lists and tuples, one within another -/
namespace Nm
open PySem PySem.Spec PyProof.Rows L2
mutual
/-- what it is, as data; n bounds its text -/
inductive Dg (H : Hp) : V → PyData → Nat → Prop
  | odd {v : V} {d : PyData} {k : Nat} (h : OdV H v d) (hk : 4000 ≤ k) : Dg H v d k
  | lst {a : Addr} {xs : List V} {ds : List PyData} {n k : Nat} (e : H a = some (.lst xs)) (h : DgAll H xs ds n) (hk : n + 4 ≤ k) : Dg H (.ref a) (.list ds) k
  | tup {a : Addr} {xs : List V} {ds : List PyData} {n k : Nat} (e : H a = some (.tup xs)) (h : DgAll H xs ds n) (hk : n + 4 ≤ k) : Dg H (.ref a) (.tuple ds) k
inductive DgAll (H : Hp) : List V → List PyData → Nat → Prop
  | nil {k : Nat} : DgAll H [] [] k
  | cons {v : V} {vs : List V} {d : PyData} {ds : List PyData} {n m k : Nat} (h : Dg H v d n) (t : DgAll H vs ds m) (hk : n + 2 + m ≤ k) : DgAll H (v :: vs) (d :: ds) k
end
mutual
theorem Dg.stay {H H' : Hp} (s : ∀ b o, H b = some o → ((∃ xs, o = .lst xs) ∨ (∃ xs, o = .tup xs) ∨ ∃ kvs, o = .dK kvs) → H' b = some o) : ∀ {v : V} {d : PyData} {n : Nat}, Dg H v d n → Dg H' v d n
  | _, _, _, .odd h hk => .odd (h.stay fun a o _ ha ho => s a o ha ho) hk
  | _, _, _, .lst e h hk => .lst (s _ _ e (.inl ⟨_, rfl⟩)) (DgAll.stay s h) hk
  | _, _, _, .tup e h hk => .tup (s _ _ e (.inr (.inl ⟨_, rfl⟩))) (DgAll.stay s h) hk
theorem DgAll.stay {H H' : Hp} (s : ∀ b o, H b = some o → ((∃ xs, o = .lst xs) ∨ (∃ xs, o = .tup xs) ∨ ∃ kvs, o = .dK kvs) → H' b = some o) : ∀ {vs : List V} {ds : List PyData} {n : Nat}, DgAll H vs ds n → DgAll H' vs ds n
  | _, _, _, .nil => .nil
  | _, _, _, .cons h t hk => .cons (Dg.stay s h) (DgAll.stay s t) hk
end
theorem Dg.same {H H' : Hp} (s : Same H H') {v : V} {d : PyData} {n : Nat} (h : Dg H v d n) : Dg H' v d n := h.stay fun b o e _ => s b o e
theorem Dg.ex {H H' : Hp} (x : LamX.ExtN H H') {v : V} {d : PyData} {n : Nat} (h : Dg H v d n) : Dg H' v d n := h.stay fun b o e ho => x b o e (by
  rcases ho with ⟨_, rfl⟩ | ⟨_, rfl⟩ | ⟨_, rfl⟩ <;> (intro _ z; cases z))
section
variable {X : Cx} {pins : List (Addr × Obj)} {σ : L2.St} {H : Hp} {s : Shared}
mutual
theorem Dg.rk (I : Inv X pins σ H s) : ∀ {v : V} {d : PyData} {n : Nat} {u : Value}, Dg H v d n → RelV v u → n ≤ sizeLine → d.showable = true ∧ d.shown.length ≤ n ∧ ∃ as, Reads s.heap u d as ∧ ∃ bs, ReadAtMost s.heap d.depth bs ∧ ReprK X.prog X.w bs s.heap d.depth u d.shown
  | _, _, _, _, .odd h hk0, r, hn => by
    obtain ⟨as, rd, sm, b1, b2, b3⟩ := h.reads I r
    obtain ⟨bs, hb, hk⟩ := ReprK.of_reads (prog := X.prog) (w := X.w) rd b1 sm (by omega)
    exact ⟨b1, by omega, as, rd, bs, hb, hk⟩
  | _, _, _, u, .lst (a := a) (ds := ds) (n := n) e h hk0, r, hn => by
    obtain rfl : u = Value.ref a := r
    obtain ⟨its, rv, p, hz⟩ := I.list (SqL.of e)
    obtain ⟨o, m, ho, hc, hd, hdat⟩ := p
    obtain ⟨b1, b2, as, rd, bs, hb, hk⟩ := DgAll.rk I h rv (by omega)
    have tl := piled_list (PyData.shownAll ds)
    have e2 : (PyData.list ds).shown = listText (PyData.shownAll ds) := by simp only [PyData.shown]
    have rl : Reads s.heap (.ref a) (.list ds) _ := .list ho hc hdat (by simpa using rd)
    have hna : a ∉ bs := not_mem_of_deeper rl (by simp only [PyData.depth]; omega) hb
    refine ⟨by simpa only [PyData.showable] using b1, by rw [e2]; omega, _, rl, a :: bs, ReadAtMost.cons rl (by simp only [PyData.depth]; omega) hb, ?_⟩
    simp only [PyData.depth, PyData.shown]
    cases its with
    | nil =>
      cases rd
      simp only [PyData.shownAll, listText_nil]
      exact ReprK.listEmpty ho hc hdat
    | cons x l => exact ReprK.list ho hc hdat hna (by simpa using hk.length_eq) (fun i y e => hk.item i y (by simpa using e))
  | _, _, _, u, .tup (a := a) (ds := ds) (n := n) e h hk0, r, hn => by
    obtain rfl : u = Value.ref a := r
    obtain ⟨its, rv, p, hz⟩ := I.tuple (SqT.of e)
    obtain ⟨o, ho, hc, m, hdat⟩ := p
    obtain ⟨b1, b2, as, rd, bs, hb, hk⟩ := DgAll.rk I h rv (by omega)
    have tl := piled_tup (PyData.shownAll ds)
    have e2 : (PyData.tuple ds).shown = tupleText (PyData.shownAll ds) := by simp only [PyData.shown]
    have rl : Reads s.heap (.ref a) (.tuple ds) _ := .tuple ho hc hdat (by simpa using rd)
    have hna : a ∉ bs := not_mem_of_deeper rl (by simp only [PyData.depth]; omega) hb
    refine ⟨by simpa only [PyData.showable] using b1, by rw [e2]; omega, _, rl, a :: bs, ReadAtMost.cons rl (by simp only [PyData.depth]; omega) hb, ?_⟩
    simp only [PyData.depth, PyData.shown]
    exact ReprK.tuple ho hc hdat hna (by simpa using hk)
theorem DgAll.rk (I : Inv X pins σ H s) : ∀ {vs : List V} {ds : List PyData} {n : Nat} {us : List Value}, DgAll H vs ds n → Vals vs us → n ≤ sizeLine → PyData.showableAll ds = true ∧ piled (PyData.shownAll ds) ≤ n ∧ ∃ as, ReadsAll s.heap us ds as ∧ ∃ bs, ReadAtMost s.heap (PyData.depthAll ds) bs ∧ ReprAllK X.prog X.w bs s.heap (PyData.depthAll ds) us (PyData.shownAll ds)
  | _, _, _, _, .nil, r, hn => by
    cases r
    exact ⟨rfl, by simp [PyData.shownAll, piled], [], .nil, [], (fun _ h => nomatch h), by simp only [PyData.shownAll]; exact .nil⟩
  | _, _, _, _, .cons h t hk0, r, hn => by
    cases r with
    | cons r1 r2 =>
      obtain ⟨a1, a2, as, rd, b1, hb1, k1⟩ := Dg.rk I h r1 (by omega)
      obtain ⟨c1, c2, cs, rs, b2, hb2, k2⟩ := DgAll.rk I t r2 (by omega)
      refine ⟨by simp only [PyData.showableAll, a1, c1, Bool.and_self], ?_, _, .cons rd rs, b1 ++ b2, ?_, ?_⟩
      · simp only [PyData.shownAll, piled_cons]
        omega
      · intro b hm
        simp only [PyData.depthAll]
        rcases List.mem_append.mp hm with hm | hm
        · obtain ⟨d', as', r', hd'⟩ := hb1 b hm
          exact ⟨d', as', r', Nat.le_trans hd' (Nat.le_max_left _ _)⟩
        · obtain ⟨d', as', r', hd'⟩ := hb2 b hm
          exact ⟨d', as', r', Nat.le_trans hd' (Nat.le_max_right _ _)⟩
      · simp only [PyData.depthAll, PyData.shownAll]
        exact .cons ((k1.more fun b hb => List.mem_append_left _ hb).level_le (Nat.le_max_left _ _)) (k2.more_le (fun b hb => List.mem_append_right _ hb) (Nat.le_max_right _ _))
end
end
section
variable {X : Cx}
/-- repr((a, b, ..)), and repr of what call_reprO serves -/
def rReprT : List V → Hp → VK → Prop := fun xs H Q => rReprO xs H Q ∨ ∃ (a : Addr) (vs : List V) (ds : List PyData) (n : Nat), xs = [.ref a] ∧ H a = some (.tup vs) ∧ DgAll H vs ds n ∧ n + 4 ≤ sizeLine ∧ PyData.depthAll ds ≤ 50 ∧ Q (.str (PyData.tuple ds).shown) H
theorem call_reprT (hg : X.A.guards = some []) (hu : X.A.units + 64 < cLine) : CallR X (.builtin "repr") rReprT := by
  intro pins s σ H xs us Q I r h
  have lim : sizeLine = 16777216 := sizeLine_eq
  rcases h with h | ⟨a, vs, ds, n, rfl, ha, hd, hn, dep, q⟩
  · exact call_reprO hg hu pins s σ H _ us Q I r h
  · obtain ⟨u, rfl, ru⟩ := vals1 r
    obtain rfl : u = Value.ref a := ru
    obtain ⟨its, rv, p, hz⟩ := I.tuple (SqT.of ha)
    obtain ⟨o, ho, hc, m, hdat⟩ := p
    obtain ⟨b1, b2, as, rd, bs, hb, hk⟩ := DgAll.rk I hd rv (by omega)
    have tl := piled_tup (PyData.shownAll ds)
    have e2 : (PyData.tuple ds).shown = tupleText (PyData.shownAll ds) := by simp only [PyData.shown]
    have rl : Reads s.heap (.ref a) (.tuple ds) _ := .tuple ho hc hdat (by simpa using rd)
    have hna : a ∉ bs := not_mem_of_deeper rl (by simp only [PyData.depth]; omega) hb
    refine call_repr_slot (by omega) ⟨o, ho, hc⟩ F.slot_tuple_repr (call_tuple_reprK (ts := PyData.shownAll ds) ho hc hdat hna (by simpa using hk) (g := []) hg (fun b _ => Clear.nil b) (by show X.A.units + 1 + _ < cLine; omega) (fun _ _ e => e) (fun h' u tk k => ⟨_, _, rfl, ?_⟩) (by omega))
    exact ⟨.str (PyData.tuple ds).shown, H, I.kept (t' := tk) k, ⟨u, by rw [e2]⟩, q⟩
end
end Nm
set_option autoImplicit false
set_option maxRecDepth 100000
set_option maxHeartbeats 8000000
/-! _law_outcome(lambda: ..) -/
namespace Nm
open PySem PySem.Spec PyProof.Rows L2 LamX
/-- what the law keeps of an exception, by its class -/
def OutE (c : Addr) (cls : Value) (d : Option Addr) (H' : Hp) (fld wd : Str) (Q : VK) : Prop := cls = .ref c ∧ ∃ (y : V) (dd : Addr), d = some dd ∧ H' dd = some (.xd [(fld, y)]) ∧ ∀ r, H' r = none → Q (.ref r) (upd H' r (.lst [.str wd, y]))
/-- told: try: return ["told", call()], and the exceptions -/
def TOut (CB CN CT CI : Addr) : (XK → Hp → VK → Prop) → Hp → VK → Prop := fun tl H Q =>
  tl (fun cls d H' => OutE CB cls d H' "number" "number" Q ∨ OutE CN cls d H' "name" "name" Q ∨ OutE CT cls d H' "name" "twice" Q ∨ OutE CI cls d H' "number" "tie" Q) H
    fun v H1 => (2 : Nat) ≤ sizeLine ∧ ∀ r, H1 r = none → Q (.ref r) (upd H1 r (.lst [.str "told", v]))
/-- which class each clause serves -/
structure ExmO (K : PySem.W.Frag) (CB CN CT CI : Addr) : Prop where
  bb : PySem.W.exmOne K (.ref CB) (.ref CB) = some true
  nb : PySem.W.exmOne K (.ref CN) (.ref CB) = some false
  nn : PySem.W.exmOne K (.ref CN) (.ref CN) = some true
  tb : PySem.W.exmOne K (.ref CT) (.ref CB) = some false
  tn : PySem.W.exmOne K (.ref CT) (.ref CN) = some false
  tt : PySem.W.exmOne K (.ref CT) (.ref CT) = some true
  ib : PySem.W.exmOne K (.ref CI) (.ref CB) = some false
  in_ : PySem.W.exmOne K (.ref CI) (.ref CN) = some false
  it : PySem.W.exmOne K (.ref CI) (.ref CT) = some false
  ii : PySem.W.exmOne K (.ref CI) (.ref CI) = some true
abbrev nOu : List Str := ["_law_call", "e"]
theorem scOu : FnScope nOu ["_law_call"] (defScope sOutcome) := ⟨rfl, rfl, rfl, by decide +kernel, rfl, by decide +kernel, by decide +kernel⟩
theorem takes_lenO {X : Cx} {W : WX} (t : Takes X W) : Takes X (fun cls d σ H => σ.length = X.N.length → W cls d σ H) := fun u s' ⟨a, B, sI, pins, σ, H, cls, d, e, I, nb, up, sky, na, os, ag, w⟩ => t u s' ⟨a, B, sI, pins, σ, H, cls, d, e, I, nb, up, sky, na, os, ag, w I.len⟩
theorem out_gives {X : Cx} {g CB CN CT CI CE : Addr} {cdg : Value} {q : Str} (xfB : XfC X.K CB) (nB : PySem.W.findIn X.K (.ref CB) "number" = some none) (xfN : XfC X.K CN) (nN : PySem.W.findIn X.K (.ref CN) "name" = some none) (xfT : XfC X.K CT) (nT : PySem.W.findIn X.K (.ref CT) "name" = some none) (xfI : XfC X.K CI) (nI : PySem.W.findIn X.K (.ref CI) "number" = some none)
    (mB : X.mg "BadNumber" = some (.ref CB)) (mN : X.mg "BadName" = some (.ref CN)) (mT : X.mg "TwiceTold" = some (.ref CT)) (mI : X.mg "BadTie" = some (.ref CI)) (mE : X.mg "NamelessError" = some (.ref CE)) (ex : ExmO X.K CB CN CT CI) :
    GivesTo X nOu "_law_outcome" (defScope sOutcome) g cdg (defBody sOutcome) "_law_call" q (TOut CB CN CT CI) := by
  intro f c' s H Q tl act hc h
  refine ⟨_, pss_one (ps_try_serves (X := (cxOf C8.CX0 X.prog X.w X.K X.mg X.base nOu "_law_outcome" (defScope sOutcome) g cdg X.A X.stack s H C8.E0).nox)
      (tb := fun W D σ H => ∃ Ech : XK, (∀ cls d σ' H', Ech cls d H' → σ'.length = 2 → W cls d σ' H') ∧ σ[0]? = some (some (.ref f)) ∧ H c' = some (CodeO c' q) ∧ tl Ech H fun v H1 => (2 : Nat) ≤ sizeLine ∧ ∀ r, H1 r = none → D.rt (.ref r) (upd H1 r (.lst [.str "told", v])))
      rfl rfl (fun W pn xe tk _ => ?_) (fun D => serves_as (i := 1) (c := .ref CB) rfl scOu.nd rfl rfl ⟨rfl, by decide, .inl mB⟩
        (fun a oe cls d pn hz hf => pss_one (ps_ret (pe_lst (pa_cons pe_str (pa_cons (pe_xf (C := CB) xfB nB hz hf (pv 1)) pa_nil)))))
        (serves_as (i := 1) (c := .ref CN) rfl scOu.nd rfl rfl ⟨rfl, by decide, .inl mN⟩
          (fun a oe cls d pn hz hf => pss_one (ps_ret (pe_lst (pa_cons pe_str (pa_cons (pe_xf (C := CN) xfN nN hz hf (pv 1)) pa_nil)))))
        (serves_as (i := 1) (c := .ref CT) rfl scOu.nd rfl rfl ⟨rfl, by decide, .inl mT⟩
          (fun a oe cls d pn hz hf => pss_one (ps_ret (pe_lst (pa_cons pe_str (pa_cons (pe_xf (C := CT) xfT nT hz hf (pv 1)) pa_nil)))))
        (serves_as (i := 1) (c := .ref CI) rfl scOu.nd rfl rfl ⟨rfl, by decide, .inl mI⟩
          (fun a oe cls d pn hz hf => pss_one (ps_ret (pe_lst (pa_cons pe_str (pa_cons (pe_xf (C := CI) xfI nI hz hf (pv 1)) pa_nil)))))
          (serves_only (c := .ref CE) rfl ⟨rfl, by decide, .inl mE⟩ (fun a oe cls d pn hz hf => pss_one (ps_ret (pe_lst (pa_cons pe_str pa_nil)))) (serves_nil rfl rfl takes0))))))), ?_⟩
  · refine ⟨fun pins s' σ H' D I h' => ?_⟩
    obtain ⟨Ech, hW, h1, h2, h3⟩ := h'
    exact (pss_one (ps_ret (pe_lst (pa_cons pe_str (pa_cons (act (fun cls d σ H => σ.length = 2 → W cls d σ H) pn xe Ech _ _ (takes_lenO tk) hW) pa_nil))))).run pins s' σ H' D I ⟨h1, h2, h3⟩
  · have lim := sizeLine_eq
    refine ⟨_, fun cls d σ' H' e hlen => ?_, rfl, hc, h⟩
    rcases e with ⟨rfl, y, dd, rfl, hx, k⟩ | ⟨rfl, y, dd, rfl, hx, k⟩ | ⟨rfl, y, dd, rfl, hx, k⟩ | ⟨rfl, y, dd, rfl, hx, k⟩
    · refine ⟨true, ex.bb, fun _ a ha => ?_, (by intro z; cases z)⟩
      exact ⟨_, by rw [List.getElem?_set_self (by omega)], rfl, rfl, dd, _, _, rfl, hx, rfl, by show (2 : Nat) ≤ sizeLine; omega, fun r hr0 => k r hr0⟩
    · refine ⟨false, ex.nb, (by intro z; cases z), fun _ => ⟨true, ex.nn, fun _ a ha => ?_, (by intro z; cases z)⟩⟩
      exact ⟨_, by rw [List.getElem?_set_self (by omega)], rfl, rfl, dd, _, _, rfl, hx, rfl, by show (2 : Nat) ≤ sizeLine; omega, fun r hr0 => k r hr0⟩
    · refine ⟨false, ex.tb, (by intro z; cases z), fun _ => ⟨false, ex.tn, (by intro z; cases z), fun _ => ⟨true, ex.tt, fun _ a ha => ?_, (by intro z; cases z)⟩⟩⟩
      exact ⟨_, by rw [List.getElem?_set_self (by omega)], rfl, rfl, dd, _, _, rfl, hx, rfl, by show (2 : Nat) ≤ sizeLine; omega, fun r hr0 => k r hr0⟩
    · refine ⟨false, ex.ib, (by intro z; cases z), fun _ => ⟨false, ex.in_, (by intro z; cases z), fun _ => ⟨false, ex.it, (by intro z; cases z), fun _ => ⟨true, ex.ii, fun _ a ha => ?_, (by intro z; cases z)⟩⟩⟩⟩
      exact ⟨_, by rw [List.getElem?_set_self (by omega)], rfl, rfl, dd, _, _, rfl, hx, rfl, by show (2 : Nat) ≤ sizeLine; omega, fun r hr0 => k r hr0⟩
end Nm
set_option autoImplicit false
set_option maxRecDepth 100000
set_option maxHeartbeats 8000000
/-! {x for .. in .. if ..}, texts: the rule -/
namespace Nm
open PySem PySem.Spec PyProof.Rows L2 PySem.Froz
section
variable {X : Cx}
/-- a text is put in -/
theorem st_add {pins : List (Addr × Obj)} {s : Shared} {σ : L2.St} {H : Hp} {E : Value → Shared → Prop} {D : Addr} {l : List Str} {k : Str} {u : Value} {Q : Value → Shared → Prop} (I : Inv X pins σ H s) (hD : H D = some (SetTO X.prog X.w D l)) (few : l.length < 4000) (ru : RelV (.str k) u)
    (h : ∀ s', Inv X pins σ (upd H D (SetTO X.prog X.w D (if k ∈ l then l else k :: l))) s' → Q .none s') : wpAny (model X.prog X.w) X.A (call (.builtin "set.add") [.ref D, u]) Q E s := by
  obtain ⟨t, rfl⟩ := ru
  have R := setTO_get I hD
  have ty : s.TypeIs (.ref D) "set" := by
    obtain ⟨_, e, _⟩ := R
    exact ⟨_, e, rfl⟩
  refine wpAny_call_entry PySem.F.slot_set_add ty PySem.F.entry_set_add ?_ (PySem.F.args_set_add_2 _ _)
  unfold Builtin.«set.add» Builtin.Frozenset.oneOther
  simp only [List.isEmpty_nil, bind_assoc]
  unfold Builtin.Frozenset.addrOf setAdd
  refine wpAny_bind (wpAny_pure ?_)
  try dsimp only
  refine wpAny_bind (wpAny_pure ?_)
  try dsimp only
  refine wpAny_bind (wpAny_holding (wpAny_bind ((strKind X.prog X.w).pyHash (is_str k t) ?_)))
  refine SetT.put (s := { s with toks := s.toks + 1 }) R (by unfold scanBound; omega) fun b h' sb R' => ?_
  show wpAny _ _ (ret Value.none) _ _ _
  refine wpAny_pure ⟨_, rfl, h _ (I.write (e := D) (t' := s.toks + 1) (by rw [hD]; trivial) (.inl rfl) (fun b o hb ho => (sb.2 b hb).trans ho) ?_ (setTO_ok R'))⟩
  obtain ⟨_, e, _⟩ := R'
  exact ⟨_, e⟩
/-- the walk of the source; D the new set -/
def tSc (P : Program) (w : World) (wi : TI) (g : TG) (tt : TT) (te : TE) (vs : List Nat) : TE := fun σ H Q => wi σ H fun J Ha => ∀ D, Ha D = none → ∃ W : Nat → Nat → Hp → Prop, (∃ m, W 0 m (upd Ha D (SetTO P w D []))) ∧ ∀ i m H, W i m H →
  (J.stop i H ∧ Q (.ref D) H) ∨ (J.go i H ∧ ∃ Nx : Hp → Prop, (∀ H', Nx H' → ∃ m', m' < m ∧ W (i + 1) m' H') ∧ ∀ x H', J.yld i H x H' → g x (wipe σ vs) H' fun σ2 Hb => wipe σ2 vs = wipe σ vs ∧ tt σ2 Hb fun b Hc =>
    if b = true then te σ2 Hc fun y Hd => ∃ (k : Str) (l : List Str), y = .str k ∧ Hd D = some (SetTO P w D l) ∧ l.length < 4000 ∧ Nx (upd Hd D (SetTO P w D (if k ∈ l then l else k :: l))) else Nx Hc)
theorem sc_run {pins : List (Addr × Obj)} {s : Shared} {σ : L2.St} {H : Hp} {Q : VK} {elt t0 i0 : Expr} {ifs : List Expr} {scope : Scope} {own : List (Str × Nat)} {pos pos' : Pos} {wi : TI} {g : TG} {tt : TT} {te : TE} {use : Option (Value → Sem Unit)} {Qf : Value → Shared → Prop}
    (calm : X.calm = true) (nd : X.N.Nodup) (I : Inv X pins σ H s) (w0 : PI X t0 i0 wi) (blk : BlkOk X.N X.env.scope scope own) (b0 : AllB X scope fun Y => PG Y t0 g) (bt : AllB X scope fun Y => PTs Y ifs tt) (be : AllB X scope fun Y => PE Y elt te) (p0 : ∀ x, foldedSetIterable i0 X.env x = pure x)
    (hyp : tSc X.prog X.w wi g tt te (own.map (·.2)) σ H Q)
    (back : ∀ D C s' m H', Inv X pins σ H' s' → Q (.ref D) H' → s'.heap.Ns C m → FpOk X pins H' C → compPost (model X.prog X.w) X.A X.xe use Qf (.ref D) C (.ok .next) s') :
    wpAny (model X.prog X.w) X.A (comprehension (.SetComp elt [⟨t0, i0, ifs, 0⟩] scope pos) scope X.env pos' (newSet (.type "set")) false (eval i0 X.env) use) Qf X.xe s := by
  have free_ : ∀ y ∈ scope.names, y.2 = .free → ∃ c, X.env.cells.lookup y.1 = some c := fun y hy e => (blk.free y hy e).elim (fun z => I.ok.has _ (.inl z)) fun z => I.ok.has _ (.inr z)
  refine wpAny_comprehension_free (use := use) rfl p0 (closure_ok free_) blk.kind (fun y hy e => by rw [blk.uniq y hy, e]) (thn (w0.run pins s σ H _ I hyp) fun _ _ hx => thn hx fun _ sa ha => ?_)
  obtain ⟨it, fp, tn, J, Ha, rfl, Ia, T, sta, fa, q⟩ := ha
  refine wpAny_newSet_raw fun led hled => newEnv_comp ?_
  subst hled
  generalize eD : sa.heap.objs.size = D
  obtain ⟨W, ⟨m0, wz⟩, turn⟩ := q D (Ia.hok.fresh (Nat.le_of_eq eD))
  -- the set that is made
  generalize hn0 : ({ cls := .type "set", dict := none, data := .set #[] 0 (.fresh 0 0 (!(X.w.params.followText "set-order"))) } : Obj) = new0
  generalize eb : ({ sa with heap := sa.heap.push new0 } : Shared) = sb
  have hpb : sb.heap = sa.heap.push new0 := by rw [← eb]
  have Ib : Inv X pins σ (upd Ha D (SetTO X.prog X.w D [])) sb := by
    rw [← eb]
    refine Ia.laid (t' := sa.toks) (fun b o e => Heap.get?_push_of_some _ e) (Nat.le_of_eq eD) ?_
    rw [← eD, ← hn0]
    exact setTO_ok setT_new
  have fb : ∀ b ∈ fp, FpOk X pins (upd Ha D (SetTO X.prog X.w D [])) b ∧ b < sb.heap.objs.size := fun b hb => by
    obtain ⟨o, e, _⟩ := T.obj _ _ sta b hb
    have lt := Heap.lt_size e
    refine ⟨⟨?_, (fa b hb).2⟩, by rw [hpb, Heap.size_push]; exact Nat.lt_succ_of_lt lt⟩
    rw [upd_ne (by rw [← eD]; exact Nat.ne_of_lt lt)]
    exact (fa b hb).1
  have stb : tn 0 sb.heap := T.keep _ _ _ sta fun b _ o e => by rw [hpb]; exact Heap.get?_push_of_some _ e
  have Ic := block_start Ib blk nd fb
  generalize hL : sb.heap.objs.size = L at Ic
  have pb0 := b0 sb (upd Ha D (SetTO X.prog X.w D [])) L (cellsFrom (L + 1) scope.names (cloFrom X.env.cells scope.names [])) fp
  have pbt := bt sb (upd Ha D (SetTO X.prog X.w D [])) L (cellsFrom (L + 1) scope.names (cloFrom X.env.cells scope.names [])) fp
  have pbe := be sb (upd Ha D (SetTO X.prog X.w D [])) L (cellsFrom (L + 1) scope.names (cloFrom X.env.cells scope.names [])) fp
  show codeAny _ _ (.compStart (.SetComp elt [⟨t0, i0, ifs, 0⟩] scope pos) 0 (.ref it) (.ref D) (compEnvC scope (cellsFrom (L + 1) scope.names (cloFrom X.env.cells scope.names [])) L X.env)) (compPost (model X.prog X.w) X.A X.xe use Qf (.ref D) L) { sb with heap := pushCells (sb.heap.push { cls := .type "dict", data := .dict #[] }) scope.names }
  generalize hce : compEnvC scope (cellsFrom (L + 1) scope.names (cloFrom X.env.cells scope.names [])) L X.env = ce at Ic pb0 pbt pbe ⊢
  have ceL : ce.locals = L := by subst hce; rfl
  generalize upd Ha D (SetTO X.prog X.w D []) = Hb at *
  generalize hsc : ({ sb with heap := pushCells (sb.heap.push { cls := .type "dict", data := .dict #[] }) scope.names } : Shared) = sc at Ic ⊢
  have stc : tn 0 sc.heap := T.keep _ _ _ stb fun b _ o e => by rw [← hsc]; exact pushCells_keeps _ _ _ _ (Heap.get?_push_of_some _ e)
  have clean : ∀ {σ' : L2.St} {H' : Hp} {s' : Shared}, Inv (X.blk sb Hb scope ce fp) [] σ' H' s' → (∀ b ∈ fp, H' b = none) → ∀ b ∈ fp, FpOk (X.blk sb Hb scope ce fp) [] H' b := fun {σ' H' s'} J' hn b hb =>
    ⟨hn b hb, (J'.ok.exf b hb).1, J'.ok.exfs b hb, .inl hb, fun x c e => (J'.ok.exf b hb).2 x c e, fun p hp => absurd (show p ∈ ([] : List (Addr × Obj)) ++ [] from hp) (by simp)⟩
  have go : codeAny (model X.prog X.w) X.A (.compLoop (.SetComp elt [⟨t0, i0, ifs, 0⟩] scope pos) 0 (.ref it) (.ref D) ce) (compPost (model X.prog X.w) X.A X.xe use Qf (.ref D) L) sc := by
    refine compLoop_set_any (fun n s' => ∃ i H', Inv (X.blk sb Hb scope ce fp) [] (wipe σ (own.map (·.2))) H' s' ∧ tn i s'.heap ∧ (∀ b ∈ fp, H' b = none) ∧ W i n H') ?_ m0 ⟨0, Hb, Ic, stc, fun b hb => (fb b hb).1.1, wz⟩
    rintro n sd ⟨i, Hd, Id, std, nofp, wd⟩
    rcases turn i n Hd wd with ⟨stop, qq⟩ | ⟨more, Nx, hNx, step⟩
    · refine thnF (T.done (X.blk sb Hb scope ce fp) rfl rfl rfl calm i [] sd _ Hd (fun _ _ => False) Id (clean Id nofp) std stop) fun r se ⟨hr, Ie⟩ => ?_
      subst hr
      have If : Inv X pins σ Hd se := Ib.call' (ch := fp) Ie.os Ie.base Ie.hok Ie.bare fun b hb => ⟨(fb b hb).1.2.2.2.1, (fb b hb).1.2.1, (fb b hb).1.2.2.2.2.1, (fb b hb).1.2.2.2.2.2⟩
      have nL : Hd L = none := by
        have z : Hd ce.locals = none := Ie.free
        rwa [ceL] at z
      obtain ⟨m, hn, _⟩ := Ie.loc
      have hn : se.heap.Ns ce.locals m := hn
      rw [ceL] at hn
      exact back D L se m Hd If qq hn (Ib.fpOk (Nat.le_of_eq hL) nL)
    · refine thnF (T.item (X.blk sb Hb scope ce fp) rfl rfl rfl calm i [] sd _ Hd (fun _ _ => False) Id (clean Id nofp) std more) fun r se ⟨u, hr, he⟩ => ?_
      subst hr
      refine thnF he fun _ sf ⟨x, Hf, If, rf, yf, stf, nof⟩ => ?_
      refine thnF (pb0.run _ sf _ Hf x u _ (If.pinned (clean If nof) (T.obj _ _ stf)) rf (step x Hf yf)) fun _ sg ⟨σg, Hg, Ig, hwg, qg⟩ => ?_
      refine thnF (pbt.run _ sg σg Hg _ Ig qg) fun b sh ⟨Hh, Ih, qh⟩ => ?_
      -- what a turn leaves
      have done_ : ∀ {s' : Shared} {H' : Hp}, Inv (X.blk sb Hb scope ce fp) ([] ++ pinsAt fp sf.heap) σg H' s' → Nx H' → ∃ m, m < n ∧ ∃ i H', Inv (X.blk sb Hb scope ce fp) [] (wipe σ (own.map (·.2))) H' s' ∧ tn i s'.heap ∧ (∀ b ∈ fp, H' b = none) ∧ W i m H' := fun {s' H'} J' nx => by
        obtain ⟨m', hm, w'⟩ := hNx H' nx
        have stays : ∀ b ∈ fp, ∀ o, sf.heap.get? b = some o → s'.heap.get? b = some o ∧ H' b = none := fun b hb o e =>
          have z := J'.pin (b, o) (List.mem_append_right _ (List.mem_append_right _ (mem_pinsAt hb e)))
          ⟨z.1, z.2.1⟩
        refine ⟨m', hm, i + 1, H', (J'.unpinned (pins := [])).weak (by rw [← hwg, wipe_length]) (fun j v e => by rw [← hwg] at e; exact (wipe_some e).1), T.keep _ _ _ stf fun b hb o e => (stays b hb o e).1, fun b hb => ?_, w'⟩
        obtain ⟨o, e, _⟩ := T.obj _ _ stf b hb
        exact (stays b hb o e).2
      cases b with
      | false =>
        simp only [Bool.false_eq_true, if_false] at qh ⊢
        exact done_ Ih qh
      | true =>
        simp only [if_true] at qh ⊢
        refine thnF (pbe.run _ sh σg Hh _ Ih qh) fun z si ⟨y, Hi, Ii, ri, k, l, ek, hD, few, nx⟩ => ?_
        subst ek
        exact st_add (X := X.blk sb Hb scope ce fp) Ii hD few ri fun sj Ij => done_ Ij nx
  exact codeAny_compStart_set go (T.self X.A 0 _ _ _ stc go)
/-- as a value -/
theorem pe_sc {elt t0 i0 : Expr} {ifs : List Expr} {scope : Scope} {own : List (Str × Nat)} {pos : Pos} {wi : TI} {g : TG} {tt : TT} {te : TE}
    (calm : X.calm = true) (nd : X.N.Nodup) (w0 : PI X t0 i0 wi) (blk : BlkOk X.N X.env.scope scope own) (b0 : AllB X scope fun Y => PG Y t0 g) (bt : AllB X scope fun Y => PTs Y ifs tt) (be : AllB X scope fun Y => PE Y elt te) (p0 : ∀ x, foldedSetIterable i0 X.env x = pure x := by intro _; rfl) :
    PE X (.SetComp elt [⟨t0, i0, ifs, 0⟩] scope pos) (tSc X.prog X.w wi g tt te (own.map (·.2))) := by
  refine ⟨fun pins s σ H Q I hyp => ?_⟩
  rw [arm_eval_SetComp]
  refine sc_run calm nd I w0 blk b0 bt be p0 hyp fun D C s' m H' I' q hn f => ⟨m, hn, fun h'' sb => ?_⟩
  obtain ⟨f0, f1, f2, f3, f4, f5⟩ := f
  exact ⟨.ref D, H', I'.turned (t' := s'.toks) (fun b o hb e => (sb.2 b hb).trans e) f0 f1 f3 f4 f5, rfl, q⟩
end
end Nm
set_option autoImplicit false
set_option maxRecDepth 100000
set_option maxHeartbeats 8000000
/-! Web.kinds -/
namespace Nm
open PySem PySem.Spec PyProof.Rows L2
section
variable {P : Program} {w : World} {K : PySem.W.Frag} {mg : Str → Option Value} {base : Heap}
def spKinds (C : Addr) : Sp := fun vs H Q _ => ∃ (p q dc r wd : Addr) (nm cl : List Str) (rs : List RowV), vs = [.ref p] ∧ WebX C H p q dc r wd nm cl rs ∧ rs.length ≤ 3000 ∧
  ∀ (l : Addr) (zs : List Str) (H' : Hp), H l = none → H' l = some (.lst (zs.map V.str)) → (∀ z, z ∈ zs ↔ ∃ row ∈ rs, row.kd = z) → zs.Nodup → sortedS zs = true → Same H H' → Q (.ref l) H'
abbrev nKi : List Str := ["self", "tie"]
theorem scKi : FnScope nKi ["self"] (defScope sWebKinds) := ⟨rfl, rfl, rfl, by decide +kernel, rfl, by decide +kernel, by decide +kernel⟩
theorem ok_kinds {f C : Addr} {fd : FuncData} (F : Fun K "kinds" "Web.kinds" sWebKinds f fd) (T : TxtW K mg C) : FnOk P w K mg base CX0 1 f fd ["self"] (spKinds C) := by
  refine F.ok scKi (fun vs H Q E h => ?_) (fun cdv A outer s H vs Q E hr h => ?_)
  · obtain ⟨_, _, _, _, _, _, _, _, rfl, _⟩ := h
    rfl
  · obtain ⟨p, q, dc, r, wd, nm, cl, rs, rfl, W, few, k⟩ := h
    obtain ⟨dx, hp⟩ := W.hp
    obtain ⟨ts, h1, h2⟩ := W.hr
    refine ⟨_, pss_one (ps_ret (pe_callB (cr_sortT rfl) (by rfl) T.sorted (by decide +kernel) (pa_cons (pe_sc (own := [("tie", 1)]) (g := gName 1) (tt := tYes) (te := tOp (rIxT K) (tVar 1) (tC (.int 2))) rfl scKi.nd (pi_list (pe_fld (pv 0) rfl))
        (blkOk_by (N := nKi) (sc := defScope sWebKinds) (by decide +kernel)) (fun _ _ _ _ _ => pg_name (i := 1) scKi.nd rfl (Or.inl rfl)) (fun _ _ _ _ _ => pts_nil) (fun _ _ _ _ _ => by exact pe_ix ix_tup (pv 1) pe_int (fun _ _ => rfl))) pa_nil))), ?_⟩
    refine ⟨_, rfl, p, C, dx, _, _, rfl, hp, T.cl, T.nTi, rfl, ?_⟩
    refine ⟨r, rfl, ⟨_, SqL.of h1⟩, fun D hD => ?_⟩
    have len : ts.length = rs.length := Paired.length h2
    refine walkW (walk_list (xs := ts.map V.ref)) (fun i H1 => ∃ l : List Str, H1 D = some (SetTO P w D l) ∧ (∀ z, z ∈ l ↔ ∃ row ∈ rs.take i, row.kd = z) ∧ l.length ≤ i ∧ l.Nodup ∧ Same H H1)
      ⟨[], upd_same, by simp, Nat.le_refl _, List.nodup_nil, same_new hD⟩ (fun i H1 _ ⟨_, _, _, _, _, h⟩ => SqL.of (h _ _ h1)) ?_ ?_
    · rintro i v H1 H2 hi ⟨l, hD1, hl, hle, hnd, s1⟩ ⟨rfl, hv⟩
      rw [List.length_map] at hi
      have hv : (ts.map V.ref)[i]? = some v := hv
      rw [List.getElem?_map] at hv
      obtain ⟨t, ht, rfl⟩ := Option.map_eq_some_iff.mp hv
      obtain ⟨row, hrow, x, y, _, _, htup⟩ := Nm.paired_get h2 ht
      refine ⟨rfl, tyes ?_⟩
      refine ⟨_, rfl, t, _, 2, _, rfl, rfl, SqT.of (s1 _ _ htup), atI_nat (j := 2) rfl, row.kd, l, rfl, hD1, by omega, ?_⟩
      refine ⟨_, upd_same, fun z => ?_, ?_, ?_, same_off s1 hD⟩
      · have e : (∃ row ∈ rs.take (i + 1), row.kd = z) ↔ (z ∈ l ∨ z = row.kd) := by
          rw [hl z, List.take_add_one, hrow, Option.toList_some]
          constructor
          · rintro ⟨r', hr', e⟩
            rcases List.mem_append.mp hr' with h | h
            · exact .inl ⟨r', h, e⟩
            · rw [List.mem_singleton.mp h] at e
              exact .inr e.symm
          · rintro (⟨r', h, e⟩ | e)
            · exact ⟨r', List.mem_append_left _ h, e⟩
            · exact ⟨row, List.mem_append_right _ (List.mem_singleton.mpr rfl), e.symm⟩
        rw [e]
        split
        · rename_i hm
          exact ⟨.inl, fun h => h.elim id fun e => by rw [e]; exact hm⟩
        · rw [List.mem_cons]
          exact Or.comm
      · split
        · omega
        · rw [List.length_cons]
          omega
      · split
        · exact hnd
        · rename_i hm
          exact List.nodup_cons.mpr ⟨hm, hnd⟩
    · rintro H1 ⟨l, hD1, hl, hle, hnd, s1⟩
      rw [List.length_map, len] at hle
      rw [List.length_map, len, List.take_length] at hl
      refine ⟨D, l, rfl, hD1, by omega, fun zs p2 pm so hp2 => ?_⟩
      exact k p2 zs _ (s1.free hp2) upd_same (fun z => by rw [pm.mem_iff]; exact hl z) (pm.nodup_iff.mpr hnd) so (s1.trans (same_new hp2))
end
end Nm
set_option autoImplicit false
set_option maxRecDepth 100000
set_option maxHeartbeats 4000000
/-! sorted of a dict whose keys are texts -/
namespace Nm
open PySem PySem.Spec PyProof.Rows L2 PySem.Froz
section
variable {X : Cx}
end
end Nm
set_option autoImplicit false
/-! texts in order are one -/
namespace Nm
open PySem PySem.Spec PyProof.Rows L2
theorem leS_anti {x y : Str} (h1 : leS x y) (h2 : leS y x) : x = y := by
  have e : x.cps.toList = y.cps.toList := by
    refine List.le_antisymm ?_ ?_
    · exact h1
    · exact h2
  obtain ⟨⟨a⟩⟩ := x
  obtain ⟨⟨b⟩⟩ := y
  have e : a = b := e
  rw [e]
theorem sortedS_one {a b : List Str} (p : a.Perm b) (ha : sortedS a = true) (hb : sortedS b = true) : a = b :=
  List.Perm.eq_of_pairwise (le := leS) (fun x y _ _ h1 h2 => leS_anti h1 h2) (sorted_pw ha) (sorted_pw hb) p
end Nm
set_option autoImplicit false
set_option maxRecDepth 100000
set_option maxHeartbeats 8000000
/-! what the law of k01 stands on -/
namespace Nm
open PySem PySem.Spec PyProof.Rows L2 LamX
/-- all is kept but the pen and the tables -/
def BtN (p : Addr) (H H' : Hp) : Prop := ∀ b o, H b = some o → b ≠ p → (∀ ps, o ≠ .tbl ps) → H' b = some o
theorem BtN.of {p : Addr} {H H' : Hp} (b : Bt p H H') : BtN p H H' := fun q o e n _ => b q o e n
theorem BtN.ofX {p : Addr} {H H' : Hp} (x : ExtN H H') : BtN p H H' := fun q o e _ t => x q o e t
theorem BtN.trans {p : Addr} {H H1 H2 : Hp} (a : BtN p H H1) (b : BtN p H1 H2) : BtN p H H2 := fun q o e n t => b q o (a q o e n t) n t
theorem BtN.off {p q : Addr} {H H1 : Hp} {o : HO} (a : BtN p H H1) (h : H q = none) : BtN p H (upd H1 q o) := fun b u e n t => by
  rw [upd_ne (ne_of_none e h)]
  exact a b u e n t
theorem Raw.btN {H H' : Hp} {p g R : Addr} {nm cl : List Str} {rs : List RowV} (A : Raw H p g R nm cl rs) (b : BtN p H H') : Raw H' p g R nm cl rs := by
  obtain ⟨o, h, t, A⟩ := A
  exact ⟨o, h, t, ⟨b _ _ A.hR A.nR.1 (by intro _ z; cases z), b _ _ A.ho A.no.1 (by intro _ z; cases z), b _ _ A.hh A.nh.1 (by intro _ z; cases z), b _ _ A.ht A.nt.1 (by intro _ z; cases z), A.nR, A.no, A.nh, A.nt⟩⟩
theorem WebIs.btN {C : Addr} {H H' : Hp} {we p g : Addr} {nm cl : List Str} {rs : List RowV} (n1 : 1 ≤ nm.length) (h : WebIs C H we nm cl rs) (S : Pen H p g) (b : BtN p H H') : WebIs C H' we nm cl rs := by
  obtain ⟨q, dc, r, wd, X⟩ := h
  obtain ⟨ns, seat, left, SS⟩ := id S
  obtain ⟨⟨dx, h1⟩, h2, h3, h4, h5⟩ := X
  have f : ∀ {a : Addr} {o : HO}, H a = some o → (∀ xs, o ≠ .lst xs) → a ≠ p := fun e z => ne_of e SS.hp (z _)
  have hqp : q ≠ p := fun e => by
    rw [e, SS.hp] at h2
    match nm, n1, h2 with
    | x :: r, _, h2 => cases (List.cons.inj (HO.lst.inj (Option.some.inj h2))).1
  have hrp : r ≠ p := fun e => by
    obtain ⟨ts, t1, _⟩ := h4
    rw [e, SS.hp] at t1
    have t1 := HO.lst.inj (Option.some.inj t1)
    match ts, t1 with
    | a :: c :: r, t1 => cases (List.cons.inj (List.cons.inj t1).2).1
  obtain ⟨ts, t1, t2⟩ := h4
  exact ⟨q, dc, r, wd, ⟨dx, b _ _ h1 (f h1 fun xs z => by cases z) (by intro _ z; cases z)⟩, b _ _ h2 hqp (by intro _ z; cases z), b _ _ h3 (f h3 fun xs z => by cases z) (by intro _ z; cases z), ⟨ts, b _ _ t1 hrp (by intro _ z; cases z), Paired.mapP t2 fun t r ⟨x, y, e1, e2, e3⟩ => ⟨x, y, e1, e2, b _ _ e3 (f e3 fun xs z => by cases z) (by intro _ z; cases z)⟩⟩, b _ _ h5 (f h5 fun xs z => by cases z) (by intro _ z; cases z)⟩
/-- a raw web and its web, told of an earlier heap -/
structure K1 (C : Addr) (tbs : List (Addr × Str)) (Hb H : Hp) (p g R we : Addr) (nm cl : List Str) (rs rs' : List RowV) : Prop where
  S : Pen H p g
  T : Tabs tbs H
  Sb : Pen Hb p g
  raw : Raw Hb p g R nm cl rs
  web : WebIs C Hb we nm cl rs'
  b : BtN p Hb H
section
variable {C : Addr} {tbs : List (Addr × Str)} {Hb H H' : Hp} {p g R we : Addr} {nm cl : List Str} {rs rs' : List RowV}
theorem K1.raw' (h : K1 C tbs Hb H p g R we nm cl rs rs') : Raw H p g R nm cl rs := h.raw.btN h.b
theorem K1.web' (h : K1 C tbs Hb H p g R we nm cl rs rs') (n1 : 1 ≤ nm.length) : WebIs C H we nm cl rs' := h.web.btN n1 h.Sb h.b
theorem K1.bt (h : K1 C tbs Hb H p g R we nm cl rs rs') (S' : Pen H' p g) (b : Bt p H H') : K1 C tbs Hb H' p g R we nm cl rs rs' := ⟨S', tabs_bt h.S b h.T, h.Sb, h.raw, h.web, h.b.trans (.of b)⟩
theorem K1.same (h : K1 C tbs Hb H p g R we nm cl rs rs') (s : Same H H') : K1 C tbs Hb H' p g R we nm cl rs rs' := h.bt (h.S.same s) (Bt.same s)
theorem K1.ex (h : K1 C tbs Hb H p g R we nm cl rs rs') (x : ExtN H H') (t : Tabs tbs H') : K1 C tbs Hb H' p g R we nm cl rs rs' := ⟨h.S.ex x, t, h.Sb, h.raw, h.web, h.b.trans (.ofX x)⟩
theorem tabs_put {q : Addr} {xs : List V} {o : HO} (t : Tabs tbs H) (hq : H q = some (.lst xs)) : Tabs tbs (upd H q o) := fun u hu => by
  obtain ⟨ps, h1, h2, h3⟩ := t u hu
  refine ⟨ps, by rw [upd_ne (ne_of h1 hq (by intro z; cases z))]; exact h1, h2, fun pos cv e => ?_⟩
  obtain ⟨c, e1, e2⟩ := h3 pos cv e
  exact ⟨c, e1, by rw [upd_ne (fun z => by rw [z, hq] at e2; cases e2)]; exact e2⟩
theorem K1.put (h : K1 C tbs Hb H p g R we nm cl rs rs') {q : Addr} {xs ys : List V} (hb : Hb q = none) (hq : H q = some (.lst xs)) : K1 C tbs Hb (upd H q (.lst ys)) p g R we nm cl rs rs' := by
  have nq := h.Sb.ne hb
  obtain ⟨ns, seat, left, S⟩ := h.S
  exact ⟨⟨ns, seat, left, ⟨by rw [upd_ne nq.1.symm]; exact S.hp, by rw [upd_ne nq.2.symm]; exact S.hg, S.few, S.s0, S.l0⟩⟩, tabs_put h.T hq, h.Sb, h.raw, h.web, h.b.off hb⟩
end
/-- a new web, a list that was there is changed -/
theorem NewW.put {C : Addr} {H0 H : Hp} {we d : Addr} {nm cl : List Str} {rs : List RowV} (N : NewW C H0 H we nm cl rs) {o : HO} (hd : H0 d = some o) {xs ys : List V} (hd' : H d = some (.lst xs)) : NewW C H0 (upd H d (.lst ys)) we nm cl rs := by
  obtain ⟨q, dc, r, wd, ⟨⟨dx, h1⟩, h2, h3, h4, h5⟩, n1, n2, n3, n4, n5⟩ := N.ex
  have off : ∀ {a : Addr}, H0 a = none → a ≠ d := fun e z => by rw [z, hd] at e; cases e
  refine ⟨⟨q, dc, r, wd, ⟨⟨dx, by rw [upd_ne (off n1)]; exact h1⟩, by rw [upd_ne (off n2)]; exact h2, by rw [upd_ne (off n3)]; exact h3, ext_tie h4 (fun o e => by rw [upd_ne (off n4)]; exact e) (fun b ys e => by rw [upd_ne (ne_of e hd' (by intro z; cases z))]; exact e), by rw [upd_ne (off n5)]; exact h5⟩, n1, n2, n3, n4, n5⟩⟩
/-! ### data -/
theorem dg_strs5 {H : Hp} : ∀ {zs : List Str}, (∀ z ∈ zs, (reprText z).length ≤ 100 ∧ z.length ≤ 100) → DgAll H (zs.map V.str) (zs.map PyData.str) (4002 * zs.length) ∧ PyData.depthAll (zs.map PyData.str) ≤ 1
  | [], _ => ⟨.nil, Nat.zero_le _⟩
  | z :: zs, h => by
    obtain ⟨a, b⟩ := dg_strs5 (H := H) fun x hx => h x (List.mem_cons_of_mem _ hx)
    refine ⟨.cons (n := 4000) (.odd (.lf (.str (h z List.mem_cons_self).1 (h z List.mem_cons_self).2)) (Nat.le_refl _)) a (by rw [List.length_cons]; omega), ?_⟩
    · simp only [List.map_cons, PyData.depthAll, PyData.depth]
      omega
theorem od_depth {H : Hp} {v : V} {d : PyData} (h : OdV H v d) : d.depth ≤ 3 := by
  cases h with
  | lf l =>
    cases l <;> simp [PyData.depth]
  | lst e l n =>
    have : ∀ {vs : List V} {ds : List PyData}, Lfs vs ds → PyData.depthAll ds ≤ 1 := fun {vs ds} hl => by
      induction hl with
      | nil => simp [PyData.depthAll]
      | cons h t ih => cases h <;> simp only [PyData.depthAll, PyData.depth] <;> omega
    have := this l
    simp only [PyData.depth]
    omega
  | tup e l n =>
    have : ∀ {vs : List V} {ds : List PyData}, Lfs vs ds → PyData.depthAll ds ≤ 1 := fun {vs ds} hl => by
      induction hl with
      | nil => simp [PyData.depthAll]
      | cons h t ih => cases h <;> simp only [PyData.depthAll, PyData.depth] <;> omega
    have := this l
    simp only [PyData.depth]
    omega
  | dc0 e => decide +kernel
  | dc1 e hz l =>
    cases l <;> simp [PyData.depth, PyData.depthKv]
theorem dg_ods {H : Hp} : ∀ {vs : List V}, (∀ v ∈ vs, ∃ d, OdV H v d) → ∃ ds, DgAll H vs ds (4002 * vs.length) ∧ PyData.depthAll ds ≤ 3
  | [], _ => ⟨[], .nil, by simp [PyData.depthAll]⟩
  | v :: vs, h => by
    obtain ⟨ds, a, b⟩ := dg_ods fun x hx => h x (List.mem_cons_of_mem _ hx)
    obtain ⟨d, o⟩ := h v List.mem_cons_self
    refine ⟨d :: ds, .cons (n := 4000) (.odd o (Nat.le_refl _)) a (by rw [List.length_cons]; omega), ?_⟩
    · have := od_depth o
      simp only [PyData.depthAll]
      omega
theorem dg_places5 {H : Hp} : ∀ {ts : List Addr} {ps : List Pv2}, Paired (fun t (q : Pv2) => H t = some (.tup [q.1, q.2])) ts ps → OdP H ps → ∃ ds, DgAll H (ts.map V.ref) ds (20000 * ps.length) ∧ PyData.depthAll ds ≤ 4
  | _, _, .nil, _ => ⟨[], .nil, by simp [PyData.depthAll]⟩
  | t :: ts, q :: ps, .cons h r, od => by
    obtain ⟨ds, a, b⟩ := dg_places5 r fun x hx => od x (List.mem_cons_of_mem _ hx)
    obtain ⟨d2, e, f⟩ := dg_ods (vs := [q.1, q.2]) fun v hv => by
      rcases List.mem_cons.mp hv with rfl | hv
      · exact (od q List.mem_cons_self).1
      · rw [List.mem_singleton.mp hv]
        exact (od q List.mem_cons_self).2
    refine ⟨_, .cons (n := 8012) (.tup h e (by show 4002 * 2 + 4 ≤ _; omega)) a (by rw [List.length_cons]; omega), ?_⟩
    simp only [PyData.depthAll, PyData.depth]
    omega
theorem dg_ties5 {H : Hp} : ∀ {us : List V} {es : List Tv}, Paired (TvAt H) us es → (∀ e ∈ es, OdT H e) → ∃ ds, DgAll H us ds (20000 * es.length) ∧ PyData.depthAll ds ≤ 4
  | _, _, .nil, _ => ⟨[], .nil, by simp [PyData.depthAll]⟩
  | u :: us, e :: es, .cons h r, od => by
    obtain ⟨ds, a, b⟩ := dg_ties5 r fun x hx => od x (List.mem_cons_of_mem _ hx)
    obtain ⟨d2, e2, f⟩ := dg_ods (vs := e.vals) fun v hv => od e List.mem_cons_self v hv
    cases e with
    | non =>
      obtain rfl : u = .non := h
      refine ⟨_, .cons (n := 4000) (.odd (.lf .non) (Nat.le_refl _)) a (by rw [List.length_cons]; omega), ?_⟩
      simp only [PyData.depthAll, PyData.depth]
      omega
    | t4 x y z m =>
      obtain ⟨t, rfl, ht⟩ := h
      refine ⟨_, .cons (n := 16012) (.tup ht e2 (by show 4002 * 4 + 4 ≤ _; omega)) a (by rw [List.length_cons]; omega), ?_⟩
      simp only [PyData.depthAll, PyData.depth]
      omega
    | t3 x y z =>
      obtain ⟨t, rfl, ht⟩ := h
      refine ⟨_, .cons (n := 16012) (.tup ht e2 (by show 4002 * 3 + 4 ≤ _; omega)) a (by rw [List.length_cons]; omega), ?_⟩
      simp only [PyData.depthAll, PyData.depth]
      omega
    | l4 x y z m =>
      obtain ⟨t, rfl, ht⟩ := h
      refine ⟨_, .cons (n := 16012) (.lst ht e2 (by show 4002 * 4 + 4 ≤ _; omega)) a (by rw [List.length_cons]; omega), ?_⟩
      simp only [PyData.depthAll, PyData.depth]
      omega
/-! ### ties that stand -/
def tv4 (t : TieV) : Tv := .t4 (.str t.x) (.str t.y) (.str t.kd) (.int t.w)
theorem stand_ok {nm : List Str} {prev : List TieV} {e : Tv} {t : TieV} (h : standT nm prev e = some t) : e = tv4 t ∧ t.Ok nm ∧ t.spot ∉ prev.map TieV.spot := by
  unfold standT at h
  cases h1 : okT1 nm e with
  | none => rw [h1] at h; cases h
  | some t' =>
    rw [h1] at h
    have h : (if t'.spot ∈ prev.map TieV.spot then none else some t') = some t := h
    by_cases c : t'.spot ∈ prev.map TieV.spot
    · rw [if_pos c] at h
      cases h
    · rw [if_neg c] at h
      cases h
      obtain ⟨a, b⟩ := okT1_ok h1
      exact ⟨b, a, c⟩
theorem runT_ok {nm : List Str} : ∀ {es : List Tv} {prev : List TieV}, (prev.map TieV.spot).Nodup → (runT nm prev es).2 = none → ∃ tl : List TieV, es = tl.map tv4 ∧ (∀ t ∈ tl, t.Ok nm) ∧ ((prev ++ tl).map TieV.spot).Nodup
  | [], prev, nd, _ => ⟨[], rfl, (fun t h => (List.not_mem_nil h).elim), by rw [List.append_nil]; exact nd⟩
  | e :: es, prev, nd, h => by
    have h : (match standT nm prev e with | some t => runT nm (prev ++ [t]) es | none => (prev, some prev.length)).2 = none := h
    cases hs : standT nm prev e with
    | none => rw [hs] at h; cases h
    | some t =>
      rw [hs] at h
      obtain ⟨e1, o, ns⟩ := stand_ok hs
      have nd2 : ((prev ++ [t]).map TieV.spot).Nodup := by
        rw [List.map_append, List.nodup_append]
        exact ⟨nd, by simp, fun a ha b hb e => ns (by
          have hb := List.mem_singleton.mp hb
          rw [← hb, ← e]
          exact ha)⟩
      obtain ⟨tl, a, b, c⟩ := runT_ok nd2 h
      refine ⟨t :: tl, by rw [List.map_cons, e1, a], fun x hx => ?_, by rw [List.append_assoc] at c; exact c⟩
      rcases List.mem_cons.mp hx with rfl | hx
      · exact o
      · exact b x hx
theorem tv4_at {H : Hp} : ∀ {us : List V} {tl : List TieV}, Paired (TvAt H) us (tl.map tv4) → ∃ ts : List Addr, us = ts.map V.ref ∧ Paired (fun t tv => H t = some (.tup (TieV.tup tv))) ts tl
  | [], [], .nil => ⟨[], rfl, .nil⟩
  | u :: us, t :: tl, .cons h r => by
    obtain ⟨a, rfl, ha⟩ := h
    obtain ⟨ts, e, p⟩ := tv4_at r
    exact ⟨a :: ts, by rw [e]; rfl, .cons ha p⟩
theorem TsAt5.ties {H : Hp} {ta : Addr} {us : List V} {tl : List TieV} (h : TsAt5 H ta us (tl.map tv4)) : TiesAt H ta tl := by
  obtain ⟨ts, rfl, p⟩ := tv4_at h.2.1
  exact ⟨true, ts, h.1, p⟩
/-- the kinds are what they are -/
theorem kinds_one {a b : List Str} (na : a.Nodup) (nb : b.Nodup) (h : ∀ z, z ∈ a ↔ z ∈ b) (sa : sortedS a = true) (sb : sortedS b = true) : a = b := sortedS_one ((List.perm_ext_iff_of_nodup na nb).mpr h) sa sb
section
variable {C : Addr} {H : Hp} {R : Hp → Prop} {E : XK}
theorem web_make5 {pl tt : Addr} {nm cl : List Str} {tl : List TieV} (hpl : PlacesAt H pl nm cl) (htt : TiesAt H tt tl) (n1 : 1 ≤ nm.length) (n9 : nm.length ≤ 1000) (nd : nm.Nodup) (nw : ∀ x ∈ nm, isWordB x = true) (cw : ∀ x ∈ cl, isWordB x = true)
    (ok : ∀ t ∈ tl, t.Ok nm) (sp : (tl.map TieV.spot).Nodup) (few : tl.length ≤ 4800) {p dx : Addr} (hp0 : H p = none) (hdx0 : H dx = none) (ne : dx ≠ p) (k : ∀ (rs rw' : List RowV) (H' : Hp), NewW C H H' p nm cl rs → Paired (RowOf nm) tl rw' → rs.Perm rw' → Same H H' → R H') :
    spWebI C [.ref p, .ref pl, .ref tt] (upd (upd H dx (.own p)) p (.ins C dx [])) (fun v H' => v = .non ∧ R H') E := by
  have s4 : Same H (upd (upd H dx (.own p)) p (.ins C dx [])) := (same_new hdx0).trans (same_new (by rw [upd_ne ne.symm]; exact hp0))
  have hp4 : (upd (upd H dx (.own p)) p (.ins C dx [])) p = some (.ins C dx []) := upd_same
  generalize upd (upd H dx (.own p)) p (.ins C dx []) = H4 at *
  refine ⟨p, dx, pl, tt, nm, cl, tl, rfl, hp4, ?_, ?_, n1, n9, nd, nw, cw, ok, sp, few, fun q dc r wb rs rw2 H5 hq0 hdc0 hr0' hwb0 web pr2 pm srt bt => ⟨rfl, ?_⟩⟩
  · obtain ⟨ts, h1, h2, h3⟩ := hpl
    exact ⟨ts, s4 _ _ h1, h2, fun i t ht => by
      obtain ⟨x, y, a, b, c⟩ := h3 i t ht
      exact ⟨x, y, a, b, s4 _ _ c⟩⟩
  · obtain ⟨kb, us, h1, h2⟩ := htt
    refine ⟨kb, us, s4 _ _ h1, Paired.mapP h2 fun u tv e => s4 _ _ e⟩
  · exact k rs rw2 H5 ⟨⟨q, dc, r, wb, web, hp0, s4.free hq0, s4.free hdc0, s4.free hr0', s4.free hwb0⟩⟩ pr2 pm fun b o e => bt _ _ (s4 _ _ e) (ne_of_none e hp0)
end
theorem row_lt {nm : List Str} (nd : nm.Nodup) : ∀ {tl : List TieV} {rw' : List RowV}, Paired (RowOf nm) tl rw' → (∀ t ∈ tl, t.Ok nm) → ∀ r ∈ rw', (r.i < r.j ∧ r.j < nm.length) ∧ isWordB r.kd = true
  | _, _, .nil, _, _, h => (List.not_mem_nil h).elim
  | t :: tl, r0 :: rw', .cons h p, ok, r, hr => by
    rcases List.mem_cons.mp hr with rfl | hr
    · obtain ⟨a, b, ha, hb, e1, e2, e3, _⟩ := h
      have o := ok t List.mem_cons_self
      have ne : a ≠ b := fun e => o.ne (by
        rw [e, hb] at ha
        exact (Option.some.inj ha).symm)
      have la := (List.getElem?_eq_some_iff.mp ha).1
      have lb := (List.getElem?_eq_some_iff.mp hb).1
      refine ⟨⟨by rw [e1, e2]; omega, by rw [e2]; omega⟩, by rw [e3]; exact o.kw⟩
    · exact row_lt nd p (fun x hx => ok x (List.mem_cons_of_mem _ hx)) r hr
theorem shaped_ord5 {nm : List Str} {rs : List RowV} (nw : ∀ x ∈ nm, isWordB x = true) (h : ∀ r ∈ rs, (r.i < r.j ∧ r.j < nm.length) ∧ isWordB r.kd = true) : SeqAt.shaped (dOrd nm rs) = true := by
  obtain ⟨a, b⟩ := lay_ords nw rfl rs (fun r hr => (h r hr).1) fun r hr => (h r hr).2
  unfold dOrd SeqAt.shaped
  rw [Bool.and_eq_true, decide_eq_true_eq]
  refine ⟨?_, ?_⟩
  · simp only [PyData.canLay0]
    exact a
  · simp only [PyData.depth]
    omega
theorem paired_of {α β : Type} {F : α → β → Prop} : ∀ {l : List α} {m : List β}, l.length = m.length → (∀ (i : Nat) (a : α) (b : β), l[i]? = some a → m[i]? = some b → F a b) → Paired F l m
  | [], [], _, _ => .nil
  | a :: l, b :: m, e, h => .cons (h 0 a b rfl rfl) (paired_of (by simpa using e) fun i x y h1 h2 => h (i + 1) x y h1 h2)
def psOf (nm cl : List Str) : List Pv2 := (nm.zip cl).map fun q => (V.str q.1, V.str q.2)
theorem places_ps {H : Hp} {pl : Addr} {nm cl : List Str} (h : PlacesAt H pl nm cl) (e : cl.length = nm.length) : ∃ ts, PsAt H pl ts (psOf nm cl) := by
  obtain ⟨ts, h1, h2, h3⟩ := h
  refine ⟨ts, h1, paired_of (by unfold psOf; rw [List.length_map, List.length_zip, h2, e, Nat.min_self]) fun i t q ht hq => ?_⟩
  obtain ⟨x, y, hx, hy, et⟩ := h3 i t ht
  unfold psOf at hq
  have hz : (nm.zip cl)[i]? = some (x, y) := by rw [List.getElem?_zip_eq_some]; exact ⟨hx, hy⟩
  rw [List.getElem?_map, hz] at hq
  cases hq
  exact et
theorem ps_fine {nm cl : List Str} (n14 : ∀ z ∈ nm, z ∈ w14) (c14 : ∀ z ∈ cl, z ∈ w14) (H : Hp) : OdP H (psOf nm cl) ∧ FineP (psOf nm cl) := by
  have : ∀ q ∈ psOf nm cl, ∃ x y, q = (V.str x, V.str y) ∧ x ∈ w14 ∧ y ∈ w14 := fun q hq => by
    obtain ⟨⟨x, y⟩, hz, rfl⟩ := List.mem_map.mp hq
    obtain ⟨h1, h2⟩ := List.of_mem_zip hz
    exact ⟨x, y, rfl, n14 x h1, c14 y h2⟩
  refine ⟨fun q hq => ?_, fun q hq => ?_⟩
  · obtain ⟨x, y, rfl, hx, hy⟩ := this q hq
    exact ⟨⟨_, odv_w hx⟩, ⟨_, odv_w hy⟩⟩
  · obtain ⟨x, y, rfl, hx, hy⟩ := this q hq
    exact ⟨fineS_w hx, fineS_w hy⟩
theorem ties_ts {H : Hp} {ta : Addr} {us : List Addr} {nm : List Str} {tl : List TieV} {rw' : List RowV} (hta : H ta = some (.lst (us.map V.ref))) (pu : Paired (fun t tv => H t = some (.tup (TieV.tup tv))) us tl) (pr : Paired (RowOf nm) tl rw') (n14 : ∀ z ∈ nm, z ∈ w14) (k14 : ∀ r ∈ rw', r.kd ∈ w14) (w2 : ∀ r ∈ rw', 1 ≤ r.w ∧ r.w ≤ 2) : TsX H ta (us.map V.ref) (tl.map tv4) := by
  have mem : ∀ t ∈ tl, t.x ∈ w14 ∧ t.y ∈ w14 ∧ t.kd ∈ w14 ∧ 1 ≤ t.w ∧ t.w ≤ 2 := fun t ht => by
    obtain ⟨r, hr, a, b, ha, hb, _, _, e3, e4⟩ := paired_left pr t ht
    have := w2 r hr
    exact ⟨n14 _ (List.mem_of_getElem? ha), n14 _ (List.mem_of_getElem? hb), by rw [← e3]; exact k14 r hr, by omega, by omega⟩
  refine ⟨⟨hta, ?_, fun e he v hv => ?_⟩, fun e he v hv => ?_⟩
  · clear mem pr hta
    induction pu with
    | nil => exact .nil
    | cons h _ ih => exact .cons ⟨_, rfl, h⟩ ih
  · obtain ⟨t, ht, rfl⟩ := List.mem_map.mp he
    obtain ⟨a, b, c, d1, d2⟩ := mem t ht
    have hv : v ∈ [V.str t.x, .str t.y, .str t.kd, .int t.w] := hv
    simp only [List.mem_cons, List.not_mem_nil, or_false] at hv
    rcases hv with rfl | rfl | rfl | rfl
    · exact ⟨_, odv_w a⟩
    · exact ⟨_, odv_w b⟩
    · exact ⟨_, odv_w c⟩
    · refine ⟨_, .lf (.int ?_)⟩
      have : t.w = 1 ∨ t.w = 2 := by omega
      rcases this with h | h <;> rw [h] <;> decide
  · obtain ⟨t, ht, rfl⟩ := List.mem_map.mp he
    obtain ⟨a, b, c, d1, d2⟩ := mem t ht
    have hv : v ∈ [V.str t.x, .str t.y, .str t.kd, .int t.w] := hv
    simp only [List.mem_cons, List.not_mem_nil, or_false] at hv
    rcases hv with rfl | rfl | rfl | rfl
    · exact fineS_w a
    · exact fineS_w b
    · exact fineS_w c
    · exact fineS_int (by omega)
/-- what the call has told -/
def Fd (C : Addr) (H : Hp) (pl ta fo : Addr) (ps : List Pv2) (es : List Tv) : Prop :=
  (∃ (wd : Str) (x y : V) (d : PyData), dueL ps es = [.str wd, x] ∧ H fo = some (.lst [.str wd, y]) ∧ OdV H y d ∧ OdV H x d ∧ (reprText wd).length ≤ 100) ∨
  (dueL ps es = [] ∧ ∃ (we : Addr) (H0 : Hp) (nm cl : List Str) (rs : List RowV), H fo = some (.lst [.str "told", .ref we]) ∧ NewW C H0 H we nm cl rs ∧ H0 fo = none ∧ (∃ o, H0 pl = some o) ∧ (∃ o, H0 ta = some o) ∧ nm.length = ps.length ∧ nm.length ≤ 1000 ∧ SeqAt.shaped (dOrd nm rs) = true)
theorem Fd.same {C : Addr} {H H' : Hp} {pl ta fo : Addr} {ps : List Pv2} {es : List Tv} (h : Fd C H pl ta fo ps es) (s : Same H H') : Fd C H' pl ta fo ps es := by
  rcases h with ⟨wd, x, y, d, a, b, c, e, f⟩ | ⟨a, we, H0, nm, cl, rs, b, N, c⟩
  · exact .inl ⟨wd, x, y, d, a, s _ _ b, c.same s, e.same s, f⟩
  · obtain ⟨q, dc, r, wd, X, n1, n2, n3, n4, n5⟩ := N.ex
    exact .inr ⟨a, we, H0, nm, cl, rs, s _ _ b, ⟨⟨q, dc, r, wd, X.same s, n1, n2, n3, n4, n5⟩⟩, c⟩
theorem NewW.is5 {C : Addr} {H H' : Hp} {we : Addr} {nm cl : List Str} {rs : List RowV} (N : NewW C H H' we nm cl rs) : WebIs C H' we nm cl rs := by
  obtain ⟨q, dc, r, wd, X, _⟩ := N.ex
  exact ⟨q, dc, r, wd, X⟩
theorem dup_mem {z : Str} : ∀ {xs seen : List Str}, dupOf seen xs = some z → z ∈ xs
  | [], _, h => by cases h
  | x :: xs, seen, h => by
    unfold dupOf at h
    by_cases c : x ∈ seen
    · rw [if_pos c] at h
      cases h
      exact List.mem_cons_self
    · rw [if_neg c] at h
      exact List.mem_cons_of_mem _ (dup_mem h)
theorem run_lt {nm : List Str} : ∀ {es : List Tv} {prev : List TieV} {n : Nat}, (runT nm prev es).2 = some n → n ≤ prev.length + es.length
  | [], prev, n, h => by cases h
  | e :: es, prev, n, h => by
    have h : (match standT nm prev e with | some t => runT nm (prev ++ [t]) es | none => (prev, some prev.length)).2 = some n := h
    cases hs : standT nm prev e with
    | none =>
      rw [hs] at h
      cases h
      omega
    | some t =>
      rw [hs] at h
      have := run_lt h
      rw [List.length_append] at this
      simp only [List.length_cons, List.length_nil] at this ⊢
      omega
theorem fault_dup {ps : List Pv2} {z : Str} (h : faultP ps = some (.twice z)) : ∃ q ∈ ps, q.1 = .str z := by
  unfold faultP at h
  by_cases c : ps = []
  · rw [if_pos c] at h
    cases h
  rw [if_neg c] at h
  cases hb : badP ps with
  | some v => rw [hb] at h; cases h
  | none =>
  rw [hb] at h
  cases hd : dupOf [] (ps.map fun q => strV q.1) with
  | none =>
    have h : (match dupOf [] (ps.map fun q => strV q.1) with | some z => some (PFault.twice z) | none => none) = some (.twice z) := h
    rw [hd] at h
    cases h
  | some x =>
    have h : (match dupOf [] (ps.map fun q => strV q.1) with | some z => some (PFault.twice z) | none => none) = some (.twice z) := h
    rw [hd] at h
    cases h
    obtain ⟨q, hq, e⟩ := List.mem_map.mp (dup_mem hd)
    exact ⟨q, hq, by rw [← e]; exact (word_str (bad_none hb q hq).1).1⟩
theorem od_back {H : Hp} {dx p C : Addr} {v : V} {d : PyData} (h : OdV (upd (upd H dx (.own p)) p (.ins C dx [])) v d) : OdV H v d := h.stay fun b o _ e ho => by
  by_cases c1 : b = p
  · subst c1
    rw [upd_same] at e
    cases e
    rcases ho with ⟨_, z⟩ | ⟨_, z⟩ | ⟨_, z⟩ <;> cases z
  · rw [upd_ne c1] at e
    by_cases c2 : b = dx
    · subst c2
      rw [upd_same] at e
      cases e
      rcases ho with ⟨_, z⟩ | ⟨_, z⟩ | ⟨_, z⟩ <;> cases z
    · rw [upd_ne c2] at e
      exact e
end Nm
set_option autoImplicit false
set_option maxRecDepth 100000
set_option maxHeartbeats 16000000
/-! the law -/
namespace Nm
open PySem PySem.Spec PyProof.Rows L2 LamX
theorem pl_ne_ta {H : Hp} {pl ta : Addr} {ts : List Addr} {ps : List Pv2} {us : List V} {es : List Tv} (a : PsAt H pl ts ps) (b : TsX H ta us es) (ne : ps ≠ []) : pl ≠ ta := fun z => by
  subst z
  obtain ⟨a1, a2⟩ := a
  obtain ⟨b1, b2, _⟩ := b.1
  rw [a1] at b1
  have e := HO.lst.inj (Option.some.inj b1)
  cases a2 with
  | nil => exact ne rfl
  | cons h _ =>
    cases b2 with
    | nil => cases e
    | @cons u x us' es' h' _ =>
      rw [List.map_cons] at e
      obtain ⟨e1, _⟩ := List.cons.inj e
      subst e1
      cases x with
      | non => cases h'
      | t4 a b k m =>
        obtain ⟨t, e2, h'⟩ := h'
        cases e2
        rw [h] at h'
        cases h'
      | t3 a b k =>
        obtain ⟨t, e2, h'⟩ := h'
        cases e2
        rw [h] at h'
        cases h'
      | l4 a b k m =>
        obtain ⟨t, e2, h'⟩ := h'
        cases e2
        rw [h] at h'
        cases h'
theorem due_ne {ps : List Pv2} {es : List Tv} (h : dueL ps es = []) : ps ≠ [] := fun z => by
  subst z
  unfold dueL faultP at h
  rw [if_pos rfl] at h
  cases h
theorem NewW.sm {C : Addr} {H0 H H' : Hp} {we : Addr} {nm cl : List Str} {rs : List RowV} (N : NewW C H0 H we nm cl rs) (s : Same H H') : NewW C H0 H' we nm cl rs := by
  obtain ⟨q, dc, r, wd, X, n1, n2, n3, n4, n5⟩ := N.ex
  exact ⟨⟨q, dc, r, wd, X.same s, n1, n2, n3, n4, n5⟩⟩
theorem OrdAt.same5 {H H' : Hp} {l : Addr} {nm : List Str} {rs : List RowV} (h : OrdAt H l nm rs) (s : Same H H') : OrdAt H' l nm rs := by
  obtain ⟨ts, a, b⟩ := h
  exact ⟨ts, s _ _ a, Paired.mapP b fun t r ⟨x, y, e1, e2, e3⟩ => ⟨x, y, e1, e2, s _ _ e3⟩⟩
theorem OrdAt.off5 {H : Hp} {l d : Addr} {nm : List Str} {rs : List RowV} {xs ys : List V} (h : OrdAt H l nm rs) (ne : l ≠ d) (hd : H d = some (.lst xs)) : OrdAt (upd H d (.lst ys)) l nm rs := by
  obtain ⟨ts, a, b⟩ := h
  exact ⟨ts, by rw [upd_ne ne]; exact a, Paired.mapP b fun t r ⟨x, y, e1, e2, e3⟩ => ⟨x, y, e1, e2, by rw [upd_ne (ne_of e3 hd (by intro z; cases z))]; exact e3⟩⟩
theorem nodup_len {α : Type} [DecidableEq α] : ∀ {l m : List α}, l.Nodup → (∀ x ∈ l, x ∈ m) → l.length ≤ m.length
  | [], _, _, _ => Nat.zero_le _
  | a :: l, m, nd, h => by
    obtain ⟨h1, h2⟩ := List.nodup_cons.mp nd
    have ha := h a List.mem_cons_self
    have i := nodup_len (l := l) (m := m.erase a) h2 fun x hx => (List.mem_erase_of_ne (fun e : x = a => h1 (by rw [← e]; exact hx))).mpr (h x (List.mem_cons_of_mem _ hx))
    rw [List.length_erase_of_mem ha] at i
    have := List.length_pos_of_mem ha
    rw [List.length_cons]
    omega
theorem w14_text {z : Str} (h : z ∈ w14) : (reprText z).length ≤ 100 ∧ z.length ≤ 100 := by
  cases odv_w (H := fun _ => none) h with
  | lf l => cases l with
    | str a b => exact ⟨a, b⟩
theorem kc_data {H : Hp} {l1 l2 : Addr} {ks cs : List Str} (e1 : H l1 = some (.lst (ks.map V.str))) (e2 : H l2 = some (.lst (cs.map V.str))) (k14 : ∀ z ∈ ks, z ∈ w14) (c14 : ∀ z ∈ cs, z ∈ w14) (kl : ks.length ≤ 100) (cl : cs.length ≤ 100) :
    DgAll H [.ref l1, .ref l2] [.list (ks.map PyData.str), .list (cs.map PyData.str)] 1000000 ∧ PyData.depthAll [.list (ks.map PyData.str), .list (cs.map PyData.str)] ≤ 50 := by
  obtain ⟨a1, b1⟩ := dg_strs5 (H := H) fun z hz => w14_text (k14 z hz)
  obtain ⟨a2, b2⟩ := dg_strs5 (H := H) fun z hz => w14_text (c14 z hz)
  refine ⟨.cons (n := 410000) (.lst e1 a1 (by omega)) (.cons (n := 410000) (m := 0) (.lst e2 a2 (by omega)) .nil (Nat.le_refl _)) (by omega), ?_⟩
  simp only [PyData.depthAll, PyData.depth]
  omega
theorem cutT2 {x y : V} : cutV [x, y] none (some 1) = [x] := cut_upto [x, y] 1
abbrev nL01 : List Str := ["_law_script", "_law_pen_here", "_law_turn", "_law_raw_here", "_law_web", "_law_places", "_law_ties_here", "_law_lap", "_law_due_here", "_law_kept", "_law_found", "_law_made", "_law_told_here"]
theorem scL01 : FnScope nL01 ["_law_script"] (defScope sLaw) := ⟨rfl, rfl, rfl, by decide +kernel, rfl, by decide +kernel, by decide +kernel⟩
abbrev qL01 : Str := "law.<locals>.<lambda>"
structure TxtL01 (K : PySem.W.Frag) (mg : Str → Option Value) (C fi CB CN CT CI CE : Addr) : Prop extends TxtM K mg C fi where
  repr : mg "repr" = none
  xfB : XfC K CB
  nB : PySem.W.findIn K (.ref CB) "number" = some none
  xfN : XfC K CN
  nN : PySem.W.findIn K (.ref CN) "name" = some none
  xfT : XfC K CT
  nT : PySem.W.findIn K (.ref CT) "name" = some none
  xfI : XfC K CI
  nI : PySem.W.findIn K (.ref CI) "number" = some none
  mB : mg "BadNumber" = some (.ref CB)
  mN : mg "BadName" = some (.ref CN)
  mT : mg "TwiceTold" = some (.ref CT)
  mI : mg "BadTie" = some (.ref CI)
  mE : mg "NamelessError" = some (.ref CE)
  exm : ExmO K CB CN CT CI
abbrev tWb (C CB CN CT CI : Addr) (E : XK) : TE := tMake C (spWebX C CB CN CT CI) [] E (tCons (tVar 5) (tCons (tVar 6) tNil))
section
variable {P : Program} {w : World} {K : PySem.W.Frag} {mg : Str → Option Value} {base : Heap}
def spLaw01 (K : PySem.W.Frag) (tbs : List (Addr × Str)) : Sp := fun vs H Q _ => ∃ (a : Addr) (ns : List Int), vs = [.ref a] ∧ SqL K H a (ns.map V.int) ∧ ns.length ≤ 63 ∧ (∀ q ∈ tbs, H q.1 = some (.tbl #[])) ∧ ∀ H', Q (.bl true) H'
theorem run_law01 {tbs : List (Addr × Str)} {f c PT C fi CB CN CT CI CE gO : Addr} {fd fdO fdX : FuncData} (F : Fun K "law" "law" sLaw f fd) (T : TxtL01 K mg C fi CB CN CT CI CE) (TB : TabB base mg c PT) (hmT : (PT, qL01) ∈ tbs) (hTu : ∀ p ∈ tbs, p.1 = PT → p.2 = qL01)
    (hcode : ∀ (cdv : Value), (∃ oc od kV doc pm an ct osl, K.lookup f = some ⟨oc, od, .func (PySem.W.fnOf "law" "law" (defArgs sLaw) (defBody sLaw) (defScope sLaw) .none kV doc pm an cdv ct), osl⟩) → cdv = .ref c)
    (Fc : Fun K "_law_outcome" "_law_outcome" sOutcome gO fdO) (mg' : mg "_law_outcome" = some (.ref gO)) (bg : Binds K fdO ["_law_call"] [])
    (Gp : Def P w K mg base "_law_pen" ["_law_script"] 1 (spPen K)) (G1 : Def P w K mg base "_law_one_of" ["_law_pen_here", "_law_some"] 3 spOne) (Gr : Def P w K mg base "_law_raw" ["_law_pen_here", "_law_most"] 4 spRaw)
    (Gv : Def P w K mg base "_law_value" ["_law_pen_here", "_law_raw_here"] 7 (spVa C)) (Gi : Def P w K mg base "_law_is" ["_law_web", "_law_raw_here"] 3 (spIs C)) (Gt : Def P w K mg base "_law_told" ["_law_pen_here", "_law_raw_here"] 3 spTo)
    (Gsp : Def P w K mg base "_law_spoilt_place" ["_law_pen_here", "_law_places"] 6 spSpl) (Gst : Def P w K mg base "_law_spoilt_tie" ["_law_pen_here", "_law_places", "_law_ties_here"] 6 spSpt) (Gdu : Def P w K mg base "_law_due" ["_law_places", "_law_ties_here"] 3 spDu)
    (GiX : FnOk P w K mg base (L2.CX P w) 7 fi fdX ["self", "places", "ties"] (spWebX C CB CN CT CI)) (biX : Binds K fdX ["self", "places", "ties"] [])
    (Mp : MethD P w K mg base C "places" ["self"] 1 (spPlaces C)) (Ms : MethD P w K mg base C "ties" ["self"] 1 (spTies C)) (Mk' : MethD P w K mg base C "kinds" ["self"] 1 (spKinds C)) (Mu : MethD P w K mg base C "colours" ["self"] 1 (spColN C)) (Ml : MethD P w K mg base C "__len__" ["self"] 1 (spLen C)) : RunC P w K mg base CX0 f fd "_law_script" (spLaw01 K tbs) := by
  refine runC_of F scL01 fun cdv s H v Q E hcd hsp => ?_
  obtain rfl := hcode cdv hcd
  have hr : Room 11 (callerA.deeper (envOfC "law" (defScope sLaw) s.heap.objs.size f (.ref c))) := Room.deeper (k := 11) ⟨rfl, by decide +kernel, by decide +kernel⟩ _
  have hu := hu_of hr
  have hg : (cxOf CX0 P w K mg base nL01 "law" (defScope sLaw) f (.ref c) callerA [] s H E).nox.A.guards = some [] := rfl
  have hu64 : (cxOf CX0 P w K mg base nL01 "law" (defScope sLaw) f (.ref c) callerA [] s H E).nox.A.units + 64 < cLine := hr.units
  obtain ⟨fp, fdp, Gp, mp, kp, bp⟩ := Gp.ex
  obtain ⟨f1, fd1, G1, m1, k1, b1⟩ := G1.ex
  obtain ⟨fr, fdr, Gr, mr, kr, br⟩ := Gr.ex
  obtain ⟨fv, fdv, Gv, mv, kv, bv⟩ := Gv.ex
  obtain ⟨fis, fdis, Gi, mi, ki, bi⟩ := Gi.ex
  obtain ⟨ft, fdt, Gt, mt, kt, bt⟩ := Gt.ex
  obtain ⟨fsp, fdsp, Gsp, msp, ksp, bsp⟩ := Gsp.ex
  obtain ⟨fst', fdst, Gst, mst, kst, bst⟩ := Gst.ex
  obtain ⟨fdu, fddu, Gdu, mdu, kdu, bdu⟩ := Gdu.ex
  obtain ⟨fpl, fdpl, Mp, mpl, bpl⟩ := Mp.ex
  obtain ⟨fti, fdti, Ms, mti, bti⟩ := Ms.ex
  obtain ⟨fki, fdki, Mk', mki, bki⟩ := Mk'.ex
  obtain ⟨fco, fdco, Mu, mco, bco⟩ := Mu.ex
  obtain ⟨fln, fdln, Ml, mln, bln⟩ := Ml.ex
  obtain ⟨oc, od, kVc, doc, pm, an, cdc, ct, osl, rfl, lkO, hcg⟩ := Fc.ex
  obtain ⟨sa, ns, hv, hs, hn, hPT, k⟩ := hsp
  cases hv
  refine ⟨_, PSs.nox (pss_cons (ps_set (i := 1) scL01.nd rfl (Or.inl rfl) (pe_call Gp (hr.mono (by decide)) (by rfl) mp kp bp .nil pass0 (pa_cons (pv 0) pa_nil)))
    (pss_cons (ps_for PassesOwn.never rfl (pi_range1 (by rfl) T.range (pa_cons (pe_callB (call_max2 rfl) (by rfl) T.max (by decide +kernel) (pa_cons pe_int (pa_cons (pe_callB (call_min2 rfl) (by rfl) T.min (by decide +kernel) (pa_cons pe_int (pa_cons (pe_callB call_len_seq (by rfl) T.len PySem.boot_len (pa_cons (pv 0) pa_nil)) pa_nil))) pa_nil))) pa_nil)) (pg_name (i := 2) scL01.nd rfl (Or.inl rfl))
      (Evl.pss_cut (ps_set (i := 3) scL01.nd rfl (Or.inl rfl) (pe_call Gr (hr.mono (by decide)) (by rfl) mr kr br .nil pass0 (pa_cons (pv 1) (pa_cons pe_int pa_nil))))
      (Evl.pss_cut (ps_set (i := 4) scL01.nd rfl (Or.inl rfl) (pe_call Gv (hr.mono (by decide)) (by rfl) mv kv bv .nil pass0 (pa_cons (pv 1) (pa_cons (pv 3) pa_nil))))
      (Evl.pss_cut (ps_if (pt_not (pt_val (pe_call Gi (hr.mono (by decide)) (by rfl) mi ki bi .nil pass0 (pa_cons (pv 4) (pa_cons (pv 3) pa_nil))))) (pss_one (ps_ret pe_bl)) pss_nil)
      (Evl.pss_cut (ps_asg (pe_call Gt (hr.mono (by decide)) (by rfl) mt kt bt .nil pass0 (pa_cons (pv 1) (pa_cons (pv 3) pa_nil))) (pg_lst rfl (pgs_cons (pg_name (i := 5) scL01.nd rfl (.inr rfl)) (pgs_cons (pg_name (i := 6) scL01.nd rfl (.inr rfl)) pgs_nil))))
      (Evl.pss_cut (ps_for PassesOwn.never rfl (pi_range1 (by rfl) T.range (pa_cons (pe_call G1 (hr.mono (by decide)) (by rfl) m1 k1 b1 .nil pass0 (pa_cons (pv 1) (pa_cons (pe_lst (pa_cons pe_int (pa_cons pe_int (pa_cons pe_int (pa_cons pe_int (pa_cons pe_int pa_nil)))))) pa_nil))) pa_nil)) (pg_name (i := 7) scL01.nd rfl (Or.inl rfl))
          (pss_one (ps_set (i := 5) scL01.nd rfl (Or.inr rfl) (pe_ifExp (pt_cmpR (op_neE (Nat.lt_of_succ_lt hu)) (pv 5) (pe_lst pa_nil) (by rfl)) (pe_call Gsp (hr.mono (by decide)) (by rfl) msp ksp bsp .nil pass0 (pa_cons (pv 1) (pa_cons (pv 5) pa_nil))) (pv 5)))))
      (Evl.pss_cut (ps_for PassesOwn.never rfl (pi_range1 (by rfl) T.range (pa_cons (pe_call G1 (hr.mono (by decide)) (by rfl) m1 k1 b1 .nil pass0 (pa_cons (pv 1) (pa_cons (pe_lst (pa_cons pe_int (pa_cons pe_int (pa_cons pe_int (pa_cons pe_int pa_nil))))) pa_nil))) pa_nil)) (pg_name (i := 7) scL01.nd rfl (Or.inl rfl))
          (pss_one (ps_set (i := 6) scL01.nd rfl (Or.inr rfl) (pe_call Gst (hr.mono (by decide)) (by rfl) mst kst bst .nil pass0 (pa_cons (pv 1) (pa_cons (pv 5) (pa_cons (pv 6) pa_nil)))))))
      (Evl.pss_cut (ps_par (i := 8) (j := 9) (by rfl) scL01.nd rfl rfl (by decide) rfl rfl (pa_cons (pe_call Gdu (hr.mono (by decide)) (by rfl) mdu kdu bdu .nil pass0 (pa_cons (pv 5) (pa_cons (pv 6) pa_nil))) (pa_cons (pe_callB (call_reprT hg hu64) (by rfl) T.repr (by decide +kernel) (pa_cons (pe_tup (pa_cons (pv 5) (pa_cons (pv 6) pa_nil))) pa_nil)) pa_nil)) (by rfl))
      (Evl.pss_cut (ps_set (i := 10) scL01.nd rfl (Or.inl rfl) (pe_lamcall (T := tbs) (k := 8) (t := tWb C CB CN CT CI) (by rfl) mg' Fc.kp lkO hcg bg scOu rfl (.inl rfl) (out_gives T.xfB T.nB T.xfN T.nN T.xfT T.nT T.xfI T.nI T.mB T.mN T.mT T.mI T.mE T.exm) TB rfl
            hmT hTu (hr.mono (by decide)) (by show LamS (defScope sLaw) _; exact lamS_by (by decide +kernel)) rfl (fun _ _ _ _ _ => rfl)
            (fun A outer s H E f c' hr' => (pe_make T.mkC GiX hr' (by rfl) T.mgC biX .nil (passes_call (takes_of rfl rfl rfl rfl) fun _ _ _ _ h => h) (pa_cons (pv 5) (pa_cons (pv 6) pa_nil))))))
      (Evl.pss_cut (ps_if (pt_cmpR op_ne (pe_callB (call_reprT hg hu64) (by rfl) T.repr (by decide +kernel) (pa_cons (pe_ifExp (pt_cmpR (op_eqE (Nat.lt_of_succ_lt hu)) (pv 8) (pe_lst pa_nil) (by rfl)) (pe_slice sl_list (pv 10) po_none (po_some pe_int)) (pv 10)) pa_nil))
            (pe_callB (call_reprT hg hu64) (by rfl) T.repr (by decide +kernel) (pa_cons (pe_ifExp (pt_cmpR (op_neE (Nat.lt_of_succ_lt hu)) (pv 8) (pe_lst pa_nil) (by rfl)) (pv 8) (pe_lst (pa_cons pe_str pa_nil))) pa_nil)) (nomark _)) (pss_one (ps_ret pe_bl)) pss_nil)
      (Evl.pss_cut (ps_if (pt_cmpR op_ne (pe_callB (call_reprT hg hu64) (by rfl) T.repr (by decide +kernel) (pa_cons (pe_tup (pa_cons (pv 5) (pa_cons (pv 6) pa_nil))) pa_nil)) (pv 9) (nomark _)) (pss_one (ps_ret pe_bl)) pss_nil)
      (Evl.pss_cut (ps_if (pt_cmpR (op_eqE (Nat.lt_of_succ_lt hu)) (pv 8) (pe_lst pa_nil) (by rfl))
          (Evl.pss_cut (ps_set (i := 11) scL01.nd rfl (Or.inl rfl) (pe_meth0 (pe_ix ix_list (pv 10) pe_int (fun _ _ => rfl)) T.cl mti Ms (hr.mono (by decide)) bti .nil pass0))
          (Evl.pss_cut (ps_expr (pe_bm PySem.F.plainAttrs_list PySem.F.slot_list_append PySem.F.type_list_append mt_append (pv 5) (pa_cons (pe_tup (pa_cons pe_str (pa_cons pe_str pa_nil))) pa_nil)))
          (Evl.pss_cut (ps_expr (pe_bm PySem.F.plainAttrs_list PySem.F.slot_list_append PySem.F.type_list_append mt_append (pv 6) (pa_cons pe_non pa_nil)))
          (pss_one (ps_if (PW.pt (pw_or (pt_cmpR (op_neD hu64) (pe_meth0 (pe_ix ix_list (pv 10) pe_int (fun _ _ => rfl)) T.cl mti Ms (hr.mono (by decide)) bti .nil pass0) (pv 11) (nomark _)) (pw_or1 (pt_cmpR op_ne (pe_callB (call_lenOwn Ml mln (hr.mono (by decide)) bln pass0) (by rfl) T.len PySem.boot_len (pa_cons (pe_ix ix_list (pv 10) pe_int (fun _ _ => rfl)) pa_nil)) (pe_op op_sub (pe_callB call_len_seq (by rfl) T.len PySem.boot_len (pa_cons (pv 5) pa_nil)) pe_int) (nomark _))))) (pss_one (ps_ret pe_bl)) pss_nil))))) pss_nil)
      (Evl.pss_cut (ps_set (i := 9) scL01.nd rfl (Or.inl rfl) (pe_callB (call_reprT hg hu64) (by rfl) T.repr (by decide +kernel) (pa_cons (pe_tup (pa_cons (pe_meth0 (pv 4) T.cl mki Mk' (hr.mono (by decide)) bki .nil pass0) (pa_cons (pe_meth0 (pv 4) T.cl mco Mu (hr.mono (by decide)) bco .nil pass0) pa_nil))) pa_nil)))
      (Evl.pss_cut (ps_for PassesOwn.never rfl (pi_tup (pe_tup (pa_cons (pe_meth0 (pv 4) T.cl mpl Mp (hr.mono (by decide)) bpl .nil pass0) (pa_cons (pe_meth0 (pv 4) T.cl mti Ms (hr.mono (by decide)) bti .nil pass0) (pa_cons (pe_meth0 (pv 4) T.cl mki Mk' (hr.mono (by decide)) bki .nil pass0) (pa_cons (pe_meth0 (pv 4) T.cl mco Mu (hr.mono (by decide)) bco .nil pass0) pa_nil)))))) (pg_name (i := 12) scL01.nd rfl (Or.inl rfl))
          (pss_one (ps_expr (pe_bm PySem.F.plainAttrs_list PySem.F.slot_list_append PySem.F.type_list_append mt_append (pv 12) (pa_cons pe_non pa_nil)))))
      (pss_one (ps_if (PW.pt (pw_or (pt_not (pt_val (pe_call Gi (hr.mono (by decide)) (by rfl) mi ki bi .nil pass0 (pa_cons (pv 4) (pa_cons (pv 3) pa_nil))))) (pw_or1 (pt_cmpR op_ne (pe_callB (call_reprT hg hu64) (by rfl) T.repr (by decide +kernel) (pa_cons (pe_tup (pa_cons (pe_meth0 (pv 4) T.cl mki Mk' (hr.mono (by decide)) bki .nil pass0) (pa_cons (pe_meth0 (pv 4) T.cl mco Mu (hr.mono (by decide)) bco .nil pass0) pa_nil))) pa_nil)) (pv 9) (nomark _))))) (pss_one (ps_ret pe_bl)) pss_nil))))))))))))))))
    (pss_one (ps_ret pe_bl)))), ?_⟩
  have lim := sizeLine_eq
  refine ⟨_, rfl, sa, ns, rfl, hs, hn, fun p g H1 hp0 hg0 S1 s1 => ?_⟩
  have T1 : Tabs tbs H1 := Tabs.ext (fun q hq => TabS.nil (hPT q hq)) s1
  refine ⟨_, rfl, sa, _, rfl, .inl (sqL_sameR hs s1), 4, _, rfl, 1, _, rfl, _, rfl, ?_, ?_, ?_⟩
  · generalize ((List.map V.int ns).length : Int) = z
    split <;> (try split) <;> omega
  · generalize ((List.map V.int ns).length : Int) = z
    split <;> (try split) <;> omega
  refine for_range (lo := 0) (n := _) (fun i σ H2 => Pen H2 p g ∧ Tabs tbs H2 ∧ ∃ v2 v3 v4 v5 v6 v7 v8 v9 v10 v11 v12, σ = [some (.ref sa), some (.ref p), v2, v3, v4, v5, v6, v7, v8, v9, v10, v11, v12]) ⟨S1, T1, none, none, none, none, none, none, none, none, none, none, none, rfl⟩ ?_ ?_
  rotate_left
  · rintro σ H2 ⟨S2, _, _, _, _, _, _, _, _, _, _, _, _, rfl⟩
    exact k _
  rintro i σ H2 hi ⟨S2, T2, v2, v3, v4, v5, v6, v7, v8, v9, v10, v11, v12, rfl⟩
  -- a raw web
  refine ⟨fun σ H3 => ∃ (R : Addr) (nm cl : List Str) (rs : List RowV), σ = [some (.ref sa), some (.ref p), some (.int (0 + (i : Int))), some (.ref R), v4, v5, v6, v7, v8, v9, v10, v11, v12] ∧ Raw H3 p g R nm cl rs ∧ RawOk nm cl rs ∧ rs.length ≤ 20 ∧ (∀ z ∈ nm, z ∈ w14) ∧ (∀ z ∈ cl, z ∈ w14) ∧ (∀ r ∈ rs, r.kd ∈ w14) ∧ (∀ r ∈ rs, r.w ≤ 2) ∧ nm.length ≤ 5 ∧ Pen H3 p g ∧ Tabs tbs H3, ?_, ?_⟩
  · refine ⟨_, rfl, p, g, 5, rfl, S2, by decide, by decide, fun R nm cl rs H3 _ raw ok n5 w2 few n14 c14 k14 S3 b3 => ⟨R, nm, cl, rs, rfl, raw, ok, ?_, n14, c14, k14, w2, n5, S3, tabs_bt S2 b3 T2⟩⟩
    have := Nat.mul_le_mul n5 (Nat.sub_le_sub_right n5 1)
    omega
  rintro σ H3 ⟨R, nm, cl, rs, rfl, raw3, ok, r20, n14, c14, k14, rw2, n5, S3, T3⟩
  have n1 := ok.n1
  have cn := ok.cn
  -- its web
  refine ⟨fun σ H4 => ∃ (we : Addr) (rs' : List RowV), σ = [some (.ref sa), some (.ref p), some (.int (0 + (i : Int))), some (.ref R), some (.ref we), v5, v6, v7, v8, v9, v10, v11, v12] ∧ SortRows rs' rs ∧ WebIs C H4 we nm cl rs' ∧ Raw H4 p g R nm cl rs ∧ Pen H4 p g ∧ Tabs tbs H4, ?_, ?_⟩
  · refine ⟨_, rfl, _, rfl, p, g, R, nm, cl, colK nm cl, rs, rfl, S3, raw3.g ok.nd (by omega), ok, fun we rs' H4 N so S4 b4 => ?_⟩
    exact ⟨we, rs', rfl, so, N.is5, raw3.bt b4, S4, tabs_bt S3 b4 T3⟩
  clear raw3 S3 T3 S2 T2
  rintro σ H4 ⟨we, rs', rfl, srt, web4, raw4, S4, T4⟩
  have rl := srt.1.length_eq
  -- it is right
  refine ⟨fun σ H5 => σ = [some (.ref sa), some (.ref p), some (.int (0 + (i : Int))), some (.ref R), some (.ref we), v5, v6, v7, v8, v9, v10, v11, v12] ∧ Same H4 H5, ?_, ?_⟩
  · refine ⟨_, rfl, _, rfl, tnI ⟨p, g, R, we, nm, cl, rs, rs', rfl, web4, raw4, ok, srt, by omega, fun H5 s5 => ?_⟩⟩
    exact ⟨_, rfl, iteF' rfl ⟨rfl, s5⟩⟩
  rintro σ H5 ⟨rfl, s5⟩
  have web5 := WebIs.same web4 s5
  have raw5 := raw4.same s5
  have S5 := S4.same s5
  have T5 := tabs_same s5 T4
  clear web4 raw4 S4 T4 s5
  -- told
  refine ⟨fun σ H6 => ∃ (pl ta : Addr) (ts : List Addr) (ps : List Pv2) (us : List V) (es : List Tv), σ = [some (.ref sa), some (.ref p), some (.int (0 + (i : Int))), some (.ref R), some (.ref we), some (.ref pl), some (.ref ta), v7, v8, v9, v10, v11, v12] ∧ K1 C tbs H5 H6 p g R we nm cl rs rs' ∧ Bt p H5 H6 ∧ H5 pl = none ∧ H5 ta = none ∧ PsAt H6 pl ts ps ∧ OdP H6 ps ∧ FineP ps ∧ ps.length ≤ 5 ∧ TsX H6 ta us es ∧ es.length ≤ 20, ?_, ?_⟩
  · refine ⟨_, rfl, _, rfl, tnI ⟨p, g, R, nm, cl, colK nm cl, rs, rfl, S5, raw5.g ok.nd (by omega), ok, fun L pl ta us tl rw' H6 hL ⟨ta0, pl0⟩ eL hpl hta pu pr pm S6 b6 => ?_⟩⟩
    obtain ⟨ts, hps⟩ := places_ps hpl cn
    obtain ⟨odp, fnp⟩ := ps_fine n14 c14 H6
    have tlx := ties_ts hta pu pr n14 (fun r hr => k14 r (pm.mem_iff.mp hr)) fun r hr => ⟨ok.fit.w1 r (pm.mem_iff.mp hr), rw2 r (pm.mem_iff.mp hr)⟩
    have tll : tl.length ≤ 20 := by rw [Paired.length pr, pm.length_eq]; exact r20
    exact ⟨L, _, rfl, SqL.of eL, rfl, _, _, rfl, _, _, rfl, rfl, pl, ta, ts, _, _, _, rfl, ⟨S6, tabs_bt S5 b6 T5, S5, raw5, web5, .of b6⟩, b6, pl0, ta0, hps, odp, fnp, by unfold psOf; rw [List.length_map, List.length_zip]; omega, tlx, by rw [List.length_map]; exact tll⟩
  rintro σ H6 ⟨pl, ta, ts, ps, us, es, rfl, K6, B6, pl0, ta0, ps6, od6, fn6, p5, ts6, e20⟩
  have nta0 : ta ≠ p := (K6.Sb.ne ta0).1
  -- places spoilt
  refine ⟨fun σ H7 => ∃ (pl : Addr) (ts : List Addr) (ps : List Pv2) (v7 : Option V), σ = [some (.ref sa), some (.ref p), some (.int (0 + (i : Int))), some (.ref R), some (.ref we), some (.ref pl), some (.ref ta), v7, v8, v9, v10, v11, v12] ∧ K1 C tbs H5 H7 p g R we nm cl rs rs' ∧ Bt p H5 H7 ∧ H5 pl = none ∧ PsAt H7 pl ts ps ∧ OdP H7 ps ∧ FineP ps ∧ ps.length ≤ 7 ∧ TsX H7 ta us es, ?_, ?_⟩
  · refine ⟨_, rfl, by show 5 ≤ sizeLine; omega, fun l hl => ?_⟩
    have s7 := same_new (o := .lst [V.int 0, .int 0, .int 1, .int 1, .int 2]) hl
    have e7 : (upd H6 l (.lst [V.int 0, .int 0, .int 1, .int 1, .int 2])) l = some (.lst [V.int 0, .int 0, .int 1, .int 1, .int 2]) := upd_same
    have nlp := (K6.S.ne hl).1
    generalize upd H6 l (.lst [V.int 0, .int 0, .int 1, .int 1, .int 2]) = H7 at *
    have K7 := K6.same s7
    refine tnI ⟨p, g, l, _, rfl, K7.S, e7, nlp, by show 1 ≤ 5; decide, by show 5 ≤ 1000; decide, fun j v H8 hv S8 b8 => ?_⟩
    have hk : ∃ n : Nat, v = .int (n : Int) ∧ n ≤ 2 := by
      match j, hv with
      | 0, hv => exact ⟨0, by simpa using hv.symm, by omega⟩
      | 1, hv => exact ⟨0, by simpa using hv.symm, by omega⟩
      | 2, hv => exact ⟨1, by simpa using hv.symm, by omega⟩
      | 3, hv => exact ⟨1, by simpa using hv.symm, by omega⟩
      | 4, hv => exact ⟨2, by simpa using hv.symm, by omega⟩
      | j + 5, hv => simp at hv
    obtain ⟨n, rfl, n2⟩ := hk
    have K8 := K7.bt S8 b8
    refine ⟨(n : Int), rfl, by omega, by omega, ?_⟩
    refine for_range (lo := 0) (n := _) (fun j σ H9 => ∃ (pl : Addr) (ts : List Addr) (ps : List Pv2) (v7 : Option V), σ = [some (.ref sa), some (.ref p), some (.int (0 + (i : Int))), some (.ref R), some (.ref we), some (.ref pl), some (.ref ta), v7, v8, v9, v10, v11, v12] ∧ K1 C tbs H5 H9 p g R we nm cl rs rs' ∧ Bt p H5 H9 ∧ H5 pl = none ∧ PsAt H9 pl ts ps ∧ OdP H9 ps ∧ FineP ps ∧ ps.length ≤ 5 + j ∧ TsX H9 ta us es)
      ⟨pl, ts, ps, v7, rfl, K8, (B6.trans (Bt.same s7)).trans b8, pl0, (ps6.same s7).bt K7.S b8, (od6.same s7).bt K7.S b8, fn6, by omega, ⟨(ts6.1.same s7).bt K7.S nta0 b8, ts6.2⟩⟩ ?_ ?_
    rotate_left
    · rintro σ H9 ⟨pl, ts, ps, v7, rfl, K9, B9, pl0, a, b, c, d, e⟩
      exact ⟨pl, ts, ps, v7, rfl, K9, B9, pl0, a, b, c, by omega, e⟩
    rintro j σ H9 hj ⟨pl, ts, ps, v7, rfl, K9, B9, pl0, ps9, od9, fn9, pj, ts9⟩
    have tsl : ts.length = ps.length := Paired.length ps9.2
    refine ⟨_, rfl, by show 0 ≤ sizeLine; omega, fun l hl => ?_⟩
    have s10 := same_new (o := .lst []) hl
    refine ⟨pl, l, _, rfl, rfl, SqL.of (s10 _ _ ps9.1), SqL.of upd_same, _, rfl, ?_⟩
    generalize upd H9 l (.lst []) = H10 at *
    have K10 := K9.same s10
    by_cases pz : ps = []
    · have tz : ts = [] := List.length_eq_zero_iff.mp (by rw [tsl, pz]; rfl)
      refine iteF' (by rw [tz]; rfl) ⟨_, rfl, pl, ts, ps, _, rfl, K10, B9.trans (Bt.same s10), pl0, ps9.same s10, od9.same s10, fn9, by omega, ⟨ts9.1.same s10, ts9.2⟩⟩
    have tz : ts.map V.ref ≠ [] := fun z => pz (List.length_eq_zero_iff.mp (by rw [← tsl]; rw [List.map_eq_nil_iff] at z; rw [z]; rfl))
    refine iteT' (by rw [decide_eq_false tz]; rfl) ?_
    refine ⟨_, rfl, _, rfl, tnI ⟨p, g, pl, ts, ps, rfl, K10.S, ps9.same s10, od9.same s10, fn9, pz, by omega, fun pl' ts' ps' H11 hpl' ps11 od11 fn11 pl11 S11 b11 => ?_⟩⟩
    have K11 := K10.bt S11 b11
    exact ⟨pl', ts', ps', _, rfl, K11, (B9.trans (Bt.same s10)).trans b11, (B9.trans (Bt.same s10)).free K10.S hpl', ps11, od11, fn11, by omega, ⟨(ts9.1.same s10).bt K10.S nta0 b11, ts9.2⟩⟩
  clear ps6 od6 fn6 p5 ts6 K6 pl0 B6
  rintro σ H7 ⟨pl, ts, ps, w7, rfl, K7, B7, pl0, ps7, od7, fn7, p7, ts7⟩
  -- ties spoilt
  refine ⟨fun σ H8 => ∃ (ta : Addr) (us : List V) (es : List Tv) (v7 : Option V), σ = [some (.ref sa), some (.ref p), some (.int (0 + (i : Int))), some (.ref R), some (.ref we), some (.ref pl), some (.ref ta), v7, v8, v9, v10, v11, v12] ∧ K1 C tbs H5 H8 p g R we nm cl rs rs' ∧ H5 ta = none ∧ PsAt H8 pl ts ps ∧ OdP H8 ps ∧ TsX H8 ta us es ∧ es.length ≤ 22, ?_, ?_⟩
  · refine ⟨_, rfl, by show 4 ≤ sizeLine; omega, fun l hl => ?_⟩
    have s8 := same_new (o := .lst [V.int 0, .int 1, .int 1, .int 2]) hl
    have e8 : (upd H7 l (.lst [V.int 0, .int 1, .int 1, .int 2])) l = some (.lst [V.int 0, .int 1, .int 1, .int 2]) := upd_same
    have nlp := (K7.S.ne hl).1
    generalize upd H7 l (.lst [V.int 0, .int 1, .int 1, .int 2]) = H8 at *
    have K8 := K7.same s8
    refine tnI ⟨p, g, l, _, rfl, K8.S, e8, nlp, by show 1 ≤ 4; decide, by show 4 ≤ 1000; decide, fun j v H9 hv S9 b9 => ?_⟩
    have hk : ∃ n : Nat, v = .int (n : Int) ∧ n ≤ 2 := by
      match j, hv with
      | 0, hv => exact ⟨0, by simpa using hv.symm, by omega⟩
      | 1, hv => exact ⟨1, by simpa using hv.symm, by omega⟩
      | 2, hv => exact ⟨1, by simpa using hv.symm, by omega⟩
      | 3, hv => exact ⟨2, by simpa using hv.symm, by omega⟩
      | j + 4, hv => simp at hv
    obtain ⟨n, rfl, n2⟩ := hk
    have K9 := K8.bt S9 b9
    refine ⟨(n : Int), rfl, by omega, by omega, ?_⟩
    refine for_range (lo := 0) (n := _) (fun j σ H9 => ∃ (ta : Addr) (us : List V) (es : List Tv) (v7 : Option V), σ = [some (.ref sa), some (.ref p), some (.int (0 + (i : Int))), some (.ref R), some (.ref we), some (.ref pl), some (.ref ta), v7, v8, v9, v10, v11, v12] ∧ K1 C tbs H5 H9 p g R we nm cl rs rs' ∧ Bt p H5 H9 ∧ H5 ta = none ∧ PsAt H9 pl ts ps ∧ OdP H9 ps ∧ TsX H9 ta us es ∧ es.length ≤ 20 + j)
      ⟨ta, us, es, w7, rfl, K9, (B7.trans (Bt.same s8)).trans b9, ta0, (ps7.same s8).bt K8.S b9, (od7.same s8).bt K8.S b9, ⟨(ts7.1.same s8).bt K8.S nta0 b9, ts7.2⟩, e20⟩ ?_ ?_
    rotate_left
    · rintro σ H9 ⟨ta, us, es, v7, rfl, K9, _, ta0, a, b, c, d⟩
      exact ⟨ta, us, es, v7, rfl, K9, ta0, a, b, c, by omega⟩
    rintro j σ H9 hj ⟨ta, us, es, v7, rfl, K9, B9, ta0, ps9, od9, ts9, ej⟩
    have nta := (K9.Sb.ne ta0).1
    refine ⟨_, rfl, _, rfl, _, rfl, tnI ⟨p, g, pl, ta, ts, ps, us, es, rfl, K9.S, ps9, od9, fn7, by omega, ts9, nta, by omega, fun ta' us' es' H10 hta' ts10 el10 S10 b10 => ?_⟩⟩
    exact ⟨ta', us', es', _, rfl, K9.bt S10 b10, B9.trans b10, B9.free K9.S hta', ps9.bt K9.S b10, od9.bt K9.S b10, ts10, by omega⟩
  clear ts7 ps7 od7 K7 B7 nta0 ta0 e20
  rintro σ H8 ⟨ta, us, es, x7, rfl, K8, ta0, ps8, od8, ts8, e22⟩
  have ul : us.length = es.length := Paired.length ts8.1.2.1
  have tsl : ts.length = ps.length := Paired.length ps8.2
  -- what is due
  refine ⟨fun σ H9 => ∃ (du : Addr) (D : List PyData) (nn : Nat), σ = [some (.ref sa), some (.ref p), some (.int (0 + (i : Int))), some (.ref R), some (.ref we), some (.ref pl), some (.ref ta), x7, some (.ref du), some (.str (PyData.tuple D).shown), v10, v11, v12] ∧ H9 du = some (.lst (dueL ps es)) ∧ DgAll H9 [.ref pl, .ref ta] D nn ∧ nn + 4 ≤ sizeLine ∧ PyData.depthAll D ≤ 50 ∧ Same H8 H9, ?_, ?_⟩
  · refine ⟨_, rfl, _, rfl, tnI ⟨pl, ta, ts, ps, us, es, rfl, ps8, od8, fn7, by omega, ts8.1, ts8.2, by omega, fun du H9 hdu0 hdu s9 => ?_⟩⟩
    refine ⟨_, rfl, _, rfl, by show 2 ≤ sizeLine; omega, fun tp htp => ?_⟩
    have s10 := same_new (o := .tup [V.ref pl, .ref ta]) htp
    have e10 : (upd H9 tp (.tup [V.ref pl, .ref ta])) tp = some (.tup [V.ref pl, .ref ta]) := upd_same
    generalize upd H9 tp (.tup [V.ref pl, .ref ta]) = H10 at *
    have sf := s9.trans s10
    obtain ⟨d1, g1, z1⟩ := dg_places5 (ps8.same sf).2 (od8.same sf)
    obtain ⟨d2, g2, z2⟩ := dg_ties5 (ts8.1.same sf).2.1 (ts8.1.same sf).2.2
    have dg : DgAll H10 [.ref pl, .ref ta] [.list d1, .list d2] 1000000 := .cons (n := 200000) (.lst (ps8.same sf).1 g1 (by omega)) (.cons (n := 600000) (m := 0) (.lst (ts8.1.same sf).1 g2 (by omega)) .nil (Nat.le_refl _)) (by omega)
    have dep : PyData.depthAll [.list d1, .list d2] ≤ 50 := by
      simp only [PyData.depthAll, PyData.depth]
      omega
    refine .inr ⟨tp, _, _, _, rfl, e10, dg, by omega, dep, ?_⟩
    exact ⟨_, _, rfl, du, _, _, rfl, s10 _ _ hdu, dg, by omega, dep, sf⟩
  rintro σ H9 ⟨du, D, nn, rfl, hdu9, dg9, nn4, dep, s89⟩
  have K9 := K8.same s89
  have ps9 := ps8.same s89
  have od9 := od8.same s89
  have ts9 : TsX H9 ta us es := ⟨ts8.1.same s89, ts8.2⟩
  clear K8 ps8 od8 ts8 s89
  -- what comes of it
  refine ⟨fun σ H10 => ∃ fo : Addr, σ = [some (.ref sa), some (.ref p), some (.int (0 + (i : Int))), some (.ref R), some (.ref we), some (.ref pl), some (.ref ta), x7, some (.ref du), some (.str (PyData.tuple D).shown), some (.ref fo), v11, v12] ∧ K1 C tbs H5 H10 p g R we nm cl rs rs' ∧ Fd C H10 pl ta fo ps es ∧ PsAt H10 pl ts ps ∧ TsX H10 ta us es ∧ H10 du = some (.lst (dueL ps es)) ∧ DgAll H10 [.ref pl, .ref ta] D nn, ?_, ?_⟩
  · refine ⟨K9.T, fun H17 x17 t17 => ?_⟩
    have K17 := K9.ex x17 t17
    have ps17 : PsAt H17 pl ts ps := ⟨x17 _ _ ps9.1 (by intro _ z; cases z), Paired.mapP ps9.2 fun _ _ e => x17 _ _ e (by intro _ z; cases z)⟩
    have od17 : OdP H17 ps := fun q hq => ⟨(od9 q hq).1.imp fun _ z => z.ex x17, (od9 q hq).2.imp fun _ z => z.ex x17⟩
    have ts17 : TsX H17 ta us es := ⟨⟨x17 _ _ ts9.1.1 (by intro _ z; cases z), Paired.mapP ts9.1.2.1 fun v e h => by
      cases e with
      | non => exact h
      | t4 a b k m => exact ⟨h.choose, h.choose_spec.1, x17 _ _ h.choose_spec.2 (by intro _ z; cases z)⟩
      | t3 a b k => exact ⟨h.choose, h.choose_spec.1, x17 _ _ h.choose_spec.2 (by intro _ z; cases z)⟩
      | l4 a b k m => exact ⟨h.choose, h.choose_spec.1, x17 _ _ h.choose_spec.2 (by intro _ z; cases z)⟩, fun e he v hv => (ts9.1.2.2 e he v hv).imp fun _ o => o.ex x17⟩, ts9.2⟩
    have du17 := x17 _ _ hdu9 (by intro _ z; cases z)
    have dg17 : DgAll H17 [.ref pl, .ref ta] D nn := dg9.stay fun b o e ho => x17 b o e (by
      rcases ho with ⟨_, rfl⟩ | ⟨_, rfl⟩ | ⟨_, rfl⟩ <;> (intro _ z; cases z))
    refine ⟨_, rfl, _, rfl, tnI fun p' dx' hp0 hdx0 ne => ?_⟩
    have s4 : Same H17 (upd (upd H17 dx' (.own p')) p' (.ins C dx' [])) := (same_new hdx0).trans (same_new (by rw [upd_ne ne.symm]; exact hp0))
    have hp4 : (upd (upd H17 dx' (.own p')) p' (.ins C dx' [])) p' = some (.ins C dx' []) := upd_same
    -- what is refused
    have bad : ∀ (wd : Str) (x y : V) (d : PyData) (H' : Hp) (r : Addr), dueL ps es = [.str wd, x] → Same H17 H' → OdV H17 x d → OdV H' y d → (reprText wd).length ≤ 100 → H' r = none →
        ∃ fo : Addr, [some (V.ref sa), some (.ref p), some (.int (0 + (i : Int))), some (.ref R), some (.ref we), some (.ref pl), some (.ref ta), x7, some (.ref du), some (.str (PyData.tuple D).shown), some (.ref r), v11, v12] = [some (.ref sa), some (.ref p), some (.int (0 + (i : Int))), some (.ref R), some (.ref we), some (.ref pl), some (.ref ta), x7, some (.ref du), some (.str (PyData.tuple D).shown), some (.ref fo), v11, v12] ∧ K1 C tbs H5 (upd H' r (.lst [.str wd, y])) p g R we nm cl rs rs' ∧ Fd C (upd H' r (.lst [.str wd, y])) pl ta fo ps es ∧ PsAt (upd H' r (.lst [.str wd, y])) pl ts ps ∧ TsX (upd H' r (.lst [.str wd, y])) ta us es ∧ (upd H' r (.lst [.str wd, y])) du = some (.lst (dueL ps es)) ∧ DgAll (upd H' r (.lst [.str wd, y])) [.ref pl, .ref ta] D nn := fun wd x y d H' r eD sH ox oy wl hr0 => by
      have s5 := same_new (o := .lst [V.str wd, y]) hr0
      have sf := sH.trans s5
      exact ⟨r, rfl, K17.same sf, .inl ⟨wd, x, y, d, eD, upd_same, oy.same s5, ox.same sf, wl⟩, ps17.same sf, ⟨ts17.1.same sf, ts17.2⟩, sf _ _ du17, dg17.stay fun b o e _ => sf b o e⟩
    cases hf : faultP ps with
    | some ff =>
      refine .inr (.inl ⟨p', dx', pl, ta, ts, ps, rfl, hp4, ps17.same s4, od17.same s4, by omega, (by rw [hf]; intro z; cases z), fun e dx y H' h1 h2 h3 => ?_, fun v d e od dx y H' h1 h2 h3 => ?_, fun z e dx y H' h1 h2 h3 => ?_⟩)
      · exact .inl ⟨rfl, y, dx, rfl, h1, fun r hr0 => bad "number" (.int 0) y _ H' r (by unfold dueL; rw [e]) (s4.trans h3) (.lf (.int (by decide))) h2 (by decide +kernel) hr0⟩
      · exact .inr (.inl ⟨rfl, y, dx, rfl, h1, fun r hr0 => bad "name" v y d H' r (by unfold dueL; rw [e]) (s4.trans h3) (od_back od) h2 (by decide +kernel) hr0⟩)
      · have od0 : OdV H17 (.str z) (.str z) := by
          obtain ⟨q, hq, eq⟩ := fault_dup e
          obtain ⟨d, o⟩ := (od17 q hq).1
          rw [eq] at o
          cases o with
          | lf l => cases l with
            | str a b => exact .lf (.str a b)
        exact .inr (.inr (.inl ⟨rfl, y, dx, rfl, h1, fun r hr0 => bad "twice" (.str z) y _ H' r (by unfold dueL; rw [e]) (s4.trans h3) od0 h2 (by decide +kernel) hr0⟩))
    | none =>
    obtain ⟨pne, pbad, pnd⟩ := fault_none hf
    have wds := bad_none pbad
    have npl : (nmP ps).length = ps.length := List.length_map ..
    have n1p : 1 ≤ ps.length := Nat.one_le_iff_ne_zero.mpr fun z => pne (List.length_eq_zero_iff.mp z)
    cases hrun : (runT (nmP ps) [] es).2 with
    | some n =>
      refine .inr (.inr ⟨p', dx', pl, ta, ts, ps, us, es, n, rfl, hp4, ps17.same s4, od17.same s4, by omega, hf, ts17.1.same s4, by omega, hrun, fun dx y H' h1 h2 h3 => ?_⟩)
      have sH : Same H17 H' := fun b o e => h3 _ _ (s4 _ _ e) (ne_of_none e hp0)
      have nl : n ≤ 22 := by
        have := run_lt hrun
        rw [List.length_nil] at this
        omega
      exact .inr (.inr (.inr ⟨rfl, y, dx, rfl, h1, fun r hr0 => bad "tie" (.int (n : Int)) y _ H' r (by unfold dueL; rw [hf, hrun]) sH (.lf (.int (by
        rw [Int.natAbs_natCast]
        by_cases z : n = 0
        · rw [z]; decide
        · exact (Nat.log2_lt z).mpr (Nat.lt_of_le_of_lt nl (by decide))))) h2 (by decide +kernel) hr0⟩))
    | none =>
    obtain ⟨tl, etl, tok, tnd⟩ := runT_ok (prev := []) List.nodup_nil hrun
    subst etl
    have tle : tl.length ≤ 22 := by rw [List.length_map] at e22; exact e22
    have nwp : ∀ z ∈ nmP ps, isWordB z = true := fun z hz => by
      obtain ⟨q, hq, rfl⟩ := List.mem_map.mp hz
      exact (word_str (wds q hq).1).2
    have cwp : ∀ z ∈ clP ps, isWordB z = true := fun z hz => by
      obtain ⟨q, hq, rfl⟩ := List.mem_map.mp hz
      exact (word_str (wds q hq).2).2
    refine .inl (web_make5 (ps17.places wds) ts17.1.ties (by omega) (by omega) pnd nwp cwp tok (by simpa using tnd) (by omega) hp0 hdx0 ne fun rs2 rw2 H18 N pr2 pm2 s18 => ?_)
    refine ⟨by show 2 ≤ sizeLine; omega, fun r hr0 => ?_⟩
    have s19 := same_new (o := .lst [V.str "told", .ref p']) hr0
    have sf := s18.trans s19
    obtain ⟨q, dc, r', wd, X, m1, m2, m3, m4, m5⟩ := N.ex
    have shp := shaped_ord5 nwp fun r hr => row_lt pnd pr2 tok r (pm2.mem_iff.mp hr)
    exact ⟨r, rfl, K17.same sf, .inr ⟨by unfold dueL; rw [hf, hrun], p', H17, nmP ps, clP ps, rs2, upd_same, ⟨⟨q, dc, r', wd, X.same s19, m1, m2, m3, m4, m5⟩⟩, s18.free hr0, ⟨_, ps17.1⟩, ⟨_, ts17.1.1⟩, npl, by omega, shp⟩, ps17.same sf, ⟨ts17.1.same sf, ts17.2⟩, sf _ _ du17, dg17.stay fun b o e _ => sf b o e⟩
  clear K9 od9 hdu9 dg9 ps9 ts9
  rintro σ H10 ⟨fo, rfl, K10, fd10, ps10, ts10, du10, dg10⟩
  have txt1 : (PyData.list [.str "told"]).depth ≤ 50 ∧ (PyData.list [.str "told"]).shown.length ≤ 1000 ∧ (PyData.list [.str "told"]).canLay0 = true := by decide +kernel
  have l1000 : 1000 ≤ sizeLine := by omega
  -- what is found is due
  refine ⟨fun σ H11 => σ = [some (.ref sa), some (.ref p), some (.int (0 + (i : Int))), some (.ref R), some (.ref we), some (.ref pl), some (.ref ta), x7, some (.ref du), some (.str (PyData.tuple D).shown), some (.ref fo), v11, v12] ∧ Same H10 H11, ?_, ?_⟩
  · refine ⟨_, rfl, by show 0 ≤ sizeLine; omega, fun l hl => ?_⟩
    have s1 := same_new (o := .lst []) hl
    have e1 : (upd H10 l (.lst [])) l = some (.lst []) := upd_same
    generalize upd H10 l (.lst []) = H11 at *
    refine ⟨du, l, _, rfl, rfl, SqL.of (s1 _ _ du10), SqL.of e1, _, rfl, ?_⟩
    rcases fd10.same s1 with ⟨wd, x, y, d, eD, hfo, oy, ox, wl⟩ | ⟨eD, we2, H0, nm2, cl2, rs2, hfo, N, _⟩
    · rw [eD] at du10 ⊢
      refine iteF' rfl ⟨_, rfl, .inl (.inr ⟨fo, wd, y, d, rfl, hfo, wl, oy, ?_⟩)⟩
      refine ⟨_, rfl, by show 0 ≤ sizeLine; omega, fun l2 hl2 => ?_⟩
      have s2 := same_new (o := .lst []) hl2
      have e2 : (upd H11 l2 (.lst [])) l2 = some (.lst []) := upd_same
      generalize upd H11 l2 (.lst []) = H12 at *
      refine ⟨du, l2, _, rfl, rfl, SqL.of (s2 _ _ (s1 _ _ du10)), SqL.of e2, _, rfl, iteT' rfl ?_⟩
      refine ⟨_, rfl, .inl (.inr ⟨du, wd, x, d, rfl, s2 _ _ (s1 _ _ du10), wl, ox.same s2, ?_⟩)⟩
      exact ⟨rfl, _, rfl, iteF' (by simp) ⟨rfl, s1.trans s2⟩⟩
    · rw [eD] at du10 ⊢
      refine iteT' rfl ⟨_, rfl, _, rfl, fo, _, rfl, SqL.of hfo, fun r4 hr4 => ?_⟩
      rw [cutT2]
      have s4 := same_new (o := .lst [V.str "told"]) hr4
      have e4 : (upd H11 r4 (.lst [V.str "told"])) r4 = some (.lst [V.str "told"]) := upd_same
      generalize upd H11 r4 (.lst [V.str "told"]) = H12 at *
      refine .inl (.inl ⟨_, .list [.str "told"], rfl, .lst e4 (.cons (.str _) .nil), rfl, rfl, txt1.1, Nat.le_trans txt1.2.1 l1000, ?_⟩)
      refine ⟨_, rfl, by show 0 ≤ sizeLine; omega, fun l2 hl2 => ?_⟩
      have s2 := same_new (o := .lst []) hl2
      have e2 : (upd H12 l2 (.lst [])) l2 = some (.lst []) := upd_same
      generalize upd H12 l2 (.lst []) = H13 at *
      have sf := s1.trans (s4.trans s2)
      refine ⟨du, l2, _, rfl, rfl, SqL.of (sf _ _ du10), SqL.of e2, _, rfl, iteF' rfl ?_⟩
      refine ⟨by show 1 ≤ sizeLine; omega, fun l3 hl3 => ?_⟩
      have s3 := same_new (o := .lst [V.str "told"]) hl3
      have e3 : (upd H13 l3 (.lst [V.str "told"])) l3 = some (.lst [V.str "told"]) := upd_same
      generalize upd H13 l3 (.lst [V.str "told"]) = H14 at *
      refine .inl (.inl ⟨_, .list [.str "told"], rfl, .lst e3 (.cons (.str _) .nil), rfl, rfl, txt1.1, Nat.le_trans txt1.2.1 l1000, ?_⟩)
      exact ⟨rfl, _, rfl, iteF' (by simp) ⟨rfl, sf.trans s3⟩⟩
  rintro σ H11 ⟨rfl, s11⟩
  have K11 := K10.same s11
  have fd11 := fd10.same s11
  have ps11 := ps10.same s11
  have ts11 : TsX H11 ta us es := ⟨ts10.1.same s11, ts10.2⟩
  have du11 := s11 _ _ du10
  have dg11 : DgAll H11 [.ref pl, .ref ta] D nn := dg10.stay fun b o e _ => s11 b o e
  clear K10 fd10 ps10 ts10 du10 dg10 s11
  -- what is handed in stays
  refine ⟨fun σ H12 => σ = [some (.ref sa), some (.ref p), some (.int (0 + (i : Int))), some (.ref R), some (.ref we), some (.ref pl), some (.ref ta), x7, some (.ref du), some (.str (PyData.tuple D).shown), some (.ref fo), v11, v12] ∧ Same H11 H12, ?_, ?_⟩
  · refine ⟨_, rfl, _, rfl, by show 2 ≤ sizeLine; omega, fun tp htp => ?_⟩
    have s1 := same_new (o := .tup [V.ref pl, .ref ta]) htp
    have e1 : (upd H11 tp (.tup [V.ref pl, .ref ta])) tp = some (.tup [V.ref pl, .ref ta]) := upd_same
    generalize upd H11 tp (.tup [V.ref pl, .ref ta]) = H12 at *
    refine .inr ⟨tp, _, D, nn, rfl, e1, dg11.stay fun b o e _ => s1 b o e, nn4, dep, ?_⟩
    exact ⟨_, rfl, rfl, _, rfl, iteF' (by simp) ⟨rfl, s1⟩⟩
  rintro σ H12 ⟨rfl, s12⟩
  have K12 := K11.same s12
  have fd12 := fd11.same s12
  have ps12 := ps11.same s12
  have ts12 : TsX H12 ta us es := ⟨ts11.1.same s12, ts11.2⟩
  have du12 := s12 _ _ du11
  clear K11 fd11 ps11 ts11 du11 dg11 s12
  -- what is told is new
  refine ⟨fun σ H13 => ∃ w11 : Option V, σ = [some (.ref sa), some (.ref p), some (.int (0 + (i : Int))), some (.ref R), some (.ref we), some (.ref pl), some (.ref ta), x7, some (.ref du), some (.str (PyData.tuple D).shown), some (.ref fo), w11, v12] ∧ K1 C tbs H5 H13 p g R we nm cl rs rs', ?_, ?_⟩
  · refine ⟨_, rfl, by show 0 ≤ sizeLine; omega, fun l hl => ?_⟩
    have s1 := same_new (o := .lst []) hl
    have e1 : (upd H12 l (.lst [])) l = some (.lst []) := upd_same
    generalize upd H12 l (.lst []) = H13 at *
    refine ⟨du, l, _, rfl, rfl, SqL.of (s1 _ _ du12), SqL.of e1, _, rfl, ?_⟩
    have K13 := K12.same s1
    have ps13 := ps12.same s1
    have ts13 : TsX H13 ta us es := ⟨ts12.1.same s1, ts12.2⟩
    rcases fd12.same s1 with ⟨wd, x, y, d, eD, hfo, oy, ox, wl⟩ | ⟨eD, we2, H0, nm2, cl2, rs2, hfo, N, fo0, pl00, ta00, nl2, n1000, shp⟩
    · rw [eD]
      exact iteF' rfl ⟨_, rfl, K13⟩
    · rw [eD]
      refine iteT' rfl ?_
      -- its ties
      refine ⟨fun σ H14 => ∃ m1 : Addr, σ = [some (.ref sa), some (.ref p), some (.int (0 + (i : Int))), some (.ref R), some (.ref we), some (.ref pl), some (.ref ta), x7, some (.ref du), some (.str (PyData.tuple D).shown), some (.ref fo), some (.ref m1), v12] ∧ Same H13 H14 ∧ H13 m1 = none ∧ OrdAt H14 m1 nm2 rs2, ?_, ?_⟩
      · obtain ⟨q, dc, r, wd, X, _⟩ := N.ex
        exact ⟨_, rfl, fo, _, _, V.ref we2, rfl, rfl, SqL.of hfo, atI_nat (j := 1) rfl, _, _, _, rfl, X.hp.choose_spec, rfl, ⟨we2, q, dc, r, wd, nm2, cl2, rs2, rfl, X, fun l H14 hl0 ord s14 => ⟨l, rfl, s14, hl0, ord⟩⟩⟩
      rintro σ H14 ⟨m1, rfl, s14, m10, ord⟩
      have K14 := K13.same s14
      have ps14 := ps13.same s14
      have ts14 : TsX H14 ta us es := ⟨ts13.1.same s14, ts13.2⟩
      have N14 : NewW C H0 H14 we2 nm2 cl2 rs2 := by
        obtain ⟨q, dc, r, wd, X, n1, n2, n3, n4, n5⟩ := N.ex
        exact ⟨⟨q, dc, r, wd, X.same s14, n1, n2, n3, n4, n5⟩⟩
      have hfo14 := s14 _ _ hfo
      have pne := due_ne eD
      have plta : pl ≠ ta := pl_ne_ta ps14 ts14 pne
      have m1pl : m1 ≠ pl := fun z => by rw [z, ps13.1] at m10; cases m10
      have m1ta : m1 ≠ ta := fun z => by rw [z, ts13.1.1] at m10; cases m10
      have fopl : fo ≠ pl := fun z => by rw [z] at fo0; rw [fo0] at pl00; obtain ⟨_, z⟩ := pl00; cases z
      have fota : fo ≠ ta := fun z => by rw [z] at fo0; rw [fo0] at ta00; obtain ⟨_, z⟩ := ta00; cases z
      have hpl14 := ps14.1
      have hta14 := ts14.1.1
      have tsl13 : ts.length = ps.length := Paired.length ps14.2
      have usl13 : us.length = es.length := Paired.length ts14.1.2.1
      clear K13 ps13 ts13 N hfo s14 m10 K12 ps12 ts12
      -- more places
      refine ⟨fun σ H15 => σ = [some (.ref sa), some (.ref p), some (.int (0 + (i : Int))), some (.ref R), some (.ref we), some (.ref pl), some (.ref ta), x7, some (.ref du), some (.str (PyData.tuple D).shown), some (.ref fo), some (.ref m1), v12] ∧ K1 C tbs H5 H15 p g R we nm cl rs rs' ∧ NewW C H0 H15 we2 nm2 cl2 rs2 ∧ OrdAt H15 m1 nm2 rs2 ∧ H15 fo = some (.lst [.str "told", .ref we2]) ∧ (∃ zs, H15 pl = some (.lst zs) ∧ zs.length = ps.length + 1) ∧ H15 ta = some (.lst us), ?_, ?_⟩
      · refine ⟨_, rfl, .inl ⟨rfl, _, SqL.of hpl14⟩, by show 2 ≤ sizeLine; omega, fun tp htp => ?_⟩
        have s2 := same_new (o := .tup [V.str "zz", .str "zz"]) htp
        generalize upd H14 tp (.tup [V.str "zz", .str "zz"]) = H15 at *
        refine ⟨pl, _, _, rfl, rfl, s2 _ _ hpl14, by rw [List.length_map]; omega, rfl, (K14.same s2).put pl0 (s2 _ _ hpl14), (N14.sm s2).put pl00.choose_spec (s2 _ _ hpl14), (ord.same5 s2).off5 m1pl (s2 _ _ hpl14), ?_, ⟨_, upd_same, ?_⟩, ?_⟩
        · rw [upd_ne fopl]
          exact s2 _ _ hfo14
        · rw [List.length_append, List.length_map]
          show ts.length + 1 = _
          omega
        · rw [upd_ne plta.symm]
          exact s2 _ _ hta14
      rintro σ H15 ⟨rfl, K15, N15, ord15, hfo15, ⟨zs, hpl15, zl⟩, hta15⟩
      clear K14 N14 ord hfo14 hpl14 hta14
      -- more ties
      refine ⟨fun σ H16 => σ = [some (.ref sa), some (.ref p), some (.int (0 + (i : Int))), some (.ref R), some (.ref we), some (.ref pl), some (.ref ta), x7, some (.ref du), some (.str (PyData.tuple D).shown), some (.ref fo), some (.ref m1), v12] ∧ K1 C tbs H5 H16 p g R we nm cl rs rs' ∧ NewW C H0 H16 we2 nm2 cl2 rs2 ∧ OrdAt H16 m1 nm2 rs2 ∧ H16 fo = some (.lst [.str "told", .ref we2]) ∧ H16 pl = some (.lst zs), ?_, ?_⟩
      · refine ⟨_, rfl, .inl ⟨rfl, _, SqL.of hta15⟩, ta, _, _, rfl, rfl, hta15, by omega, rfl, K15.put ta0 hta15, N15.put ta00.choose_spec hta15, ord15.off5 m1ta hta15, ?_, ?_⟩
        · rw [upd_ne fota]
          exact hfo15
        · rw [upd_ne plta]
          exact hpl15
      rintro σ H16 ⟨rfl, K16, N16, ord16, hfo16, hpl16⟩
      clear K15 N15 ord15 hfo15 hpl15 hta15
      obtain ⟨q, dc, r, wd, X, _⟩ := N16.ex
      refine ⟨_, rfl, fo, _, _, V.ref we2, rfl, rfl, SqL.of hfo16, atI_nat (j := 1) rfl, _, _, _, rfl, X.hp.choose_spec, rfl, ⟨we2, q, dc, r, wd, nm2, cl2, rs2, rfl, X, fun l2 H17 hl2 ord2 s17 => ?_⟩⟩
      refine ⟨_, rfl, _, _, dp_ord ord2, dp_ord (ord16.same5 s17), shp, shp, _, rfl, ?_⟩
      rw [eqv_ord]
      refine iteF' rfl ?_
      refine ⟨_, rfl, fo, _, _, V.ref we2, rfl, rfl, SqL.of (s17 _ _ hfo16), atI_nat (j := 1) rfl, we2, _, _, rfl, s17 _ _ X.hp.choose_spec, ⟨we2, q, dc, r, wd, nm2, cl2, rs2, rfl, X.same s17, nm2.length, rfl, by omega, ?_⟩⟩
      refine ⟨_, rfl, pl, _, rfl, .inl (SqL.of (s17 _ _ hpl16)), _, _, rfl, rfl, rfl, _, rfl, ?_⟩
      refine iteF' ?_ ?_
      · have : ((nm2.length : Nat) : Int) = (zs.length : Int) - 1 := by omega
        rw [this, decide_eq_true rfl]
        rfl
      exact ⟨_, rfl, K16.same s17⟩
  rintro σ H13 ⟨w11, rfl, K13⟩
  clear K12 fd12 ps12 ts12 du12 pl0 ta0
  have web13 := K13.web' n1
  have lim2 : 1000000 + 4 ≤ sizeLine := by omega
  have kin : ∀ {ks : List Str}, (∀ z, z ∈ ks ↔ ∃ row ∈ rs', row.kd = z) → ks.Nodup → (∀ z ∈ ks, z ∈ w14) ∧ ks.length ≤ 100 := fun {ks} h nd => by
    have k1 : ∀ z ∈ ks, z ∈ w14 := fun z hz => by
      obtain ⟨r, hr, e⟩ := (h z).mp hz
      rw [← e]
      exact k14 r (srt.1.mem_iff.mp hr)
    exact ⟨k1, Nat.le_trans (nodup_len nd k1) (by decide)⟩
  have cin : ∀ {cs : List Str}, (∀ z, z ∈ cs ↔ z ∈ cl) → cs.Nodup → (∀ z ∈ cs, z ∈ w14) ∧ cs.length ≤ 100 := fun {cs} h nd => by
    have k1 : ∀ z ∈ cs, z ∈ w14 := fun z hz => c14 z ((h z).mp hz)
    exact ⟨k1, Nat.le_trans (nodup_len nd k1) (by decide)⟩
  -- kinds and colours, as they are told
  refine ⟨fun σ H14 => ∃ (ks cs : List Str), σ = [some (.ref sa), some (.ref p), some (.int (0 + (i : Int))), some (.ref R), some (.ref we), some (.ref pl), some (.ref ta), x7, some (.ref du), some (.str (PyData.tuple [.list (ks.map PyData.str), .list (cs.map PyData.str)]).shown), some (.ref fo), w11, v12] ∧ Same H13 H14 ∧ (∀ z, z ∈ ks ↔ ∃ row ∈ rs', row.kd = z) ∧ ks.Nodup ∧ sortedS ks = true ∧ (∀ z, z ∈ cs ↔ z ∈ cl) ∧ cs.Nodup ∧ sortedS cs = true, ?_, ?_⟩
  · obtain ⟨q, dc, r, wd, X⟩ := id web13
    refine ⟨_, rfl, _, _, _, rfl, X.hp.choose_spec, rfl, ⟨we, q, dc, r, wd, nm, cl, rs', rfl, X, by omega, fun l1 ks H14 hl1 e1 hks ndk srk s1 => ?_⟩⟩
    refine ⟨_, rfl, _, _, _, rfl, s1 _ _ X.hp.choose_spec, rfl, ⟨we, nm, cl, rs', rfl, WebIs.same web13 s1, cn, by omega, fun l2 cs H15 hl2 e2 hcs ndc lec src s2 => ?_⟩⟩
    refine ⟨by show 2 ≤ sizeLine; omega, fun tp htp => ?_⟩
    have s3 := same_new (o := .tup [V.ref l1, .ref l2]) htp
    have e3 : (upd H15 tp (.tup [V.ref l1, .ref l2])) tp = some (.tup [V.ref l1, .ref l2]) := upd_same
    generalize upd H15 tp (.tup [V.ref l1, .ref l2]) = H16 at *
    obtain ⟨dg, dp⟩ := kc_data (s3 _ _ (s2 _ _ e1)) (s3 _ _ e2) (kin hks ndk).1 (cin hcs ndc).1 (kin hks ndk).2 (cin hcs ndc).2
    exact .inr ⟨tp, _, _, _, rfl, e3, dg, lim2, dp, ks, cs, rfl, s1.trans (s2.trans s3), hks, ndk, srk, hcs, ndc, src⟩
  rintro σ H14 ⟨ks, cs, rfl, s14, hks, ndk, srk, hcs, ndc, src⟩
  have K14 := K13.same s14
  have web14 := WebIs.same web13 s14
  clear K13 web13 s14
  -- what is told is changed
  refine ⟨fun σ H15 => ∃ w12 : Option V, σ = [some (.ref sa), some (.ref p), some (.int (0 + (i : Int))), some (.ref R), some (.ref we), some (.ref pl), some (.ref ta), x7, some (.ref du), some (.str (PyData.tuple [.list (ks.map PyData.str), .list (cs.map PyData.str)]).shown), some (.ref fo), w11, w12] ∧ Same H14 H15, ?_, ?_⟩
  · obtain ⟨q, dc, r, wd, X⟩ := id web14
    have hin := X.hp.choose_spec
    refine ⟨_, rfl, _, _, _, rfl, hin, rfl, ⟨we, q, dc, r, wd, nm, cl, rs', rfl, X, by omega, fun l1 G1 hl1 e1 s1 => ?_⟩⟩
    refine ⟨_, rfl, _, _, _, rfl, s1 _ _ hin, rfl, ⟨we, q, dc, r, wd, nm, cl, rs', rfl, X.same s1, fun l2 G2 hl2 e2 s2 => ?_⟩⟩
    have s12 := s1.trans s2
    refine ⟨_, rfl, _, _, _, rfl, s12 _ _ hin, rfl, ⟨we, q, dc, r, wd, nm, cl, rs', rfl, X.same s12, by omega, fun l3 ks3 G3 hl3 e3 hks3 ndk3 srk3 s3 => ?_⟩⟩
    have s13 := s12.trans s3
    refine ⟨_, rfl, _, _, _, rfl, s13 _ _ hin, rfl, ⟨we, nm, cl, rs', rfl, ⟨q, dc, r, wd, X.same s13⟩, cn, by omega, fun l4 cs4 G4 hl4 e4 hcs4 ndc4 lec4 src4 s4 => ?_⟩⟩
    have s14 := s13.trans s4
    refine ⟨by show 4 ≤ sizeLine; omega, fun tp htp => ?_⟩
    have s5 := same_new (o := .tup [V.ref l1, .ref l2, .ref l3, .ref l4]) htp
    have e5 : (upd G4 tp (.tup [V.ref l1, .ref l2, .ref l3, .ref l4])) tp = some (.tup [V.ref l1, .ref l2, .ref l3, .ref l4]) := upd_same
    generalize upd G4 tp (.tup [V.ref l1, .ref l2, .ref l3, .ref l4]) = G5 at *
    have s15 := s14.trans s5
    obtain ⟨os, e2, pr2⟩ := e2
    have osl : os.length = rs'.length := Paired.length pr2
    have hls : ∀ l ∈ [l1, l2, l3, l4], H14 l = none ∧ ∃ xs, G5 l = some (.lst xs) ∧ xs.length ≤ 100 := fun l hl => by
      simp only [List.mem_cons, List.not_mem_nil, or_false] at hl
      rcases hl with rfl | rfl | rfl | rfl
      · exact ⟨hl1, _, s5 _ _ (s4 _ _ (s3 _ _ (s2 _ _ e1))), by rw [List.length_map]; omega⟩
      · exact ⟨s1.free hl2, _, s5 _ _ (s4 _ _ (s3 _ _ e2)), by rw [List.length_map]; omega⟩
      · exact ⟨s12.free hl3, _, s5 _ _ (s4 _ _ e3), by rw [List.length_map]; exact (kin hks3 ndk3).2⟩
      · exact ⟨s13.free hl4, _, s5 _ _ e4, by rw [List.length_map]; exact (cin hcs4 ndc4).2⟩
    refine ⟨tp, rfl, ⟨_, SqT.of e5⟩, ?_⟩
    refine for_it (walk_tup (xs := [V.ref l1, .ref l2, .ref l3, .ref l4])) (fun j σ G => ∃ w12 : Option V, σ = [some (.ref sa), some (.ref p), some (.int (0 + (i : Int))), some (.ref R), some (.ref we), some (.ref pl), some (.ref ta), x7, some (.ref du), some (.str (PyData.tuple [.list (ks.map PyData.str), .list (cs.map PyData.str)]).shown), some (.ref fo), w11, w12] ∧ Same H14 G ∧ G tp = some (.tup [V.ref l1, .ref l2, .ref l3, .ref l4]) ∧ ∀ l ∈ [l1, l2, l3, l4], ∃ xs, G l = some (.lst xs) ∧ xs.length ≤ 100 + j)
      ⟨v12, rfl, s15, e5, fun l hl => (hls l hl).2⟩ (fun j σ G _ h => by obtain ⟨_, _, _, h, _⟩ := h; exact SqT.of h) ?_ ?_
    · rintro j x σ G' G hj ⟨w12, rfl, sg, htp, hl⟩ ⟨rfl, hx⟩
      have hx : [V.ref l1, .ref l2, .ref l3, .ref l4][j]? = some x := hx
      obtain ⟨l, hlm, rfl⟩ : ∃ l ∈ [l1, l2, l3, l4], x = V.ref l := by
        have := List.mem_of_getElem? hx
        simp only [List.mem_cons, List.not_mem_nil, or_false] at this
        rcases this with rfl | rfl | rfl | rfl
        · exact ⟨l1, by simp, rfl⟩
        · exact ⟨l2, by simp, rfl⟩
        · exact ⟨l3, by simp, rfl⟩
        · exact ⟨l4, by simp, rfl⟩
      obtain ⟨xs, ex, xl⟩ := hl l hlm
      have hj : j < 4 := hj
      refine ⟨_, rfl, .inl ⟨rfl, _, SqL.of ex⟩, l, xs, _, rfl, rfl, ex, by omega, _, rfl, fun b o e => ?_, ?_, fun m hm => ?_⟩
      · rw [upd_ne (ne_of_none e (hls l hlm).1)]
        exact sg b o e
      · rw [upd_ne (ne_of htp ex (by intro z; cases z))]
        exact htp
      · obtain ⟨ys, ey, yl⟩ := hl m hm
        by_cases c : m = l
        · subst c
          exact ⟨_, upd_same, by rw [List.length_append]; show xs.length + 1 ≤ _; omega⟩
        · exact ⟨ys, by rw [upd_ne c]; exact ey, by omega⟩
    · rintro σ G ⟨w12, rfl, sg, _⟩
      exact ⟨w12, rfl, sg⟩
  rintro σ H15 ⟨w12, rfl, s15⟩
  have K15 := K14.same s15
  have web15 := WebIs.same web14 s15
  clear K14 web14 s15
  -- it is as it was
  refine ⟨_, rfl, _, rfl, tnI ⟨p, g, R, we, nm, cl, rs, rs', rfl, web15, K15.raw', ok, srt, by omega, fun H16 s16 => ?_⟩⟩
  refine ⟨_, rfl, iteF' rfl ?_⟩
  obtain ⟨q, dc, r, wd, X⟩ := WebIs.same web15 s16
  refine ⟨_, rfl, _, _, _, rfl, X.hp.choose_spec, rfl, ⟨we, q, dc, r, wd, nm, cl, rs', rfl, X, by omega, fun l1 ks' H17 hl1 e1 hks' ndk' srk' s1 => ?_⟩⟩
  refine ⟨_, rfl, _, _, _, rfl, s1 _ _ X.hp.choose_spec, rfl, ⟨we, nm, cl, rs', rfl, WebIs.same web15 (s16.trans s1), cn, by omega, fun l2 cs' H18 hl2 e2 hcs' ndc' lec' src' s2 => ?_⟩⟩
  obtain rfl := kinds_one ndk ndk' (fun z => (hks z).trans (hks' z).symm) srk srk'
  obtain rfl := kinds_one ndc ndc' (fun z => (hcs z).trans (hcs' z).symm) src src'
  refine ⟨by show 2 ≤ sizeLine; omega, fun tp htp => ?_⟩
  have s3 := same_new (o := .tup [V.ref l1, .ref l2]) htp
  have e3 : (upd H18 tp (.tup [V.ref l1, .ref l2])) tp = some (.tup [V.ref l1, .ref l2]) := upd_same
  generalize upd H18 tp (.tup [V.ref l1, .ref l2]) = H19 at *
  obtain ⟨dg, dp⟩ := kc_data (s3 _ _ (s2 _ _ e1)) (s3 _ _ e2) (kin hks ndk).1 (cin hcs ndc).1 (kin hks ndk).2 (cin hcs ndc).2
  refine .inr ⟨tp, _, _, _, rfl, e3, dg, lim2, dp, ?_⟩
  have K19 := K15.same (s16.trans (s1.trans (s2.trans s3)))
  exact ⟨_, rfl, rfl, _, rfl, iteF' (by simp) ⟨K19.S, K19.T, _, _, _, _, _, _, _, _, _, _, _, rfl⟩⟩
end
end Nm
set_option autoImplicit true
set_option maxRecDepth 100000
set_option maxHeartbeats 4000000
/-! the end of a law where helpers hold lambdas too: the tables of all defs are empty -/
namespace Nm
open PySem PySem.Spec PyProof.Rows L2 LamX
/-- as walk_G, told of the own tables of all defs of the module -/
theorem walk_GA {l : PySem.W.OpenLaw} {n : Nat} {q : Program} {loose : List Str} {XP : (Str → Option Value) → Heap → Prop} {YP : World → Heap → Prop} {d : DefRec} {K : Params → PySem.W.Frag} {CX : World → CXT} {x : Str}
    (hn : l.most = some n) (hn2 : n ≤ sizeLine) (hdf : d.params.defaults = []) (hY : ∀ (w : World) (h : Heap), YP w h → (K w.params).In h)
    (F : ∀ (w : World) (mg : Str → Option Value) (fa : Addr) (h : Heap), YP w h → (K w.params).In h → h.Ns mainGlobals mg → mg d.name = some (.ref fa) → (∀ (y : Str) (fb : Addr), ((recsOf q).any fun e => e.name == y) = true → mg y = some (.ref fb) → OwnTab (K w.params) fb h) → LawAtG l w (K w.params) (CX w) n x mg fa h)
    (hCX : ∀ (w : World) (H : Hp) (s : Shared) (e : Value) (s' : Shared), CX w [] H s (fun _ _ _ => False) e s' → False) :
    PySem.W.WalkO q loose XP YP l.row.toRowW d [] (fun f vs => PySem.call f vs) := by
  refine Att.attach_callB hn hdf fun w s₀ s₁ mg mb fa o pm cd doc a vs ns G Y ho hd hcd hmg hobj hints hlen _ hg => ?_
  have KX := hY w _ Y
  have own : ∀ (y : Str) (fb : Addr), ((recsOf q).any fun e => e.name == y) = true → mg y = some (.ref fb) → OwnTab (K w.params) fb s₁.heap := fun y fb hrec hmy c T o1 fd1 e dd us sl q1 q2 q3 q4 q5 => by
    obtain ⟨dL, hm, hnm⟩ := List.any_eq_true.mp hrec
    obtain ⟨fa', of, fdf, cf, Tf, p1, p2, p3, p4, _, p6⟩ := G.T.tab dL hm
    rw [beq_iff_eq.mp hnm, hmy] at p1
    cases p1
    have there := KX _ _ q1
    rw [there] at p2
    cases p2
    rw [q2] at p3
    cases p3
    rw [q3] at p4
    cases p4
    obtain ⟨⟨oc, ws, f1, _, f3, f4⟩, fT⟩ := p6
    have code := KX _ _ q4
    rw [code] at f1
    cases f1
    cases f3
    rw [q5] at f4
    cases f4
    exact fT
  obtain ⟨fd, cs, sp, hT, nT, C, hb, hsp, hF⟩ := F w mg fa _ Y KX G.T.g hmg own
  exact law_callG KX G.T.g G.T.b G.T.builtins G.T.nolimit hg hT nT C G.T.bmain hobj hints (Nat.le_trans hlen hn2) hF hb (fun H hH hS => hsp H a ns hlen hH hS) fun H e s' => hCX w H s₁ e s'
end Nm
set_option autoImplicit true
set_option maxRecDepth 100000
set_option maxHeartbeats 8000000
/-! what the top has written, and the law -/
namespace Nm
open PySem PySem.Spec PyProof.Rows L2 LamX
section
variable {P : Program} {w : World} {K : PySem.W.Frag} {mg : Str → Option Value} {base : Heap}
theorem def_mk {x : Str} {ps : List Str} {k : Nat} {sp : Sp} {f : Addr} {fd : FuncData} (G : FnOk P w K mg base CX0 k f fd ps sp) (a : mg x = some (.ref f)) (kp : PySem.W.keepIn K (.ref f) = true) (b : Binds K fd ps []) : Def P w K mg base x ps k sp := ⟨f, fd, G, a, kp, b⟩
end
section
variable {K : PySem.W.Frag}
/-- a code object's fields as its head's word asks for them -/
def hdV (vs : Array Value) (c P : Addr) : Bool := (match (vs[11]? : Option Value) with | some (.ref P') => P' == P | _ => false) &&
  (match vs.getD 18 .none with | .str _ _ => true | _ => false) && (match vs.getD 7 .none with | .int _ _ => true | _ => false) &&
  (match vs.getD 9 .none with | .bool _ => true | _ => false) && (match vs.getD 10 .none with | .int _ _ => true | _ => false) && c != P
theorem hdV_ok {c PT : Addr} {dd : Option Addr} {vs : Array Value} {sl : Array (Option Value)} (l : K.lookup c = some ⟨.type "code", dd, .fields vs, sl⟩) (h : hdV vs c PT = true) : PySem.W.codeHdIn K c PT = true := by
  unfold PySem.W.codeHdIn
  rw [l]
  exact h
theorem exm_is {T C : Addr} {cd : PySem.ClassData} {k : Bool} (b : PySem.W.subIn K (.ref C) (.type "BaseException") = some true) (d : PySem.W.clsIn K C = some cd) (t : PySem.W.typeIn K (.ref C) = some (.type "type")) (s : PySem.W.subIn K (.ref T) (.ref C) = some k) : PySem.W.exmOne K (.ref T) (.ref C) = some k := by
  have kc : PySem.W.kitCls K (.ref T) (.ref C) = some k := by
    show (if ((PySem.W.clsIn K C).isSome && PySem.W.typeIn K (.ref C) == some (.type "type")) = true then PySem.W.subIn K (.ref T) (.ref C) else none) = some k
    rw [d, t, s]
    rfl
  unfold PySem.W.exmOne
  rw [b, kc]
  rfl
end
theorem all_mk {l : PySem.W.OpenLaw} {w : World} {K : PySem.W.Frag} {h : Heap} {mg : Str → Option Value} {fa C CB CN CT CI CE cA_la PT_la : Addr} (X : K.In h) (G : h.Ns mainGlobals mg) (hfa : mg "law" = some (.ref fa)) (own : ∀ (y : Str) (fb : Addr), y = "law" → mg y = some (.ref fb) → OwnTab K fb h)
    {f_isw : Addr} {kV_isw dc_isw pm_isw cd_isw ct_isw : Value} {an_isw : Option Addr} {oc_isw : Value} {od_isw : Option Addr} {sl_isw : Array (Option Value)} (a_isw : PySem.W.nsIn K mainGlobals "is_word" = some (some (.ref f_isw))) (l_isw : K.lookup f_isw = some ⟨oc_isw, od_isw, .func (PySem.W.fnOf "is_word" "is_word" (defArgs sIsWord) (defBody sIsWord) (defScope sIsWord) .none kV_isw dc_isw pm_isw an_isw cd_isw ct_isw), sl_isw⟩) (c_isw : PySem.W.codeIn K cd_isw "is_word" = true) (k_isw : PySem.W.keepIn K (.ref f_isw) = true)
    {f_isi : Addr} {kV_isi dc_isi pm_isi cd_isi ct_isi : Value} {an_isi : Option Addr} {oc_isi : Value} {od_isi : Option Addr} {sl_isi : Array (Option Value)} (a_isi : PySem.W.nsIn K mainGlobals "is_integer" = some (some (.ref f_isi))) (l_isi : K.lookup f_isi = some ⟨oc_isi, od_isi, .func (PySem.W.fnOf "is_integer" "is_integer" (defArgs sIsInteger) (defBody sIsInteger) (defScope sIsInteger) .none kV_isi dc_isi pm_isi an_isi cd_isi ct_isi), sl_isi⟩) (c_isi : PySem.W.codeIn K cd_isi "is_integer" = true) (k_isi : PySem.W.keepIn K (.ref f_isi) = true)
    {f_isn : Addr} {kV_isn dc_isn pm_isn cd_isn ct_isn : Value} {an_isn : Option Addr} {oc_isn : Value} {od_isn : Option Addr} {sl_isn : Array (Option Value)} (a_isn : PySem.W.nsIn K mainGlobals "is_number" = some (some (.ref f_isn))) (l_isn : K.lookup f_isn = some ⟨oc_isn, od_isn, .func (PySem.W.fnOf "is_number" "is_number" (defArgs sIsNumber) (defBody sIsNumber) (defScope sIsNumber) .none kV_isn dc_isn pm_isn an_isn cd_isn ct_isn), sl_isn⟩) (c_isn : PySem.W.codeIn K cd_isn "is_number" = true) (k_isn : PySem.W.keepIn K (.ref f_isn) = true)
    {f_ke : Addr} {kV_ke dc_ke pm_ke cd_ke ct_ke : Value} {an_ke : Option Addr} {oc_ke : Value} {od_ke : Option Addr} {sl_ke : Array (Option Value)} (a_ke : PySem.W.nsIn K mainGlobals "kept" = some (some (.ref f_ke))) (l_ke : K.lookup f_ke = some ⟨oc_ke, od_ke, .func (PySem.W.fnOf "kept" "kept" (defArgs sKept) (defBody sKept) (defScope sKept) .none kV_ke dc_ke pm_ke an_ke cd_ke ct_ke), sl_ke⟩) (c_ke : PySem.W.codeIn K cd_ke "kept" = true) (k_ke : PySem.W.keepIn K (.ref f_ke) = true)
    {f_nw : Addr} {kV_nw dc_nw pm_nw cd_nw ct_nw : Value} {an_nw : Option Addr} {oc_nw : Value} {od_nw : Option Addr} {sl_nw : Array (Option Value)} (a_nw : PySem.W.nsIn K mainGlobals "need_word" = some (some (.ref f_nw))) (l_nw : K.lookup f_nw = some ⟨oc_nw, od_nw, .func (PySem.W.fnOf "need_word" "need_word" (defArgs sNeedWord) (defBody sNeedWord) (defScope sNeedWord) .none kV_nw dc_nw pm_nw an_nw cd_nw ct_nw), sl_nw⟩) (c_nw : PySem.W.codeIn K cd_nw "need_word" = true) (k_nw : PySem.W.keepIn K (.ref f_nw) = true)
    {f_no : Addr} {kV_no dc_no pm_no cd_no ct_no : Value} {an_no : Option Addr} {oc_no : Value} {od_no : Option Addr} {sl_no : Array (Option Value)} (a_no : PySem.W.nsIn K mainGlobals "need_once" = some (some (.ref f_no))) (l_no : K.lookup f_no = some ⟨oc_no, od_no, .func (PySem.W.fnOf "need_once" "need_once" (defArgs sNeedOnce) (defBody sNeedOnce) (defScope sNeedOnce) .none kV_no dc_no pm_no an_no cd_no ct_no), sl_no⟩) (c_no : PySem.W.codeIn K cd_no "need_once" = true) (k_no : PySem.W.keepIn K (.ref f_no) = true)
    {f_np : Addr} {kV_np dc_np pm_np cd_np ct_np : Value} {an_np : Option Addr} {oc_np : Value} {od_np : Option Addr} {sl_np : Array (Option Value)} (a_np : PySem.W.nsIn K mainGlobals "need_places" = some (some (.ref f_np))) (l_np : K.lookup f_np = some ⟨oc_np, od_np, .func (PySem.W.fnOf "need_places" "need_places" (defArgs sNeedPlaces) (defBody sNeedPlaces) (defScope sNeedPlaces) .none kV_np dc_np pm_np an_np cd_np ct_np), sl_np⟩) (c_np : PySem.W.codeIn K cd_np "need_places" = true) (k_np : PySem.W.keepIn K (.ref f_np) = true)
    {f_ts : Addr} {kV_ts dc_ts pm_ts cd_ts ct_ts : Value} {an_ts : Option Addr} {oc_ts : Value} {od_ts : Option Addr} {sl_ts : Array (Option Value)} (a_ts : PySem.W.nsIn K mainGlobals "tie_spot" = some (some (.ref f_ts))) (l_ts : K.lookup f_ts = some ⟨oc_ts, od_ts, .func (PySem.W.fnOf "tie_spot" "tie_spot" (defArgs sTieSpot) (defBody sTieSpot) (defScope sTieSpot) .none kV_ts dc_ts pm_ts an_ts cd_ts ct_ts), sl_ts⟩) (c_ts : PySem.W.codeIn K cd_ts "tie_spot" = true) (k_ts : PySem.W.keepIn K (.ref f_ts) = true)
    {f_nt : Addr} {kV_nt dc_nt pm_nt cd_nt ct_nt : Value} {an_nt : Option Addr} {oc_nt : Value} {od_nt : Option Addr} {sl_nt : Array (Option Value)} (a_nt : PySem.W.nsIn K mainGlobals "need_ties" = some (some (.ref f_nt))) (l_nt : K.lookup f_nt = some ⟨oc_nt, od_nt, .func (PySem.W.fnOf "need_ties" "need_ties" (defArgs sNeedTies) (defBody sNeedTies) (defScope sNeedTies) .none kV_nt dc_nt pm_nt an_nt cd_nt ct_nt), sl_nt⟩) (c_nt : PySem.W.codeIn K cd_nt "need_ties" = true) (k_nt : PySem.W.keepIn K (.ref f_nt) = true)
    {f_ot : Addr} {kV_ot dc_ot pm_ot cd_ot ct_ot : Value} {an_ot : Option Addr} {oc_ot : Value} {od_ot : Option Addr} {sl_ot : Array (Option Value)} (a_ot : PySem.W.nsIn K mainGlobals "ordered_ties" = some (some (.ref f_ot))) (l_ot : K.lookup f_ot = some ⟨oc_ot, od_ot, .func (PySem.W.fnOf "ordered_ties" "ordered_ties" (defArgs sOrderedTies) (defBody sOrderedTies) (defScope sOrderedTies) .none kV_ot dc_ot pm_ot an_ot cd_ot ct_ot), sl_ot⟩) (c_ot : PySem.W.codeIn K cd_ot "ordered_ties" = true) (k_ot : PySem.W.keepIn K (.ref f_ot) = true)
    {f_lpn : Addr} {kV_lpn dc_lpn pm_lpn cd_lpn ct_lpn : Value} {an_lpn : Option Addr} {oc_lpn : Value} {od_lpn : Option Addr} {sl_lpn : Array (Option Value)} (a_lpn : PySem.W.nsIn K mainGlobals "_law_pen" = some (some (.ref f_lpn))) (l_lpn : K.lookup f_lpn = some ⟨oc_lpn, od_lpn, .func (PySem.W.fnOf "_law_pen" "_law_pen" (defArgs sPen) (defBody sPen) (defScope sPen) .none kV_lpn dc_lpn pm_lpn an_lpn cd_lpn ct_lpn), sl_lpn⟩) (c_lpn : PySem.W.codeIn K cd_lpn "_law_pen" = true) (k_lpn : PySem.W.keepIn K (.ref f_lpn) = true)
    {f_lfr : Addr} {kV_lfr dc_lfr pm_lfr cd_lfr ct_lfr : Value} {an_lfr : Option Addr} {oc_lfr : Value} {od_lfr : Option Addr} {sl_lfr : Array (Option Value)} (a_lfr : PySem.W.nsIn K mainGlobals "_law_fresh" = some (some (.ref f_lfr))) (l_lfr : K.lookup f_lfr = some ⟨oc_lfr, od_lfr, .func (PySem.W.fnOf "_law_fresh" "_law_fresh" (defArgs sFresh) (defBody sFresh) (defScope sFresh) .none kV_lfr dc_lfr pm_lfr an_lfr cd_lfr ct_lfr), sl_lfr⟩) (c_lfr : PySem.W.codeIn K cd_lfr "_law_fresh" = true) (k_lfr : PySem.W.keepIn K (.ref f_lfr) = true)
    {f_ldr : Addr} {kV_ldr dc_ldr pm_ldr cd_ldr ct_ldr : Value} {an_ldr : Option Addr} {oc_ldr : Value} {od_ldr : Option Addr} {sl_ldr : Array (Option Value)} (a_ldr : PySem.W.nsIn K mainGlobals "_law_draw" = some (some (.ref f_ldr))) (l_ldr : K.lookup f_ldr = some ⟨oc_ldr, od_ldr, .func (PySem.W.fnOf "_law_draw" "_law_draw" (defArgs sDraw) (defBody sDraw) (defScope sDraw) .none kV_ldr dc_ldr pm_ldr an_ldr cd_ldr ct_ldr), sl_ldr⟩) (c_ldr : PySem.W.codeIn K cd_ldr "_law_draw" = true) (k_ldr : PySem.W.keepIn K (.ref f_ldr) = true)
    {f_lon : Addr} {kV_lon dc_lon pm_lon cd_lon ct_lon : Value} {an_lon : Option Addr} {oc_lon : Value} {od_lon : Option Addr} {sl_lon : Array (Option Value)} (a_lon : PySem.W.nsIn K mainGlobals "_law_one_of" = some (some (.ref f_lon))) (l_lon : K.lookup f_lon = some ⟨oc_lon, od_lon, .func (PySem.W.fnOf "_law_one_of" "_law_one_of" (defArgs sOneOf) (defBody sOneOf) (defScope sOneOf) .none kV_lon dc_lon pm_lon an_lon cd_lon ct_lon), sl_lon⟩) (c_lon : PySem.W.codeIn K cd_lon "_law_one_of" = true) (k_lon : PySem.W.keepIn K (.ref f_lon) = true)
    {f_lwh : Addr} {kV_lwh dc_lwh pm_lwh cd_lwh ct_lwh : Value} {an_lwh : Option Addr} {oc_lwh : Value} {od_lwh : Option Addr} {sl_lwh : Array (Option Value)} (a_lwh : PySem.W.nsIn K mainGlobals "_law_whole" = some (some (.ref f_lwh))) (l_lwh : K.lookup f_lwh = some ⟨oc_lwh, od_lwh, .func (PySem.W.fnOf "_law_whole" "_law_whole" (defArgs sWhole) (defBody sWhole) (defScope sWhole) .none kV_lwh dc_lwh pm_lwh an_lwh cd_lwh ct_lwh), sl_lwh⟩) (c_lwh : PySem.W.codeIn K cd_lwh "_law_whole" = true) (k_lwh : PySem.W.keepIn K (.ref f_lwh) = true)
    {f_lod : Addr} {kV_lod dc_lod pm_lod cd_lod ct_lod : Value} {an_lod : Option Addr} {oc_lod : Value} {od_lod : Option Addr} {sl_lod : Array (Option Value)} (a_lod : PySem.W.nsIn K mainGlobals "_law_odd" = some (some (.ref f_lod))) (l_lod : K.lookup f_lod = some ⟨oc_lod, od_lod, .func (PySem.W.fnOf "_law_odd" "_law_odd" (defArgs sOdd) (defBody sOdd) (defScope sOdd) .none kV_lod dc_lod pm_lod an_lod cd_lod ct_lod), sl_lod⟩) (c_lod : PySem.W.codeIn K cd_lod "_law_odd" = true) (k_lod : PySem.W.keepIn K (.ref f_lod) = true)
    {f_liw : Addr} {kV_liw dc_liw pm_liw cd_liw ct_liw : Value} {an_liw : Option Addr} {oc_liw : Value} {od_liw : Option Addr} {sl_liw : Array (Option Value)} (a_liw : PySem.W.nsIn K mainGlobals "_law_is_word" = some (some (.ref f_liw))) (l_liw : K.lookup f_liw = some ⟨oc_liw, od_liw, .func (PySem.W.fnOf "_law_is_word" "_law_is_word" (defArgs sLawIsWord) (defBody sLawIsWord) (defScope sLawIsWord) .none kV_liw dc_liw pm_liw an_liw cd_liw ct_liw), sl_liw⟩) (c_liw : PySem.W.codeIn K cd_liw "_law_is_word" = true) (k_liw : PySem.W.keepIn K (.ref f_liw) = true)
    {f_lwo : Addr} {kV_lwo dc_lwo pm_lwo cd_lwo ct_lwo : Value} {an_lwo : Option Addr} {oc_lwo : Value} {od_lwo : Option Addr} {sl_lwo : Array (Option Value)} (a_lwo : PySem.W.nsIn K mainGlobals "_law_words" = some (some (.ref f_lwo))) (l_lwo : K.lookup f_lwo = some ⟨oc_lwo, od_lwo, .func (PySem.W.fnOf "_law_words" "_law_words" (defArgs sWords) (defBody sWords) (defScope sWords) .none kV_lwo dc_lwo pm_lwo an_lwo cd_lwo ct_lwo), sl_lwo⟩) (c_lwo : PySem.W.codeIn K cd_lwo "_law_words" = true) (k_lwo : PySem.W.keepIn K (.ref f_lwo) = true)
    {f_lra : Addr} {kV_lra dc_lra pm_lra cd_lra ct_lra : Value} {an_lra : Option Addr} {oc_lra : Value} {od_lra : Option Addr} {sl_lra : Array (Option Value)} (a_lra : PySem.W.nsIn K mainGlobals "_law_raw" = some (some (.ref f_lra))) (l_lra : K.lookup f_lra = some ⟨oc_lra, od_lra, .func (PySem.W.fnOf "_law_raw" "_law_raw" (defArgs sRaw) (defBody sRaw) (defScope sRaw) .none kV_lra dc_lra pm_lra an_lra cd_lra ct_lra), sl_lra⟩) (c_lra : PySem.W.codeIn K cd_lra "_law_raw" = true) (k_lra : PySem.W.keepIn K (.ref f_lra) = true)
    {f_lto : Addr} {kV_lto dc_lto pm_lto cd_lto ct_lto : Value} {an_lto : Option Addr} {oc_lto : Value} {od_lto : Option Addr} {sl_lto : Array (Option Value)} (a_lto : PySem.W.nsIn K mainGlobals "_law_told" = some (some (.ref f_lto))) (l_lto : K.lookup f_lto = some ⟨oc_lto, od_lto, .func (PySem.W.fnOf "_law_told" "_law_told" (defArgs sTold) (defBody sTold) (defScope sTold) .none kV_lto dc_lto pm_lto an_lto cd_lto ct_lto), sl_lto⟩) (c_lto : PySem.W.codeIn K cd_lto "_law_told" = true) (k_lto : PySem.W.keepIn K (.ref f_lto) = true)
    {f_lva : Addr} {kV_lva dc_lva pm_lva cd_lva ct_lva : Value} {an_lva : Option Addr} {oc_lva : Value} {od_lva : Option Addr} {sl_lva : Array (Option Value)} (a_lva : PySem.W.nsIn K mainGlobals "_law_value" = some (some (.ref f_lva))) (l_lva : K.lookup f_lva = some ⟨oc_lva, od_lva, .func (PySem.W.fnOf "_law_value" "_law_value" (defArgs sValue) (defBody sValue) (defScope sValue) .none kV_lva dc_lva pm_lva an_lva cd_lva ct_lva), sl_lva⟩) (c_lva : PySem.W.codeIn K cd_lva "_law_value" = true) (k_lva : PySem.W.keepIn K (.ref f_lva) = true)
    {f_lti : Addr} {kV_lti dc_lti pm_lti cd_lti ct_lti : Value} {an_lti : Option Addr} {oc_lti : Value} {od_lti : Option Addr} {sl_lti : Array (Option Value)} (a_lti : PySem.W.nsIn K mainGlobals "_law_ties" = some (some (.ref f_lti))) (l_lti : K.lookup f_lti = some ⟨oc_lti, od_lti, .func (PySem.W.fnOf "_law_ties" "_law_ties" (defArgs sTies) (defBody sTies) (defScope sTies) .none kV_lti dc_lti pm_lti an_lti cd_lti ct_lti), sl_lti⟩) (c_lti : PySem.W.codeIn K cd_lti "_law_ties" = true) (k_lti : PySem.W.keepIn K (.ref f_lti) = true)
    {f_lis : Addr} {kV_lis dc_lis pm_lis cd_lis ct_lis : Value} {an_lis : Option Addr} {oc_lis : Value} {od_lis : Option Addr} {sl_lis : Array (Option Value)} (a_lis : PySem.W.nsIn K mainGlobals "_law_is" = some (some (.ref f_lis))) (l_lis : K.lookup f_lis = some ⟨oc_lis, od_lis, .func (PySem.W.fnOf "_law_is" "_law_is" (defArgs sIs) (defBody sIs) (defScope sIs) .none kV_lis dc_lis pm_lis an_lis cd_lis ct_lis), sl_lis⟩) (c_lis : PySem.W.codeIn K cd_lis "_law_is" = true) (k_lis : PySem.W.keepIn K (.ref f_lis) = true)
    {f_lnw : Addr} {kV_lnw dc_lnw pm_lnw cd_lnw ct_lnw : Value} {an_lnw : Option Addr} {oc_lnw : Value} {od_lnw : Option Addr} {sl_lnw : Array (Option Value)} (a_lnw : PySem.W.nsIn K mainGlobals "_law_no_word" = some (some (.ref f_lnw))) (l_lnw : K.lookup f_lnw = some ⟨oc_lnw, od_lnw, .func (PySem.W.fnOf "_law_no_word" "_law_no_word" (defArgs sNoWord) (defBody sNoWord) (defScope sNoWord) .none kV_lnw dc_lnw pm_lnw an_lnw cd_lnw ct_lnw), sl_lnw⟩) (c_lnw : PySem.W.codeIn K cd_lnw "_law_no_word" = true) (k_lnw : PySem.W.keepIn K (.ref f_lnw) = true)
    {f_lou : Addr} {kV_lou dc_lou pm_lou cd_lou ct_lou : Value} {an_lou : Option Addr} {oc_lou : Value} {od_lou : Option Addr} {sl_lou : Array (Option Value)} (a_lou : PySem.W.nsIn K mainGlobals "_law_outcome" = some (some (.ref f_lou))) (l_lou : K.lookup f_lou = some ⟨oc_lou, od_lou, .func (PySem.W.fnOf "_law_outcome" "_law_outcome" (defArgs sOutcome) (defBody sOutcome) (defScope sOutcome) .none kV_lou dc_lou pm_lou an_lou cd_lou ct_lou), sl_lou⟩) (c_lou : PySem.W.codeIn K cd_lou "_law_outcome" = true) (k_lou : PySem.W.keepIn K (.ref f_lou) = true)
    {f_ltd : Addr} {kV_ltd dc_ltd pm_ltd cd_ltd ct_ltd : Value} {an_ltd : Option Addr} {oc_ltd : Value} {od_ltd : Option Addr} {sl_ltd : Array (Option Value)} (a_ltd : PySem.W.nsIn K mainGlobals "_law_tie_due" = some (some (.ref f_ltd))) (l_ltd : K.lookup f_ltd = some ⟨oc_ltd, od_ltd, .func (PySem.W.fnOf "_law_tie_due" "_law_tie_due" (defArgs sTieDue) (defBody sTieDue) (defScope sTieDue) .none kV_ltd dc_ltd pm_ltd an_ltd cd_ltd ct_ltd), sl_ltd⟩) (c_ltd : PySem.W.codeIn K cd_ltd "_law_tie_due" = true) (k_ltd : PySem.W.keepIn K (.ref f_ltd) = true)
    {f_ldu : Addr} {kV_ldu dc_ldu pm_ldu cd_ldu ct_ldu : Value} {an_ldu : Option Addr} {oc_ldu : Value} {od_ldu : Option Addr} {sl_ldu : Array (Option Value)} (a_ldu : PySem.W.nsIn K mainGlobals "_law_due" = some (some (.ref f_ldu))) (l_ldu : K.lookup f_ldu = some ⟨oc_ldu, od_ldu, .func (PySem.W.fnOf "_law_due" "_law_due" (defArgs sDueWay) (defBody sDueWay) (defScope sDueWay) .none kV_ldu dc_ldu pm_ldu an_ldu cd_ldu ct_ldu), sl_ldu⟩) (c_ldu : PySem.W.codeIn K cd_ldu "_law_due" = true) (k_ldu : PySem.W.keepIn K (.ref f_ldu) = true)
    {f_lsl : Addr} {kV_lsl dc_lsl pm_lsl cd_lsl ct_lsl : Value} {an_lsl : Option Addr} {oc_lsl : Value} {od_lsl : Option Addr} {sl_lsl : Array (Option Value)} (a_lsl : PySem.W.nsIn K mainGlobals "_law_spoilt_place" = some (some (.ref f_lsl))) (l_lsl : K.lookup f_lsl = some ⟨oc_lsl, od_lsl, .func (PySem.W.fnOf "_law_spoilt_place" "_law_spoilt_place" (defArgs sSpoiltPlace) (defBody sSpoiltPlace) (defScope sSpoiltPlace) .none kV_lsl dc_lsl pm_lsl an_lsl cd_lsl ct_lsl), sl_lsl⟩) (c_lsl : PySem.W.codeIn K cd_lsl "_law_spoilt_place" = true) (k_lsl : PySem.W.keepIn K (.ref f_lsl) = true)
    {f_lst : Addr} {kV_lst dc_lst pm_lst cd_lst ct_lst : Value} {an_lst : Option Addr} {oc_lst : Value} {od_lst : Option Addr} {sl_lst : Array (Option Value)} (a_lst : PySem.W.nsIn K mainGlobals "_law_spoilt_tie" = some (some (.ref f_lst))) (l_lst : K.lookup f_lst = some ⟨oc_lst, od_lst, .func (PySem.W.fnOf "_law_spoilt_tie" "_law_spoilt_tie" (defArgs sSpoiltTie) (defBody sSpoiltTie) (defScope sSpoiltTie) .none kV_lst dc_lst pm_lst an_lst cd_lst ct_lst), sl_lst⟩) (c_lst : PySem.W.codeIn K cd_lst "_law_spoilt_tie" = true) (k_lst : PySem.W.keepIn K (.ref f_lst) = true)
    {f_la : Addr} {kV_la dc_la pm_la  ct_la : Value} {an_la : Option Addr} {oc_la : Value} {od_la : Option Addr} {sl_la : Array (Option Value)} (a_la : PySem.W.nsIn K mainGlobals "law" = some (some (.ref f_la))) (l_la : K.lookup f_la = some ⟨oc_la, od_la, .func (PySem.W.fnOf "law" "law" (defArgs sLaw) (defBody sLaw) (defScope sLaw) .none kV_la dc_la pm_la an_la (.ref cA_la) ct_la), sl_la⟩) (c_la : PySem.W.codeIn K (.ref cA_la) "law" = true) (k_la : PySem.W.keepIn K (.ref f_la) = true)
    {dd_la : Option Addr} {vs_la : Array Value} {sc_la : Array (Option Value)} (lc_la : K.lookup cA_la = some ⟨.type "code", dd_la, .fields vs_la, sc_la⟩) (v11_la : vs_la[11]? = some (.ref PT_la)) (hd_la : hdV vs_la cA_la PT_la = true) (nt_la : K.lookup PT_la = none)
    {f_mi : Addr} {kV_mi dc_mi pm_mi cd_mi ct_mi : Value} {an_mi : Option Addr} {oc_mi : Value} {od_mi : Option Addr} {sl_mi : Array (Option Value)} (a_mi : PySem.W.findIn K (.ref C) "__init__" = some (some (.ref f_mi))) (i_mi : PySem.W.isFn K (.ref f_mi) = true) (l_mi : K.lookup f_mi = some ⟨oc_mi, od_mi, .func (PySem.W.fnOf "__init__" "Web.__init__" (defArgs sWebInit) (defBody sWebInit) (defScope sWebInit) .none kV_mi dc_mi pm_mi an_mi cd_mi ct_mi), sl_mi⟩) (c_mi : PySem.W.codeIn K cd_mi "Web.__init__" = true) (k_mi : PySem.W.keepIn K (.ref f_mi) = true)
    {f_mp : Addr} {kV_mp dc_mp pm_mp cd_mp ct_mp : Value} {an_mp : Option Addr} {oc_mp : Value} {od_mp : Option Addr} {sl_mp : Array (Option Value)} (a_mp : PySem.W.findIn K (.ref C) "places" = some (some (.ref f_mp))) (i_mp : PySem.W.isFn K (.ref f_mp) = true) (l_mp : K.lookup f_mp = some ⟨oc_mp, od_mp, .func (PySem.W.fnOf "places" "Web.places" (defArgs sWebPlaces) (defBody sWebPlaces) (defScope sWebPlaces) .none kV_mp dc_mp pm_mp an_mp cd_mp ct_mp), sl_mp⟩) (c_mp : PySem.W.codeIn K cd_mp "Web.places" = true) (k_mp : PySem.W.keepIn K (.ref f_mp) = true)
    {f_mc : Addr} {kV_mc dc_mc pm_mc cd_mc ct_mc : Value} {an_mc : Option Addr} {oc_mc : Value} {od_mc : Option Addr} {sl_mc : Array (Option Value)} (a_mc : PySem.W.findIn K (.ref C) "colour" = some (some (.ref f_mc))) (i_mc : PySem.W.isFn K (.ref f_mc) = true) (l_mc : K.lookup f_mc = some ⟨oc_mc, od_mc, .func (PySem.W.fnOf "colour" "Web.colour" (defArgs sWebColour) (defBody sWebColour) (defScope sWebColour) .none kV_mc dc_mc pm_mc an_mc cd_mc ct_mc), sl_mc⟩) (c_mc : PySem.W.codeIn K cd_mc "Web.colour" = true) (k_mc : PySem.W.keepIn K (.ref f_mc) = true)
    {f_mt : Addr} {kV_mt dc_mt pm_mt cd_mt ct_mt : Value} {an_mt : Option Addr} {oc_mt : Value} {od_mt : Option Addr} {sl_mt : Array (Option Value)} (a_mt : PySem.W.findIn K (.ref C) "ties" = some (some (.ref f_mt))) (i_mt : PySem.W.isFn K (.ref f_mt) = true) (l_mt : K.lookup f_mt = some ⟨oc_mt, od_mt, .func (PySem.W.fnOf "ties" "Web.ties" (defArgs sWebTies) (defBody sWebTies) (defScope sWebTies) .none kV_mt dc_mt pm_mt an_mt cd_mt ct_mt), sl_mt⟩) (c_mt : PySem.W.codeIn K cd_mt "Web.ties" = true) (k_mt : PySem.W.keepIn K (.ref f_mt) = true)
    {f_mh : Addr} {kV_mh dc_mh pm_mh cd_mh ct_mh : Value} {an_mh : Option Addr} {oc_mh : Value} {od_mh : Option Addr} {sl_mh : Array (Option Value)} (a_mh : PySem.W.findIn K (.ref C) "__contains__" = some (some (.ref f_mh))) (i_mh : PySem.W.isFn K (.ref f_mh) = true) (l_mh : K.lookup f_mh = some ⟨oc_mh, od_mh, .func (PySem.W.fnOf "__contains__" "Web.__contains__" (defArgs sWebHas) (defBody sWebHas) (defScope sWebHas) .none kV_mh dc_mh pm_mh an_mh cd_mh ct_mh), sl_mh⟩) (c_mh : PySem.W.codeIn K cd_mh "Web.__contains__" = true) (k_mh : PySem.W.keepIn K (.ref f_mh) = true)
    {f_ml : Addr} {kV_ml dc_ml pm_ml cd_ml ct_ml : Value} {an_ml : Option Addr} {oc_ml : Value} {od_ml : Option Addr} {sl_ml : Array (Option Value)} (a_ml : PySem.W.findIn K (.ref C) "__len__" = some (some (.ref f_ml))) (i_ml : PySem.W.isFn K (.ref f_ml) = true) (l_ml : K.lookup f_ml = some ⟨oc_ml, od_ml, .func (PySem.W.fnOf "__len__" "Web.__len__" (defArgs sWebLen) (defBody sWebLen) (defScope sWebLen) .none kV_ml dc_ml pm_ml an_ml cd_ml ct_ml), sl_ml⟩) (c_ml : PySem.W.codeIn K cd_ml "Web.__len__" = true) (k_ml : PySem.W.keepIn K (.ref f_ml) = true)
    {f_mk : Addr} {kV_mk dc_mk pm_mk cd_mk ct_mk : Value} {an_mk : Option Addr} {oc_mk : Value} {od_mk : Option Addr} {sl_mk : Array (Option Value)} (a_mk : PySem.W.findIn K (.ref C) "kinds" = some (some (.ref f_mk))) (i_mk : PySem.W.isFn K (.ref f_mk) = true) (l_mk : K.lookup f_mk = some ⟨oc_mk, od_mk, .func (PySem.W.fnOf "kinds" "Web.kinds" (defArgs sWebKinds) (defBody sWebKinds) (defScope sWebKinds) .none kV_mk dc_mk pm_mk an_mk cd_mk ct_mk), sl_mk⟩) (c_mk : PySem.W.codeIn K cd_mk "Web.kinds" = true) (k_mk : PySem.W.keepIn K (.ref f_mk) = true)
    {f_mu : Addr} {kV_mu dc_mu pm_mu cd_mu ct_mu : Value} {an_mu : Option Addr} {oc_mu : Value} {od_mu : Option Addr} {sl_mu : Array (Option Value)} (a_mu : PySem.W.findIn K (.ref C) "colours" = some (some (.ref f_mu))) (i_mu : PySem.W.isFn K (.ref f_mu) = true) (l_mu : K.lookup f_mu = some ⟨oc_mu, od_mu, .func (PySem.W.fnOf "colours" "Web.colours" (defArgs sWebColours) (defBody sWebColours) (defScope sWebColours) .none kV_mu dc_mu pm_mu an_mu cd_mu ct_mu), sl_mu⟩) (c_mu : PySem.W.codeIn K cd_mu "Web.colours" = true) (k_mu : PySem.W.keepIn K (.ref f_mu) = true)
    (z_len : PySem.W.nsIn K mainGlobals "len" = some none)
    (z_int : PySem.W.nsIn K mainGlobals "int" = some none)
    (z_list : PySem.W.nsIn K mainGlobals "list" = some none)
    (z_range : PySem.W.nsIn K mainGlobals "range" = some none)
    (z_abs : PySem.W.nsIn K mainGlobals "abs" = some none)
    (z_sorted : PySem.W.nsIn K mainGlobals "sorted" = some none)
    (z_dict : PySem.W.nsIn K mainGlobals "dict" = some none)
    (z_enumerate : PySem.W.nsIn K mainGlobals "enumerate" = some none)
    (z_str : PySem.W.nsIn K mainGlobals "str" = some none)
    (z_max : PySem.W.nsIn K mainGlobals "max" = some none)
    (z_min : PySem.W.nsIn K mainGlobals "min" = some none)
    (z_set : PySem.W.nsIn K mainGlobals "set" = some none)
    (z_sum : PySem.W.nsIn K mainGlobals "sum" = some none)
    (z_zip : PySem.W.nsIn K mainGlobals "zip" = some none)
    (z_isinstance : PySem.W.nsIn K mainGlobals "isinstance" = some none)
    (z_all : PySem.W.nsIn K mainGlobals "all" = some none)
    (z_bool : PySem.W.nsIn K mainGlobals "bool" = some none)
    (z_tuple : PySem.W.nsIn K mainGlobals "tuple" = some none)
    (z_super : PySem.W.nsIn K mainGlobals "super" = some none)
    (z_repr : PySem.W.nsIn K mainGlobals "repr" = some none)
    {tl td : Tok} (z_letters : PySem.W.nsIn K mainGlobals "LETTERS" = some (some (.str "abcdefghijklmnopqrstuvwxyz" tl))) (z_digits : PySem.W.nsIn K mainGlobals "DIGITS" = some (some (.str "0123456789" td)))
    (z_C : PySem.W.nsIn K mainGlobals "Web" = some (some (.ref C))) (pg : PySem.W.plainGet K C Str.empty = true) (hd : PySem.W.hasDictIn K C = true) (po : PySem.W.plainOver K C = true) (sa : PySem.W.findIn K (.ref C) "__setattr__" = some (some (.builtin "object.__setattr__"))) (mk : PySem.W.makesIn K C = true) (kc : PySem.W.keepIn K (.ref C) = true)
    (nCo : PySem.W.findIn K (.ref C) "_colour_of" = some none) (nNa : PySem.W.findIn K (.ref C) "_names" = some none) (nTi : PySem.W.findIn K (.ref C) "_ties" = some none) (nWi : PySem.W.findIn K (.ref C) "_width_of" = some none)
    (opq : PySem.W.nsIn K PySem.cStatics "thirdparty.any" = some none) (top_s : (l.prog.main.scope.names.lookup ("super" : Str)).isSome = false)
    {f_Bi cdaB ccB : Addr} {kV_Bi dc_Bi pm_Bi ct_Bi : Value} {an_Bi : Option Addr} {oc_Bi : Value} {od_Bi : Option Addr} {sl_Bi : Array (Option Value)} (a_Bi : PySem.W.findIn K (.ref CB) "__init__" = some (some (.ref f_Bi))) (t_Bi : PySem.W.typeIn K (.ref f_Bi) = some (.type "function"))
    (l_Bi : K.lookup f_Bi = some ⟨oc_Bi, od_Bi, .func (PySem.W.ksFn "__init__" "BadNumber.__init__" (defArgs sBadNumberInit) (defBody sBadNumberInit) (defScope sBadNumberInit) .none kV_Bi dc_Bi pm_Bi an_Bi (.ref cdaB) ct_Bi ccB), sl_Bi⟩) (c_Bi : PySem.W.codeIn K (.ref cdaB) "BadNumber.__init__" = true)
    {cclB : Value} {cddB : Option Addr} {vs_B : Array Value} {ccsB : Array (Option Value)} (l_Bb : K.lookup cdaB = some ⟨cclB, cddB, .fields vs_B, ccsB⟩) {fileB : Str} {tfB : Tok} (v_B : vs_B[2]? = some (.str fileB tfB)) (fi_B : ((l.prog.main.file : Str) == fileB) = true)
    {clB : Value} {cldB : Option Addr} {cslB : Array (Option Value)} (l_Bcc : K.lookup ccB = some ⟨clB, cldB, .cell (some (.ref CB)), cslB⟩) {cdB : PySem.ClassData} (d_B : PySem.W.clsIn K CB = some cdB) (m_B : PySem.W.mroIn K CB (.ref CB) = some true) (sV_B : PySem.W.subIn K (.ref CB) (.type "ValueError") = some true)
    (su_B : PySem.W.ks_superIn K CB CB "__init__" = some (some (.builtin "ValueError.__init__")))
    {nm_B q_B : Str} {N_B : Addr} {bs_B : List Value} {bm_B : List Value} {sn_B sub_B ab_B col_B dd_B k0_B k1_B k2_B k3_B k5_B : _} (l_B : K.lookup CB = some (excClassObj nm_B q_B CB N_B bs_B bm_B true sn_B sub_B ab_B col_B dd_B k0_B k1_B k2_B k3_B k5_B "ValueError.__new__")) (r_B : PySem.HandSPX.refsVE bm_B = true)
    (sa_B : PySem.W.findIn K (.ref CB) "__setattr__" = some (some (.builtin "object.__setattr__"))) (ex_B : PySem.W.subIn K (.ref CB) (.type "BaseException") = some true) (ty_B : PySem.W.typeIn K (.ref CB) = some (.type "type")) (kp_B : PySem.W.keepIn K (.ref CB) = true) (sb_B : PySem.W.subIn K (.ref CB) (.ref CB) = some true)
    (ga_B : PySem.W.findIn K (.ref CB) "__getattribute__" = some (some (.builtin "BaseException.__getattribute__"))) (gg_B : PySem.W.findIn K (.ref CB) "__getattr__" = some none) (hd_B : PySem.W.hasDictIn K CB = true) (nu_B : PySem.W.findIn K (.ref CB) "number" = some none) (z_B : PySem.W.nsIn K mainGlobals "BadNumber" = some (some (.ref CB)))
    {f_Ni cdaN ccN : Addr} {kV_Ni dc_Ni pm_Ni ct_Ni : Value} {an_Ni : Option Addr} {oc_Ni : Value} {od_Ni : Option Addr} {sl_Ni : Array (Option Value)} (a_Ni : PySem.W.findIn K (.ref CN) "__init__" = some (some (.ref f_Ni))) (t_Ni : PySem.W.typeIn K (.ref f_Ni) = some (.type "function"))
    (l_Ni : K.lookup f_Ni = some ⟨oc_Ni, od_Ni, .func (PySem.W.ksFn "__init__" "BadName.__init__" (defArgs sBadNameInit) (defBody sBadNameInit) (defScope sBadNameInit) .none kV_Ni dc_Ni pm_Ni an_Ni (.ref cdaN) ct_Ni ccN), sl_Ni⟩) (c_Ni : PySem.W.codeIn K (.ref cdaN) "BadName.__init__" = true)
    {cclN : Value} {cddN : Option Addr} {vs_N : Array Value} {ccsN : Array (Option Value)} (l_Nb : K.lookup cdaN = some ⟨cclN, cddN, .fields vs_N, ccsN⟩) {fileN : Str} {tfN : Tok} (v_N : vs_N[2]? = some (.str fileN tfN)) (fi_N : ((l.prog.main.file : Str) == fileN) = true)
    {clN : Value} {cldN : Option Addr} {cslN : Array (Option Value)} (l_Ncc : K.lookup ccN = some ⟨clN, cldN, .cell (some (.ref CN)), cslN⟩) {cdN : PySem.ClassData} (d_N : PySem.W.clsIn K CN = some cdN) (m_N : PySem.W.mroIn K CN (.ref CN) = some true) (sV_N : PySem.W.subIn K (.ref CN) (.type "ValueError") = some true)
    (su_N : PySem.W.ks_superIn K CN CN "__init__" = some (some (.builtin "ValueError.__init__")))
    {nm_N q_N : Str} {N_N : Addr} {bs_N : List Value} {bm_N : List Value} {sn_N sub_N ab_N col_N dd_N k0_N k1_N k2_N k3_N k5_N : _} (l_N : K.lookup CN = some (excClassObj nm_N q_N CN N_N bs_N bm_N true sn_N sub_N ab_N col_N dd_N k0_N k1_N k2_N k3_N k5_N "ValueError.__new__")) (r_N : PySem.HandSPX.refsVE bm_N = true)
    (sa_N : PySem.W.findIn K (.ref CN) "__setattr__" = some (some (.builtin "object.__setattr__"))) (ex_N : PySem.W.subIn K (.ref CN) (.type "BaseException") = some true) (ty_N : PySem.W.typeIn K (.ref CN) = some (.type "type")) (kp_N : PySem.W.keepIn K (.ref CN) = true) (sb_N : PySem.W.subIn K (.ref CN) (.ref CN) = some true)
    (ga_N : PySem.W.findIn K (.ref CN) "__getattribute__" = some (some (.builtin "BaseException.__getattribute__"))) (gg_N : PySem.W.findIn K (.ref CN) "__getattr__" = some none) (hd_N : PySem.W.hasDictIn K CN = true) (nu_N : PySem.W.findIn K (.ref CN) "name" = some none) (z_N : PySem.W.nsIn K mainGlobals "BadName" = some (some (.ref CN)))
    {f_Ti cdaT ccT : Addr} {kV_Ti dc_Ti pm_Ti ct_Ti : Value} {an_Ti : Option Addr} {oc_Ti : Value} {od_Ti : Option Addr} {sl_Ti : Array (Option Value)} (a_Ti : PySem.W.findIn K (.ref CT) "__init__" = some (some (.ref f_Ti))) (t_Ti : PySem.W.typeIn K (.ref f_Ti) = some (.type "function"))
    (l_Ti : K.lookup f_Ti = some ⟨oc_Ti, od_Ti, .func (PySem.W.ksFn "__init__" "TwiceTold.__init__" (defArgs sTwiceToldInit) (defBody sTwiceToldInit) (defScope sTwiceToldInit) .none kV_Ti dc_Ti pm_Ti an_Ti (.ref cdaT) ct_Ti ccT), sl_Ti⟩) (c_Ti : PySem.W.codeIn K (.ref cdaT) "TwiceTold.__init__" = true)
    {cclT : Value} {cddT : Option Addr} {vs_T : Array Value} {ccsT : Array (Option Value)} (l_Tb : K.lookup cdaT = some ⟨cclT, cddT, .fields vs_T, ccsT⟩) {fileT : Str} {tfT : Tok} (v_T : vs_T[2]? = some (.str fileT tfT)) (fi_T : ((l.prog.main.file : Str) == fileT) = true)
    {clT : Value} {cldT : Option Addr} {cslT : Array (Option Value)} (l_Tcc : K.lookup ccT = some ⟨clT, cldT, .cell (some (.ref CT)), cslT⟩) {cdT : PySem.ClassData} (d_T : PySem.W.clsIn K CT = some cdT) (m_T : PySem.W.mroIn K CT (.ref CT) = some true) (sV_T : PySem.W.subIn K (.ref CT) (.type "ValueError") = some true)
    (su_T : PySem.W.ks_superIn K CT CT "__init__" = some (some (.builtin "ValueError.__init__")))
    {nm_T q_T : Str} {N_T : Addr} {bs_T : List Value} {bm_T : List Value} {sn_T sub_T ab_T col_T dd_T k0_T k1_T k2_T k3_T k5_T : _} (l_T : K.lookup CT = some (excClassObj nm_T q_T CT N_T bs_T bm_T true sn_T sub_T ab_T col_T dd_T k0_T k1_T k2_T k3_T k5_T "ValueError.__new__")) (r_T : PySem.HandSPX.refsVE bm_T = true)
    (sa_T : PySem.W.findIn K (.ref CT) "__setattr__" = some (some (.builtin "object.__setattr__"))) (ex_T : PySem.W.subIn K (.ref CT) (.type "BaseException") = some true) (ty_T : PySem.W.typeIn K (.ref CT) = some (.type "type")) (kp_T : PySem.W.keepIn K (.ref CT) = true) (sb_T : PySem.W.subIn K (.ref CT) (.ref CT) = some true)
    (ga_T : PySem.W.findIn K (.ref CT) "__getattribute__" = some (some (.builtin "BaseException.__getattribute__"))) (gg_T : PySem.W.findIn K (.ref CT) "__getattr__" = some none) (hd_T : PySem.W.hasDictIn K CT = true) (nu_T : PySem.W.findIn K (.ref CT) "name" = some none) (z_T : PySem.W.nsIn K mainGlobals "TwiceTold" = some (some (.ref CT)))
    {f_Ii cdaI ccI : Addr} {kV_Ii dc_Ii pm_Ii ct_Ii : Value} {an_Ii : Option Addr} {oc_Ii : Value} {od_Ii : Option Addr} {sl_Ii : Array (Option Value)} (a_Ii : PySem.W.findIn K (.ref CI) "__init__" = some (some (.ref f_Ii))) (t_Ii : PySem.W.typeIn K (.ref f_Ii) = some (.type "function"))
    (l_Ii : K.lookup f_Ii = some ⟨oc_Ii, od_Ii, .func (PySem.W.ksFn "__init__" "BadTie.__init__" (defArgs sBadTieInit) (defBody sBadTieInit) (defScope sBadTieInit) .none kV_Ii dc_Ii pm_Ii an_Ii (.ref cdaI) ct_Ii ccI), sl_Ii⟩) (c_Ii : PySem.W.codeIn K (.ref cdaI) "BadTie.__init__" = true)
    {cclI : Value} {cddI : Option Addr} {vs_I : Array Value} {ccsI : Array (Option Value)} (l_Ib : K.lookup cdaI = some ⟨cclI, cddI, .fields vs_I, ccsI⟩) {fileI : Str} {tfI : Tok} (v_I : vs_I[2]? = some (.str fileI tfI)) (fi_I : ((l.prog.main.file : Str) == fileI) = true)
    {clI : Value} {cldI : Option Addr} {cslI : Array (Option Value)} (l_Icc : K.lookup ccI = some ⟨clI, cldI, .cell (some (.ref CI)), cslI⟩) {cdI : PySem.ClassData} (d_I : PySem.W.clsIn K CI = some cdI) (m_I : PySem.W.mroIn K CI (.ref CI) = some true) (sV_I : PySem.W.subIn K (.ref CI) (.type "ValueError") = some true)
    (su_I : PySem.W.ks_superIn K CI CI "__init__" = some (some (.builtin "ValueError.__init__")))
    {nm_I q_I : Str} {N_I : Addr} {bs_I : List Value} {bm_I : List Value} {sn_I sub_I ab_I col_I dd_I k0_I k1_I k2_I k3_I k5_I : _} (l_I : K.lookup CI = some (excClassObj nm_I q_I CI N_I bs_I bm_I true sn_I sub_I ab_I col_I dd_I k0_I k1_I k2_I k3_I k5_I "ValueError.__new__")) (r_I : PySem.HandSPX.refsVE bm_I = true)
    (sa_I : PySem.W.findIn K (.ref CI) "__setattr__" = some (some (.builtin "object.__setattr__"))) (ex_I : PySem.W.subIn K (.ref CI) (.type "BaseException") = some true) (ty_I : PySem.W.typeIn K (.ref CI) = some (.type "type")) (kp_I : PySem.W.keepIn K (.ref CI) = true) (sb_I : PySem.W.subIn K (.ref CI) (.ref CI) = some true)
    (ga_I : PySem.W.findIn K (.ref CI) "__getattribute__" = some (some (.builtin "BaseException.__getattribute__"))) (gg_I : PySem.W.findIn K (.ref CI) "__getattr__" = some none) (hd_I : PySem.W.hasDictIn K CI = true) (nu_I : PySem.W.findIn K (.ref CI) "number" = some none) (z_I : PySem.W.nsIn K mainGlobals "BadTie" = some (some (.ref CI)))
    (z_E : PySem.W.nsIn K mainGlobals "NamelessError" = some (some (.ref CE))) (sb_NB : PySem.W.subIn K (.ref CN) (.ref CB) = some false) (sb_TB : PySem.W.subIn K (.ref CT) (.ref CB) = some false) (sb_TN : PySem.W.subIn K (.ref CT) (.ref CN) = some false) (sb_IB : PySem.W.subIn K (.ref CI) (.ref CB) = some false) (sb_IN : PySem.W.subIn K (.ref CI) (.ref CN) = some false) (sb_IT : PySem.W.subIn K (.ref CI) (.ref CT) = some false)
    : LawAtG l w K CX0 63 "_law_script" mg fa h := by
  have e := hfa.symm.trans (PySem.W.mg_of X G a_la)
  cases e
  have none_ := fun {x : Str} (z : PySem.W.nsIn K mainGlobals x = some none) => PySem.W.mg_none_of X G z
  have TA : TxtA mg := ⟨none_ z_len, none_ z_int⟩
  have TB : TxtB mg := ⟨TA, none_ z_list, none_ z_range, none_ z_abs⟩
  have TC : TxtC mg := ⟨TB, none_ z_sorted⟩
  have TD : TxtD mg := ⟨TC, none_ z_dict, none_ z_enumerate, none_ z_str⟩
  have TE : TxtE mg := ⟨TD, none_ z_max, none_ z_min, none_ z_set, none_ z_sum⟩
  have TF : TxtF mg := ⟨TE, none_ z_zip⟩
  have TG : TxtG mg := ⟨TF, none_ z_isinstance, none_ z_all, none_ z_bool, ⟨tl, PySem.W.mg_of X G z_letters⟩, ⟨td, PySem.W.mg_of X G z_digits⟩⟩
  have TH : TxtH mg := ⟨TG, none_ z_tuple⟩
  have TW : TxtW K mg C := ⟨TH, ⟨pg, hd, po, sa⟩, nCo, nNa, nTi, nWi⟩
  have TM : TxtM K mg C f_mi := ⟨TW, PySem.W.mg_of X G z_C, ⟨mk, a_mi, i_mi, kc⟩⟩
  have TKe : TxtKe mg := ⟨none_ z_isinstance, none_ z_list, none_ z_tuple, none_ z_dict⟩
  have XF_B : XfC K CB := ⟨ga_B, gg_B, ex_B, hd_B⟩
  have mB := PySem.W.mg_of X G z_B
  have OX_B : OexC K CB := ⟨⟨_, _, _, _, _, _, _, _, _, _, _, _, _, _, _, l_B, r_B⟩, sa_B, ex_B, ty_B, kp_B⟩
  have SF_B : SupF l.prog K CB f_Bi cdaB ccB _ "BadNumber.__init__" sBadNumberInit "self" := ⟨OX_B, ⟨_, _, _, _, _, _, _, _, rfl, l_Bi⟩, ⟨_, rfl, rfl⟩, ⟨_, _, _, _, _, _, l_Bb, v_B, fi_B⟩, c_Bi, ⟨_, _, _, l_Bcc⟩, ⟨_, d_B⟩, m_B, sV_B, su_B, opq, top_s⟩
  have b_Bi : Binds K (PySem.W.ksFn "__init__" "BadNumber.__init__" (defArgs sBadNumberInit) (defBody sBadNumberInit) (defScope sBadNumberInit) .none kV_Bi dc_Bi pm_Bi an_Bi (.ref cdaB) ct_Bi ccB) ["self", "number"] [] := .all fun us hl => match us, hl with | [_, _], _ => rfl
  have XF_N : XfC K CN := ⟨ga_N, gg_N, ex_N, hd_N⟩
  have mN := PySem.W.mg_of X G z_N
  have OX_N : OexC K CN := ⟨⟨_, _, _, _, _, _, _, _, _, _, _, _, _, _, _, l_N, r_N⟩, sa_N, ex_N, ty_N, kp_N⟩
  have SF_N : SupF l.prog K CN f_Ni cdaN ccN _ "BadName.__init__" sBadNameInit "self" := ⟨OX_N, ⟨_, _, _, _, _, _, _, _, rfl, l_Ni⟩, ⟨_, rfl, rfl⟩, ⟨_, _, _, _, _, _, l_Nb, v_N, fi_N⟩, c_Ni, ⟨_, _, _, l_Ncc⟩, ⟨_, d_N⟩, m_N, sV_N, su_N, opq, top_s⟩
  have b_Ni : Binds K (PySem.W.ksFn "__init__" "BadName.__init__" (defArgs sBadNameInit) (defBody sBadNameInit) (defScope sBadNameInit) .none kV_Ni dc_Ni pm_Ni an_Ni (.ref cdaN) ct_Ni ccN) ["self", "name"] [] := .all fun us hl => match us, hl with | [_, _], _ => rfl
  have XF_T : XfC K CT := ⟨ga_T, gg_T, ex_T, hd_T⟩
  have mT := PySem.W.mg_of X G z_T
  have OX_T : OexC K CT := ⟨⟨_, _, _, _, _, _, _, _, _, _, _, _, _, _, _, l_T, r_T⟩, sa_T, ex_T, ty_T, kp_T⟩
  have SF_T : SupF l.prog K CT f_Ti cdaT ccT _ "TwiceTold.__init__" sTwiceToldInit "self" := ⟨OX_T, ⟨_, _, _, _, _, _, _, _, rfl, l_Ti⟩, ⟨_, rfl, rfl⟩, ⟨_, _, _, _, _, _, l_Tb, v_T, fi_T⟩, c_Ti, ⟨_, _, _, l_Tcc⟩, ⟨_, d_T⟩, m_T, sV_T, su_T, opq, top_s⟩
  have b_Ti : Binds K (PySem.W.ksFn "__init__" "TwiceTold.__init__" (defArgs sTwiceToldInit) (defBody sTwiceToldInit) (defScope sTwiceToldInit) .none kV_Ti dc_Ti pm_Ti an_Ti (.ref cdaT) ct_Ti ccT) ["self", "name"] [] := .all fun us hl => match us, hl with | [_, _], _ => rfl
  have XF_I : XfC K CI := ⟨ga_I, gg_I, ex_I, hd_I⟩
  have mI := PySem.W.mg_of X G z_I
  have OX_I : OexC K CI := ⟨⟨_, _, _, _, _, _, _, _, _, _, _, _, _, _, _, l_I, r_I⟩, sa_I, ex_I, ty_I, kp_I⟩
  have SF_I : SupF l.prog K CI f_Ii cdaI ccI _ "BadTie.__init__" sBadTieInit "self" := ⟨OX_I, ⟨_, _, _, _, _, _, _, _, rfl, l_Ii⟩, ⟨_, rfl, rfl⟩, ⟨_, _, _, _, _, _, l_Ib, v_I, fi_I⟩, c_Ii, ⟨_, _, _, l_Icc⟩, ⟨_, d_I⟩, m_I, sV_I, su_I, opq, top_s⟩
  have b_Ii : Binds K (PySem.W.ksFn "__init__" "BadTie.__init__" (defArgs sBadTieInit) (defBody sBadTieInit) (defScope sBadTieInit) .none kV_Ii dc_Ii pm_Ii an_Ii (.ref cdaI) ct_Ii ccI) ["self", "number"] [] := .all fun us hl => match us, hl with | [_, _], _ => rfl
  have TL : TxtL01 K mg C f_mi CB CN CT CI CE := ⟨TM, none_ z_repr, XF_B, nu_B, XF_N, nu_N, XF_T, nu_T, XF_I, nu_I, mB, mN, mT, mI, PySem.W.mg_of X G z_E, ⟨exm_is ex_B d_B ty_B sb_B, exm_is ex_B d_B ty_B sb_NB, exm_is ex_N d_N ty_N sb_N, exm_is ex_B d_B ty_B sb_TB, exm_is ex_N d_N ty_N sb_TN, exm_is ex_T d_T ty_T sb_T, exm_is ex_B d_B ty_B sb_IB, exm_is ex_N d_N ty_N sb_IN, exm_is ex_T d_T ty_T sb_IT, exm_is ex_I d_I ty_I sb_I⟩⟩
  have F_isw := fun_mk (st := sIsWord) l_isw c_isw k_isw
  have b_isw := F_isw.binds (ps := ["value"]) fun _ _ _ _ _ _ us hl => match us, hl with | [_], _ => rfl
  have m_isw := PySem.W.mg_of X G a_isw
  have F_isi := fun_mk (st := sIsInteger) l_isi c_isi k_isi
  have b_isi := F_isi.binds (ps := ["value"]) fun _ _ _ _ _ _ us hl => match us, hl with | [_], _ => rfl
  have m_isi := PySem.W.mg_of X G a_isi
  have F_isn := fun_mk (st := sIsNumber) l_isn c_isn k_isn
  have b_isn := F_isn.binds (ps := ["value", "least"]) fun _ _ _ _ _ _ us hl => match us, hl with | [_, _], _ => rfl
  have m_isn := PySem.W.mg_of X G a_isn
  have F_ke := fun_mk (st := sKept) l_ke c_ke k_ke
  have b_ke := F_ke.binds (ps := ["value"]) fun _ _ _ _ _ _ us hl => match us, hl with | [_], _ => rfl
  have m_ke := PySem.W.mg_of X G a_ke
  have F_nw := fun_mk (st := sNeedWord) l_nw c_nw k_nw
  have b_nw := F_nw.binds (ps := ["value"]) fun _ _ _ _ _ _ us hl => match us, hl with | [_], _ => rfl
  have m_nw := PySem.W.mg_of X G a_nw
  have F_no := fun_mk (st := sNeedOnce) l_no c_no k_no
  have b_no := F_no.binds (ps := ["names"]) fun _ _ _ _ _ _ us hl => match us, hl with | [_], _ => rfl
  have m_no := PySem.W.mg_of X G a_no
  have F_np := fun_mk (st := sNeedPlaces) l_np c_np k_np
  have b_np := F_np.binds (ps := ["places"]) fun _ _ _ _ _ _ us hl => match us, hl with | [_], _ => rfl
  have m_np := PySem.W.mg_of X G a_np
  have F_ts := fun_mk (st := sTieSpot) l_ts c_ts k_ts
  have b_ts := F_ts.binds (ps := ["tie", "names"]) fun _ _ _ _ _ _ us hl => match us, hl with | [_, _], _ => rfl
  have m_ts := PySem.W.mg_of X G a_ts
  have F_nt := fun_mk (st := sNeedTies) l_nt c_nt k_nt
  have b_nt := F_nt.binds (ps := ["ties", "names"]) fun _ _ _ _ _ _ us hl => match us, hl with | [_, _], _ => rfl
  have m_nt := PySem.W.mg_of X G a_nt
  have F_ot := fun_mk (st := sOrderedTies) l_ot c_ot k_ot
  have b_ot := F_ot.binds (ps := ["ties", "names"]) fun _ _ _ _ _ _ us hl => match us, hl with | [_, _], _ => rfl
  have m_ot := PySem.W.mg_of X G a_ot
  have F_lpn := fun_mk (st := sPen) l_lpn c_lpn k_lpn
  have b_lpn := F_lpn.binds (ps := ["_law_script"]) fun _ _ _ _ _ _ us hl => match us, hl with | [_], _ => rfl
  have m_lpn := PySem.W.mg_of X G a_lpn
  have F_lfr := fun_mk (st := sFresh) l_lfr c_lfr k_lfr
  have b_lfr := F_lfr.binds (ps := ["_law_pen_here"]) fun _ _ _ _ _ _ us hl => match us, hl with | [_], _ => rfl
  have m_lfr := PySem.W.mg_of X G a_lfr
  have F_ldr := fun_mk (st := sDraw) l_ldr c_ldr k_ldr
  have b_ldr := F_ldr.binds (ps := ["_law_pen_here", "_law_bound"]) fun _ _ _ _ _ _ us hl => match us, hl with | [_, _], _ => rfl
  have m_ldr := PySem.W.mg_of X G a_ldr
  have F_lon := fun_mk (st := sOneOf) l_lon c_lon k_lon
  have b_lon := F_lon.binds (ps := ["_law_pen_here", "_law_some"]) fun _ _ _ _ _ _ us hl => match us, hl with | [_, _], _ => rfl
  have m_lon := PySem.W.mg_of X G a_lon
  have F_lwh := fun_mk (st := sWhole) l_lwh c_lwh k_lwh
  have b_lwh := F_lwh.binds (ps := ["_law_value_here", "_law_least", "_law_most"]) fun _ _ _ _ _ _ us hl => match us, hl with | [_, _, _], _ => rfl
  have m_lwh := PySem.W.mg_of X G a_lwh
  have F_lod := fun_mk (st := sOdd) l_lod c_lod k_lod
  have b_lod := F_lod.binds (ps := ["_law_pen_here"]) fun _ _ _ _ _ _ us hl => match us, hl with | [_], _ => rfl
  have m_lod := PySem.W.mg_of X G a_lod
  have F_liw := fun_mk (st := sLawIsWord) l_liw c_liw k_liw
  have b_liw := F_liw.binds (ps := ["_law_value_here"]) fun _ _ _ _ _ _ us hl => match us, hl with | [_], _ => rfl
  have m_liw := PySem.W.mg_of X G a_liw
  have F_lwo := fun_mk (st := sWords) l_lwo c_lwo k_lwo
  have b_lwo := F_lwo.binds (ps := ["_law_pen_here", "_law_many"]) fun _ _ _ _ _ _ us hl => match us, hl with | [_, _], _ => rfl
  have m_lwo := PySem.W.mg_of X G a_lwo
  have F_lra := fun_mk (st := sRaw) l_lra c_lra k_lra
  have b_lra := F_lra.binds (ps := ["_law_pen_here", "_law_most"]) fun _ _ _ _ _ _ us hl => match us, hl with | [_, _], _ => rfl
  have m_lra := PySem.W.mg_of X G a_lra
  have F_lto := fun_mk (st := sTold) l_lto c_lto k_lto
  have b_lto := F_lto.binds (ps := ["_law_pen_here", "_law_raw_here"]) fun _ _ _ _ _ _ us hl => match us, hl with | [_, _], _ => rfl
  have m_lto := PySem.W.mg_of X G a_lto
  have F_lva := fun_mk (st := sValue) l_lva c_lva k_lva
  have b_lva := F_lva.binds (ps := ["_law_pen_here", "_law_raw_here"]) fun _ _ _ _ _ _ us hl => match us, hl with | [_, _], _ => rfl
  have m_lva := PySem.W.mg_of X G a_lva
  have F_lti := fun_mk (st := sTies) l_lti c_lti k_lti
  have b_lti := F_lti.binds (ps := ["_law_raw_here"]) fun _ _ _ _ _ _ us hl => match us, hl with | [_], _ => rfl
  have m_lti := PySem.W.mg_of X G a_lti
  have F_lis := fun_mk (st := sIs) l_lis c_lis k_lis
  have b_lis := F_lis.binds (ps := ["_law_web", "_law_raw_here"]) fun _ _ _ _ _ _ us hl => match us, hl with | [_, _], _ => rfl
  have m_lis := PySem.W.mg_of X G a_lis
  have F_lnw := fun_mk (st := sNoWord) l_lnw c_lnw k_lnw
  have b_lnw := F_lnw.binds (ps := ["_law_pen_here"]) fun _ _ _ _ _ _ us hl => match us, hl with | [_], _ => rfl
  have m_lnw := PySem.W.mg_of X G a_lnw
  have F_lou := fun_mk (st := sOutcome) l_lou c_lou k_lou
  have b_lou := F_lou.binds (ps := ["_law_call"]) fun _ _ _ _ _ _ us hl => match us, hl with | [_], _ => rfl
  have m_lou := PySem.W.mg_of X G a_lou
  have F_ltd := fun_mk (st := sTieDue) l_ltd c_ltd k_ltd
  have b_ltd := F_ltd.binds (ps := ["_law_order", "_law_ties_here"]) fun _ _ _ _ _ _ us hl => match us, hl with | [_, _], _ => rfl
  have m_ltd := PySem.W.mg_of X G a_ltd
  have F_ldu := fun_mk (st := sDueWay) l_ldu c_ldu k_ldu
  have b_ldu := F_ldu.binds (ps := ["_law_places", "_law_ties_here"]) fun _ _ _ _ _ _ us hl => match us, hl with | [_, _], _ => rfl
  have m_ldu := PySem.W.mg_of X G a_ldu
  have F_lsl := fun_mk (st := sSpoiltPlace) l_lsl c_lsl k_lsl
  have b_lsl := F_lsl.binds (ps := ["_law_pen_here", "_law_places"]) fun _ _ _ _ _ _ us hl => match us, hl with | [_, _], _ => rfl
  have m_lsl := PySem.W.mg_of X G a_lsl
  have F_lst := fun_mk (st := sSpoiltTie) l_lst c_lst k_lst
  have b_lst := F_lst.binds (ps := ["_law_pen_here", "_law_places", "_law_ties_here"]) fun _ _ _ _ _ _ us hl => match us, hl with | [_, _, _], _ => rfl
  have m_lst := PySem.W.mg_of X G a_lst
  have F_mi := fun_mk (st := sWebInit) l_mi c_mi k_mi
  have b_mi := F_mi.binds (ps := ["self", "places", "ties"]) fun _ _ _ _ _ _ us hl => match us, hl with | [_, _, _], _ => rfl
  have F_mp := fun_mk (st := sWebPlaces) l_mp c_mp k_mp
  have b_mp := F_mp.binds (ps := ["self"]) fun _ _ _ _ _ _ us hl => match us, hl with | [_], _ => rfl
  have F_mc := fun_mk (st := sWebColour) l_mc c_mc k_mc
  have b_mc := F_mc.binds (ps := ["self", "name"]) fun _ _ _ _ _ _ us hl => match us, hl with | [_, _], _ => rfl
  have F_mt := fun_mk (st := sWebTies) l_mt c_mt k_mt
  have b_mt := F_mt.binds (ps := ["self"]) fun _ _ _ _ _ _ us hl => match us, hl with | [_], _ => rfl
  have F_mh := fun_mk (st := sWebHas) l_mh c_mh k_mh
  have b_mh := F_mh.binds (ps := ["self", "name"]) fun _ _ _ _ _ _ us hl => match us, hl with | [_, _], _ => rfl
  have F_ml := fun_mk (st := sWebLen) l_ml c_ml k_ml
  have b_ml := F_ml.binds (ps := ["self"]) fun _ _ _ _ _ _ us hl => match us, hl with | [_], _ => rfl
  have F_mk := fun_mk (st := sWebKinds) l_mk c_mk k_mk
  have b_mk := F_mk.binds (ps := ["self"]) fun _ _ _ _ _ _ us hl => match us, hl with | [_], _ => rfl
  have F_mu := fun_mk (st := sWebColours) l_mu c_mu k_mu
  have b_mu := F_mu.binds (ps := ["self"]) fun _ _ _ _ _ _ us hl => match us, hl with | [_], _ => rfl
  have F_la := fun_mk (st := sLaw) l_la c_la k_la
  have ht_la := own "law" fa (by simp) (PySem.W.mg_of X G a_la) cA_la PT_la _ _ _ _ _ _ l_la rfl rfl lc_la v11_la
  have sp_tbs : ∀ {H : Hp}, (∀ p ∈ ([(cA_la, PT_la)] : List (Addr × Addr)), H p.2 = some (.tbl #[])) → ∀ q ∈ ([(PT_la, qL01)] : List (Addr × Str)), H q.1 = some (.tbl #[]) := by
    intro H hT p hp; simp only [List.mem_cons, List.not_mem_nil, or_false] at hp; rcases hp with rfl <;> first | exact hT (cA_la, PT_la) (by simp)
  refine ⟨PySem.W.fnOf "law" "law" (defArgs sLaw) (defBody sLaw) (defScope sLaw) .none kV_la dc_la pm_la an_la (.ref cA_la) ct_la, [(cA_la, PT_la)], spLaw01 K [(PT_la, qL01)], (by intro p hp; simp only [List.mem_cons, List.not_mem_nil, or_false] at hp; rcases hp with rfl <;> first | exact ht_la), (by intro p hp; simp only [List.mem_cons, List.not_mem_nil, or_false] at hp; rcases hp with rfl <;> first | exact nt_la), (by intro p hp; simp only [List.mem_cons, List.not_mem_nil, or_false] at hp; rcases hp with rfl <;> first | exact PySem.W.codeHd_of_K X (hdV_ok lc_la hd_la)), (fun s v => .of_eq rfl), fun H a ns hl hT hS => ⟨a, ns, rfl, hS, hl, sp_tbs hT, fun _ => rfl⟩, fun base _ _ tb => ?_⟩
  have TB_la := tb (cA_la, PT_la) (by simp)
  have hm_la : (PT_la, qL01) ∈ ([(PT_la, qL01)] : List (Addr × Str)) := by simp
  have hu_la : ∀ p ∈ ([(PT_la, qL01)] : List (Addr × Str)), p.1 = PT_la → p.2 = qL01 := by
    intro p hp e; simp only [List.mem_cons, List.not_mem_nil, or_false] at hp; rcases hp with rfl
    · rfl
  have lk_la : ∃ oc od kV doc pm an ct osl, PySem.W.fnOf "law" "law" (defArgs sLaw) (defBody sLaw) (defScope sLaw) .none kV_la dc_la pm_la an_la (.ref cA_la) ct_la = PySem.W.fnOf "law" "law" (defArgs sLaw) (defBody sLaw) (defScope sLaw) .none kV doc pm an (.ref cA_la) ct ∧ K.lookup fa = some ⟨oc, od, .func (PySem.W.fnOf "law" "law" (defArgs sLaw) (defBody sLaw) (defScope sLaw) .none kV_la dc_la pm_la an_la (.ref cA_la) ct_la), osl⟩ := ⟨_, _, _, _, _, _, _, _, rfl, l_la⟩
  have hc_la : ∀ (cdv : Value), (∃ oc od kV doc pm an ct osl, K.lookup fa = some ⟨oc, od, .func (PySem.W.fnOf "law" "law" (defArgs sLaw) (defBody sLaw) (defScope sLaw) .none kV doc pm an cdv ct), osl⟩) → cdv = .ref cA_la := fun cdv ⟨oc, od, kV, doc, pm, an, ct, osl, lk⟩ => by
    rw [l_la] at lk
    cases lk
    rfl
  have G_isw := def_mk (ok_word (P := l.prog) (w := w) (base := base) F_isw TG) m_isw k_isw b_isw
  have G_isi := def_mk (ok_integer (P := l.prog) (w := w) (base := base) F_isi TG) m_isi k_isi b_isi
  have G_isn := def_mk (ok_number F_isn G_isi) m_isn k_isn b_isn
  have G_nw := def_mk (ok_needW F_nw TG G_isw) m_nw k_nw b_nw
  have G_no := def_mk (ok_once (P := l.prog) (w := w) (base := base) F_no TG) m_no k_no b_no
  have G_np := def_mk (ok_needP F_np TG G_nw G_no) m_np k_np b_np
  have G_ts := def_mk (ok_spot F_ts TH G_isw G_isn) m_ts k_ts b_ts
  have G_nt := def_mk (ok_needT F_nt TH G_ts) m_nt k_nt b_nt
  have G_ot := def_mk (ok_ord (P := l.prog) (w := w) (base := base) F_ot TH) m_ot k_ot b_ot
  have O_mi := ok_webI F_mi TW G_np G_nt G_ot
  have Q_mp : MethD l.prog w K mg base C "places" ["self"] 1 (spPlaces C) := ⟨f_mp, _, ok_places F_mp TW, ⟨a_mp, i_mp, k_mp⟩, b_mp⟩
  have Q_mt : MethD l.prog w K mg base C "ties" ["self"] 1 (spTies C) := ⟨f_mt, _, ok_ties F_mt TW, ⟨a_mt, i_mt, k_mt⟩, b_mt⟩
  have Q_mh : MethD l.prog w K mg base C "__contains__" ["self", "name"] 1 (spHas C) := ⟨f_mh, _, ok_has F_mh TW, ⟨a_mh, i_mh, k_mh⟩, b_mh⟩
  have Q_mc : MethD l.prog w K mg base C "colour" ["self", "name"] 2 (spColour C) := ⟨f_mc, _, ok_colour F_mc TW Q_mh, ⟨a_mc, i_mc, k_mc⟩, b_mc⟩
  have Q_ml : MethD l.prog w K mg base C "__len__" ["self"] 1 (spLen C) := ⟨f_ml, _, ok_len F_ml TW, ⟨a_ml, i_ml, k_ml⟩, b_ml⟩
  have Q_mk : MethD l.prog w K mg base C "kinds" ["self"] 1 (spKinds C) := ⟨f_mk, _, ok_kinds F_mk TW, ⟨a_mk, i_mk, k_mk⟩, b_mk⟩
  have Q_mu : MethD l.prog w K mg base C "colours" ["self"] 1 (spColN C) := ⟨f_mu, _, ok_coloursN F_mu TW, ⟨a_mu, i_mu, k_mu⟩, b_mu⟩
  have G_keL := def_mk (ok_keptL (P := l.prog) (w := w) (base := base) F_ke TKe) m_ke k_ke b_ke
  have G_keO := def_mk (ok_keptO F_ke TKe G_keL) m_ke k_ke b_ke
  have TBad : TxtOdd l.prog w K mg base CB "BadNumber" "number" := ⟨mB, OX_B, XF_B, nu_B, ⟨f_Bi, _, a_Bi, t_Bi, ok_numO SF_B XF_B nu_B (none_ z_super) G_keO, b_Bi⟩⟩
  have TNam : TxtOdd l.prog w K mg base CN "BadName" "name" := ⟨mN, OX_N, XF_N, nu_N, ⟨f_Ni, _, a_Ni, t_Ni, ok_namO SF_N XF_N nu_N (none_ z_super) G_keO, b_Ni⟩⟩
  have TTwi : TxtOdd l.prog w K mg base CT "TwiceTold" "name" := ⟨mT, OX_T, XF_T, nu_T, ⟨f_Ti, _, a_Ti, t_Ti, ok_twiO SF_T XF_T nu_T (none_ z_super) G_keO, b_Ti⟩⟩
  have TTie : TxtOdd l.prog w K mg base CI "BadTie" "number" := ⟨mI, OX_I, XF_I, nu_I, ⟨f_Ii, _, a_Ii, t_Ii, ok_tieO SF_I XF_I nu_I (none_ z_super) G_keO, b_Ii⟩⟩
  have G_iwO := def_mk (ok_wordO (P := l.prog) (w := w) (base := base) F_isw TG) m_isw k_isw b_isw
  have G_iiO := def_mk (ok_intO (P := l.prog) (w := w) (base := base) F_isi TG) m_isi k_isi b_isi
  have G_inO := def_mk (ok_numXO F_isn G_iiO) m_isn k_isn b_isn
  have O_nwX := ok_needO F_nw TNam G_iwO
  have O_noX := ok_onceX F_no TG TTwi
  have O_npX := ok_npX F_np TG TBad ⟨_, _, O_nwX, m_nw, k_nw, b_nw⟩ ⟨_, _, O_noX, m_no, k_no, b_no⟩
  have G_tsT := def_mk (ok_spotT F_ts TH G_iwO G_inO) m_ts k_ts b_ts
  have O_ntX := ok_ntX F_nt TH TTie G_tsT
  have O_wbP := ok_webP (C := C) F_mi ⟨_, _, O_npX, m_np, k_np, b_np⟩
  have O_wbT := ok_webT F_mi TW ⟨_, _, O_npX, m_np, k_np, b_np⟩ ⟨_, _, O_ntX, m_nt, k_nt, b_nt⟩
  have O_miX := FnOk.or ((FnOk.lift O_mi).mono (by decide)) (FnOk.or O_wbP O_wbT)
  have G_lpn := def_mk (ok_pen (P := l.prog) (w := w) (base := base) F_lpn (none_ z_list)) m_lpn k_lpn b_lpn
  have G_lfr := def_mk (ok_fresh (P := l.prog) (w := w) (base := base) F_lfr TB) m_lfr k_lfr b_lfr
  have G_ldr := def_mk (ok_pn F_ldr TB G_lfr) m_ldr k_ldr b_ldr
  have G_lon := def_mk (ok_one F_lon TB G_ldr) m_lon k_lon b_lon
  have G_lwh := def_mk (ok_whole (P := l.prog) (w := w) (base := base) F_lwh TG) m_lwh k_lwh b_lwh
  have G_lod := def_mk (ok_odd F_lod G_lon) m_lod k_lod b_lod
  have G_liw := def_mk (ok_lw (P := l.prog) (w := w) (base := base) F_liw TG (none_ z_enumerate)) m_liw k_liw b_liw
  have G_lwo := def_mk (ok_wo F_lwo TB G_ldr) m_lwo k_lwo b_lwo
  have G_lra := def_mk (ok_raw F_lra TB G_ldr G_lon G_lwo) m_lra k_lra b_lra
  have G_lto := def_mk (ok_told F_lto TC G_ldr) m_lto k_lto b_lto
  have G_lva := def_mk (ok_value F_lva TM G_ldr G_lto O_mi b_mi) m_lva k_lva b_lva
  have G_lti := def_mk (ok_lties (P := l.prog) (w := w) (base := base) F_lti TC) m_lti k_lti b_lti
  have G_lis := def_mk (ok_is F_lis TW Q_mp Q_mt Q_mc G_lti) m_lis k_lis b_lis
  have G_lnw := def_mk (ok_noW F_lnw G_lod G_liw) m_lnw k_lnw b_lnw
  have G_ltd := def_mk (ok_td F_ltd TH G_liw G_lwh) m_ltd k_ltd b_ltd
  have G_ldu := def_mk (ok_du F_ldu TH G_liw G_ltd) m_ldu k_ldu b_ldu
  have G_lsl := def_mk (ok_spl F_lsl TB G_ldr G_lon G_lnw) m_lsl k_lsl b_lsl
  have G_lst := def_mk (ok_spt F_lst TH (none_ z_list) (none_ z_int) (none_ z_sorted) G_ldr G_lon G_lnw G_liw G_lwh) m_lst k_lst b_lst
  exact run_law01 F_la TL TB_la hm_la hu_la hc_la F_lou m_lou b_lou G_lpn G_lon G_lra G_lva G_lis G_lto G_lsl G_lst G_ldu O_miX b_mi Q_mp Q_mt Q_mk Q_mu Q_ml
end Nm
set_option autoImplicit true
open PySem PySem.W PyProof.Rows in
set_option maxRecDepth 100000 in
set_option maxHeartbeats 0 in
theorem PySem.Challenge.cw_namelessly_k01_webs_made_holds : PySem.Challenge.rw_namelessly_k01_webs_made.Holds := by
  w_on; o_law; k_head; (case hw => w_witness2)
  k_fill
  refine Nm.walk_GA (l := PySem.Challenge.rw_namelessly_k01_webs_made) (n := 63) (x := "_law_script") (CX := fun _ => L2.CX0) rfl (by decide) rfl (fun w h Y => PySem.W.km_in_of Y) ?F (fun _ _ _ _ _ z => z)
  case F =>
    intro w mg fa h _ KX G hmg own
    refine' Nm.all_mk KX G hmg (fun y fb hy hm => own y fb (by rcases hy with rfl <;> decide +kernel) hm) ?a_isw ?l_isw ?c_isw ?k_isw ?a_isi ?l_isi ?c_isi ?k_isi ?a_isn ?l_isn ?c_isn ?k_isn ?a_ke ?l_ke ?c_ke ?k_ke ?a_nw ?l_nw ?c_nw ?k_nw ?a_no ?l_no ?c_no ?k_no ?a_np ?l_np ?c_np ?k_np ?a_ts ?l_ts ?c_ts ?k_ts ?a_nt ?l_nt ?c_nt ?k_nt ?a_ot ?l_ot ?c_ot ?k_ot ?a_lpn ?l_lpn ?c_lpn ?k_lpn ?a_lfr ?l_lfr ?c_lfr ?k_lfr ?a_ldr ?l_ldr ?c_ldr ?k_ldr ?a_lon ?l_lon ?c_lon ?k_lon ?a_lwh ?l_lwh ?c_lwh ?k_lwh ?a_lod ?l_lod ?c_lod ?k_lod ?a_liw ?l_liw ?c_liw ?k_liw ?a_lwo ?l_lwo ?c_lwo ?k_lwo ?a_lra ?l_lra ?c_lra ?k_lra ?a_lto ?l_lto ?c_lto ?k_lto ?a_lva ?l_lva ?c_lva ?k_lva ?a_lti ?l_lti ?c_lti ?k_lti ?a_lis ?l_lis ?c_lis ?k_lis ?a_lnw ?l_lnw ?c_lnw ?k_lnw ?a_lou ?l_lou ?c_lou ?k_lou ?a_ltd ?l_ltd ?c_ltd ?k_ltd ?a_ldu ?l_ldu ?c_ldu ?k_ldu ?a_lsl ?l_lsl ?c_lsl ?k_lsl ?a_lst ?l_lst ?c_lst ?k_lst ?a_la ?l_la ?c_la ?k_la ?lc_la ?v11_la ?hd_la ?nt_la ?a_mi ?i_mi ?l_mi ?c_mi ?k_mi ?a_mp ?i_mp ?l_mp ?c_mp ?k_mp ?a_mc ?i_mc ?l_mc ?c_mc ?k_mc ?a_mt ?i_mt ?l_mt ?c_mt ?k_mt ?a_mh ?i_mh ?l_mh ?c_mh ?k_mh ?a_ml ?i_ml ?l_ml ?c_ml ?k_ml ?a_mk ?i_mk ?l_mk ?c_mk ?k_mk ?a_mu ?i_mu ?l_mu ?c_mu ?k_mu ?z_len ?z_int ?z_list ?z_range ?z_abs ?z_sorted ?z_dict ?z_enumerate ?z_str ?z_max ?z_min ?z_set ?z_sum ?z_zip ?z_isinstance ?z_all ?z_bool ?z_tuple ?z_super ?z_repr ?z_letters ?z_digits ?z_C ?pg ?hd ?po ?sa ?mk ?kc ?nCo ?nNa ?nTi ?nWi ?opq ?top_s ?a_Bi ?t_Bi ?l_Bi ?c_Bi ?l_Bb ?v_B ?fi_B ?l_Bcc ?d_B ?m_B ?sV_B ?su_B ?l_B ?r_B ?sa_B ?ex_B ?ty_B ?kp_B ?sb_B ?ga_B ?gg_B ?hd_B ?nu_B ?z_B ?a_Ni ?t_Ni ?l_Ni ?c_Ni ?l_Nb ?v_N ?fi_N ?l_Ncc ?d_N ?m_N ?sV_N ?su_N ?l_N ?r_N ?sa_N ?ex_N ?ty_N ?kp_N ?sb_N ?ga_N ?gg_N ?hd_N ?nu_N ?z_N ?a_Ti ?t_Ti ?l_Ti ?c_Ti ?l_Tb ?v_T ?fi_T ?l_Tcc ?d_T ?m_T ?sV_T ?su_T ?l_T ?r_T ?sa_T ?ex_T ?ty_T ?kp_T ?sb_T ?ga_T ?gg_T ?hd_T ?nu_T ?z_T ?a_Ii ?t_Ii ?l_Ii ?c_Ii ?l_Ib ?v_I ?fi_I ?l_Icc ?d_I ?m_I ?sV_I ?su_I ?l_I ?r_I ?sa_I ?ex_I ?ty_I ?kp_I ?sb_I ?ga_I ?gg_I ?hd_I ?nu_I ?z_I ?z_E ?sb_NB ?sb_TB ?sb_TN ?sb_IB ?sb_IN ?sb_IT
    (case z_C => k_is)
    (case z_B => k_is)
    (case z_N => k_is)
    (case z_T => k_is)
    (case z_I => k_is)
    (case z_E => k_is)
    (case a_isw => k_is)
    (case l_isw => k_is)
    (case c_isw => k_is)
    (case k_isw => k_is)
    (case a_isi => k_is)
    (case l_isi => k_is)
    (case c_isi => k_is)
    (case k_isi => k_is)
    (case a_isn => k_is)
    (case l_isn => k_is)
    (case c_isn => k_is)
    (case k_isn => k_is)
    (case a_ke => k_is)
    (case l_ke => k_is)
    (case c_ke => k_is)
    (case k_ke => k_is)
    (case a_nw => k_is)
    (case l_nw => k_is)
    (case c_nw => k_is)
    (case k_nw => k_is)
    (case a_no => k_is)
    (case l_no => k_is)
    (case c_no => k_is)
    (case k_no => k_is)
    (case a_np => k_is)
    (case l_np => k_is)
    (case c_np => k_is)
    (case k_np => k_is)
    (case a_ts => k_is)
    (case l_ts => k_is)
    (case c_ts => k_is)
    (case k_ts => k_is)
    (case a_nt => k_is)
    (case l_nt => k_is)
    (case c_nt => k_is)
    (case k_nt => k_is)
    (case a_ot => k_is)
    (case l_ot => k_is)
    (case c_ot => k_is)
    (case k_ot => k_is)
    (case a_lpn => k_is)
    (case l_lpn => k_is)
    (case c_lpn => k_is)
    (case k_lpn => k_is)
    (case a_lfr => k_is)
    (case l_lfr => k_is)
    (case c_lfr => k_is)
    (case k_lfr => k_is)
    (case a_ldr => k_is)
    (case l_ldr => k_is)
    (case c_ldr => k_is)
    (case k_ldr => k_is)
    (case a_lon => k_is)
    (case l_lon => k_is)
    (case c_lon => k_is)
    (case k_lon => k_is)
    (case a_lwh => k_is)
    (case l_lwh => k_is)
    (case c_lwh => k_is)
    (case k_lwh => k_is)
    (case a_lod => k_is)
    (case l_lod => k_is)
    (case c_lod => k_is)
    (case k_lod => k_is)
    (case a_liw => k_is)
    (case l_liw => k_is)
    (case c_liw => k_is)
    (case k_liw => k_is)
    (case a_lwo => k_is)
    (case l_lwo => k_is)
    (case c_lwo => k_is)
    (case k_lwo => k_is)
    (case a_lra => k_is)
    (case l_lra => k_is)
    (case c_lra => k_is)
    (case k_lra => k_is)
    (case a_lto => k_is)
    (case l_lto => k_is)
    (case c_lto => k_is)
    (case k_lto => k_is)
    (case a_lva => k_is)
    (case l_lva => k_is)
    (case c_lva => k_is)
    (case k_lva => k_is)
    (case a_lti => k_is)
    (case l_lti => k_is)
    (case c_lti => k_is)
    (case k_lti => k_is)
    (case a_lis => k_is)
    (case l_lis => k_is)
    (case c_lis => k_is)
    (case k_lis => k_is)
    (case a_lnw => k_is)
    (case l_lnw => k_is)
    (case c_lnw => k_is)
    (case k_lnw => k_is)
    (case a_lou => k_is)
    (case l_lou => k_is)
    (case c_lou => k_is)
    (case k_lou => k_is)
    (case a_ltd => k_is)
    (case l_ltd => k_is)
    (case c_ltd => k_is)
    (case k_ltd => k_is)
    (case a_ldu => k_is)
    (case l_ldu => k_is)
    (case c_ldu => k_is)
    (case k_ldu => k_is)
    (case a_lsl => k_is)
    (case l_lsl => k_is)
    (case c_lsl => k_is)
    (case k_lsl => k_is)
    (case a_lst => k_is)
    (case l_lst => k_is)
    (case c_lst => k_is)
    (case k_lst => k_is)
    (case a_la => k_is)
    (case l_la => k_is)
    (case c_la => k_is)
    (case k_la => k_is)
    (case lc_la => k_is)
    (case v11_la => rfl)
    (case hd_la => rfl)
    (case nt_la => kernel_rfl)
    (case a_mi => k_is)
    (case i_mi => k_is)
    (case l_mi => k_is)
    (case c_mi => k_is)
    (case k_mi => k_is)
    (case a_mp => k_is)
    (case i_mp => k_is)
    (case l_mp => k_is)
    (case c_mp => k_is)
    (case k_mp => k_is)
    (case a_mc => k_is)
    (case i_mc => k_is)
    (case l_mc => k_is)
    (case c_mc => k_is)
    (case k_mc => k_is)
    (case a_mt => k_is)
    (case i_mt => k_is)
    (case l_mt => k_is)
    (case c_mt => k_is)
    (case k_mt => k_is)
    (case a_mh => k_is)
    (case i_mh => k_is)
    (case l_mh => k_is)
    (case c_mh => k_is)
    (case k_mh => k_is)
    (case a_ml => k_is)
    (case i_ml => k_is)
    (case l_ml => k_is)
    (case c_ml => k_is)
    (case k_ml => k_is)
    (case a_mk => k_is)
    (case i_mk => k_is)
    (case l_mk => k_is)
    (case c_mk => k_is)
    (case k_mk => k_is)
    (case a_mu => k_is)
    (case i_mu => k_is)
    (case l_mu => k_is)
    (case c_mu => k_is)
    (case k_mu => k_is)
    (case z_len => k_is)
    (case z_int => k_is)
    (case z_list => k_is)
    (case z_range => k_is)
    (case z_abs => k_is)
    (case z_sorted => k_is)
    (case z_dict => k_is)
    (case z_enumerate => k_is)
    (case z_str => k_is)
    (case z_max => k_is)
    (case z_min => k_is)
    (case z_set => k_is)
    (case z_sum => k_is)
    (case z_zip => k_is)
    (case z_isinstance => k_is)
    (case z_all => k_is)
    (case z_bool => k_is)
    (case z_tuple => k_is)
    (case z_super => k_is)
    (case z_repr => k_is)
    (case z_letters => k_is)
    (case z_digits => k_is)
    (case pg => k_is)
    (case hd => k_is)
    (case po => k_is)
    (case sa => k_is)
    (case mk => k_is)
    (case kc => k_is)
    (case nCo => k_is)
    (case nNa => k_is)
    (case nTi => k_is)
    (case nWi => k_is)
    (case opq => k_is)
    (case top_s => decide +kernel)
    (case a_Bi => k_is)
    (case t_Bi => k_is)
    (case l_Bi => k_is)
    (case c_Bi => k_is)
    (case l_Bb => k_is)
    (case v_B => rfl)
    (case fi_B => decide +kernel)
    (case l_Bcc => k_is)
    (case d_B => k_is)
    (case m_B => k_is)
    (case sV_B => k_is)
    (case su_B => ks_is)
    (case l_B => k_is)
    (case r_B => decide +kernel)
    (case sa_B => k_is)
    (case ex_B => k_is)
    (case ty_B => k_is)
    (case kp_B => k_is)
    (case sb_B => k_is)
    (case ga_B => k_is)
    (case gg_B => k_is)
    (case hd_B => k_is)
    (case nu_B => k_is)
    (case a_Ni => k_is)
    (case t_Ni => k_is)
    (case l_Ni => k_is)
    (case c_Ni => k_is)
    (case l_Nb => k_is)
    (case v_N => rfl)
    (case fi_N => decide +kernel)
    (case l_Ncc => k_is)
    (case d_N => k_is)
    (case m_N => k_is)
    (case sV_N => k_is)
    (case su_N => ks_is)
    (case l_N => k_is)
    (case r_N => decide +kernel)
    (case sa_N => k_is)
    (case ex_N => k_is)
    (case ty_N => k_is)
    (case kp_N => k_is)
    (case sb_N => k_is)
    (case ga_N => k_is)
    (case gg_N => k_is)
    (case hd_N => k_is)
    (case nu_N => k_is)
    (case a_Ti => k_is)
    (case t_Ti => k_is)
    (case l_Ti => k_is)
    (case c_Ti => k_is)
    (case l_Tb => k_is)
    (case v_T => rfl)
    (case fi_T => decide +kernel)
    (case l_Tcc => k_is)
    (case d_T => k_is)
    (case m_T => k_is)
    (case sV_T => k_is)
    (case su_T => ks_is)
    (case l_T => k_is)
    (case r_T => decide +kernel)
    (case sa_T => k_is)
    (case ex_T => k_is)
    (case ty_T => k_is)
    (case kp_T => k_is)
    (case sb_T => k_is)
    (case ga_T => k_is)
    (case gg_T => k_is)
    (case hd_T => k_is)
    (case nu_T => k_is)
    (case a_Ii => k_is)
    (case t_Ii => k_is)
    (case l_Ii => k_is)
    (case c_Ii => k_is)
    (case l_Ib => k_is)
    (case v_I => rfl)
    (case fi_I => decide +kernel)
    (case l_Icc => k_is)
    (case d_I => k_is)
    (case m_I => k_is)
    (case sV_I => k_is)
    (case su_I => ks_is)
    (case l_I => k_is)
    (case r_I => decide +kernel)
    (case sa_I => k_is)
    (case ex_I => k_is)
    (case ty_I => k_is)
    (case kp_I => k_is)
    (case sb_I => k_is)
    (case ga_I => k_is)
    (case gg_I => k_is)
    (case hd_I => k_is)
    (case nu_I => k_is)
    (case sb_NB => k_is)
    (case sb_TB => k_is)
    (case sb_TN => k_is)
    (case sb_IB => k_is)
    (case sb_IN => k_is)
    (case sb_IT => k_is)

