import PyProof.Rows.All
import Wide.All
import OpenK.AllK
import Wide.FinOn
import HandS.ForMost
import PySem.Challenge.RW_namelessly_k23_whole_foldings_behind
import HandS.Evl
import HandS.Style
import HandS.StrMore
import HandS.Sort
import HandS.SortRule
import HandS.Walk
import HandS.Conv
import HandS.Zip
import HandS.IsInst
import HandS.SetKeys
import HandS.DictComp
import OpenK.KOps
import KE.KDictZip
import PyProof.ListNew
import HandS.ExcInit
import HandS.ExcField
import HandS.FStr
import KE.KExcSuper
import HandS.DeepEq
import KE.KEqDict
import PyProof.CallFns
import PyProof.NeKinds
import PyProof.InstEq
import HandS.OwnEq
import HandS.Codes
import HandS.Zip0
import HandS.TupSets
import HandS.SetTxt0
import HandS.Set
import HandS.Strs
import PyProof.Rows.SortShellAny
import HandS.SetFor
import KE.GoesSet
import PyProof.DictFindH
import KE.KExcInit
import HandS.Exc
import HandS.Dict
import PyProof.ReprHeads
import PyProof.FString4
import HandS.RaiseMore
import HandS.EndTab
import HandS.EndOwn
import HandS.Lambda
import HandS.TryMany
import HandS.TryOnly
import PyProof.Rows.StrCut
import PyProof.StrLawsRepr
import PyProof.ReprBulk
set_option Elab.async false
set_option autoImplicit true
set_option maxRecDepth 100000
set_option maxHeartbeats 4000000
/-! The text by places -/
namespace Nm
open PySem L2
def top (i : Nat) : Stmt := PySem.Challenge.pw_namelessly_k23_whole_foldings_behind.main.body.getD i (.Pass ⟨0, 0, 0, 0⟩)
abbrev sIsWord : Stmt := top 3
abbrev sIsInteger : Stmt := top 4
abbrev sIsNumber : Stmt := top 5
abbrev sKept : Stmt := top 6
abbrev sBadTieInit : Stmt := inClass (top 11) 0
abbrev sBadNumberInit : Stmt := inClass (top 12) 0
abbrev sUnknownInit : Stmt := inClass (top 14) 0
abbrev sLeading : Stmt := top 16
abbrev sJudgeNames : Stmt := top 17
abbrev sWidthsByEnd : Stmt := top 18
abbrev sJudgeWidths : Stmt := top 19
abbrev sJudgeFolding : Stmt := top 20
abbrev sPlacesOver : Stmt := top 21
abbrev sBehind : Stmt := top 22
abbrev sNeedWord : Stmt := top 24
abbrev sNeedOnce : Stmt := top 25
abbrev sNeedPlaces : Stmt := top 26
abbrev sTieSpot : Stmt := top 27
abbrev sNeedTies : Stmt := top 28
abbrev sOrderedTies : Stmt := top 29
abbrev sWebInit : Stmt := inClass (top 30) 0
abbrev sWebPlaces : Stmt := inClass (top 30) 1
abbrev sWebColour : Stmt := inClass (top 30) 2
abbrev sWebTies : Stmt := inClass (top 30) 3
abbrev sWebKinds : Stmt := inClass (top 30) 4
abbrev sWebWidth : Stmt := inClass (top 30) 6
abbrev sWebHas : Stmt := inClass (top 30) 7
abbrev sWebLen : Stmt := inClass (top 30) 8
abbrev sWebEq : Stmt := inClass (top 30) 9
abbrev sOpenCells : Stmt := top 32
abbrev sPick : Stmt := top 33
abbrev sAnyOrder : Stmt := top 34
abbrev sChoiceOf : Stmt := top 35
abbrev sShapePairs : Stmt := top 36
abbrev sDrawWorld : Stmt := top 37
abbrev sMade : Stmt := top 38
abbrev sParts : Stmt := top 39
abbrev sSeated : Stmt := top 40
abbrev sOver : Stmt := top 41
abbrev sDict : Stmt := top 42
abbrev sAnyDict : Stmt := top 43
abbrev sCaught : Stmt := top 44
abbrev sLedOn : Stmt := top 45
abbrev sWordsDict : Stmt := top 46
abbrev sLaw : Stmt := top 47
end Nm
set_option autoImplicit true
set_option maxRecDepth 100000
set_option maxHeartbeats 4000000
namespace Nm
open PySem L2
/-! ### the source of draws -/
def srcD (c : Addr) (left mixed turn : Int) : List (Key × V) :=
  [(Sum.inr "cells", V.ref c), (Sum.inr "left", V.int left), (Sum.inr "mixed", V.int mixed), (Sum.inr "turn", V.int turn)]
structure SrcOk (H : Hp) (s c : Addr) (cs : List Int) (left mixed turn : Int) : Prop where
  ds : H s = some (.dK (srcD c left mixed turn))
  dc : H c = some (.lst (cs.map V.int))
  nn : ∀ x ∈ cs, 0 ≤ x
  len : cs.length ≤ 63
  l0 : 0 ≤ left
  m0 : 0 ≤ mixed
  m1 : mixed < 2147483629
  t0 : 0 ≤ turn
def Src (H : Hp) (s c : Addr) : Prop := ∃ cs left mixed turn, SrcOk H s c cs left mixed turn
/-- all but the source stays -/
def Kp (s c : Addr) (H H' : Hp) : Prop := ∀ b o, H b = some o → b ≠ s → b ≠ c → H' b = some o
theorem Kp.refl {s c : Addr} (H : Hp) : Kp s c H H := fun _ _ h _ _ => h
theorem Kp.trans {s c : Addr} {H H1 H2 : Hp} (a : Kp s c H H1) (b : Kp s c H1 H2) : Kp s c H H2 := fun x o h h1 h2 => b x o (a x o h h1 h2) h1 h2
theorem Kp.same {s c : Addr} {H H1 : Hp} (a : Same H H1) : Kp s c H H1 := fun x o h _ _ => a x o h
theorem Kp.new {s c : Addr} {H H1 : Hp} (a : Kp s c H H1) {p : Addr} {o : HO} (h : H1 p = none) : Kp s c H (upd H1 p o) := fun x u e h1 h2 => by
  have := a x u e h1 h2
  rw [upd_ne (ne_of_none this h)]
  exact this
theorem Src.upd {H : Hp} {s c p : Addr} {o : HO} (S : Src H s c) (h1 : p ≠ s) (h2 : p ≠ c) : Src (upd H p o) s c := by
  obtain ⟨cs, l, m, t, S⟩ := S
  exact ⟨cs, l, m, t, ⟨by rw [upd_ne h1.symm]; exact S.ds, by rw [upd_ne h2.symm]; exact S.dc, S.nn, S.len, S.l0, S.m0, S.m1, S.t0⟩⟩
theorem Src.same {H H' : Hp} {s c : Addr} (S : Src H s c) (e : Same H H') : Src H' s c := by
  obtain ⟨cs, l, m, t, S⟩ := S
  exact ⟨cs, l, m, t, ⟨e _ _ S.ds, e _ _ S.dc, S.nn, S.len, S.l0, S.m0, S.m1, S.t0⟩⟩
theorem Src.ne {H : Hp} {s c p : Addr} (S : Src H s c) (h : H p = none) : p ≠ s ∧ p ≠ c := by
  obtain ⟨cs, l, m, t, S⟩ := S
  exact ⟨(ne_of_none S.ds h).symm, (ne_of_none S.dc h).symm⟩
theorem Src.new {H : Hp} {s c p : Addr} {o : HO} (S : Src H s c) (h : H p = none) : Src (L2.upd H p o) s c := S.upd (S.ne h).1 (S.ne h).2
theorem tyes {σ : St} {H : Hp} {A B : Hp → Prop} (h : A H) : tYes σ H (fun b H3 => if b = true then A H3 else B H3) := by
  show (if true = true then A H else B H)
  rw [if_pos rfl]
  exact h
/-- what is new since H, and stays where only the source changes -/
theorem Kp.off {H H1 : Hp} {s c p : Addr} {o : HO} (a : Kp s c H H1) (h : H p = none) : Kp s c H (L2.upd H1 p o) := fun b u e h1 h2 => by
  rw [upd_ne (ne_of_none e h)]
  exact a b u e h1 h2
theorem Kp.free {H H1 : Hp} {s c p : Addr} (a : Kp s c H H1) (S : Src H1 s c) (h : H1 p = none) : H p = none := by
  cases q : H p with
  | none => rfl
  | some o =>
    obtain ⟨n1, n2⟩ := S.ne h
    rw [a p o q n1 n2] at h
    cases h
theorem same_new {H : Hp} {p : Addr} {o : HO} (h : H p = none) : Same H (upd H p o) := fun x u e => by
  rw [upd_ne (ne_of_none e h)]
  exact e
theorem k1 : ¬ (("cells" : Str) = "left") := by decide +kernel
theorem k2 : ¬ (("cells" : Str) = "mixed") := by decide +kernel
theorem k3 : ¬ (("cells" : Str) = "turn") := by decide +kernel
theorem k4 : ¬ (("left" : Str) = "mixed") := by decide +kernel
theorem k5 : ¬ (("left" : Str) = "turn") := by decide +kernel
theorem k6 : ¬ (("mixed" : Str) = "turn") := by decide +kernel
theorem k4' : ¬ (("mixed" : Str) = "left") := by decide +kernel
theorem k5' : ¬ (("turn" : Str) = "left") := by decide +kernel
section
variable {c : Addr} {l m t : Int}
theorem src_cells : valV (srcD c l m t) (Sum.inr "cells" : Key) = some (.ref c) := valV_pos rfl
theorem inr_ne {x y : Str} (h : ¬ x = y) : ¬ (Sum.inr x : Key) = Sum.inr y := fun e => h (Sum.inr.inj e)
theorem src_left : valV (srcD c l m t) (Sum.inr "left" : Key) = some (.int l) := by
  unfold srcD
  rw [valV_neg (inr_ne k1)]
  exact valV_pos rfl
theorem src_mixed : valV (srcD c l m t) (Sum.inr "mixed" : Key) = some (.int m) := by
  unfold srcD
  rw [valV_neg (inr_ne k2), valV_neg (inr_ne k4)]
  exact valV_pos rfl
theorem src_turn : valV (srcD c l m t) (Sum.inr "turn" : Key) = some (.int t) := by
  unfold srcD
  rw [valV_neg (inr_ne k3), valV_neg (inr_ne k5), valV_neg (inr_ne k6)]
  exact valV_pos rfl
theorem put_left {z : Int} : putK (srcD c l m t) (Sum.inr "left" : Key) (.int z) = srcD c z m t := by
  unfold putK srcD
  simp [k1, k4', k5']
theorem put_turn {z : Int} : putK (srcD c l m t) (Sum.inr "turn" : Key) (.int z) = srcD c l m z := by
  unfold putK srcD
  simp [k3, k5, k6]
theorem src_len : (srcD c l m t).length < sizeLine := by show 4 < sizeLine; decide
end
/-! ### _law_pick -/
def spPick : Sp := fun vs H Q _ => ∃ (s c : Addr) (n : Int), vs = [.ref s, .int n] ∧ Src H s c ∧ 1 ≤ n ∧ n < 1073741824 ∧
  ∀ (k : Int) (H' : Hp), 0 ≤ k → k < n → Src H' s c → Kp s c H H' → Q (.int k) H'
theorem scPick : FnScope ["_law_source", "_law_many", "_law_cells", "_law_left", "_law_turn", "_law_mixed"] ["_law_source", "_law_many"] (defScope sPick) := ⟨rfl, rfl, rfl, by decide +kernel, rfl, by decide +kernel, by decide +kernel⟩
structure TxtA (mg : Str → Option Value) : Prop where
  len : mg "len" = none
  int : mg "int" = none
section
variable {P : Program} {w : World} {K : PySem.W.Frag} {mg : Str → Option Value} {base : Heap}
theorem ok_pick {f : Addr} {fd : FuncData} (F : Fun K "_law_pick" "_law_pick" sPick f fd) (T : TxtA mg) : FnOk P w K mg base CX0 1 f fd ["_law_source", "_law_many"] spPick := by
  refine F.ok scPick (fun vs H Q E h => ?_) (fun cdv A outer s H vs Q E hr h => ?_)
  · obtain ⟨p, dx, n, rfl, _⟩ := h
    rfl
  · obtain ⟨sa, ca, n, rfl, ⟨cs, l, m, t, S⟩, n1, n2, k⟩ := h
    have hu := hu_of hr
    refine ⟨_, pss_cons (ps_if (pt_cmpR op_lt (pv 1) pe_int (nomark _)) (pss_one (ps_ret pe_int)) pss_nil)
      (pss_cons (ps_set (i := 2) scPick.nd rfl (Or.inl rfl) (pe_dget hu (pv 0) pe_str (fun _ _ => rfl)))
      (Evl.pss_cut (ps_while PassesOwn.never (PW.pt (pw_and (pt_cmpR op_lt (pe_dget hu (pv 0) pe_str (fun _ _ => rfl)) pe_int (nomark _)) (pw_and1 (pt_cmpR op_gt (pe_callB call_len_seq (by rfl) T.len PySem.boot_len (pa_cons (pv 2) pa_nil)) pe_int (nomark _)))))
        (pss_one (ps_dput hu (pv 0) pe_str (pe_bm0 PySem.F.plainAttrs_list PySem.F.slot_list_pop PySem.F.type_list_pop mt_pop (pv 2)) rfl)))
      (pss_cons (ps_set (i := 3) scPick.nd rfl (Or.inl rfl) (pe_dget hu (pv 0) pe_str (fun _ _ => rfl)))
      (pss_cons (ps_if (pt_cmpR op_gt (pv 3) pe_int (nomark _))
        (pss_cons (ps_dput hu (pv 0) pe_str (pe_op op_fdiv (pv 3) (pv 1)) rfl) (pss_one (ps_ret (pe_op op_mod (pe_callTy call_int1 (by rfl) T.int (by decide +kernel) (pa_cons (pv 3) pa_nil)) (pv 1))))) pss_nil)
      (pss_cons (ps_dput hu (pv 0) pe_str (pe_op op_add (pe_dget hu (pv 0) pe_str (fun _ _ => rfl)) pe_int) rfl)
      (pss_cons (ps_set (i := 4) scPick.nd rfl (Or.inl rfl) (pe_dget hu (pv 0) pe_str (fun _ _ => rfl)))
      (pss_cons (ps_set (i := 5) scPick.nd rfl (Or.inl rfl) (pe_op op_mod (pe_callTy call_int1 (by rfl) T.int (by decide +kernel) (pa_cons (pe_op op_add (pe_dget hu (pv 0) pe_str (fun _ _ => rfl)) (pe_op op_mul (pv 4) pe_int)) pa_nil)) pe_int))
      (pss_cons (ps_set (i := 5) scPick.nd rfl (Or.inl rfl) (pe_op op_mod (pe_callTy call_int1 (by rfl) T.int (by decide +kernel) (pa_cons (pe_op op_add (pe_op op_mul (pv 5) (pv 5)) (pe_op op_mul (pv 4) pe_int)) pa_nil)) pe_int))
      (pss_one (ps_ret (pe_op op_mod (pe_callTy call_int1 (by rfl) T.int (by decide +kernel) (pa_cons (pe_op op_fdiv (pv 5) pe_int) pa_nil)) (pv 1)))))))))))), ?_⟩
    -- if many < 2: return 0
    refine ⟨_, rfl, _, _, rfl, rfl, _, rfl, ?_⟩
    refine ite2 (fun h1 => k 0 H (by omega) (by omega) ⟨cs, l, m, t, S⟩ (Kp.refl H)) (fun h1 => ?_)
    have hn2 : 2 ≤ n := by
      have := of_decide_eq_false (Bool.eq_false_iff.mpr h1)
      omega
    have hsc : sa ≠ ca := ne_of S.ds S.dc (by intro z; cases z)
    -- cells
    refine ⟨_, rfl, sa, _, rfl, (by rw [← src_cells (l := l) (m := m) (t := t)]; exact DGet.k (k := Sum.inr "cells") S.ds), ?_⟩
    -- while
    refine ⟨fun σ H' => ∃ cs' l', σ = [some (.ref sa), some (.int n), some (.ref ca), none, none, none] ∧ SrcOk H' sa ca cs' l' m t ∧ Kp sa ca H H', ?_, ?_⟩
    · refine ⟨fun mm σ H' => ∃ cs' l', mm = cs'.length ∧ σ = [some (.ref sa), some (.int n), some (.ref ca), none, none, none] ∧ SrcOk H' sa ca cs' l' m t ∧ Kp sa ca H H', ⟨_, cs, l, rfl, rfl, S, Kp.refl H⟩, ?_⟩
      rintro mm σ H1 ⟨cs', l', rfl, rfl, S1, kp⟩
      have dl : DGet H1 sa (V.str "left") (some (.int l')) := by rw [← src_left (c := ca) (m := m) (t := t)]; exact DGet.k (k := Sum.inr "left") S1.ds
      refine ⟨_, rfl, sa, _, rfl, dl, _, _, rfl, rfl, _, rfl, ?_⟩
      refine ite2 (fun hl => ?_) (fun hl => iteF ⟨cs', l', rfl, S1, kp⟩)
      refine ⟨_, rfl, ca, _, rfl, .inl (SqL.of S1.dc), _, _, rfl, rfl, _, rfl, ?_⟩
      refine ite2 (fun hc => ?_) (fun hc => ⟨cs', l', rfl, S1, kp⟩)
      have hc' : 0 < cs'.length := by
        have := of_decide_eq_true hc
        rw [List.length_map] at this
        omega
      obtain ⟨y, hy⟩ : ∃ y, cs'[cs'.length - 1]? = some y := ⟨_, List.getElem?_eq_getElem (by omega)⟩
      have hym : y ∈ cs' := List.mem_of_getElem? hy
      refine ⟨fun σ H' => ∃ cs2 l2, cs2.length < cs'.length ∧ σ = [some (.ref sa), some (.int n), some (.ref ca), none, none, none] ∧ SrcOk H' sa ca cs2 l2 m t ∧ Kp sa ca H H', fun σ' H' ⟨cs2, l2, a1, a2, a3, a4⟩ => ⟨_, a1, cs2, l2, rfl, a2, a3, a4⟩, ?_⟩
      refine ⟨_, rfl, .inl ⟨rfl, _, SqL.of S1.dc⟩, ca, _, .int y, rfl, rfl, S1.dc, (by rw [List.length_map, List.getElem?_map, hy]; rfl), ?_⟩
      have ds2 : (upd H1 ca (.lst (cs'.map V.int).dropLast)) sa = some (.dK (srcD ca l' m t)) := by rw [upd_ne hsc]; exact S1.ds
      refine ⟨_, rfl, sa, _, rfl, DPut.k (k := Sum.inr "left") ds2 src_len, ?_⟩
      refine ⟨cs'.dropLast, y, (by rw [List.length_dropLast]; omega), rfl, ⟨by rw [upd_same, put_left], by rw [upd_ne hsc.symm, upd_same, List.map_dropLast], fun x hx => S1.nn x ((List.dropLast_sublist cs').subset hx), (by rw [List.length_dropLast]; have := S1.len; omega), S1.nn y hym, S1.m0, S1.m1, S1.t0⟩, fun b o e h1 h2 => ?_⟩
      rw [upd_ne h1, upd_ne h2]
      exact kp b o e h1 h2
    rintro σ H1 ⟨cs', l', rfl, S1, kp⟩
    have dl : DGet H1 sa (V.str "left") (some (.int l')) := by rw [← src_left (c := ca) (m := m) (t := t)]; exact DGet.k (k := Sum.inr "left") S1.ds
    refine ⟨_, rfl, sa, _, rfl, dl, ?_⟩
    refine ⟨_, rfl, _, _, rfl, rfl, _, rfl, ?_⟩
    refine ite2 (fun h2 => ?_) (fun h2 => ?_)
    · -- left // many
      have hl2 : 1 < l' := of_decide_eq_true h2
      refine ⟨_, rfl, _, rfl, _, _, rfl, rfl, ⟨by omega, by omega⟩, _, rfl, sa, _, rfl, DPut.k (k := Sum.inr "left") S1.ds src_len, ?_⟩
      refine ⟨_, rfl, .inl ⟨_, rfl, _, rfl, _, _, rfl, rfl, by omega, ?_⟩⟩
      refine k _ _ (Int.emod_nonneg _ (by omega)) (Int.emod_lt_of_pos _ (by omega)) ⟨cs', l' / n, m, t, ⟨by rw [upd_same, put_left], by rw [upd_ne hsc.symm]; exact S1.dc, S1.nn, S1.len, Int.ediv_nonneg (by omega) (by omega), S1.m0, S1.m1, S1.t0⟩⟩ fun b o e h1 h2 => ?_
      rw [upd_ne h1]
      exact kp b o e h1 h2
    · have dt : DGet H1 sa (V.str "turn") (some (.int t)) := by rw [← src_turn (c := ca) (m := m) (l := l')]; exact DGet.k (k := Sum.inr "turn") S1.ds
      refine ⟨_, rfl, sa, _, rfl, dt, _, _, rfl, rfl, _, rfl, sa, _, rfl, DPut.k (k := Sum.inr "turn") S1.ds src_len, ?_⟩
      rw [put_turn]
      have S2 : SrcOk (upd H1 sa (.dK (srcD ca l' m (t + 1)))) sa ca cs' l' m (t + 1) := ⟨upd_same, by rw [upd_ne hsc.symm]; exact S1.dc, S1.nn, S1.len, S1.l0, S1.m0, S1.m1, by have := S1.t0; omega⟩
      have dt2 : DGet (upd H1 sa (.dK (srcD ca l' m (t + 1)))) sa (V.str "turn") (some (.int (t + 1))) := by rw [← src_turn (c := ca) (m := m) (l := l')]; exact DGet.k (k := Sum.inr "turn") S2.ds
      have dm2 : DGet (upd H1 sa (.dK (srcD ca l' m (t + 1)))) sa (V.str "mixed") (some (.int m)) := by rw [← src_mixed (c := ca) (t := t + 1) (l := l')]; exact DGet.k (k := Sum.inr "mixed") S2.ds
      refine ⟨_, rfl, sa, _, rfl, dt2, ?_⟩
      have hm2 : 0 ≤ (m + (t + 1) * 104729) % 998244353 := Int.emod_nonneg _ (by decide)
      have hm3 : (m + (t + 1) * 104729) % 998244353 < 998244353 := Int.emod_lt_of_pos _ (by decide)
      refine ⟨_, rfl, sa, _, rfl, dm2, _, rfl, _, _, rfl, rfl, .inr ⟨by decide, by decide⟩, _, _, rfl, rfl, .inl ⟨_, rfl, _, _, rfl, rfl, (by show (0 : Int) < 998244353; decide), ?_⟩⟩
      refine ⟨_, rfl, _, rfl, _, _, rfl, rfl, .inl ⟨by show -(2 ^ 64 : Int) < _; omega, by show _ < (2 ^ 64 : Int); omega⟩, _, rfl, _, _, rfl, rfl, .inr ⟨by decide, by decide⟩, _, _, rfl, rfl, .inl ⟨_, rfl, _, _, rfl, rfl, (by show (0 : Int) < 2147483647; decide), ?_⟩⟩
      refine ⟨_, rfl, _, _, rfl, rfl, ⟨by decide, by decide⟩, .inl ⟨_, rfl, _, rfl, _, _, rfl, rfl, by show 0 < n; omega, ?_⟩⟩
      refine k _ _ (Int.emod_nonneg _ (by omega)) (Int.emod_lt_of_pos _ (by omega)) ⟨cs', l', m, t + 1, S2⟩ fun b o e h1 h2 => ?_
      rw [upd_ne h1]
      exact kp b o e h1 h2
end
end Nm
set_option autoImplicit true
set_option maxRecDepth 100000
set_option maxHeartbeats 4000000
namespace Nm
open PySem L2
structure TxtB (mg : Str → Option Value) : Prop extends TxtA mg where
  list : mg "list" = none
  range : mg "range" = none
  abs : mg "abs" = none
/-- a def that stands under a name of the module, with its promise -/
structure Def (P : Program) (w : World) (K : PySem.W.Frag) (mg : Str → Option Value) (base : Heap) (x : Str) (ps : List Str) (k : Nat) (sp : Sp) : Prop where
  ex : ∃ f fd, FnOk P w K mg base CX0 k f fd ps sp ∧ mg x = some (.ref f) ∧ PySem.W.keepIn K (.ref f) = true ∧ Binds K fd ps []
section
variable {P : Program} {w : World} {K : PySem.W.Frag} {mg : Str → Option Value} {base : Heap}
theorem erase_perm {α : Type} {y : α} : ∀ {zs : List α} {i : Nat}, zs[i]? = some y → ([y] ++ zs.eraseIdx i).Perm zs
  | z :: zs, 0, h => by
    simp at h
    subst h
    exact List.Perm.refl _
  | z :: zs, i + 1, h => by
    simp at h
    have := erase_perm (zs := zs) (i := i) h
    show (y :: z :: zs.eraseIdx i).Perm (z :: zs)
    exact (List.Perm.swap z y _).trans (this.cons z)
/-! ### _law_any_order -/
def spAny (K : PySem.W.Frag) : Sp := fun vs H Q _ => ∃ (s c a : Addr) (xs : List V), vs = [.ref s, .ref a] ∧ Src H s c ∧ SqL K H a xs ∧ xs.length ≤ 10000 ∧
  ∀ (p : Addr) (ys : List V) (H' : Hp), H p = none → ys.Perm xs → H' p = some (.lst ys) → Src H' s c → Kp s c H H' → Q (.ref p) H'
theorem scAny : FnScope ["_law_source", "_law_items", "_law_rest", "_law_lap"] ["_law_source", "_law_items"] (defScope sAnyOrder) := ⟨rfl, rfl, rfl, by decide +kernel, rfl, by decide +kernel, by decide +kernel⟩
theorem ok_any {f : Addr} {fd : FuncData} (F : Fun K "_law_any_order" "_law_any_order" sAnyOrder f fd) (T : TxtB mg) (Gp : Def P w K mg base "_law_pick" ["_law_source", "_law_many"] 1 spPick) : FnOk P w K mg base CX0 2 f fd ["_law_source", "_law_items"] (spAny K) := by
  obtain ⟨fp, fdp, Gp, mp, kp, bp⟩ := Gp.ex
  refine F.ok scAny (fun vs H Q E h => ?_) (fun cdv A outer s H vs Q E hr h => ?_)
  · obtain ⟨p, dx, n, xs, rfl, _⟩ := h
    rfl
  · obtain ⟨sa, ca, ia, xs, rfl, S, hx, hl, k⟩ := h
    have hu := hu_of hr
    refine ⟨_, pss_cons (ps_set (i := 2) scAny.nd rfl (Or.inr rfl) (pe_callTy call_list_of (by rfl) T.list (by decide +kernel) (pa_cons (pv 1) pa_nil)))
      (pss_one (ps_ret (pe_lc (own := [("_law_lap", 3)]) (g := gName 3) (tt := tYes) (te := tBM K "list" rPopAt (tVar 2) (tCons (tCall spPick [] E0 (tCons (tVar 0) (tCons (tCB (Evl.rLenS K) (tCons (tVar 2) tNil)) tNil))) tNil)) rfl scAny.nd (pi_range1 (by rfl) T.range (pa_cons (pe_callB call_len_seq (by rfl) T.len PySem.boot_len (pa_cons (pv 2) pa_nil)) pa_nil))
        (blkOk_by (N := ["_law_source", "_law_items", "_law_rest", "_law_lap"]) (sc := defScope sAnyOrder) (by decide +kernel)) (fun _ _ _ _ _ => pg_name (i := 3) scAny.nd rfl (Or.inl rfl)) (fun _ _ _ _ _ => pts_nil)
        (fun _ _ _ _ _ => by exact pe_bm PySem.F.plainAttrs_list PySem.F.slot_list_pop PySem.F.type_list_pop mt_popAt (pv 2) (pa_cons (pe_call Gp hr (by rfl) mp kp bp .nil pass0 (pa_cons (pv 0) (pa_cons (pe_callB call_len_seq (by rfl) T.len PySem.boot_len (pa_cons (pv 2) pa_nil)) pa_nil))) pa_nil))))), ?_⟩
    refine ⟨_, rfl, ia, _, rfl, .inl hx, fun r hr0 => ?_⟩
    refine ⟨_, rfl, r, _, rfl, .inl (SqL.of upd_same), _, rfl, by omega, by omega, fun D hD => ?_⟩
    have hDr : D ≠ r := fun e => by subst e; rw [upd_same] at hD; cases hD
    have hD0 : H D = none := by rw [upd_ne hDr] at hD; exact hD
    obtain ⟨nrs, nrc⟩ := S.ne hr0
    obtain ⟨nDs, nDc⟩ := S.ne hD0
    refine lc_range (lo := 0) (n := xs.length) (fun i H' => ∃ ys zs, (ys ++ zs).Perm xs ∧ ys.length = i ∧ H' D = some (.lst ys) ∧ H' r = some (.lst zs) ∧ Src H' sa ca ∧ Kp sa ca H H') ?_ ?_ ?_
    · exact ⟨[], xs, List.Perm.refl _, rfl, upd_same, by rw [upd_ne hDr.symm, upd_same], (S.new hr0).upd nDs nDc, ((Kp.refl H).off hr0).off hD0⟩
    · rintro i H1 hi ⟨ys, zs, pm, hyl, hy, hz, S1, kp1⟩
      have hlen : ys.length + zs.length = xs.length := by rw [← List.length_append]; exact pm.length_eq
      refine ⟨rfl, tyes ?_⟩
      refine ⟨_, rfl, .inl ⟨rfl, _, SqL.of hz⟩, _, rfl, _, rfl, r, _, rfl, .inl (SqL.of hz), sa, ca, _, rfl, S1, by omega, by omega, fun kk H2 k0 k1 S2 kp2 => ?_⟩
      have hz2 := kp2 _ _ hz nrs nrc
      have hy2 := kp2 _ _ hy nDs nDc
      obtain ⟨y, hyy⟩ : ∃ y, zs[kk.toNat]? = some y := ⟨_, List.getElem?_eq_getElem (by omega)⟩
      refine ⟨r, zs, kk, kk.toNat, y, rfl, rfl, hz2, by omega, by omega, ?_, hyy, ?_⟩
      · exact seqIndex_of k0 k1
      · refine ⟨ys, by rw [upd_ne hDr]; exact hy2, Evl.sz_lt (by omega), ys ++ [y], zs.eraseIdx kk.toNat, ?_, by simp; omega, upd_same, by rw [upd_ne hDr.symm, upd_same], ?_, ?_⟩
        · refine List.Perm.trans ?_ pm
          rw [List.append_assoc]
          refine List.Perm.append_left ys ?_
          exact erase_perm hyy
        · exact (S2.upd nrs nrc).upd nDs nDc
        · exact ((kp1.trans kp2).off hr0).off hD0
    · rintro H1 ⟨ys, zs, pm, hyl, hy, hz, S1, kp1⟩
      have hlen : ys.length + zs.length = xs.length := by rw [← List.length_append]; exact pm.length_eq
      have hz0 : zs = [] := List.length_eq_zero_iff.mp (by omega)
      subst hz0
      rw [List.append_nil] at pm
      exact k D ys H1 hD0 pm hy S1 kp1
end
end Nm
set_option autoImplicit true
set_option maxRecDepth 100000
set_option maxHeartbeats 4000000
/-! Rules that the layer lacks -/
namespace Nm
open PySem PySem.Spec PyProof.Rows L2
/-- the places that xs[::st] takes -/
def stepIx (st : Int) (n : Nat) : List Nat := sliceRange (sliceBounds none none (some st) n).1 (sliceBounds none none (some st) n).2.1 (sliceBounds none none (some st) n).2.2
def stepV (xs : List V) (st : Int) : List V := (stepIx st xs.length).filterMap (xs[·]?)
theorem stepV_mem {xs : List V} {st : Int} {v : V} (h : v ∈ stepV xs st) : v ∈ xs := by
  obtain ⟨i, _, e⟩ := List.mem_filterMap.mp h
  exact List.mem_of_getElem? e
theorem vals_filter : ∀ (is : List Nat) {xs : List V} {us : List Value}, Vals xs us → Vals (is.filterMap (xs[·]?)) (is.filterMap (us[·]?))
  | [], _, _, _ => .nil
  | i :: is, xs, us, r => by
    rw [List.filterMap_cons, List.filterMap_cons]
    cases e : xs[i]? with
    | none =>
      rw [r.none_of e]
      exact vals_filter is r
    | some x =>
      obtain ⟨u, e2, r2⟩ := r.get e
      rw [e2]
      exact .cons r2 (vals_filter is r)
theorem fm_len {α β : Type} : ∀ (is : List Nat) {xs : List α} {us : List β}, xs.length = us.length → (is.filterMap (xs[·]?)).length = (is.filterMap (us[·]?)).length
  | [], _, _, _ => rfl
  | i :: is, xs, us, h => by
    rw [List.filterMap_cons, List.filterMap_cons]
    have ih := fm_len is h
    by_cases hi : i < xs.length
    · rw [List.getElem?_eq_getElem hi, List.getElem?_eq_getElem (by omega)]
      simp only [List.length_cons]
      omega
    · rw [List.getElem?_eq_none (by omega), List.getElem?_eq_none (by omega)]
      exact ih
theorem stepV_len (xs : List V) (st : Int) : (stepV xs st).length ≤ xs.length := by
  have h := slicePick_size_le (List.replicate xs.length Value.none).toArray none none (some st)
  unfold slicePick at h
  rw [List.size_toArray, List.size_toArray, List.length_replicate] at h
  have e := fm_len (stepIx st xs.length) (xs := xs) (us := List.replicate xs.length Value.none) (by simp)
  unfold stepV
  rw [e]
  have e2 : (stepIx st xs.length).filterMap ((List.replicate xs.length Value.none)[·]?) = (stepIx st xs.length).filterMap ((List.replicate xs.length Value.none).toArray[·]?) := by simp only [List.getElem?_toArray]
  rw [e2]
  exact h
def tStepL (K : PySem.W.Frag) (te ts : TE) : TE := fun σ H Q => te σ H fun x H1 => ts σ H1 fun y H2 => ∃ st, y = .int st ∧ ∃ a xs, x = .ref a ∧ (some st).getD 1 ≠ 0 ∧ (some st).isSome = true ∧ SqL K H2 a xs ∧ ∀ p, H2 p = none → Q (.ref p) (upd H2 p (.lst (stepV xs ((some st).getD 1))))
section
variable {X : Cx}
theorem pe_stepL {e es : PySem.Expr} {te ts : TE} {p3 pos : Pos} (he : PE X e te) (hs : PE X es ts) : PE X (.Subscript e (.Slice none none (some es) p3) pos) (tStepL X.K te ts) := by
  refine ⟨fun pins s σ H Q I h => ?_⟩
  refine Subscript_ (thn (he.run pins s σ H _ I h) fun v s1 ⟨x, H1, I1, r1, q1⟩ => ?_)
  refine wpAny_Slice (thn (po_none.run pins s1 σ H1 (fun o H2 => o = none ∧ H2 = H1) I1 ⟨rfl, rfl⟩) fun vl s2 ⟨l, H2, I2, pl, el, e2⟩ => ?_)
  subst el e2
  refine thn (po_none.run pins s2 σ H2 (fun o H3 => o = none ∧ H3 = H2) I2 ⟨rfl, rfl⟩) fun vu s3 ⟨u, H3, I3, pu, eu, e3⟩ => ?_
  subst eu e3
  refine thn ((po_some hs).run pins s3 σ H3 (fun o H4 => ∃ a xs, x = .ref a ∧ o.getD 1 ≠ 0 ∧ o.isSome = true ∧ SqL X.K H4 a xs ∧ ∀ p, H4 p = none → Q (.ref p) (upd H4 p (.lst (stepV xs (o.getD 1))))) I3 ?_) fun vs s4 ⟨o, H4, I4, ps, a, xs, ex, hst, ho, hx, q⟩ => ?_
  · exact q1
  obtain ⟨st, rfl⟩ := Option.isSome_iff_exists.mp ho
  subst ex
  cases r1
  have I5 : Inv X pins σ H4 { s4 with heap := s4.heap.push { cls := .type "slice", data := .fields #[vl, vu, vs] } } := I4.kept (t' := s4.toks) fun b ob q => Heap.get?_push_of_some _ q
  obtain ⟨its, r, ht, hz⟩ := I5.list hx
  have hlen := r.length
  show wpAny (model X.prog X.w) X.A (subscriptTail e (.Slice none none (some es) p3) (.ref a) (.ref s4.heap.objs.size)) (EP X pins σ Q) X.xe { s4 with heap := s4.heap.push { cls := .type "slice", data := .fields #[vl, vu, vs] } }
  refine tail_any (ops := [.ref a, .ref s4.heap.objs.size]) ht.isList.typeIs (PySem.slot_list_getitem.lookup) ?_ (by with_unfolding_all rfl)
  refine wpAny_getItem_list_slice ht.isList (Heap.IsSliceOf.new _ vl vu vs) pl pu ps (fun z => hst (Option.some.inj z)) ?_ (by rw [List.size_toArray]; omega)
  refine ⟨.ref _, _, I5.laid (t' := s4.toks) (o := .lst (stepV xs st)) (fun b ob q => Heap.get?_push_of_some _ q) (Nat.le_refl _) ?_, rfl, q _ (I5.hok.fresh (Nat.le_refl _))⟩
  have r2 : Vals (stepV xs st) ((stepIx st xs.length).filterMap (its[·]?)) := vals_filter _ r
  refine ⟨?_, _, 0, r2, ?_⟩
  · have h1 := r2.length
    have h2 := slicePick_size_le its.toArray none none (some st)
    have h3 : slicePick its.toArray none none (some st) = ((stepIx st its.length).filterMap (its[·]?)).toArray := by
      unfold slicePick stepIx
      rw [List.size_toArray]
      simp
    rw [h3, List.size_toArray, List.size_toArray] at h2
    rw [hlen] at h1
    show (stepV xs st).length ≤ sizeLine
    omega
  · rw [Heap.get?_push_size _ rfl]
    have h3 : slicePick its.toArray none none (some st) = ((stepIx st its.length).filterMap (its[·]?)).toArray := by
      unfold slicePick stepIx
      rw [List.size_toArray]
      simp
    rw [h3, hlen]
end
end Nm
set_option autoImplicit true
set_option maxRecDepth 100000
set_option maxHeartbeats 4000000
namespace Nm
open PySem L2
theorem Kp.seq {K : PySem.W.Frag} {s c a : Addr} {H H' : Hp} {xs : List V} (e : Kp s c H H') (h1 : a ≠ s) (h2 : a ≠ c) (h : SqL K H a xs) : SqL K H' a xs := by
  rcases h with (h | ⟨o, h⟩) | h
  · exact .inl (.inl (e _ _ h h1 h2))
  · exact .inl (.inr ⟨o, e _ _ h h1 h2⟩)
  · exact .inr h
theorem merge_src {c : Addr} {l m t : Int} : mergeK [] (srcD c l m t) = srcD c l m t := by
  unfold mergeK srcD
  simp [putK, k1, k2, k3, k4, k5, k6]
section
variable {P : Program} {w : World} {K : PySem.W.Frag} {mg : Str → Option Value} {base : Heap}
/-! ### _law_choice_of -/
def spChoice (K : PySem.W.Frag) : Sp := fun vs H Q _ => ∃ (s c a : Addr) (xs : List V), vs = [.ref s, .ref a] ∧ Src H s c ∧ a ≠ s ∧ a ≠ c ∧ SqL K H a xs ∧ 1 ≤ xs.length ∧ xs.length ≤ 1000 ∧
  ∀ (v : V) (H' : Hp), v ∈ xs → Src H' s c → Kp s c H H' → Q v H'
theorem scChoice : FnScope ["_law_source", "_law_items"] ["_law_source", "_law_items"] (defScope sChoiceOf) := ⟨rfl, rfl, rfl, by decide +kernel, rfl, by decide +kernel, by decide +kernel⟩
theorem ok_choice {f : Addr} {fd : FuncData} (F : Fun K "_law_choice_of" "_law_choice_of" sChoiceOf f fd) (T : TxtB mg) (Gp : Def P w K mg base "_law_pick" ["_law_source", "_law_many"] 1 spPick) : FnOk P w K mg base CX0 2 f fd ["_law_source", "_law_items"] (spChoice K) := by
  obtain ⟨fp, fdp, Gp, mp, kp, bp⟩ := Gp.ex
  refine F.ok scChoice (fun vs H Q E h => ?_) (fun cdv A outer s H vs Q E hr h => ?_)
  · obtain ⟨p, dx, n, xs, rfl, _⟩ := h
    rfl
  · obtain ⟨sa, ca, ia, xs, rfl, S, n1, n2, hx, hl1, hl, k⟩ := h
    refine ⟨_, pss_one (ps_ret (pe_ix ix_list (pv 1) (pe_call Gp hr (by rfl) mp kp bp .nil pass0 (pa_cons (pv 0) (pa_cons (pe_callB call_len_seq (by rfl) T.len PySem.boot_len (pa_cons (pv 1) pa_nil)) pa_nil))) (fun _ _ => rfl))), ?_⟩
    refine ⟨_, rfl, _, rfl, _, rfl, ia, _, rfl, .inl hx, sa, ca, _, rfl, S, by omega, by omega, fun kk H2 k0 k1 S2 kp2 => ?_⟩
    obtain ⟨v, hv⟩ : ∃ v, xs[kk.toNat]? = some v := ⟨_, List.getElem?_eq_getElem (by omega)⟩
    refine ⟨ia, xs, kk, v, rfl, rfl, kp2.seq n1 n2 hx, ?_, k v H2 (List.mem_of_getElem? hv) S2 kp2⟩
    have := atI_nat hv
    rw [Int.toNat_of_nonneg k0] at this
    exact this
/-! ### _law_open_cells -/
def spOpen (K : PySem.W.Frag) : Sp := fun vs H Q _ => ∃ (a : Addr) (ns : List Int), vs = [.ref a] ∧ SqL K H a (ns.map V.int) ∧ ns.length ≤ 63 ∧
  ∀ (s c : Addr) (H' : Hp), H s = none → H c = none → Src H' s c → Same H H' → Q (.ref s) H'
theorem scOpen : FnScope ["_law_script", "_law_mixed", "_law_cell", "_law_cells"] ["_law_script"] (defScope sOpenCells) := ⟨rfl, rfl, rfl, by decide +kernel, rfl, by decide +kernel, by decide +kernel⟩
theorem ok_open {f : Addr} {fd : FuncData} (F : Fun K "_law_open_cells" "_law_open_cells" sOpenCells f fd) (T : TxtB mg) : FnOk P w K mg base CX0 1 f fd ["_law_script"] (spOpen K) := by
  refine F.ok scOpen (fun vs H Q E h => ?_) (fun cdv A outer s H vs Q E hr h => ?_)
  · obtain ⟨p, dx, rfl, _⟩ := h
    rfl
  · obtain ⟨sa, ns, rfl, hx, hl, k⟩ := h
    refine ⟨_, pss_cons (ps_set (i := 1) scOpen.nd rfl (Or.inl rfl) pe_int)
      (pss_cons (ps_for PassesOwn.never rfl (pi_list (pv 0)) (pg_name (i := 2) scOpen.nd rfl (Or.inl rfl))
        (pss_one (ps_set (i := 1) scOpen.nd rfl (Or.inl rfl) (pe_op op_mod (pe_callTy call_int1 (by rfl) T.int (by decide +kernel) (pa_cons (pe_op op_add (pe_op op_add (pe_op op_mul (pv 1) pe_int) (pe_op op_mul (pv 2) pe_int)) pe_int) pa_nil)) pe_int))))
      (pss_cons (ps_setLc (i := 3) (own := [("_law_cell", 2)]) (g := gName 2) (tt := tYes) rfl scOpen.nd rfl rfl (sw_true rfl rfl rfl (by decide +kernel)) (pi_list (pv 0))
        (blkOk_by (N := ["_law_script", "_law_mixed", "_law_cell", "_law_cells"]) (sc := defScope sOpenCells) (by decide +kernel)) (fun _ _ _ _ _ => pg_name (i := 2) scOpen.nd rfl (Or.inl rfl)) (fun _ _ _ _ _ => pts_nil)
        (fun _ _ _ _ _ => pe_callB call_abs (by rfl) T.abs (by decide +kernel) (pa_cons (pv 2) pa_nil)))
      (pss_one (ps_ret (pe_disp (pps_cons pe_str (pe_revL (pv 3)) (pps_cons pe_str pe_int (pps_cons pe_str (pv 1) (pps_cons pe_str pe_int pps_nil)))) (by rfl) (by rfl) (fun z => by cases z) (by decide)))))), ?_⟩
    refine ⟨_, rfl, sa, rfl, ⟨_, hx⟩, ?_⟩
    refine for_list (xs := ns.map V.int) (fun i σ H' => H' = H ∧ ∃ (m : Int) (v : Option V), 0 ≤ m ∧ m < 2147483629 ∧ σ = [some (.ref sa), some (.int m), v, none]) ⟨rfl, 11, none, by decide, by decide, rfl⟩ (fun i σ H' _ h => by rw [h.1]; exact hx) ?_ ?_
    · rintro i x σ H' hi ⟨rfl, m, v, m0, m1, rfl⟩
      rw [List.getElem?_map] at hi
      obtain ⟨y, _, rfl⟩ := Option.map_eq_some_iff.mp hi
      refine ⟨_, rfl, _, _, rfl, rfl, .inr ⟨by decide, by decide⟩, _, rfl, _, _, rfl, rfl, .inr ⟨by decide, by decide⟩, _, _, rfl, rfl, _, _, rfl, rfl, .inl ⟨_, rfl, _, _, rfl, rfl, (by show (0 : Int) < 2147483629; decide), ?_⟩⟩
      exact ⟨rfl, _, some (.int y), Int.emod_nonneg _ (by decide), Int.emod_lt_of_pos _ (by decide), rfl⟩
    · rintro σ H' ⟨rfl, m, v, m0, m1, rfl⟩
      refine ⟨_, rfl, sa, rfl, ⟨_, hx⟩, fun D hD => ?_⟩
      refine lc_list (xs := ns.map V.int) (fun i H1 => Same H' H1 ∧ ∃ cs : List Int, cs.length = i ∧ (∀ x ∈ cs, 0 ≤ x) ∧ H1 D = some (.lst (cs.map V.int))) ⟨same_new hD, [], rfl, by simp, upd_same⟩ (fun i H1 _ h => h.1.seq hx) ?_ ?_
      · rintro i x H1 hi ⟨sm, cs, hcl, hc0, hcD⟩
        have hil := (List.getElem?_eq_some_iff.mp hi).1
        rw [List.length_map] at hil
        rw [List.getElem?_map] at hi
        obtain ⟨y, _, rfl⟩ := Option.map_eq_some_iff.mp hi
        refine ⟨rfl, tyes ?_⟩
        refine ⟨_, rfl, y, rfl, _, hcD, Evl.sz_lt (by rw [List.length_map]; omega), ?_, cs ++ [if y < 0 then -y else y], by simp [hcl], ?_, by rw [upd_same, List.map_append]; rfl⟩
        · intro b o e
          rw [upd_ne (ne_of_none e hD)]
          exact sm b o e
        · intro x hx
          rcases List.mem_append.mp hx with h | h
          · exact hc0 x h
          · rw [List.mem_singleton] at h
            subst h
            split <;> omega
      · rintro H1 ⟨sm, cs, hcl, hc0, hcD⟩
        rw [List.length_map] at hcl
        intro p hp
        have hp0 : H' p = none := sm.free hp
        refine ⟨_, rfl, D, _, rfl, SqL.of (by rw [upd_ne (ne_of_none hcD hp)]; exact hcD), fun q hq => ?_⟩
        have hqp : q ≠ p := fun e => by subst e; rw [upd_same] at hq; cases hq
        have hq1 : H1 q = none := by rw [upd_ne hqp] at hq; exact hq
        have hq0 : H' q = none := sm.free hq1
        refine ⟨_, rfl, by rw [upd_ne hqp.symm, upd_same], srcD q 1 m 0, rfl, (by show 4 ≤ 15; decide), ?_⟩
        rw [merge_src]
        refine k p q _ hp0 hq0 ⟨cs.reverse, 1, m, 0, ⟨upd_same, by rw [upd_ne hqp, upd_same, List.map_reverse], fun x hx => hc0 x (List.mem_reverse.mp hx), by rw [List.length_reverse]; omega, by decide, m0, m1, by decide⟩⟩ fun b o e => ?_
        rw [upd_ne (ne_of_none e hp0), upd_ne (ne_of_none e hq0), upd_ne (ne_of_none e hp0)]
        exact sm b o e
end
end Nm
set_option autoImplicit true
set_option maxRecDepth 100000
set_option maxHeartbeats 4000000
namespace Nm
open PySem L2
/-- each of xs is a pair of numbers i < j below n -/
def PairsAt (n : Int) (H : Hp) (xs : List V) : Prop := ∀ v ∈ xs, ∃ t i j, v = V.ref t ∧ H t = some (.tup [.int i, .int j]) ∧ 0 ≤ i ∧ i < j ∧ j < n
theorem PairsAt.same {n : Int} {H H' : Hp} {xs : List V} (h : PairsAt n H xs) (e : Same H H') : PairsAt n H' xs := fun v hv => by
  obtain ⟨t, i, j, a, b, c⟩ := h v hv
  exact ⟨t, i, j, a, e _ _ b, c⟩
theorem PairsAt.kp {n : Int} {H H' : Hp} {xs : List V} {s c : Addr} (h : PairsAt n H xs) (S : Src H s c) (e : Kp s c H H') : PairsAt n H' xs := fun v hv => by
  obtain ⟨t, i, j, a, b, r⟩ := h v hv
  obtain ⟨cs, l, m, tt, S⟩ := S
  exact ⟨t, i, j, a, e _ _ b (ne_of b S.ds (by intro z; cases z)) (ne_of b S.dc (by intro z; cases z)), r⟩
theorem PairsAt.snoc {n : Int} {H : Hp} {xs : List V} {t : Addr} {i j : Int} (h : PairsAt n H xs) (e : H t = some (.tup [.int i, .int j])) (h0 : 0 ≤ i) (h1 : i < j) (h2 : j < n) : PairsAt n H (xs ++ [.ref t]) := fun v hv => by
  rcases List.mem_append.mp hv with q | q
  · exact h v q
  · rw [List.mem_singleton] at q
    exact ⟨t, i, j, q, e, h0, h1, h2⟩
theorem PairsAt.sub {n : Int} {H : Hp} {xs ys : List V} (h : PairsAt n H xs) (e : ∀ v ∈ ys, v ∈ xs) : PairsAt n H ys := fun v hv => h v (e v hv)
theorem sq_le {n : Int} (h1 : 1 ≤ n) (h2 : n ≤ 7) : 1 ≤ n * n ∧ n * n ≤ 49 := by
  have h : n = 1 ∨ n = 2 ∨ n = 3 ∨ n = 4 ∨ n = 5 ∨ n = 6 ∨ n = 7 := by omega
  rcases h with rfl | rfl | rfl | rfl | rfl | rfl | rfl <;> decide
section
variable {P : Program} {w : World} {K : PySem.W.Frag} {mg : Str → Option Value} {base : Heap}
/-! ### _law_shape_pairs -/
def spShape : Sp := fun vs H Q _ => ∃ (s c : Addr) (n : Int), vs = [.ref s, .int n] ∧ Src H s c ∧ 1 ≤ n ∧ n ≤ 7 ∧
  ∀ (p : Addr) (xs : List V) (H' : Hp), H p = none → H' p = some (.lst xs) → PairsAt n H' xs → (xs.length ≤ 100 ∧ ∀ N : Nat, n = (N : Int) → xs.length ≤ N * N + N) → Src H' s c → Kp s c H H' → Q (.ref p) H'
abbrev nShape : List Str := ["_law_source", "_law_count", "_law_every", "_law_road", "_law_rows", "_law_n", "_law_pair", "_law_k"]
theorem scShape : FnScope nShape ["_law_source", "_law_count"] (defScope sShapePairs) := ⟨rfl, rfl, rfl, by decide +kernel, rfl, by decide +kernel, by decide +kernel⟩
theorem ok_shape {f : Addr} {fd : FuncData} (F : Fun K "_law_shape_pairs" "_law_shape_pairs" sShapePairs f fd) (T : TxtB mg) (Gp : Def P w K mg base "_law_pick" ["_law_source", "_law_many"] 1 spPick) : FnOk P w K mg base CX0 2 f fd ["_law_source", "_law_count"] spShape := by
  obtain ⟨fp, fdp, Gp, mp, kp, bp⟩ := Gp.ex
  refine F.ok scShape (fun vs H Q E h => ?_) (fun cdv A outer s H vs Q E hr h => ?_)
  · obtain ⟨p, dx, n, rfl, _⟩ := h
    rfl
  · obtain ⟨sa, ca, n, rfl, S, n1, n2, k⟩ := h
    refine ⟨_, pss_cons (ps_setLc (i := 2) (own := [("_law_n", 5)]) (g := gName 5) rfl scShape.nd rfl rfl (sw_true rfl rfl rfl (by decide +kernel)) (pi_range1 (by rfl) T.range (pa_cons (pe_op op_mul (pv 1) (pv 1)) pa_nil))
        (blkOk_by (N := nShape) (sc := defScope sShapePairs) (by decide +kernel)) (fun _ _ _ _ _ => pg_name (i := 5) scShape.nd rfl (Or.inl rfl))
        (fun _ _ _ _ _ => pts_one (pt_cmpR op_lt (pe_callTy call_int1 (by rfl) T.int (by decide +kernel) (pa_cons (pe_op op_fdiv (pv 5) (pv 1)) pa_nil)) (pe_op op_mod (pe_callTy call_int1 (by rfl) T.int (by decide +kernel) (pa_cons (pv 5) pa_nil)) (pv 1)) (nomark _)))
        (fun _ _ _ _ _ => pe_tup (pa_cons (pe_callTy call_int1 (by rfl) T.int (by decide +kernel) (pa_cons (pe_op op_fdiv (pv 5) (pv 1)) pa_nil)) (pa_cons (pe_op op_mod (pe_callTy call_int1 (by rfl) T.int (by decide +kernel) (pa_cons (pv 5) pa_nil)) (pv 1)) pa_nil))))
      (pss_cons (ps_set (i := 3) scShape.nd rfl (Or.inl rfl) (pe_call Gp hr (by rfl) mp kp bp .nil pass0 (pa_cons (pv 0) (pa_cons pe_int pa_nil))))
      (pss_cons (ps_if (pt_cmpR op_eq (pv 3) pe_int (nomark _)) (pss_one (ps_ret (pe_lc (own := [("_law_pair", 6)]) (g := gName 6) rfl scShape.nd (pi_list (pv 2))
          (blkOk_by (N := nShape) (sc := defScope sShapePairs) (by decide +kernel)) (fun _ _ _ _ _ => pg_name (i := 6) scShape.nd rfl (Or.inl rfl))
          (fun _ _ _ _ _ => pts_one (by exact pt_cmpR op_eq (pe_call Gp hr (by rfl) mp kp bp .nil pass0 (pa_cons (pv 0) (pa_cons pe_int pa_nil))) pe_int (nomark _))) (fun _ _ _ _ _ => pv 6)))) pss_nil)
      (pss_cons (ps_if (pt_cmpR op_eq (pv 3) pe_int (nomark _)) (pss_one (ps_ret (pe_lc (own := [("_law_pair", 6)]) (g := gName 6) rfl scShape.nd (pi_list (pv 2))
          (blkOk_by (N := nShape) (sc := defScope sShapePairs) (by decide +kernel)) (fun _ _ _ _ _ => pg_name (i := 6) scShape.nd rfl (Or.inl rfl))
          (fun _ _ _ _ _ => pts_one (by exact pt_cmpR op_gt (pe_call Gp hr (by rfl) mp kp bp .nil pass0 (pa_cons (pv 0) (pa_cons pe_int pa_nil))) pe_int (nomark _))) (fun _ _ _ _ _ => pv 6)))) pss_nil)
      (pss_cons (ps_if (pt_cmpR op_eq (pv 3) pe_int (nomark _)) (pss_one (ps_ret (pv 2))) pss_nil)
      (pss_cons (ps_setLc (i := 4) (own := [("_law_k", 7)]) (g := gName 7) (tt := tYes) rfl scShape.nd rfl rfl (sw_true rfl rfl rfl (by decide +kernel)) (pi_range1 (by rfl) T.range (pa_cons (pe_op op_sub (pv 1) pe_int) pa_nil))
        (blkOk_by (N := nShape) (sc := defScope sShapePairs) (by decide +kernel)) (fun _ _ _ _ _ => pg_name (i := 7) scShape.nd rfl (Or.inl rfl)) (fun _ _ _ _ _ => pts_nil)
        (fun _ _ _ _ _ => pe_tup (pa_cons (pv 7) (pa_cons (pe_op op_add (pv 7) pe_int) pa_nil))))
      (Evl.pss_cut (ps_if (PW.pt (pw_and (pt_cmpR op_eq (pv 3) pe_int (nomark _)) (pw_and1 (pt_cmpR op_gt (pv 1) pe_int (nomark _))))) (pss_one (ps_ret (pe_op op_cat (pv 4) (pe_lst (pa_cons (pe_tup (pa_cons pe_int (pa_cons (pe_op op_sub (pv 1) pe_int) pa_nil))) pa_nil))))) pss_nil)
      (pss_cons (ps_if (pt_cmpR op_eq (pv 3) pe_int (nomark _)) (pss_one (ps_ret (pe_lc (own := [("_law_k", 7)]) (g := gName 7) (tt := tYes) rfl scShape.nd (pi_range2 (by rfl) T.range (pa_cons pe_int (pa_cons (pv 1) pa_nil)))
          (blkOk_by (N := nShape) (sc := defScope sShapePairs) (by decide +kernel)) (fun _ _ _ _ _ => pg_name (i := 7) scShape.nd rfl (Or.inl rfl)) (fun _ _ _ _ _ => pts_nil)
          (fun _ _ _ _ _ => pe_tup (pa_cons pe_int (pa_cons (pv 7) pa_nil)))))) pss_nil)
      (pss_one (ps_ret (pe_stepL (pv 4) (pe_op op_add pe_int (pe_callTy call_int1 (by rfl) T.int (by decide +kernel) (pa_cons (pe_cmpR op_eq (pv 3) pe_int (nomark _)) pa_nil))))))))))))), ?_⟩
    obtain ⟨q1, q2⟩ := sq_le n1 n2
    refine ⟨_, rfl, _, rfl, _, _, rfl, rfl, .inl ⟨by show -(2 ^ 64 : Int) < _; omega, by show _ < (2 ^ 64 : Int); omega⟩, _, rfl, by omega, by omega, fun D hD => ?_⟩
    refine lc_range (lo := 0) (n := (n * n).toNat) (fun i H' => ∃ xs, H' D = some (.lst xs) ∧ xs.length ≤ i ∧ PairsAt n H' xs ∧ Same H H') ⟨[], upd_same, Nat.le_refl _, (fun v hv => by cases hv), same_new hD⟩ ?_ ?_
    · rintro i H1 hi ⟨xs, hxD, hxl, hxp, sm⟩
      refine ⟨rfl, ?_⟩
      refine ⟨_, rfl, _, rfl, _, _, rfl, rfl, ⟨by omega, by omega⟩, .inl ⟨_, rfl, _, rfl, .inl ⟨_, rfl, _, rfl, _, _, rfl, rfl, by omega, _, _, rfl, rfl, _, rfl, ?_⟩⟩⟩
      refine ite2 (fun hlt => ?_) (fun hlt => ⟨xs, hxD, by omega, hxp, sm⟩)
      refine ⟨_, rfl, _, rfl, _, _, rfl, rfl, ⟨by omega, by omega⟩, .inl ⟨_, rfl, _, rfl, .inl ⟨_, rfl, _, rfl, _, _, rfl, rfl, by omega, (by show 2 ≤ sizeLine; decide), fun t ht => ?_⟩⟩⟩
      have hlt' := of_decide_eq_true hlt
      refine ⟨xs, by rw [upd_ne (ne_of_none hxD ht)]; exact hxD, Evl.sz_lt (by omega), xs ++ [.ref t], upd_same, by simp; omega, ?_, ?_⟩
      · have hDt : t ≠ D := fun e => by subst e; rw [ht] at hxD; cases hxD
        refine PairsAt.snoc (i := (0 + (i : Int)) / n) (j := (0 + (i : Int)) % n) ?_ (by rw [upd_ne hDt, upd_same]) (Int.ediv_nonneg (by omega) (by omega)) hlt' (Int.emod_lt_of_pos _ (by omega))
        refine fun v hv => ?_
        obtain ⟨u, i', j', a, b, r⟩ := hxp v hv
        refine ⟨u, i', j', a, ?_, r⟩
        rw [upd_ne (ne_of b hxD (by intro z; cases z)), upd_ne (ne_of_none b ht)]
        exact b
      · intro b o e
        have := sm b o e
        rw [upd_ne (ne_of_none e hD), upd_ne (ne_of_none this ht)]
        exact this
    rintro H1 ⟨xs, hxD, hxl, hxp, sm⟩
    have S1 := S.same sm
    have hxl' : xs.length ≤ 49 := by omega
    obtain ⟨nDs, nDc⟩ := S.ne hD
    -- road
    refine ⟨_, rfl, sa, ca, 7, rfl, S1, by decide, by decide, fun road H2 r0 r1 S2 kp2 => ?_⟩
    have hxD2 := kp2 _ _ hxD nDs nDc
    have hxp2 := hxp.kp S1 kp2
    have kp02 : Kp sa ca H H2 := (Kp.same sm).trans kp2
    -- a part of every, by draws
    refine ⟨_, rfl, rfl, _, rfl, ?_⟩
    refine ite2 (fun h0 => ?_) (fun h0 => ?_)
    · refine ⟨_, rfl, D, rfl, ⟨xs, SqL.of hxD2⟩, fun E hE => ?_⟩
      obtain ⟨nEs, nEc⟩ := S2.ne hE
      refine lc_list (xs := xs) (fun i H' => ∃ ys, H' E = some (.lst ys) ∧ ys.length ≤ i ∧ (∀ v ∈ ys, v ∈ xs) ∧ H' D = some (.lst xs) ∧ PairsAt n H' xs ∧ Src H' sa ca ∧ Kp sa ca H2 H') ⟨[], upd_same, Nat.le_refl _, (fun v hv => by cases hv), by rw [upd_ne (ne_of_none hxD2 hE)]; exact hxD2, hxp2.same (same_new hE), S2.new hE, (Kp.refl H2).off hE⟩ (fun i H' _ ⟨ys, _, _, _, h, _⟩ => SqL.of h) ?_ ?_
      · rintro i x H3 hi ⟨ys, hyE, hyl, hyx, hxD3, hxp3, S3, kp3⟩
        have hil := (List.getElem?_eq_some_iff.mp hi).1
        refine ⟨rfl, ?_⟩
        refine ⟨_, rfl, sa, ca, 3, rfl, S3, by decide, by decide, fun kk H4 k0 k1 S4 kp4 => ⟨rfl, _, rfl, ?_⟩⟩
        have hyE4 := kp4 _ _ hyE nEs nEc
        have hxD4 := kp4 _ _ hxD3 nDs nDc
        have hxp4 := hxp3.kp S3 kp4
        refine ite2 (fun _ => ?_) (fun _ => ⟨ys, hyE4, by omega, hyx, hxD4, hxp4, S4, kp3.trans kp4⟩)
        have hDE : D ≠ E := ne_of_none hxD2 hE
        refine ⟨_, rfl, ys, hyE4, Evl.sz_lt (by omega), ys ++ [x], upd_same, by simp; omega, ?_, by rw [upd_ne hDE]; exact hxD4, ?_, S4.upd nEs nEc, (kp3.trans kp4).off hE⟩
        · intro v hv
          rcases List.mem_append.mp hv with q | q
          · exact hyx v q
          · rw [List.mem_singleton] at q
            subst q
            exact List.mem_of_getElem? hi
        · refine fun v hv => ?_
          obtain ⟨u, i', j', a, b, r⟩ := hxp4 v hv
          refine ⟨u, i', j', a, ?_, r⟩
          rw [upd_ne (ne_of b hyE4 (by intro z; cases z))]
          exact b
      · rintro H3 ⟨ys, hyE, hyl, hyx, hxD3, hxp3, S3, kp3⟩
        exact k E ys H3 (kp02.free S2 hE) hyE (hxp3.sub hyx) ⟨by omega, fun N e => by subst e; omega⟩ S3 (kp02.trans kp3)
    refine ⟨_, rfl, rfl, _, rfl, ?_⟩
    refine ite2 (fun h1 => ?_) (fun h1 => ?_)
    · refine ⟨_, rfl, D, rfl, ⟨xs, SqL.of hxD2⟩, fun E hE => ?_⟩
      obtain ⟨nEs, nEc⟩ := S2.ne hE
      refine lc_list (xs := xs) (fun i H' => ∃ ys, H' E = some (.lst ys) ∧ ys.length ≤ i ∧ (∀ v ∈ ys, v ∈ xs) ∧ H' D = some (.lst xs) ∧ PairsAt n H' xs ∧ Src H' sa ca ∧ Kp sa ca H2 H') ⟨[], upd_same, Nat.le_refl _, (fun v hv => by cases hv), by rw [upd_ne (ne_of_none hxD2 hE)]; exact hxD2, hxp2.same (same_new hE), S2.new hE, (Kp.refl H2).off hE⟩ (fun i H' _ ⟨ys, _, _, _, h, _⟩ => SqL.of h) ?_ ?_
      · rintro i x H3 hi ⟨ys, hyE, hyl, hyx, hxD3, hxp3, S3, kp3⟩
        have hil := (List.getElem?_eq_some_iff.mp hi).1
        refine ⟨rfl, ?_⟩
        refine ⟨_, rfl, sa, ca, 3, rfl, S3, by decide, by decide, fun kk H4 k0 k1 S4 kp4 => ⟨_, _, rfl, rfl, _, rfl, ?_⟩⟩
        have hyE4 := kp4 _ _ hyE nEs nEc
        have hxD4 := kp4 _ _ hxD3 nDs nDc
        have hxp4 := hxp3.kp S3 kp4
        refine ite2 (fun _ => ?_) (fun _ => ⟨ys, hyE4, by omega, hyx, hxD4, hxp4, S4, kp3.trans kp4⟩)
        have hDE : D ≠ E := ne_of_none hxD2 hE
        refine ⟨_, rfl, ys, hyE4, Evl.sz_lt (by omega), ys ++ [x], upd_same, by simp; omega, ?_, by rw [upd_ne hDE]; exact hxD4, ?_, S4.upd nEs nEc, (kp3.trans kp4).off hE⟩
        · intro v hv
          rcases List.mem_append.mp hv with q | q
          · exact hyx v q
          · rw [List.mem_singleton] at q
            subst q
            exact List.mem_of_getElem? hi
        · refine fun v hv => ?_
          obtain ⟨u, i', j', a, b, r⟩ := hxp4 v hv
          refine ⟨u, i', j', a, ?_, r⟩
          rw [upd_ne (ne_of b hyE4 (by intro z; cases z))]
          exact b
      · rintro H3 ⟨ys, hyE, hyl, hyx, hxD3, hxp3, S3, kp3⟩
        exact k E ys H3 (kp02.free S2 hE) hyE (hxp3.sub hyx) ⟨by omega, fun N e => by subst e; omega⟩ S3 (kp02.trans kp3)
    refine ⟨_, rfl, rfl, _, rfl, ?_⟩
    refine ite2 (fun h2 => ?_) (fun h2 => ?_)
    · exact ⟨_, rfl, k D xs H2 hD hxD2 hxp2 ⟨by omega, fun N e => by subst e; omega⟩ S2 kp02⟩
    -- rows
    refine ⟨_, rfl, _, _, rfl, rfl, _, rfl, by omega, by omega, fun R hR => ?_⟩
    refine lc_range (lo := 0) (n := (n - 1).toNat) (fun i H' => ∃ ys, H' R = some (.lst ys) ∧ ys.length ≤ i ∧ PairsAt n H' ys ∧ Same H2 H') ⟨[], upd_same, Nat.le_refl _, (fun v hv => by cases hv), same_new hR⟩ ?_ ?_
    · rintro i H3 hi ⟨ys, hyR, hyl, hyp, sm3⟩
      refine ⟨rfl, tyes ?_⟩
      refine ⟨_, rfl, _, rfl, _, _, rfl, rfl, (by show 2 ≤ sizeLine; decide), fun t ht => ?_⟩
      refine ⟨ys, by rw [upd_ne (ne_of_none hyR ht)]; exact hyR, Evl.sz_lt (by omega), ys ++ [.ref t], upd_same, by simp; omega, ?_, ?_⟩
      · have hDt : t ≠ R := fun e => by subst e; rw [ht] at hyR; cases hyR
        refine PairsAt.snoc (i := 0 + (i : Int)) (j := 0 + (i : Int) + 1) ?_ (by rw [upd_ne hDt, upd_same]) (by omega) (by omega) (by omega)
        refine fun v hv => ?_
        obtain ⟨u, i', j', a, b, r⟩ := hyp v hv
        refine ⟨u, i', j', a, ?_, r⟩
        rw [upd_ne (ne_of b hyR (by intro z; cases z)), upd_ne (ne_of_none b ht)]
        exact b
      · intro b o e
        have := sm3 b o e
        rw [upd_ne (ne_of_none e hR), upd_ne (ne_of_none this ht)]
        exact this
    rintro H3 ⟨ys, hyR, hyl, hyp, sm3⟩
    have hR0 : H R = none := kp02.free S2 hR
    have S3 := S2.same sm3
    have kp03 : Kp sa ca H H3 := kp02.trans (Kp.same sm3)
    refine ⟨fun σ H' => σ = [some (.ref sa), some (.int n), some (.ref D), some (.int road), some (.ref R), none, none, none] ∧ H' = H3, ?_, ?_⟩
    · refine ⟨_, rfl, rfl, _, rfl, ?_⟩
      refine ite2 (fun h3 => ?_) (fun h3 => iteF ⟨rfl, rfl⟩)
      refine ⟨_, rfl, _, _, rfl, rfl, _, rfl, ?_⟩
      refine ite2 (fun h4 => ?_) (fun h4 => ⟨rfl, rfl⟩)
      have hn2 := of_decide_eq_true h4
      refine ⟨_, rfl, _, rfl, _, _, rfl, rfl, (by show 2 ≤ sizeLine; decide), fun t ht => ?_⟩
      refine ⟨(by show 1 ≤ sizeLine; decide), fun l hl => ?_⟩
      have hlt : l ≠ t := fun e => by subst e; rw [upd_same] at hl; cases hl
      have hRt : R ≠ t := ne_of_none hyR ht
      have hl3 : H3 l = none := by rw [upd_ne hlt] at hl; exact hl
      have hRl : R ≠ l := ne_of_none hyR hl3
      refine ⟨R, l, _, _, rfl, rfl, (by rw [upd_ne hRl, upd_ne hRt]; exact hyR), upd_same, ?_, fun p hp => ?_⟩
      · show ys.length + 1 ≤ sizeLine
        exact Evl.sz_of (by omega)
      · have hpl : p ≠ l := fun e => by subst e; rw [upd_same] at hp; cases hp
        rw [upd_ne hpl] at hp
        have hpt : p ≠ t := fun e => by subst e; rw [upd_same] at hp; cases hp
        rw [upd_ne hpt] at hp
        have sm4 : Same H3 (upd (upd (upd H3 t (.tup [.int 0, .int (n - 1)])) l (.lst [.ref t])) p (.lst (ys ++ [.ref t]))) := fun b o e => by
          rw [upd_ne (ne_of_none e hp), upd_ne (ne_of_none e hl3), upd_ne (ne_of_none e ht)]
          exact e
        refine k p _ _ (kp03.free S3 hp) upd_same ?_ ⟨by simp; omega, fun N e => by subst e; simp; omega⟩ (S3.same sm4) (kp03.trans (Kp.same sm4))
        refine PairsAt.snoc (i := 0) (j := n - 1) (hyp.same sm4) (by rw [upd_ne hpt.symm, upd_ne hlt.symm, upd_same]) (by omega) (by omega) (by omega)
    rintro σ H' ⟨rfl, rfl⟩
    refine ⟨_, rfl, rfl, _, rfl, ?_⟩
    refine ite2 (fun h3 => ?_) (fun h3 => ?_)
    · refine ⟨_, rfl, _, _, rfl, by omega, fun E hE => ?_⟩
      refine lc_range (lo := 1) (n := (n - 1).toNat) (fun i H3 => ∃ zs, H3 E = some (.lst zs) ∧ zs.length ≤ i ∧ PairsAt n H3 zs ∧ Same H' H3) ⟨[], upd_same, Nat.le_refl _, (fun v hv => by cases hv), same_new hE⟩ ?_ ?_
      · rintro i H4 hi ⟨zs, hzE, hzl, hzp, sm4⟩
        refine ⟨rfl, tyes ?_⟩
        refine ⟨_, rfl, (by show 2 ≤ sizeLine; decide), fun t ht => ?_⟩
        refine ⟨zs, by rw [upd_ne (ne_of_none hzE ht)]; exact hzE, Evl.sz_lt (by omega), zs ++ [.ref t], upd_same, by simp; omega, ?_, ?_⟩
        · have hDt : t ≠ E := fun e => by subst e; rw [ht] at hzE; cases hzE
          refine PairsAt.snoc (i := 0) (j := 1 + (i : Int)) ?_ (by rw [upd_ne hDt, upd_same]) (by omega) (by omega) (by omega)
          refine fun v hv => ?_
          obtain ⟨u, i', j', a, b, r⟩ := hzp v hv
          refine ⟨u, i', j', a, ?_, r⟩
          rw [upd_ne (ne_of b hzE (by intro z; cases z)), upd_ne (ne_of_none b ht)]
          exact b
        · intro b o e
          have := sm4 b o e
          rw [upd_ne (ne_of_none e hE), upd_ne (ne_of_none this ht)]
          exact this
      · rintro H4 ⟨zs, hzE, hzl, hzp, sm4⟩
        exact k E zs H4 (kp03.free S3 hE) hzE hzp ⟨by omega, fun N e => by subst e; omega⟩ (S3.same sm4) (kp03.trans (Kp.same sm4))
    · refine ⟨_, rfl, _, rfl, rfl, .inr ⟨_, rfl, _, _, rfl, rfl, _, rfl, R, ys, rfl, ?_, rfl, SqL.of hyR, fun p hp => ?_⟩⟩
      · show (1 + (if decide (V.int road = V.int 5) = true then (1 : Int) else 0)) ≠ 0
        split <;> decide
      · have sm4 := same_new (o := .lst (stepV ys ((some (1 + (if decide (V.int road = V.int 5) = true then (1 : Int) else 0))).getD 1))) hp
        refine k p _ _ (kp03.free S3 hp) upd_same ((hyp.same sm4).sub fun v hv => stepV_mem hv) ?_ (S3.same sm4) (kp03.trans (Kp.same sm4))
        exact ⟨Nat.le_trans (stepV_len _ _) (by omega), fun N e => Nat.le_trans (stepV_len _ _) (by subst e; omega)⟩
end
end Nm
set_option autoImplicit true
set_option maxRecDepth 100000
set_option maxHeartbeats 4000000
namespace Nm
open PySem L2
theorem nx {H : Hp} {p q : Addr} {o : HO} (h : upd H p o q = none) : q ≠ p ∧ H q = none := by
  by_cases e : q = p
  · subst e; rw [upd_same] at h; cases h
  · rw [upd_ne e] at h; exact ⟨e, h⟩
def strOf : V → Str
  | .str x => x
  | _ => ""
def intOf : V → Int
  | .int x => x
  | _ => 0
theorem perm_str {ys : List V} {xs : List Str} (h : ys.Perm (xs.map V.str)) : ∃ zs : List Str, ys = zs.map V.str ∧ zs.Perm xs := by
  refine ⟨ys.map strOf, ?_, ?_⟩
  · rw [List.map_map]
    conv => lhs; rw [← List.map_id ys]
    refine List.map_congr_left fun v hv => ?_
    obtain ⟨x, _, rfl⟩ := List.mem_map.mp (h.subset hv)
    rfl
  · have := h.map strOf
    rw [List.map_map] at this
    have e : xs.map (strOf ∘ V.str) = xs := by
      conv => rhs; rw [← List.map_id xs]
      rfl
    rw [e] at this
    exact this
theorem perm_int {ys : List V} {xs : List Int} (h : ys.Perm (xs.map V.int)) : ∃ zs : List Int, ys = zs.map V.int ∧ zs.Perm xs := by
  refine ⟨ys.map intOf, ?_, ?_⟩
  · rw [List.map_map]
    conv => lhs; rw [← List.map_id ys]
    refine List.map_congr_left fun v hv => ?_
    obtain ⟨x, _, rfl⟩ := List.mem_map.mp (h.subset hv)
    rfl
  · have := h.map intOf
    rw [List.map_map] at this
    have e : xs.map (intOf ∘ V.int) = xs := by
      conv => rhs; rw [← List.map_id xs]
      rfl
    rw [e] at this
    exact this
theorem cut_upto (xs : List V) (n : Nat) : cutV xs none (some (n : Int)) = xs.take n := by
  unfold cutV
  have e1 : HT.sIx xs.length 0 none = 0 := rfl
  have e2 : HT.sIx xs.length xs.length (some (n : Int)) = min n xs.length := by
    unfold HT.sIx
    simp
    try omega
  rw [e1, e2]
  simp
section
variable {κ : Type} [DecidableEq κ]
theorem keys_put (kvs : List (κ × V)) (k : κ) (v : V) : (putK kvs k v).map (·.1) = if k ∈ kvs.map (·.1) then kvs.map (·.1) else kvs.map (·.1) ++ [k] := by
  unfold putK
  by_cases h : (kvs.any fun kv => decide (kv.1 = k)) = true
  · have hm : k ∈ kvs.map (·.1) := by
      obtain ⟨kv, h1, h2⟩ := List.any_eq_true.mp h
      exact List.mem_map.mpr ⟨kv, h1, of_decide_eq_true h2⟩
    rw [if_pos h, if_pos hm, List.map_map]
    refine List.map_congr_left fun kv _ => ?_
    show (if kv.1 = k then (kv.1, v) else kv).1 = kv.1
    split <;> rfl
  · have hm : ¬ k ∈ kvs.map (·.1) := fun hm => by
      obtain ⟨kv, h1, h2⟩ := List.mem_map.mp hm
      exact h (List.any_eq_true.mpr ⟨kv, h1, decide_eq_true h2⟩)
    rw [if_neg h, if_neg hm, List.map_append]
    rfl
theorem val_of_mem : ∀ {kvs : List (κ × V)} {k : κ} {v : V}, (kvs.map (·.1)).Nodup → (k, v) ∈ kvs → valV kvs k = some v
  | kv :: r, k, v, nd, h => by
    rw [List.map_cons, List.nodup_cons] at nd
    rcases List.mem_cons.mp h with e | e
    · subst e
      exact valV_pos rfl
    · have hne : ¬ kv.1 = k := fun z => nd.1 (z ▸ List.mem_map.mpr ⟨(k, v), e, rfl⟩)
      rw [valV_neg hne]
      exact val_of_mem nd.2 e
theorem nodup_put {kvs : List (κ × V)} (k : κ) (v : V) (h : (kvs.map (·.1)).Nodup) : ((putK kvs k v).map (·.1)).Nodup := by
  rw [keys_put]
  split
  · exact h
  · rename_i hn
    rw [List.nodup_append]
    refine ⟨h, by simp, fun a ha b hb => ?_⟩
    rw [List.mem_singleton] at hb
    subst hb
    exact fun e => hn (e ▸ ha)
theorem mem_put {kvs : List (κ × V)} {k : κ} {v : V} {p : κ × V} (h : p ∈ putK kvs k v) : p = (k, v) ∨ (p ∈ kvs ∧ p.1 ≠ k) := by
  unfold putK at h
  by_cases h0 : (kvs.any fun kv => decide (kv.1 = k)) = true
  · rw [if_pos h0] at h
    obtain ⟨kv, h1, h2⟩ := List.mem_map.mp h
    by_cases e : kv.1 = k
    · rw [if_pos e] at h2
      left
      rw [← h2, e]
    · rw [if_neg e] at h2
      right
      subst h2
      exact ⟨h1, e⟩
  · rw [if_neg h0] at h
    rcases List.mem_append.mp h with q | q
    · right
      refine ⟨q, fun e => h0 (List.any_eq_true.mpr ⟨p, q, decide_eq_true e⟩)⟩
    · left
      exact List.mem_singleton.mp q
end
end Nm
set_option autoImplicit true
set_option maxRecDepth 100000
set_option maxHeartbeats 4000000
namespace Nm
open PySem L2
/-! ### words, ties, worlds -/
def letB (z : Str) : Str := Txt.rstripChars z "0123456789"
def isWordB (z : Str) : Bool := decide (z.length ≤ 100) && decide (1 ≤ (letB z).length) && decide ((letB z).length ≤ 8) && decide (z.length ≤ (letB z).length + 4) && (letB z).cps.toList.all (fun c => decide (c ∈ ("abcdefghijklmnopqrstuvwxyz" : Str).cps.toList))
def TieK (n : Nat) (k : List Key) : Prop := ∃ (i j : Nat) (kd : Str), k = [Sum.inl (i : Int), Sum.inl (j : Int), Sum.inr kd] ∧ i < j ∧ j < n ∧ isWordB kd = true
structure Ties (n m : Nat) (kvs : List (List Key × V)) : Prop where
  key : ∀ kv ∈ kvs, TieK n kv.1
  val : ∀ kv ∈ kvs, ∃ x : Nat, kv.2 = V.int (x : Int) ∧ 1 ≤ x ∧ x ≤ m
  nd : (kvs.map (·.1)).Nodup
theorem Ties.nil (n m : Nat) : Ties n m [] := ⟨fun _ h => (List.not_mem_nil h).elim, fun _ h => (List.not_mem_nil h).elim, List.nodup_nil⟩
theorem Ties.put {n m : Nat} {kvs : List (List Key × V)} (h : Ties n m kvs) {k : List Key} {x : Nat} (hk : TieK n k) (h1 : 1 ≤ x) (h2 : x ≤ m) : Ties n m (putK kvs k (V.int (x : Int))) := by
  refine ⟨fun kv hm => ?_, fun kv hm => ?_, nodup_put _ _ h.nd⟩
  · rcases mem_put hm with e | e
    · rw [e]; exact hk
    · exact h.key kv e.1
  · rcases mem_put hm with e | e
    · rw [e]; exact ⟨x, rfl, h1, h2⟩
    · exact h.val kv e.1
/-- all but the source and one thing more stays -/
def Kp3 (s c t : Addr) (H H' : Hp) : Prop := ∀ b o, H b = some o → b ≠ s → b ≠ c → b ≠ t → H' b = some o
theorem Kp3.refl {s c t : Addr} (H : Hp) : Kp3 s c t H H := fun _ _ h _ _ _ => h
theorem Kp3.kp {s c t : Addr} {H H1 H2 : Hp} (a : Kp3 s c t H H1) (b : Kp s c H1 H2) : Kp3 s c t H H2 := fun x o h h1 h2 h3 => b x o (a x o h h1 h2 h3) h1 h2
theorem Kp3.off {s c t : Addr} {H H1 : Hp} {p : Addr} {o : HO} (a : Kp3 s c t H H1) (h : H1 p = none) : Kp3 s c t H (upd H1 p o) := fun x u e h1 h2 h3 => by
  have := a x u e h1 h2 h3
  rw [upd_ne (ne_of_none this h)]
  exact this
theorem Kp3.put {s c t : Addr} {H H1 : Hp} {o : HO} (a : Kp3 s c t H H1) : Kp3 s c t H (upd H1 t o) := fun x u e h1 h2 h3 => by
  rw [upd_ne h3]
  exact a x u e h1 h2 h3
theorem PairsAt.put {n : Int} {H : Hp} {xs : List V} {t : Addr} {o u : HO} (h : PairsAt n H xs) (e : H t = some u) (hu : ∀ ys, u ≠ .tup ys) : PairsAt n (upd H t o) xs := fun v hv => by
  obtain ⟨q, i, j, a, b, r⟩ := h v hv
  refine ⟨q, i, j, a, ?_, r⟩
  rw [upd_ne (ne_of b e (fun z => hu _ z.symm))]
  exact b
/-- a list of one to three words, new since H -/
def WordL (H0 H : Hp) (v : V) : Prop := ∃ e es, v = V.ref e ∧ H0 e = none ∧ H e = some (.lst (List.map V.str es)) ∧ 1 ≤ es.length ∧ es.length ≤ 3 ∧ ∀ x ∈ es, isWordB x = true
theorem WordL.kp {H0 H H' : Hp} {s c : Addr} {v : V} (S : Src H0 s c) (h : WordL H0 H v) (k : Kp s c H H') : WordL H0 H' v := by
  obtain ⟨e, es, a, b, d, r⟩ := h
  obtain ⟨n1, n2⟩ := S.ne b
  exact ⟨e, es, a, b, k _ _ d n1 n2, r⟩
theorem WordL.same {H0 H H' : Hp} {v : V} (h : WordL H0 H v) (k : Same H H') : WordL H0 H' v := by
  obtain ⟨e, es, a, b, d, r⟩ := h
  exact ⟨e, es, a, b, k _ _ d, r⟩
theorem WordL.mk {H0 H : Hp} {l : Addr} (es : List Str) (h0 : Same H0 H) (h : H l = none) (h1 : (decide (1 ≤ es.length) && decide (es.length ≤ 3) && es.all isWordB) = true) : WordL H0 (upd H l (.lst (es.map V.str))) (.ref l) := by
  simp only [Bool.and_eq_true, decide_eq_true_eq, List.all_eq_true] at h1
  exact ⟨l, es, rfl, h0.free h, upd_same, h1.1.1, h1.1.2, h1.2⟩
def seven : List Str := ["a", "b", "c", "d", "e", "p0", "north"]
theorem seven_nd : seven.Nodup := by decide +kernel
theorem seven_w : ∀ x ∈ seven, isWordB x = true := by decide +kernel
def worldD (a b t : Addr) : List (Key × V) := [(Sum.inr "names", V.ref a), (Sum.inr "colours", V.ref b), (Sum.inr "ties", V.ref t)]
structure WorldOk (H : Hp) (s c wd a b t : Addr) (nm cl : List Str) (kvs : List (List Key × V)) : Prop where
  d : H wd = some (.dK (worldD a b t))
  hn : H a = some (.lst (nm.map V.str))
  hc : H b = some (.lst (cl.map V.str))
  ht : H t = some (.dT kvs)
  ds : wd ≠ s ∧ wd ≠ c
  as : a ≠ s ∧ a ≠ c
  bs : b ≠ s ∧ b ≠ c
  ts : t ≠ s ∧ t ≠ c
  nn : nm.Nodup
  nw : ∀ x ∈ nm, isWordB x = true
  cw : ∀ x ∈ cl, isWordB x = true
  cn : cl.length = nm.length
  n1 : 1 ≤ nm.length
theorem WorldOk.kp {H H' : Hp} {s c wd a b t : Addr} {nm cl : List Str} {kvs : List (List Key × V)} (W : WorldOk H s c wd a b t nm cl kvs) (e : Kp s c H H') : WorldOk H' s c wd a b t nm cl kvs :=
  ⟨e _ _ W.d W.ds.1 W.ds.2, e _ _ W.hn W.as.1 W.as.2, e _ _ W.hc W.bs.1 W.bs.2, e _ _ W.ht W.ts.1 W.ts.2, W.ds, W.as, W.bs, W.ts, W.nn, W.nw, W.cw, W.cn, W.n1⟩
theorem WorldOk.same {H H' : Hp} {s c wd a b t : Addr} {nm cl : List Str} {kvs : List (List Key × V)} (W : WorldOk H s c wd a b t nm cl kvs) (e : Same H H') : WorldOk H' s c wd a b t nm cl kvs := W.kp (Kp.same e)
theorem w1 : ¬ (("names" : Str) = "colours") := by decide +kernel
theorem w2 : ¬ (("names" : Str) = "ties") := by decide +kernel
theorem w3 : ¬ (("colours" : Str) = "ties") := by decide +kernel
section
variable {a b t : Addr}
theorem wd_names : valV (worldD a b t) (Sum.inr "names" : Key) = some (.ref a) := valV_pos rfl
theorem wd_colours : valV (worldD a b t) (Sum.inr "colours" : Key) = some (.ref b) := by
  unfold worldD
  rw [valV_neg (inr_ne w1)]
  exact valV_pos rfl
theorem wd_ties : valV (worldD a b t) (Sum.inr "ties" : Key) = some (.ref t) := by
  unfold worldD
  rw [valV_neg (inr_ne w2), valV_neg (inr_ne w3)]
  exact valV_pos rfl
theorem merge_wd : mergeK [] (worldD a b t) = worldD a b t := by
  unfold mergeK worldD
  simp [putK, w1, w2, w3]
theorem dg_names {H : Hp} {wd : Addr} (h : H wd = some (.dK (worldD a b t))) : DGet H wd (V.str "names") (some (.ref a)) := by rw [← wd_names (a := a) (b := b) (t := t)]; exact DGet.k (k := Sum.inr "names") h
theorem dg_colours {H : Hp} {wd : Addr} (h : H wd = some (.dK (worldD a b t))) : DGet H wd (V.str "colours") (some (.ref b)) := by rw [← wd_colours (a := a) (b := b) (t := t)]; exact DGet.k (k := Sum.inr "colours") h
theorem dg_ties {H : Hp} {wd : Addr} (h : H wd = some (.dK (worldD a b t))) : DGet H wd (V.str "ties") (some (.ref t)) := by rw [← wd_ties (a := a) (b := b) (t := t)]; exact DGet.k (k := Sum.inr "ties") h
end
section
variable {P : Program} {w : World} {K : PySem.W.Frag} {mg : Str → Option Value} {base : Heap}
/-! ### _law_draw_world -/
def spDraw : Sp := fun vs H Q _ => ∃ (s c : Addr) (m : Int), vs = [.ref s, .int m] ∧ Src H s c ∧ 1 ≤ m ∧ m ≤ 7 ∧
  ∀ (wd a b t : Addr) (nm cl : List Str) (kvs : List (List Key × V)) (H' : Hp), H wd = none → H a = none → H b = none → H t = none → WorldOk H' s c wd a b t nm cl kvs → (nm.length : Int) ≤ m → Ties nm.length 2 kvs → (kvs.length ≤ 300 ∧ kvs.length ≤ 3 * (nm.length * nm.length + nm.length)) → Src H' s c → Kp s c H H' → Q (.ref wd) H'
abbrev nDraw : List Str := ["_law_source", "_law_most", "_law_count", "_law_names", "_law_every", "_law_kinds", "_law_ties", "_law_wide", "_law_kind", "_law_one", "_law_other", "_law_name"]
theorem scDraw : FnScope nDraw ["_law_source", "_law_most"] (defScope sDrawWorld) := ⟨rfl, rfl, rfl, by decide +kernel, rfl, by decide +kernel, by decide +kernel⟩
theorem ok_draw {f : Addr} {fd : FuncData} (F : Fun K "_law_draw_world" "_law_draw_world" sDrawWorld f fd) (T : TxtB mg) (Gp : Def P w K mg base "_law_pick" ["_law_source", "_law_many"] 1 spPick)
    (Ga : Def P w K mg base "_law_any_order" ["_law_source", "_law_items"] 2 (spAny K)) (Gs : Def P w K mg base "_law_shape_pairs" ["_law_source", "_law_count"] 2 spShape) (Gc : Def P w K mg base "_law_choice_of" ["_law_source", "_law_items"] 2 (spChoice K)) :
    FnOk P w K mg base CX0 3 f fd ["_law_source", "_law_most"] spDraw := by
  obtain ⟨fp, fdp, Gp, mp, kp, bp⟩ := Gp.ex
  obtain ⟨fa, fda, Ga, ma, ka, ba⟩ := Ga.ex
  obtain ⟨fs, fds, Gs, ms, ks, bs⟩ := Gs.ex
  obtain ⟨fc, fdc, Gc, mc, kc, bc⟩ := Gc.ex
  refine F.ok scDraw (fun vs H Q E h => ?_) (fun cdv A outer s H vs Q E hr h => ?_)
  · obtain ⟨p, dx, n, rfl, _⟩ := h
    rfl
  · obtain ⟨sa, ca, m, rfl, S, n1, n2, k⟩ := h
    have hu := hu_of hr
    have hr1 := hr.mono (by decide : 1 ≤ 2)
    refine ⟨_, Evl.pss_cut (ps_set (i := 2) scDraw.nd rfl (Or.inl rfl) (pe_op op_add pe_int (pe_call Gp hr1 (by rfl) mp kp bp .nil pass0 (pa_cons (pv 0) (pa_cons (pv 1) pa_nil)))))
      (Evl.pss_cut (ps_set (i := 3) scDraw.nd rfl (Or.inl rfl) (pe_slice sl_list (pe_call Ga hr (by rfl) ma ka ba .nil pass0 (pa_cons (pv 0) (pa_cons (pe_lst (pa_cons pe_str (pa_cons pe_str (pa_cons pe_str (pa_cons pe_str (pa_cons pe_str (pa_cons pe_str (pa_cons pe_str pa_nil)))))))) pa_nil))) po_none (po_some (pv 2))))
      (Evl.pss_cut (ps_set (i := 4) scDraw.nd rfl (Or.inr rfl) (pe_ix ix_list (pe_lst (pa_cons (pe_lst (pa_cons pe_str pa_nil)) (pa_cons (pe_lst (pa_cons pe_str pa_nil)) (pa_cons (pe_lst (pa_cons pe_str (pa_cons pe_str pa_nil))) (pa_cons (pe_lst (pa_cons pe_str (pa_cons pe_str (pa_cons pe_str pa_nil)))) (pa_cons (pe_lst (pa_cons pe_str (pa_cons pe_str pa_nil))) pa_nil)))))) (pe_call Gp hr1 (by rfl) mp kp bp .nil pass0 (pa_cons (pv 0) (pa_cons pe_int pa_nil))) (fun _ _ => rfl)))
      (Evl.pss_cut (ps_set (i := 5) scDraw.nd rfl (Or.inl rfl) (pe_ix ix_list (pe_lst (pa_cons (pe_lst (pa_cons pe_str pa_nil)) (pa_cons (pe_lst (pa_cons pe_str pa_nil)) (pa_cons (pe_lst (pa_cons pe_str (pa_cons pe_str pa_nil))) (pa_cons (pe_lst (pa_cons pe_str (pa_cons pe_str pa_nil))) pa_nil))))) (pe_call Gp hr1 (by rfl) mp kp bp .nil pass0 (pa_cons (pv 0) (pa_cons pe_int pa_nil))) (fun _ _ => rfl)))
      (Evl.pss_cut (ps_par (i := 6) (j := 7) (by rfl) scDraw.nd rfl rfl (by decide) rfl rfl (pa_cons pe_dnewT (pa_cons (pe_call Gp hr1 (by rfl) mp kp bp .nil pass0 (pa_cons (pv 0) (pa_cons pe_int pa_nil))) pa_nil)) (by rfl))
      (Evl.pss_cut (ps_for PassesOwn.never rfl (pi_list (pv 5)) (pg_name (i := 8) scDraw.nd rfl (Or.inl rfl))
        (pss_one (ps_for PassesOwn.never rfl (pi_list (pe_call Gs hr (by rfl) ms ks bs .nil pass0 (pa_cons (pv 0) (pa_cons (pv 2) pa_nil)))) (pg_tup rfl (pgs_cons (pg_name (i := 9) scDraw.nd rfl (.inl rfl)) (pgs_cons (pg_name (i := 10) scDraw.nd rfl (.inl rfl)) pgs_nil)))
          (pss_one (ps_dput hu (pv 6) (pe_tup (pa_cons (pv 9) (pa_cons (pv 10) (pa_cons (pv 8) pa_nil)))) (pe_ix ix_list (pe_lst (pa_cons pe_int (pa_cons pe_int (pa_cons (pe_op op_add pe_int (pe_call Gp hr1 (by rfl) mp kp bp .nil pass0 (pa_cons (pv 0) (pa_cons pe_int pa_nil)))) pa_nil)))) (pv 7) (fun _ _ => rfl)) rfl)))))
      (pss_one (ps_ret (pe_disp (pps_cons pe_str (pv 3) (pps_cons pe_str (pe_lc (own := [("_law_name", 11)]) (g := gName 11) (tt := tYes) (te := tCall (spChoice K) [] E0 (tCons (tVar 0) (tCons (tVar 4) tNil))) rfl scDraw.nd (pi_list (pv 3))
          (blkOk_by (N := nDraw) (sc := defScope sDrawWorld) (by decide +kernel)) (fun _ _ _ _ _ => pg_name (i := 11) scDraw.nd rfl (Or.inl rfl)) (fun _ _ _ _ _ => pts_nil)
          (fun _ _ _ _ _ => by exact pe_call Gc hr (by rfl) mc kc bc .nil pass0 (pa_cons (pv 0) (pa_cons (pv 4) pa_nil))))
          (pps_cons pe_str (pv 6) pps_nil))) (by rfl) (by rfl) (fun z => by cases z) (by decide))))))))), ?_⟩
    -- count
    refine ⟨fun σ H1 => ∃ n : Nat, σ = [some (.ref sa), some (.int m), some (.int (n : Int)), none, none, none, none, none, none, none, none, none] ∧ 1 ≤ n ∧ (n : Int) ≤ m ∧ Src H1 sa ca ∧ Kp sa ca H H1, ?_, ?_⟩
    · refine ⟨_, rfl, _, rfl, sa, ca, m, rfl, S, n1, by omega, fun kk H1 k0 k1 S1 kp1 => ⟨_, _, rfl, rfl, ?_⟩⟩
      refine ⟨(1 + kk).toNat, ?_, by omega, by omega, S1, kp1⟩
      rw [Int.toNat_of_nonneg (by omega)]
      rfl
    rintro σ H1 ⟨n, rfl, hn1, hn7, S1, kp1⟩
    -- names
    refine ⟨fun σ H3 => ∃ q nm, σ = [some (.ref sa), some (.int m), some (.int (n : Int)), some (.ref q), none, none, none, none, none, none, none, none] ∧ H q = none ∧ H3 q = some (.lst (List.map V.str nm)) ∧ nm.length = n ∧ nm.Nodup ∧ (∀ x ∈ nm, isWordB x = true) ∧ Src H3 sa ca ∧ Kp sa ca H H3, ?_, ?_⟩
    · refine ⟨_, rfl, (by show 7 ≤ sizeLine; decide), fun l hl => ?_⟩
      refine ⟨sa, ca, l, _, rfl, S1.new hl, SqL.of upd_same, (by show 7 ≤ 10000; decide), fun p ys H2 hp pm hpl S2 kp2 => ?_⟩
      refine ⟨_, rfl, _, rfl, p, ys, rfl, SqL.of hpl, fun q hq => ?_⟩
      obtain ⟨zs, rfl, pz⟩ := perm_str (xs := seven) pm
      have hzl : zs.length = 7 := pz.length_eq
      have kp02 : Kp sa ca H H2 := kp1.trans ((Kp.same (same_new hl)).trans kp2)
      have hq0 : H q = none := kp02.free S2 hq
      refine ⟨q, zs.take n, rfl, hq0, by rw [upd_same, cut_upto, ← List.map_take], by rw [List.length_take]; omega, ((List.take_sublist n zs).nodup (pz.nodup_iff.mpr seven_nd)), fun x hx => seven_w x (pz.subset ((List.take_sublist n zs).subset hx)), S2.new hq, kp02.off hq0⟩
    rintro σ H3 ⟨q, nm, rfl, hq0, hq, hlen, hnd, hwd, S3, kp3⟩
    -- every
    refine ⟨fun σ H4 => ∃ v, σ = [some (.ref sa), some (.int m), some (.int (n : Int)), some (.ref q), some v, none, none, none, none, none, none, none] ∧ WordL H3 H4 v ∧ Src H4 sa ca ∧ Kp sa ca H3 H4, ?_, ?_⟩
    · refine ⟨(by show 1 ≤ sizeLine; decide), fun l1 h1 => ⟨(by show 1 ≤ sizeLine; decide), fun l2 h2 => ⟨(by show 2 ≤ sizeLine; decide), fun l3 h3 => ⟨(by show 3 ≤ sizeLine; decide), fun l4 h4 => ⟨(by show 2 ≤ sizeLine; decide), fun l5 h5 => ⟨(by show 5 ≤ sizeLine; decide), fun l6 h6 => ?_⟩⟩⟩⟩⟩⟩
      have s1 := same_new (o := .lst ((["o"] : List Str).map V.str)) h1
      have s2 := s1.trans (same_new (o := .lst ((["o"] : List Str).map V.str)) h2)
      have s3 := s2.trans (same_new (o := .lst ((["red", "blue"] : List Str).map V.str)) h3)
      have s4 := s3.trans (same_new (o := .lst ((["x", "y", "z"] : List Str).map V.str)) h4)
      have s5 := s4.trans (same_new (o := .lst ((["m10", "m2"] : List Str).map V.str)) h5)
      have s6 := same_new (o := .lst [.ref l1, .ref l2, .ref l3, .ref l4, .ref l5]) h6
      have a5 := (WordL.mk ["m10", "m2"] s4 h5 (by decide +kernel)).same s6
      have a4 := ((WordL.mk ["x", "y", "z"] s3 h4 (by decide +kernel)).same (same_new h5)).same s6
      have a3 := (((WordL.mk ["red", "blue"] s2 h3 (by decide +kernel)).same (same_new h4)).same (same_new h5)).same s6
      have a2 := ((((WordL.mk ["o"] s1 h2 (by decide +kernel)).same (same_new h3)).same (same_new h4)).same (same_new h5)).same s6
      have a1 := (((((WordL.mk ["o"] (Same.refl H3) h1 (by decide +kernel)).same (same_new h2)).same (same_new h3)).same (same_new h4)).same (same_new h5)).same s6
      have all : ∀ v ∈ [V.ref l1, V.ref l2, V.ref l3, V.ref l4, V.ref l5], WordL H3 _ v := fun v hv => by
        rcases List.mem_cons.mp hv with rfl | hv
        · exact a1
        rcases List.mem_cons.mp hv with rfl | hv
        · exact a2
        rcases List.mem_cons.mp hv with rfl | hv
        · exact a3
        rcases List.mem_cons.mp hv with rfl | hv
        · exact a4
        rcases List.mem_cons.mp hv with rfl | hv
        · exact a5
        cases hv
      have s06 := s5.trans s6
      refine ⟨_, rfl, sa, ca, 5, rfl, S3.same s06, by decide, by decide, fun kk H4 k0 k1 S4 kp4 => ?_⟩
      obtain ⟨n6s, n6c⟩ := S3.ne (s5.free h6)
      have hl6 := kp4 _ _ upd_same n6s n6c
      obtain ⟨v, hv⟩ : ∃ v, [V.ref l1, V.ref l2, V.ref l3, V.ref l4, V.ref l5][kk.toNat]? = some v := ⟨_, List.getElem?_eq_getElem (by show kk.toNat < 5; omega)⟩
      refine ⟨l6, _, kk, v, rfl, rfl, SqL.of hl6, ?_, v, rfl, (all v (List.mem_of_getElem? hv)).kp S3 kp4, S4, (Kp.same s06).trans kp4⟩
      have := atI_nat hv
      rw [Int.toNat_of_nonneg k0] at this
      exact this
    rintro σ H4 ⟨ev, rfl, hev, S4, kp4⟩
    -- kinds
    refine ⟨fun σ H5 => ∃ v, σ = [some (.ref sa), some (.int m), some (.int (n : Int)), some (.ref q), some ev, some v, none, none, none, none, none, none] ∧ WordL H4 H5 v ∧ Src H5 sa ca ∧ Kp sa ca H4 H5, ?_, ?_⟩
    · refine ⟨(by show 1 ≤ sizeLine; decide), fun l1 h1 => ⟨(by show 1 ≤ sizeLine; decide), fun l2 h2 => ⟨(by show 2 ≤ sizeLine; decide), fun l3 h3 => ⟨(by show 2 ≤ sizeLine; decide), fun l4 h4 => ⟨(by show 4 ≤ sizeLine; decide), fun l6 h6 => ?_⟩⟩⟩⟩⟩
      have s1 := same_new (o := .lst ((["c"] : List Str).map V.str)) h1
      have s2 := s1.trans (same_new (o := .lst ((["c"] : List Str).map V.str)) h2)
      have s3 := s2.trans (same_new (o := .lst ((["k", "c"] : List Str).map V.str)) h3)
      have s4 := s3.trans (same_new (o := .lst ((["k2", "k10"] : List Str).map V.str)) h4)
      have s6 := same_new (o := .lst [.ref l1, .ref l2, .ref l3, .ref l4]) h6
      have a4 := (WordL.mk ["k2", "k10"] s3 h4 (by decide +kernel)).same s6
      have a3 := ((WordL.mk ["k", "c"] s2 h3 (by decide +kernel)).same (same_new h4)).same s6
      have a2 := (((WordL.mk ["c"] s1 h2 (by decide +kernel)).same (same_new h3)).same (same_new h4)).same s6
      have a1 := ((((WordL.mk ["c"] (Same.refl H4) h1 (by decide +kernel)).same (same_new h2)).same (same_new h3)).same (same_new h4)).same s6
      have all : ∀ v ∈ [V.ref l1, V.ref l2, V.ref l3, V.ref l4], WordL H4 _ v := fun v hv => by
        rcases List.mem_cons.mp hv with rfl | hv
        · exact a1
        rcases List.mem_cons.mp hv with rfl | hv
        · exact a2
        rcases List.mem_cons.mp hv with rfl | hv
        · exact a3
        rcases List.mem_cons.mp hv with rfl | hv
        · exact a4
        cases hv
      have s06 := s4.trans s6
      refine ⟨_, rfl, sa, ca, 4, rfl, S4.same s06, by decide, by decide, fun kk H5 k0 k1 S5 kp5 => ?_⟩
      obtain ⟨n6s, n6c⟩ := S4.ne (s4.free h6)
      have hl6 := kp5 _ _ upd_same n6s n6c
      obtain ⟨v, hv⟩ : ∃ v, [V.ref l1, V.ref l2, V.ref l3, V.ref l4][kk.toNat]? = some v := ⟨_, List.getElem?_eq_getElem (by show kk.toNat < 4; omega)⟩
      refine ⟨l6, _, kk, v, rfl, rfl, SqL.of hl6, ?_, v, rfl, (all v (List.mem_of_getElem? hv)).kp S4 kp5, S5, (Kp.same s06).trans kp5⟩
      have := atI_nat hv
      rw [Int.toNat_of_nonneg k0] at this
      exact this
    rintro σ H5 ⟨kv, rfl, hkv, S5, kp5⟩
    have hev5 := hev.kp S3 kp5
    obtain ⟨ea, es, rfl, ea0, hea, e1, e2, ew⟩ := hev5
    obtain ⟨ka', ks', rfl, ka0, hka, kk1, kk2, kw⟩ := hkv
    have kp05 : Kp sa ca H H5 := (kp3.trans kp4).trans kp5
    obtain ⟨nqs, nqc⟩ := S.ne hq0
    have hq5 : H5 q = some (.lst (List.map V.str nm)) := kp5 _ _ (kp4 _ _ hq nqs nqc) nqs nqc
    obtain ⟨nes, nec⟩ := S3.ne ea0
    obtain ⟨nks, nkc⟩ := S4.ne ka0
    -- ties, wide
    refine ⟨fun σ H6 => ∃ t wi, σ = [some (.ref sa), some (.int m), some (.int (n : Int)), some (.ref q), some (.ref ea), some (.ref ka'), some (.ref t), some (.int wi), none, none, none, none] ∧ H5 t = none ∧ 0 ≤ wi ∧ wi < 3 ∧ H6 t = some (.dT []) ∧ Src H6 sa ca ∧ Kp sa ca H5 H6, ?_, ?_⟩
    · intro t ht
      obtain ⟨nts, ntc⟩ := S5.ne ht
      refine ⟨_, rfl, sa, ca, 3, rfl, S5.new ht, by decide, by decide, fun kk H6 k0 k1 S6 kp6 => ?_⟩
      exact ⟨_, _, rfl, t, kk, rfl, ht, k0, k1, kp6 _ _ upd_same nts ntc, S6, (Kp.same (same_new ht)).trans kp6⟩
    rintro σ H6 ⟨t, wi, rfl, ht0, wi0, wi1, ht, S6, kp6⟩
    obtain ⟨nts, ntc⟩ := S5.ne ht0
    have nkt : ka' ≠ t := ne_of_none hka ht0
    have net : ea ≠ t := ne_of_none hea ht0
    have nqt : q ≠ t := ne_of_none hq5 ht0
    refine ⟨fun σ H7 => ∃ vk v9 v10 kvs, σ = [some (.ref sa), some (.int m), some (.int (n : Int)), some (.ref q), some (.ref ea), some (.ref ka'), some (.ref t), some (.int wi), vk, v9, v10, none] ∧ H7 t = some (.dT kvs) ∧ Ties n 2 kvs ∧ (kvs.length ≤ 300 ∧ kvs.length ≤ 3 * (n * n + n)) ∧ Src H7 sa ca ∧ Kp3 sa ca t H6 H7, ?_, ?_⟩
    · refine ⟨_, rfl, ka', rfl, ⟨_, SqL.of (kp6 _ _ hka nks nkc)⟩, ?_⟩
      refine for_list (xs := ks'.map V.str) (fun i σ H7 => ∃ vk v9 v10 kvs, σ = [some (.ref sa), some (.int m), some (.int (n : Int)), some (.ref q), some (.ref ea), some (.ref ka'), some (.ref t), some (.int wi), vk, v9, v10, none] ∧ H7 t = some (.dT kvs) ∧ Ties n 2 kvs ∧ (kvs.length ≤ 100 * i ∧ kvs.length ≤ (n * n + n) * i) ∧ Src H7 sa ca ∧ Kp3 sa ca t H6 H7)
        ⟨none, none, none, [], rfl, ht, Ties.nil n 2, ⟨by simp, by simp⟩, S6, Kp3.refl H6⟩ (fun i σ H7 _ ⟨_, _, _, _, _, _, _, _, _, kp7⟩ => SqL.of (kp7 _ _ (kp6 _ _ hka nks nkc) nks nkc nkt)) ?_ ?_
      · rintro i x σ H7 hi ⟨vk, v9, v10, kvs, rfl, ht7, ti7, ⟨hl7, hl7b⟩, S7, kp7⟩
        have hil := (List.getElem?_eq_some_iff.mp hi).1
        rw [List.length_map] at hil
        rw [List.getElem?_map] at hi
        obtain ⟨kd, hkd, rfl⟩ := Option.map_eq_some_iff.mp hi
        have kdw := kw kd (List.mem_of_getElem? hkd)
        refine ⟨_, rfl, _, rfl, sa, ca, n, rfl, S7, by omega, by omega, fun p xs H8 hp hpl hpr hxl2 S8 kp8 => ?_⟩
        have hxl := hxl2.1
        have hxB := hxl2.2 n rfl
        have ht8 := kp8 _ _ ht7 nts ntc
        have npt : p ≠ t := fun e => by subst e; rw [hp] at ht7; cases ht7
        obtain ⟨nps, npc⟩ := S7.ne hp
        refine ⟨p, rfl, ⟨_, SqL.of hpl⟩, ?_⟩
        refine for_list (xs := xs) (fun j σ H9 => ∃ v9 v10 kvs', σ = [some (.ref sa), some (.int m), some (.int (n : Int)), some (.ref q), some (.ref ea), some (.ref ka'), some (.ref t), some (.int wi), some (.str kd), v9, v10, none] ∧ H9 t = some (.dT kvs') ∧ Ties n 2 kvs' ∧ kvs'.length ≤ kvs.length + j ∧ H9 p = some (.lst xs) ∧ PairsAt n H9 xs ∧ Src H9 sa ca ∧ Kp3 sa ca t H6 H9)
          ⟨v9, v10, kvs, rfl, ht8, ti7, by omega, hpl, hpr, S8, kp7.kp kp8⟩ (fun j σ H9 _ ⟨_, _, _, _, _, _, _, h, _⟩ => SqL.of h) ?_ ?_
        · rintro j x σ H9 hj ⟨v9, v10, kvs', rfl, ht9, ti9, hl9, hp9, hpr9, S9, kp9⟩
          have hjl := (List.getElem?_eq_some_iff.mp hj).1
          obtain ⟨tt, i1, j1, rfl, htt, hi0, hij, hjn⟩ := hpr9 x (List.mem_of_getElem? hj)
          refine ⟨tt, _, rfl, SqT.of htt, rfl, _, _, rfl, _, _, rfl, rfl, ?_⟩
          refine ⟨_, rfl, sa, ca, 2, rfl, S9, by decide, by decide, fun kk H10 k0 k1 S10 kp10 => ⟨_, _, rfl, rfl, (by show 3 ≤ sizeLine; decide), fun l hl => ?_⟩⟩
          have ht10 := kp10 _ _ ht9 nts ntc
          have hp10 := kp10 _ _ hp9 nps npc
          have hpr10 := hpr9.kp S9 kp10
          obtain ⟨x, hx, hx1, hx2⟩ : ∃ x : Nat, atI [V.int 1, V.int 2, V.int (1 + kk)] wi = some (V.int (x : Int)) ∧ 1 ≤ x ∧ x ≤ 2 := by
            have hw : wi = 0 ∨ wi = 1 ∨ wi = 2 := by omega
            rcases hw with rfl | rfl | rfl
            · exact ⟨1, atI_nat (j := 0) rfl, by decide, by decide⟩
            · exact ⟨2, atI_nat (j := 1) rfl, by decide, by decide⟩
            · refine ⟨(1 + kk).toNat, ?_, by omega, by omega⟩
              rw [Int.toNat_of_nonneg (by omega)]
              exact atI_nat (j := 2) rfl
          refine ⟨_, rfl, l, _, wi, _, rfl, rfl, SqL.of upd_same, hx, ?_⟩
          have ht11 : (upd H10 l (.lst [V.int 1, V.int 2, V.int (1 + kk)])) t = some (.dT kvs') := by rw [upd_ne (ne_of_none ht10 hl)]; exact ht10
          refine ⟨_, rfl, _, rfl, _, rfl, _, rfl, (by show 3 ≤ sizeLine; decide), fun u hu => ?_⟩
          have ht12 : (upd (upd H10 l (.lst [V.int 1, V.int 2, V.int (1 + kk)])) u (.tup [.int i1, .int j1, .str kd])) t = some (.dT kvs') := by rw [upd_ne (ne_of_none ht11 hu)]; exact ht11
          have sm12 : Same H10 (upd (upd H10 l (.lst [V.int 1, V.int 2, V.int (1 + kk)])) u (.tup [.int i1, .int j1, .str kd])) := (same_new hl).trans (same_new hu)
          refine ⟨t, _, rfl, DPut.t (k := [Sum.inl i1, Sum.inl j1, Sum.inr kd]) ht12 upd_same (Evl.sz_lt (by omega)), ?_⟩
          refine ⟨some (.int i1), some (.int j1), _, rfl, upd_same, ti9.put ⟨i1.toNat, j1.toNat, kd, by rw [Int.toNat_of_nonneg hi0, Int.toNat_of_nonneg (by omega)], by omega, by omega, kdw⟩ hx1 hx2, by have := length_putK kvs' [Sum.inl i1, Sum.inl j1, Sum.inr kd] (V.int (x : Int)); omega, ?_, ?_, (S10.same sm12).upd nts.symm.symm ntc, ((kp9.kp kp10).kp (Kp.same sm12)).put⟩
          · rw [upd_ne npt]
            exact sm12 _ _ hp10
          · exact (hpr10.same sm12).put ht12 (by intro ys z; cases z)
        · rintro σ H9 ⟨v9, v10, kvs', rfl, ht9, ti9, hl9, hp9, hpr9, S9, kp9⟩
          exact ⟨some (.str kd), v9, v10, kvs', rfl, ht9, ti9, ⟨by omega, by rw [Nat.mul_succ]; omega⟩, S9, kp9⟩
      · rintro σ H7 ⟨vk, v9, v10, kvs, rfl, ht7, ti7, hl7, S7, kp7⟩
        rw [List.length_map] at hl7
        exact ⟨vk, v9, v10, kvs, rfl, ht7, ti7, ⟨by omega, by have := Nat.mul_le_mul_left (n * n + n) (show ks'.length ≤ 3 by omega); omega⟩, S7, kp7⟩
    rintro σ H7 ⟨vk, v9, v10, kvs, rfl, ht7, ti7, hl7, S7, kp7⟩
    have hq7 := kp7 _ _ (kp6 _ _ hq5 nqs nqc) nqs nqc nqt
    have hea7 := kp7 _ _ (kp6 _ _ hea nes nec) nes nec net
    have kp07 : Kp sa ca H H7 := fun b o e h1 h2 => kp7 b o (kp6 b o (kp05 b o e h1 h2) h1 h2) h1 h2 (ne_of_none (kp05 b o e h1 h2) ht0)
    have ht00 : H t = none := kp05.free S5 ht0
    intro p hp
    have hp0 : H p = none := kp07.free S7 hp
    obtain ⟨nps, npc⟩ := S7.ne hp
    have npq : p ≠ q := fun e => by subst e; rw [hq7] at hp; cases hp
    have npe : p ≠ ea := fun e => by subst e; rw [hea7] at hp; cases hp
    have npt : p ≠ t := fun e => by subst e; rw [ht7] at hp; cases hp
    have sp := same_new (o := .dK []) hp
    refine ⟨_, rfl, _, rfl, q, rfl, ⟨_, SqL.of (sp _ _ hq7)⟩, fun D hD => ?_⟩
    obtain ⟨nDp, hD7⟩ := nx hD
    have hD0 : H D = none := kp07.free S7 hD7
    obtain ⟨nDs, nDc⟩ := S7.ne hD7
    have sD := same_new (o := .lst []) hD
    have sDp := sp.trans sD
    refine lc_list (xs := nm.map V.str) (fun i H8 => ∃ cl, H8 D = some (.lst (List.map V.str cl)) ∧ cl.length = i ∧ (∀ x ∈ cl, isWordB x = true) ∧ H8 p = some (.dK []) ∧ Src H8 sa ca ∧ Kp sa ca H7 H8)
      ⟨[], upd_same, rfl, (fun x hx => (List.not_mem_nil hx).elim), sD _ _ upd_same, S7.same sDp, Kp.same sDp⟩ (fun i H8 _ ⟨_, _, _, _, _, _, k8⟩ => SqL.of (k8 _ _ hq7 nqs nqc)) ?_ ?_
    · rintro i x H8 hi ⟨cl, hcD, hcl, hcw, hp8, S8, kp8⟩
      have hil := (List.getElem?_eq_some_iff.mp hi).1
      rw [List.length_map] at hil
      refine ⟨rfl, tyes ?_⟩
      refine ⟨_, rfl, _, rfl, sa, ca, ea, _, rfl, S8, nes, nec, SqL.of (kp8 _ _ hea7 nes nec), by rw [List.length_map]; exact e1, by rw [List.length_map]; omega, fun v H9 hv S9 kp9 => ?_⟩
      obtain ⟨x, hx, rfl⟩ := List.mem_map.mp hv
      refine ⟨_, kp9 _ _ hcD nDs nDc, Evl.sz_lt (by rw [List.length_map]; omega), cl ++ [x], by rw [upd_same, List.map_append]; rfl, by simp [hcl], ?_, ?_, S9.upd nDs nDc, ?_⟩
      · intro y hy
        rcases List.mem_append.mp hy with z | z
        · exact hcw y z
        · rw [List.mem_singleton] at z
          subst z
          exact ew y hx
      · rw [upd_ne nDp.symm]
        exact kp9 _ _ hp8 nps npc
      · exact (kp8.trans kp9).off hD7
    · rintro H8 ⟨cl, hcD, hcl, hcw, hp8, S8, kp8⟩
      rw [List.length_map] at hcl
      refine ⟨_, rfl, hp8, worldD q D t, rfl, (by show 3 ≤ 15; decide), ?_⟩
      rw [merge_wd]
      have nDt : D ≠ t := fun e => by subst e; rw [ht7] at hD7; cases hD7
      refine k p q D t nm cl kvs _ hp0 hq0 hD0 ht00 ⟨upd_same, ?_, ?_, ?_, ⟨nps, npc⟩, ⟨nqs, nqc⟩, ⟨nDs, nDc⟩, ⟨nts, ntc⟩, hnd, hwd, hcw, hcl, by omega⟩ (by omega) (by rw [hlen]; exact ti7) (by rw [hlen]; exact hl7) (S8.upd nps npc) ((kp07.trans kp8).off hp0)
      · rw [upd_ne npq.symm]; exact kp8 _ _ hq7 nqs nqc
      · rw [upd_ne nDp]; exact hcD
      · rw [upd_ne npt.symm]; exact kp8 _ _ ht7 nts ntc
end
end Nm
set_option autoImplicit true
set_option maxRecDepth 100000
set_option maxHeartbeats 4000000
/-! sorted of a list of tuples of ints and texts, the first of each an int: a rearrangement -/
namespace Nm
open PySem PySem.Spec PyProof.Rows L2
/-- two rows of keys that are of one kind place by place -/
inductive SameK : List Key → List Key → Prop
  | nil : SameK [] []
  | int {i j : Int} {r q : List Key} : SameK r q → SameK (Sum.inl i :: r) (Sum.inl j :: q)
  | str {x y : Str} {r q : List Key} : SameK r q → SameK (Sum.inr x :: r) (Sum.inr y :: q)
def IsRow (h : Heap) (v : Value) (ks : List Key) : Prop := ∃ a o its n, v = .ref a ∧ h.get? a = some o ∧ o.cls = .type "tuple" ∧ o.data = .seq (List.toArray its) n ∧ Vals (ks.map kV) its
theorem IsRow.keeps {h h' : Heap} {v : Value} {ks : List Key} (p : IsRow h v ks) (k : ∀ b o, h.get? b = some o → o.cls = .type "tuple" → h'.get? b = some o) : IsRow h' v ks := by
  obtain ⟨a, o, its, n, e, ho, hc, hd⟩ := p
  exact ⟨a, o, its, n, e, k _ _ ho hc, hc, hd⟩
section
variable {prog : Program} {w : World} {A : Around} {E : Value → Shared → Prop} {s : Shared}
theorem lex_tot {fin : Bool} : ∀ {ks qs : List Key} {its jts : List Value} (i : Nat), SameK ks qs → Vals (ks.map kV) its → Vals (qs.map kV) jts → 0 < i → ∃ b : Bool, PySem.W.KatLex prog w A true fin (fun r s' => s' = s ∧ r = b) (its.zip jts) i s
  | _, _, _, _, i, .nil, .nil, .nil, _ => ⟨fin, PySem.W.kat_nil ⟨rfl, rfl⟩⟩
  | _, _, _, _, i, .int (i := x) (j := y) sk, .cons (a := _) r1 t1, .cons r2 t2, hi => by
    obtain ⟨t, rfl⟩ := r1
    obtain ⟨u, rfl⟩ := r2
    obtain ⟨b, hb⟩ := lex_tot (i + 1) sk t1 t2 (Nat.succ_pos _)
    by_cases e : x = y
    · refine ⟨b, PySem.W.kat_cons (SeqAt.EqAt.int_int x t y u prog w _ _ ?_)⟩
      refine PySem.W.kat_go (fun _ => PySem.W.kat_yes hb) (fun e1 => absurd e (by simpa using e1))
    · refine ⟨decide (x < y), PySem.W.kat_cons (SeqAt.EqAt.int_int x t y u prog w _ _ ?_)⟩
      refine PySem.W.kat_go (fun e1 => absurd (by simpa using e1) e) (fun _ => PySem.W.kat_no (TS.oneLt_ints _ ⟨rfl, rfl⟩))
  | _, _, _, _, i, .str (x := x) (y := y) sk, .cons r1 t1, .cons r2 t2, hi => by
    obtain ⟨t, rfl⟩ := r1
    obtain ⟨u, rfl⟩ := r2
    obtain ⟨b, hb⟩ := lex_tot (i + 1) sk t1 t2 (Nat.succ_pos _)
    by_cases e : x = y
    · refine ⟨b, PySem.W.kat_cons (SeqAt.EqAt.str_str x t y u prog w _ _ ?_)⟩
      refine PySem.W.kat_go (fun _ => PySem.W.kat_yes hb) (fun e1 => absurd e (by simpa using e1))
    · refine ⟨decide (x.cps.toList < y.cps.toList), PySem.W.kat_cons (SeqAt.EqAt.str_str x t y u prog w _ _ ?_)⟩
      refine PySem.W.kat_go (fun e1 => absurd (by simpa using e1) e) (fun _ => PySem.W.kat_no ?_)
      have hi0 : (true && i == 0) = false := by simp; omega
      rw [hi0]
      exact PySem.W.kat_one _ _ (PyProof.Rows.lt_str (Q := PySem.W.BoolBack (fun r s' => s' = s ∧ r = decide (x.cps.toList < y.cps.toList))) (show s = s ∧ decide (x.cps.toList < y.cps.toList) = decide (x.cps.toList < y.cps.toList) from ⟨rfl, rfl⟩))
theorem row_tot {vs : List Value} {k : Value → Int × List Key} (hp : ∀ v ∈ vs, IsRow s.heap v (Sum.inl (k v).1 :: (k v).2)) (hs : ∀ v ∈ vs, ∀ u ∈ vs, SameK (k v).2 (k u).2) : Srt.Tot prog w A s (tuples' true) (fun p => p.1 ∈ vs) := by
  intro p q hm hm'
  obtain ⟨a, o, its, n, e, ho, hc, hd, hv⟩ := hp _ hm
  obtain ⟨a', o', jts, n', e', ho', hc', hd', hv'⟩ := hp _ hm'
  have sk := hs _ hm _ hm'
  rw [e, e']
  generalize k p.1 = kp at *
  generalize k q.1 = kq at *
  obtain ⟨x, ks⟩ := kp
  obtain ⟨y, qs⟩ := kq
  cases hv with
  | cons r1 t1 =>
    cases hv' with
    | cons r2 t2 =>
      obtain ⟨t, rfl⟩ := r1
      obtain ⟨u, rfl⟩ := r2
      rename_i it jt
      obtain ⟨b, hb⟩ := lex_tot (prog := prog) (w := w) (A := A) (s := s) (fin := decide ((List.toArray (Value.int x t :: it)).size < (List.toArray (Value.int y u :: jt)).size)) 1 sk t1 t2 (by decide)
      by_cases e : x = y
      · refine ⟨b, PySem.W.kat_lt ho hd ho' hd' (PySem.W.kat_cons (SeqAt.EqAt.int_int x t y u prog w _ _ ?_))⟩
        refine PySem.W.kat_go (fun _ => PySem.W.kat_yes hb) (fun e1 => absurd e (by simpa using e1))
      · refine ⟨decide (x < y), PySem.W.kat_lt ho hd ho' hd' (PySem.W.kat_cons (SeqAt.EqAt.int_int x t y u prog w _ _ ?_))⟩
        refine PySem.W.kat_go (fun e1 => absurd (by simpa using e1) e) (fun _ => PySem.W.kat_no (TS.oneLt_ints _ ⟨rfl, rfl⟩))
theorem firsts_row {h : Heap} {k : Value → Int × List Key} : ∀ {vs : List Value}, (∀ v ∈ vs, IsRow h v (Sum.inl (k v).1 :: (k v).2)) → ∃ fs : List Value, PySem.W.KatTups h vs fs ∧ fs.length = vs.length ∧ ∀ f ∈ fs, ∃ x t, f = Value.int x t
  | [], _ => ⟨[], PySem.W.KatTups.nil, rfl, fun _ hm => by simp at hm⟩
  | v :: vs, hp => by
    obtain ⟨fs, h1, h2, h3⟩ := firsts_row (vs := vs) fun v' hm => hp v' (List.mem_cons_of_mem _ hm)
    obtain ⟨a, o, its, n, e, ho, hc, hd, hv⟩ := hp v (List.mem_cons_self ..)
    subst e
    cases hv with
    | cons r1 t1 =>
      obtain ⟨t, rfl⟩ := r1
      refine ⟨.int (k (.ref a)).1 t :: fs, PySem.W.KatTups.cons ho hc hd rfl h1, by rw [List.length_cons, List.length_cons, h2], fun f hm => ?_⟩
      rcases List.mem_cons.mp hm with rfl | hm
      · exact ⟨_, t, rfl⟩
      · exact h3 f hm
theorem rows_sortable {a : Addr} {vs : List Value} {k : Value → Int × List Key} (h0 : 0 < vs.length) (hp : ∀ v ∈ vs, IsRow s.heap v (Sum.inl (k v).1 :: (k v).2)) (hs : ∀ v ∈ vs, ∀ u ∈ vs, SameK (k v).2 (k u).2) (ha : ∀ o, s.heap.get? a = some o → o.cls ≠ .type "tuple") : Srt.Sortable prog w A s a vs := by
  intro h' keep
  have hp' : ∀ v ∈ vs, IsRow h' v (Sum.inl (k v).1 :: (k v).2) := fun v hm => (hp v hm).keeps fun b o e c => keep b o (fun z => by subst z; exact ha o e c) e
  obtain ⟨fs, h1, h2, h3⟩ := firsts_row hp'
  refine ⟨tuples' true, fun Q E hq => ?_, row_tot (s := { s with heap := h' }) hp' hs⟩
  refine PySem.W.kat_kind (T := .type "int") h1 (by omega) (fun f hm => ?_) (by rfl) ?_
  · obtain ⟨x, t, rfl⟩ := h3 f hm
    exact PySem.W.Looks.now
  · have e : (Value.type "int" != Value.type "tuple") = true := by decide +kernel
    rw [e]
    exact hq
theorem sorted_rows {l : Addr} {vs : List Value} {k : Value → Int × List Key} {Q : Value → Shared → Prop} (hl : s.heap.IsList l vs.toArray) (hz : vs.length ≤ sizeLine) (hp : ∀ v ∈ vs, IsRow s.heap v (Sum.inl (k v).1 :: (k v).2)) (hs : ∀ v ∈ vs, ∀ u ∈ vs, SameK (k v).2 (k u).2)
    (h : ∀ (h' : Heap) (d : Addr) (out : List Value), out.Perm vs → (∀ b o, s.heap.get? b = some o → h'.get? b = some o) → s.heap.objs.size ≤ d → (∃ n, h'.get? d = some (seqObj "list" out.toArray n)) → Q (.ref d) { s with heap := h' }) :
    wpAny (model prog w) A (call (.builtin "sorted") [.ref l]) Q E s := by
  refine Srt.sorted_any hl hz (fun h2 h₁ a ha kk => ?_) fun out ho => ?_
  · refine rows_sortable (s := { s with heap := h₁ }) (by omega) (fun v hm => (hp v hm).keeps fun b o e _ => (kk b o e).2) hs fun o e => ?_
    have e' : some o = some (seqObj "list" vs.toArray 0) := e.symm.trans ha
    cases e'
    intro c
    exact absurd (Value.type.inj c) (by decide)
  · exact h _ _ out ho (fun b o e => sortedAll_old e) (Nat.le_succ _) (sortedAll_at s.heap vs out.toArray)
end
/-- sorted(xs): a new list of the same tuples, in some order -/
def rSortedR (K : PySem.W.Frag) : List V → Hp → VK → Prop := fun vs H Q => ∃ a xs, ∃ k : V → Int × List Key, vs = [V.ref a] ∧ SqL K H a xs ∧ (∀ x ∈ xs, ∃ t, x = V.ref t ∧ H t = some (.tup (V.int (k x).1 :: (k x).2.map kV))) ∧ (∀ x ∈ xs, ∀ y ∈ xs, SameK (k x).2 (k y).2) ∧
  ∀ ys p, ys.Perm xs → H p = none → Q (.ref p) (upd H p (.lst ys))
section
variable {X : Cx}
theorem cr_sortedR : CallR X (.builtin "sorted") (rSortedR X.K) := by
  intro pins s σ H vs us Q I r h
  obtain ⟨a, xs, k, rfl, hs, hx, hk, q⟩ := h
  obtain ⟨its, rv, hl, hz⟩ := I.list hs
  obtain ⟨u, rfl, ru⟩ := vals1 r
  obtain rfl : u = Value.ref a := ru
  obtain ⟨e1, e2⟩ := refs_back rv fun x m => by
    obtain ⟨t, e, _⟩ := hx x m
    exact ⟨t, e⟩
  have inx : ∀ v ∈ its, backV v ∈ xs := fun v hv => by rw [e1]; exact List.mem_map.mpr ⟨_, hv, rfl⟩
  refine sorted_rows (k := fun u => k (backV u)) hl.isList (by rw [← rv.length]; exact hz) (fun v hv => ?_) (fun v hv u hu => hk _ (inx v hv) _ (inx u hu)) fun h' d out hp k' hd hn => ?_
  · obtain ⟨t, rfl⟩ := e2 v hv
    obtain ⟨t', e, ht⟩ := hx _ (inx _ hv)
    cases e
    obtain ⟨_, its2, r2, o, ho, hc, n, hd⟩ := I.hok _ _ ht
    exact ⟨t, o, its2, n, rfl, ho, hc, hd, r2⟩
  · have h3 : ∀ u ∈ out, ∃ a, u = Value.ref a := fun u hu => e2 u (hp.mem_iff.mp hu)
    obtain ⟨n, hn⟩ := hn
    refine ⟨.ref d, upd H d (.lst (out.map backV)), I.laid (t' := s.toks) k' hd ⟨?_, out, n, vals_back h3, hn⟩, rfl, q _ d ?_ (I.hok.fresh hd)⟩
    · rw [List.length_map, hp.length_eq, ← rv.length]; exact hz
    · rw [e1]; exact hp.map backV
end
end Nm
set_option autoImplicit true
set_option maxRecDepth 100000
set_option maxHeartbeats 4000000
/-! sorted of a list of tuples of ints and texts, the first of each an int: in order -/
namespace Nm
open PySem PySem.Spec PyProof.Rows L2
def keyLt : Key → Key → Bool
  | .inl a, .inl b => decide (a < b)
  | .inr x, .inr y => decide (x.cps.toList < y.cps.toList)
  | .inl _, .inr _ => true
  | .inr _, .inl _ => false
def lexK : List Key → List Key → Bool
  | [], [] => false
  | [], _ :: _ => true
  | _ :: _, [] => false
  | a :: r, b :: q => if a = b then lexK r q else keyLt a b
theorem lexK_eq {a b : Key} {r q : List Key} (h : a = b) : lexK (a :: r) (b :: q) = lexK r q := by
  rw [lexK, if_pos h]
theorem lexK_ne {a b : Key} {r q : List Key} (h : ¬ a = b) : lexK (a :: r) (b :: q) = keyLt a b := by
  rw [lexK, if_neg h]
theorem str_eq {x y : Str} (h : x.cps.toList = y.cps.toList) : x = y := by
  cases x
  cases y
  simp at h
  simp [h]
theorem keyLt_anti : ∀ {a b : Key}, keyLt a b = false → keyLt b a = false → a = b
  | .inl a, .inl b, h1, h2 => by
    have h1 := of_decide_eq_false h1
    have h2 := of_decide_eq_false h2
    congr 1
    omega
  | .inr x, .inr y, h1, h2 => by
    have h1 := of_decide_eq_false h1
    have h2 := of_decide_eq_false h2
    rw [List.not_lt] at h1 h2
    rw [str_eq (List.le_antisymm h2 h1)]
  | .inl _, .inr _, h1, _ => by cases h1
  | .inr _, .inl _, _, h2 => by cases h2
theorem keyLt_asym : ∀ {a b : Key}, keyLt a b = true → keyLt b a = false
  | .inl a, .inl b, h => by
    have h := of_decide_eq_true h
    exact decide_eq_false (by omega)
  | .inr x, .inr y, h => by
    have h := of_decide_eq_true h
    exact decide_eq_false (List.lt_asymm h)
  | .inl _, .inr _, _ => rfl
  | .inr _, .inl _, h => by cases h
theorem keyLt_tr : ∀ {a b c : Key}, keyLt b a = false → keyLt c b = false → keyLt c a = false
  | .inl a, .inl b, .inl c, h1, h2 => by
    have h1 := of_decide_eq_false h1
    have h2 := of_decide_eq_false h2
    exact decide_eq_false (by omega)
  | .inr x, .inr y, .inr z, h1, h2 => by
    have h1 := of_decide_eq_false h1
    have h2 := of_decide_eq_false h2
    refine decide_eq_false ?_
    rw [List.not_lt] at *
    exact List.le_trans h1 h2
  | .inl _, .inl _, .inr _, _, _ => rfl
  | .inl _, .inr _, .inr _, _, _ => rfl
  | .inl _, .inr _, .inl _, _, h2 => by cases h2
  | .inr _, .inl _, _, h1, _ => by cases h1
  | .inr _, .inr _, .inl _, _, h2 => by cases h2
theorem lexK_asym : ∀ {x y : List Key}, lexK x y = true → lexK y x = false
  | [], [], h => by cases h
  | [], _ :: _, _ => rfl
  | _ :: _, [], h => by cases h
  | a :: r, b :: q, h => by
    unfold lexK at h ⊢
    by_cases e : a = b
    · rw [if_pos e] at h
      rw [if_pos e.symm]
      exact lexK_asym h
    · rw [if_neg e] at h
      rw [if_neg (fun z => e z.symm)]
      exact keyLt_asym h
theorem lexK_anti : ∀ {x y : List Key}, lexK x y = false → lexK y x = false → x = y
  | [], [], _, _ => rfl
  | [], _ :: _, h, _ => by cases h
  | _ :: _, [], _, h => by cases h
  | a :: r, b :: q, h1, h2 => by
    unfold lexK at h1 h2
    by_cases e : a = b
    · rw [if_pos e] at h1
      rw [if_pos e.symm] at h2
      rw [e, lexK_anti h1 h2]
    · rw [if_neg e] at h1
      rw [if_neg (fun z => e z.symm)] at h2
      exact absurd (keyLt_anti h1 h2) e
theorem lexK_tr : ∀ {x y z : List Key}, lexK y x = false → lexK z y = false → lexK z x = false
  | [], _, [], _, _ => rfl
  | [], _, _ :: _, _, _ => rfl
  | _ :: _, [], _, h, _ => by cases h
  | _ :: _, _ :: _, [], _, h => by cases h
  | a :: r, b :: q, c :: p, h1, h2 => by
    unfold lexK at h1 h2 ⊢
    by_cases e1 : b = a
    · subst e1
      rw [if_pos rfl] at h1
      by_cases e2 : c = b
      · rw [if_pos e2] at h2 ⊢
        exact lexK_tr h1 h2
      · rw [if_neg e2] at h2 ⊢
        exact h2
    · rw [if_neg e1] at h1
      by_cases e2 : c = b
      · subst e2
        rw [if_neg e1]
        exact h1
      · rw [if_neg e2] at h2
        by_cases e3 : c = a
        · subst e3
          exact absurd (keyLt_anti h1 h2) e1
        · rw [if_neg e3]
          exact keyLt_tr h1 h2
theorem swo_lexK {α : Type} (k : α → List Key) : SrtO.Swo fun v u => lexK (k v) (k u) := ⟨fun _ _ h => lexK_asym h, fun _ _ _ h1 h2 => lexK_tr h1 h2⟩
/-- two sorted lists of the same keys are one -/
theorem sorted_one : ∀ {l m : List (List Key)}, l.Pairwise (fun x y => lexK y x = false) → m.Pairwise (fun x y => lexK y x = false) → l.Perm m → l = m
  | [], m, _, _, h => (List.Perm.eq_nil h.symm).symm
  | x :: l, [], _, _, h => absurd h.length_eq (by simp)
  | x :: l, y :: m, hl, hm, h => by
    have h1 : lexK x y = false := by
      rcases List.mem_cons.mp (h.mem_iff.mp (List.mem_cons_self (a := x) (l := l))) with e | hx
      · rw [e]; exact (swo_lexK (fun z => z)).refl y
      · exact (List.pairwise_cons.mp hm).1 x hx
    have h2 : lexK y x = false := by
      rcases List.mem_cons.mp (h.mem_iff.mpr (List.mem_cons_self (a := y) (l := m))) with e | hy
      · rw [e]; exact (swo_lexK (fun z => z)).refl x
      · exact (List.pairwise_cons.mp hl).1 y hy
    have e := lexK_anti h1 h2
    subst e
    rw [sorted_one (List.pairwise_cons.mp hl).2 (List.pairwise_cons.mp hm).2 h.cons_inv]
section
variable {prog : Program} {w : World} {A : Around} {E : Value → Shared → Prop} {s : Shared}
theorem lex_cmp : ∀ {ks qs : List Key} {its jts : List Value} (i : Nat), SameK ks qs → Vals (ks.map kV) its → Vals (qs.map kV) jts → 0 < i → PySem.W.KatLex prog w A true false (fun r s' => s' = s ∧ r = lexK ks qs) (its.zip jts) i s
  | _, _, _, _, i, .nil, .nil, .nil, _ => PySem.W.kat_nil ⟨rfl, rfl⟩
  | _, _, _, _, i, .int (i := x) (j := y) (r := r) (q := q) sk, .cons r1 t1, .cons r2 t2, hi => by
    obtain ⟨t, rfl⟩ := r1
    obtain ⟨u, rfl⟩ := r2
    have ih := lex_cmp (i + 1) sk t1 t2 (Nat.succ_pos _)
    by_cases e : x = y
    · have el : lexK (Sum.inl x :: r) (Sum.inl y :: q) = lexK r q := lexK_eq (by rw [e])
      rw [el]
      refine PySem.W.kat_cons (SeqAt.EqAt.int_int x t y u prog w _ _ ?_)
      exact PySem.W.kat_go (fun _ => PySem.W.kat_yes ih) (fun e1 => absurd e (by simpa using e1))
    · have el : lexK (Sum.inl x :: r) (Sum.inl y :: q) = decide (x < y) := lexK_ne (fun z => e (Sum.inl.inj z))
      rw [el]
      refine PySem.W.kat_cons (SeqAt.EqAt.int_int x t y u prog w _ _ ?_)
      exact PySem.W.kat_go (fun e1 => absurd (by simpa using e1) e) (fun _ => PySem.W.kat_no (TS.oneLt_ints _ ⟨rfl, rfl⟩))
  | _, _, _, _, i, .str (x := x) (y := y) (r := r) (q := q) sk, .cons r1 t1, .cons r2 t2, hi => by
    obtain ⟨t, rfl⟩ := r1
    obtain ⟨u, rfl⟩ := r2
    have ih := lex_cmp (i + 1) sk t1 t2 (Nat.succ_pos _)
    by_cases e : x = y
    · have el : lexK (Sum.inr x :: r) (Sum.inr y :: q) = lexK r q := lexK_eq (by rw [e])
      rw [el]
      refine PySem.W.kat_cons (SeqAt.EqAt.str_str x t y u prog w _ _ ?_)
      exact PySem.W.kat_go (fun _ => PySem.W.kat_yes ih) (fun e1 => absurd e (by simpa using e1))
    · have el : lexK (Sum.inr x :: r) (Sum.inr y :: q) = decide (x.cps.toList < y.cps.toList) := lexK_ne (fun z => e (Sum.inr.inj z))
      rw [el]
      refine PySem.W.kat_cons (SeqAt.EqAt.str_str x t y u prog w _ _ ?_)
      refine PySem.W.kat_go (fun e1 => absurd (by simpa using e1) e) (fun _ => PySem.W.kat_no ?_)
      have hi0 : (true && i == 0) = false := by simp; omega
      rw [hi0]
      exact PySem.W.kat_one _ _ (PyProof.Rows.lt_str (Q := PySem.W.BoolBack (fun r s' => s' = s ∧ r = decide (x.cps.toList < y.cps.toList))) (show s = s ∧ decide (x.cps.toList < y.cps.toList) = decide (x.cps.toList < y.cps.toList) from ⟨rfl, rfl⟩))
theorem same_len : ∀ {ks qs : List Key}, SameK ks qs → ks.length = qs.length
  | _, _, .nil => rfl
  | _, _, .int h => by simp [same_len h]
  | _, _, .str h => by simp [same_len h]
/-- the whole row -/
def rowK (k : Int × List Key) : List Key := Sum.inl k.1 :: k.2
theorem row_cmp {vs : List Value} {k : Value → Int × List Key} (hp : ∀ v ∈ vs, IsRow s.heap v (rowK (k v))) (hs : ∀ v ∈ vs, ∀ u ∈ vs, SameK (k v).2 (k u).2) : SrtO.Cmp prog w A s (tuples' true) (fun p => p.1 ∈ vs) (SrtO.lt2 fun v u => lexK (rowK (k v)) (rowK (k u))) := by
  intro p q hm hm'
  obtain ⟨a, o, its, n, e, ho, hc, hd, hv⟩ := hp _ hm
  obtain ⟨a', o', jts, n', e', ho', hc', hd', hv'⟩ := hp _ hm'
  have sk := hs _ hm _ hm'
  show wpAny (model prog w) A (keyLt' (tuples' true) p.1 q.1) (fun r s' => s' = s ∧ r = lexK (rowK (k p.1)) (rowK (k q.1))) (fun _ _ => False) s
  generalize hkp : k p.1 = kp at *
  generalize hkq : k q.1 = kq at *
  rw [e, e']
  obtain ⟨x, ks⟩ := kp
  obtain ⟨y, qs⟩ := kq
  have hlen : its.length = jts.length := by
    rw [← hv.length, ← hv'.length]
    have := same_len sk
    simp [rowK, this]
  refine PySem.W.kat_lt ho hd ho' hd' ?_
  have hf : decide ((List.toArray its).size < (List.toArray jts).size) = false := by simp [hlen]
  rw [hf]
  cases hv with
  | cons r1 t1 =>
    cases hv' with
    | cons r2 t2 =>
      obtain ⟨t, rfl⟩ := r1
      obtain ⟨u, rfl⟩ := r2
      have ih := lex_cmp (prog := prog) (w := w) (A := A) (s := s) 1 sk t1 t2 (by decide)
      by_cases e : x = y
      · have el : lexK (rowK (x, ks)) (rowK (y, qs)) = lexK ks qs := lexK_eq (by rw [e])
        rw [el]
        refine PySem.W.kat_cons (SeqAt.EqAt.int_int x t y u prog w _ _ ?_)
        exact PySem.W.kat_go (fun _ => PySem.W.kat_yes ih) (fun e1 => absurd e (by simpa using e1))
      · have el : lexK (rowK (x, ks)) (rowK (y, qs)) = decide (x < y) := lexK_ne (fun z => e (Sum.inl.inj z))
        rw [el]
        refine PySem.W.kat_cons (SeqAt.EqAt.int_int x t y u prog w _ _ ?_)
        exact PySem.W.kat_go (fun e1 => absurd (by simpa using e1) e) (fun _ => PySem.W.kat_no (TS.oneLt_ints _ ⟨rfl, rfl⟩))
theorem rows_sortableO {a : Addr} {vs : List Value} {k : Value → Int × List Key} (h0 : 0 < vs.length) (hp : ∀ v ∈ vs, IsRow s.heap v (rowK (k v))) (hs : ∀ v ∈ vs, ∀ u ∈ vs, SameK (k v).2 (k u).2) (ha : ∀ o, s.heap.get? a = some o → o.cls ≠ .type "tuple") : SrtO.SortableO prog w A s a vs fun v u => lexK (rowK (k v)) (rowK (k u)) := by
  intro h' keep
  have hp' : ∀ v ∈ vs, IsRow h' v (rowK (k v)) := fun v hm => (hp v hm).keeps fun b o e c => keep b o (fun z => by subst z; exact ha o e c) e
  obtain ⟨fs, h1, h2, h3⟩ := firsts_row hp'
  refine ⟨tuples' true, fun Q E hq => ?_, row_cmp (s := { s with heap := h' }) hp' hs⟩
  refine PySem.W.kat_kind (T := .type "int") h1 (by omega) (fun f hm => ?_) (by rfl) ?_
  · obtain ⟨x, t, rfl⟩ := h3 f hm
    exact PySem.W.Looks.now
  · have e : (Value.type "int" != Value.type "tuple") = true := by decide +kernel
    rw [e]
    exact hq
theorem sorted_rowsO {l : Addr} {vs : List Value} {k : Value → Int × List Key} {Q : Value → Shared → Prop} (hl : s.heap.IsList l vs.toArray) (hz : vs.length ≤ sizeLine) (hp : ∀ v ∈ vs, IsRow s.heap v (rowK (k v))) (hs : ∀ v ∈ vs, ∀ u ∈ vs, SameK (k v).2 (k u).2)
    (h : ∀ (h' : Heap) (d : Addr) (out : List Value), SrtO.Srtd (fun v u => lexK (rowK (k v)) (rowK (k u))) out → out.Perm vs → (∀ b o, s.heap.get? b = some o → h'.get? b = some o) → s.heap.objs.size ≤ d → (∃ n, h'.get? d = some (seqObj "list" out.toArray n)) → Q (.ref d) { s with heap := h' }) :
    wpAny (model prog w) A (call (.builtin "sorted") [.ref l]) Q E s := by
  refine SrtO.sorted_ord (swo_lexK fun v => rowK (k v)) hl hz (fun h2 h₁ a ha kk => ?_) fun out hs' hb => ?_
  · refine rows_sortableO (s := { s with heap := h₁ }) (by omega) (fun v hm => (hp v hm).keeps fun b o e _ => (kk b o e).2) hs fun o e => ?_
    have e' : some o = some (seqObj "list" vs.toArray 0) := e.symm.trans ha
    cases e'
    intro c
    exact absurd (Value.type.inj c) (by decide)
  · exact h _ _ out hs' hb.perm (fun b o e => sortedAll_old e) (Nat.le_succ _) (sortedAll_at s.heap vs out.toArray)
end
/-- sorted(xs): a new list of the same tuples, in order -/
def rSortedO (K : PySem.W.Frag) : List V → Hp → VK → Prop := fun vs H Q => ∃ a xs, ∃ k : V → Int × List Key, vs = [V.ref a] ∧ SqL K H a xs ∧ (∀ x ∈ xs, ∃ t, x = V.ref t ∧ H t = some (.tup ((rowK (k x)).map kV))) ∧ (∀ x ∈ xs, ∀ y ∈ xs, SameK (k x).2 (k y).2) ∧
  ∀ ys p, ys.Pairwise (fun x y => lexK (rowK (k y)) (rowK (k x)) = false) → ys.Perm xs → H p = none → Q (.ref p) (upd H p (.lst ys))
section
variable {X : Cx}
theorem cr_sortedO : CallR X (.builtin "sorted") (rSortedO X.K) := by
  intro pins s σ H vs us Q I r h
  obtain ⟨a, xs, k, rfl, hs, hx, hk, q⟩ := h
  obtain ⟨its, rv, hl, hz⟩ := I.list hs
  obtain ⟨u, rfl, ru⟩ := vals1 r
  obtain rfl : u = Value.ref a := ru
  obtain ⟨e1, e2⟩ := refs_back rv fun x m => by
    obtain ⟨t, e, _⟩ := hx x m
    exact ⟨t, e⟩
  have inx : ∀ v ∈ its, backV v ∈ xs := fun v hv => by rw [e1]; exact List.mem_map.mpr ⟨_, hv, rfl⟩
  refine sorted_rowsO (k := fun u => k (backV u)) hl.isList (by rw [← rv.length]; exact hz) (fun v hv => ?_) (fun v hv u hu => hk _ (inx v hv) _ (inx u hu)) fun h' d out hsr hp k' hd hn => ?_
  · obtain ⟨t, rfl⟩ := e2 v hv
    obtain ⟨t', e, ht⟩ := hx _ (inx _ hv)
    cases e
    obtain ⟨_, its2, r2, o, ho, hc, n, hd⟩ := I.hok _ _ ht
    exact ⟨t, o, its2, n, rfl, ho, hc, hd, r2⟩
  · have h3 : ∀ u ∈ out, ∃ a, u = Value.ref a := fun u hu => e2 u (hp.mem_iff.mp hu)
    obtain ⟨n, hn⟩ := hn
    refine ⟨.ref d, upd H d (.lst (out.map backV)), I.laid (t' := s.toks) k' hd ⟨?_, out, n, vals_back h3, hn⟩, rfl, q _ d ?_ ?_ (I.hok.fresh hd)⟩
    · rw [List.length_map, hp.length_eq, ← rv.length]; exact hz
    · exact List.pairwise_map.mpr hsr
    · rw [e1]; exact hp.map backV
end
end Nm
set_option autoImplicit true
set_option maxRecDepth 100000
set_option maxHeartbeats 4000000
namespace Nm
open PySem L2
/-- ints that are places -/
abbrev natV (l : List Nat) : List V := l.map fun (i : Nat) => V.int (i : Int)
/-- the keys of a dict of ties, each by its own tuple -/
def KeyL (H : Hp) (kvs : List (List Key × V)) (ys : List V) : Prop := ∀ y ∈ ys, ∃ b k v, y = V.ref b ∧ H b = some (.tup (List.map kV k)) ∧ (k, v) ∈ kvs
theorem KeyL.same {H H' : Hp} {kvs : List (List Key × V)} {ys : List V} (h : KeyL H kvs ys) (e : Same H H') : KeyL H' kvs ys := fun y hy => by
  obtain ⟨b, k, v, a1, a2, a3⟩ := h y hy
  exact ⟨b, k, v, a1, e _ _ a2, a3⟩
theorem KeyL.kp {H H' : Hp} {kvs : List (List Key × V)} {ys : List V} {s c : Addr} (h : KeyL H kvs ys) (S : Src H s c) (e : Kp s c H H') : KeyL H' kvs ys := fun y hy => by
  obtain ⟨b, k, v, a1, a2, a3⟩ := h y hy
  obtain ⟨cs, l, m, tt, S⟩ := S
  exact ⟨b, k, v, a1, e _ _ a2 (ne_of a2 S.ds (by intro z; cases z)) (ne_of a2 S.dc (by intro z; cases z)), a3⟩
theorem KeyL.put {H : Hp} {kvs : List (List Key × V)} {ys : List V} {t : Addr} {o u : HO} (h : KeyL H kvs ys) (e : H t = some u) (hu : ∀ zs, u ≠ .tup zs) : KeyL (upd H t o) kvs ys := fun y hy => by
  obtain ⟨b, k, v, a1, a2, a3⟩ := h y hy
  refine ⟨b, k, v, a1, ?_, a3⟩
  rw [upd_ne (ne_of a2 e (fun z => hu _ z.symm))]
  exact a2
theorem keyL_of {H : Hp} : ∀ {kvs : List (List Key × V)} {bs : List Addr}, IsKeys H kvs bs → KeyL H kvs (bs.map V.ref) ∧ bs.length = kvs.length
  | _, _, .nil => ⟨fun y hy => (List.not_mem_nil hy).elim, rfl⟩
  | _, _, .cons (a := kv) (b := b) h t => by
    obtain ⟨i1, i2⟩ := keyL_of t
    refine ⟨fun y hy => ?_, by simp [i2]⟩
    rcases List.mem_cons.mp hy with e | e
    · exact ⟨b, kv.1, kv.2, e, h, List.mem_cons_self⟩
    · obtain ⟨b', k, v, a1, a2, a3⟩ := i1 y e
      exact ⟨b', k, v, a1, a2, List.mem_cons_of_mem _ a3⟩
theorem keyL_all {H : Hp} : ∀ {kvs : List (List Key × V)} {bs : List Addr}, IsKeys H kvs bs → ∀ kv ∈ kvs, ∃ b ∈ bs, H b = some (.tup (List.map kV kv.1))
  | _, _, .nil => fun kv h => (List.not_mem_nil h).elim
  | _, _, .cons (b := b) h t => fun kv hm => by
    rcases List.mem_cons.mp hm with e | e
    · subst e
      exact ⟨b, List.mem_cons_self, h⟩
    · obtain ⟨b', h1, h2⟩ := keyL_all t kv e
      exact ⟨b', List.mem_cons_of_mem _ h1, h2⟩
/-- what the tuple at a reference holds, as a row -/
def rowAt (H : Hp) : V → Int × List Key
  | .ref b => (match H b with
    | some (.tup [.int i, .int j, .str kd]) => (i, [Sum.inl j, Sum.inr kd])
    | _ => (0, []))
  | _ => (0, [])
theorem rowAt_of {H : Hp} {b : Addr} {i j : Int} {kd : Str} (h : H b = some (.tup [.int i, .int j, .str kd])) : rowAt H (.ref b) = (i, [Sum.inl j, Sum.inr kd]) := by
  show (match H b with
    | some (.tup [.int i, .int j, .str kd]) => (i, [Sum.inl j, Sum.inr kd])
    | _ => (0, [])) = _
  rw [h]
theorem KeyL.tie {H : Hp} {n m : Nat} {kvs : List (List Key × V)} {ys : List V} (h : KeyL H kvs ys) (T : Ties n m kvs) {y : V} (hy : y ∈ ys) : ∃ (b : Addr) (i j x : Nat) (kd : Str), y = V.ref b ∧ H b = some (.tup [.int (i : Int), .int (j : Int), .str kd]) ∧ ([Sum.inl (i : Int), Sum.inl (j : Int), Sum.inr kd], V.int (x : Int)) ∈ kvs ∧ i < j ∧ j < n ∧ isWordB kd = true ∧ 1 ≤ x ∧ x ≤ m := by
  obtain ⟨b, k, v, a1, a2, a3⟩ := h y hy
  obtain ⟨i, j, kd, e, h1, h2, h3⟩ := T.key _ a3
  obtain ⟨x, e2, h4, h5⟩ := T.val _ a3
  have e' : k = [Sum.inl (i : Int), Sum.inl (j : Int), Sum.inr kd] := e
  have e2' : v = V.int (x : Int) := e2
  subst e' e2'
  exact ⟨b, i, j, x, kd, a1, a2, a3, h1, h2, h3, h4, h5⟩
theorem sort_ties {H : Hp} {n m : Nat} {kvs : List (List Key × V)} {ys : List V} (h : KeyL H kvs ys) (T : Ties n m kvs) : (∀ x ∈ ys, ∃ t, x = V.ref t ∧ H t = some (.tup (V.int (rowAt H x).1 :: (rowAt H x).2.map kV))) ∧ (∀ x ∈ ys, ∀ y ∈ ys, SameK (rowAt H x).2 (rowAt H y).2) := by
  constructor
  · intro y hy
    obtain ⟨b, i, j, x, kd, e, hb, _⟩ := h.tie T hy
    subst e
    refine ⟨b, rfl, ?_⟩
    rw [rowAt_of hb]
    exact hb
  · intro y hy z hz
    obtain ⟨b, i, j, x, kd, e, hb, _⟩ := h.tie T hy
    obtain ⟨b', i', j', x', kd', e', hb', _⟩ := h.tie T hz
    subst e e'
    rw [rowAt_of hb, rowAt_of hb']
    exact .int (.str .nil)
theorem row_key {H : Hp} {n m : Nat} : ∀ {kvs : List (List Key × V)} {bs : List Addr}, IsKeys H kvs bs → (∀ kv ∈ kvs, TieK n kv.1) → (bs.map V.ref).map (fun y => rowK (rowAt H y)) = kvs.map (·.1)
  | _, _, .nil, _ => rfl
  | _, _, .cons (a := kv) (b := b) h t, hk => by
    rw [List.map_cons, List.map_cons, List.map_cons, row_key (n := n) (m := m) t fun kv hm => hk kv (List.mem_cons_of_mem _ hm)]
    obtain ⟨i, j, kd, e, _⟩ := hk kv List.mem_cons_self
    rw [e] at h
    congr 1
    rw [rowAt_of h, e]
    rfl
theorem isKeys_same {H H' : Hp} {kvs : List (List Key × V)} {bs : List Addr} (h : IsKeys H kvs bs) (e : Same H H') : IsKeys H' kvs bs := Paired.mapP h fun _ _ z => e _ _ z
/-- one tie of the parts: what has the number of its far end gets that of its near end -/
def stepP (ps : List Nat) (k : List Key) : List Nat := match k with
  | [Sum.inl i, Sum.inl j, Sum.inr _] => ps.map fun z => if z = (ps[j.toNat]?).getD 0 then (ps[i.toNat]?).getD 0 else z
  | _ => ps
def PartsRel (n : Nat) (kvs : List (List Key × V)) (ps : List Nat) : Prop := ∃ ks : List (List Key), ks.Pairwise (fun x y => lexK y x = false) ∧ ks.Perm (kvs.map (·.1)) ∧ ps = ks.foldl stepP (List.range n)
theorem PartsRel.one {n : Nat} {kvs : List (List Key × V)} {ps qs : List Nat} (h1 : PartsRel n kvs ps) (h2 : PartsRel n kvs qs) : ps = qs := by
  obtain ⟨ks, a1, a2, a3⟩ := h1
  obtain ⟨ks', b1, b2, b3⟩ := h2
  rw [a3, b3, sorted_one a1 b1 (a2.trans b2.symm)]
theorem rgV_nat (n : Nat) : rgV 0 (n : Int) = natV (List.range n) := by
  unfold rgV natV
  have e : ((n : Int) - 0).toNat = n := by omega
  rw [e]
  refine List.map_congr_left fun i _ => ?_
  rw [Int.zero_add]
structure TxtC (mg : Str → Option Value) : Prop extends TxtB mg where
  sorted : mg "sorted" = none
section
variable {P : Program} {w : World} {K : PySem.W.Frag} {mg : Str → Option Value} {base : Heap}
/-! ### _law_parts -/
def spParts : Sp := fun vs H Q _ => ∃ (wd a b t : Addr) (xs : List V) (m : Nat) (kvs : List (List Key × V)), vs = [.ref wd] ∧ H wd = some (.dK (worldD a b t)) ∧ H a = some (.lst xs) ∧ H t = some (.dT kvs) ∧ xs.length ≤ 1000 ∧ kvs.length ≤ 10000 ∧ Ties xs.length m kvs ∧
  ∀ (p : Addr) (ps : List Nat) (H' : Hp), H p = none → H' p = some (.lst (natV ps)) → ps.length = xs.length → (∀ x ∈ ps, x < xs.length) → (∀ (i j : Nat) (kd : Str) (v : V), ([Sum.inl (i : Int), Sum.inl (j : Int), Sum.inr kd], v) ∈ kvs → ps[i]? = ps[j]?) → PartsRel xs.length kvs ps → Same H H' → Q (.ref p) H'
abbrev nParts : List Str := ["_law_world", "_law_found", "_law_one", "_law_other", "_law_kind", "_law_kept", "_law_gone", "_law_number"]
theorem scParts : FnScope nParts ["_law_world"] (defScope sParts) := ⟨rfl, rfl, rfl, by decide +kernel, rfl, by decide +kernel, by decide +kernel⟩
theorem ok_parts {f : Addr} {fd : FuncData} (F : Fun K "_law_parts" "_law_parts" sParts f fd) (T : TxtC mg) : FnOk P w K mg base CX0 1 f fd ["_law_world"] spParts := by
  refine F.ok scParts (fun vs H Q E h => ?_) (fun cdv A outer s H vs Q E hr h => ?_)
  · obtain ⟨wd, a, b, t, xs, m, kvs, rfl, _⟩ := h
    rfl
  · obtain ⟨wd, a, b, t, xs, m, kvs, rfl, hwd, ha, ht, hxl, hkl, ti, k⟩ := h
    have hu := hu_of hr
    refine ⟨_, Evl.pss_cut (ps_set (i := 1) scParts.nd rfl (Or.inl rfl) (pe_listRg rfl (by rfl) T.list (prg_1 (by rfl) T.range (pe_callB call_len_seq (by rfl) T.len PySem.boot_len (pa_cons (pe_dget hu (pv 0) pe_str (fun _ _ => rfl)) pa_nil)))))
      (pss_cons (ps_for PassesOwn.never rfl (pi_list (pe_callB cr_sortedO (by rfl) T.sorted (by decide +kernel) (pa_cons (pe_callTy (call_list_dT rfl) (by rfl) T.list (by decide +kernel) (pa_cons (pe_dget hu (pv 0) pe_str (fun _ _ => rfl)) pa_nil)) pa_nil)))
          (pg_tup rfl (pgs_cons (pg_name (i := 2) scParts.nd rfl (.inl rfl)) (pgs_cons (pg_name (i := 3) scParts.nd rfl (.inl rfl)) (pgs_cons (pg_name (i := 4) scParts.nd rfl (.inl rfl)) pgs_nil))))
        (pss_cons (ps_asg (pe_tup (pa_cons (pe_ix ix_list (pv 1) (pv 2) (fun _ _ => rfl)) (pa_cons (pe_ix ix_list (pv 1) (pv 3) (fun _ _ => rfl)) pa_nil))) (pg_tup rfl (pgs_cons (pg_name (i := 5) scParts.nd rfl (.inr rfl)) (pgs_cons (pg_name (i := 6) scParts.nd rfl (.inr rfl)) pgs_nil))))
        (pss_one (ps_setLc (i := 1) (own := [("_law_number", 7)]) (g := gName 7) (tt := tYes) rfl scParts.nd rfl rfl (sw_true rfl rfl rfl (by decide +kernel)) (pi_list (pv 1))
          (blkOk_by (N := nParts) (sc := defScope sParts) (by decide +kernel)) (fun _ _ _ _ _ => pg_name (i := 7) scParts.nd rfl (Or.inl rfl)) (fun _ _ _ _ _ => pts_nil)
          (fun _ _ _ _ _ => pe_ifExp (pt_cmpR op_eq (pv 7) (pv 6) (nomark _)) (pv 5) (pv 7))))))
      (pss_one (ps_ret (pv 1)))), ?_⟩
    refine ⟨fun σ H1 => ∃ q, σ = [some (.ref wd), some (.ref q), none, none, none, none, none, none] ∧ H q = none ∧ H1 q = some (.lst (natV (List.range xs.length))) ∧ Same H H1, ?_, ?_⟩
    · refine ⟨_, rfl, wd, _, rfl, dg_names hwd, a, _, rfl, .inl (SqL.of ha), _, rfl, ?_⟩
      refine ⟨RgOk.of_le (by omega) (by omega) (by omega) (by omega), fun q hq => ⟨q, rfl, hq, by rw [upd_same, rgV_nat], same_new hq⟩⟩
    rintro σ H1 ⟨q, rfl, hq0, hq, s1⟩
    refine ⟨_, rfl, wd, _, rfl, dg_ties (s1 _ _ hwd), t, kvs, rfl, .inl (s1 _ _ ht), fun l bs hl hk => ?_⟩
    obtain ⟨kl, hbl⟩ := keyL_of hk
    have kl2 := kl.same (same_new (o := .lst (bs.map V.ref)) hl)
    obtain ⟨so1, so2⟩ := sort_ties kl2 ti
    refine ⟨l, _, _, rfl, SqL.of upd_same, so1, so2, fun ys p srt pm hp => ?_⟩
    have pk : (ys.map fun y => rowK (rowAt (upd H1 l (.lst (bs.map V.ref))) y)).Perm (kvs.map (·.1)) := by
      rw [← row_key (m := m) (isKeys_same hk (same_new (o := .lst (bs.map V.ref)) hl)) ti.key]
      exact pm.map _
    have sk : (ys.map fun y => rowK (rowAt (upd H1 l (.lst (bs.map V.ref))) y)).Pairwise (fun x y => lexK y x = false) := List.pairwise_map.mpr srt
    have rows : ∀ (b : Addr) (i j : Nat) (kd : Str), (upd H1 l (.lst (bs.map V.ref))) b = some (.tup [.int (i : Int), .int (j : Int), .str kd]) → rowK (rowAt (upd H1 l (.lst (bs.map V.ref))) (.ref b)) = [Sum.inl (i : Int), Sum.inl (j : Int), Sum.inr kd] := fun b i j kd h => by
      rw [rowAt_of h]
      rfl
    have rows2 : ∀ y ∈ ys, ∃ (b : Addr) (i j x : Nat) (kd : Str), y = V.ref b ∧ (upd H1 l (.lst (bs.map V.ref))) b = some (.tup [.int (i : Int), .int (j : Int), .str kd]) ∧ ([Sum.inl (i : Int), Sum.inl (j : Int), Sum.inr kd], V.int (x : Int)) ∈ kvs ∧ i < j ∧ j < xs.length := fun y hy => by
      obtain ⟨b, i, j, x, kd, e, hb, hm, h1, h2, _⟩ := kl2.tie ti (pm.subset hy)
      exact ⟨b, i, j, x, kd, e, hb, hm, h1, h2⟩
    generalize hks : (ys.map fun y => rowK (rowAt (upd H1 l (.lst (bs.map V.ref))) y)) = ks at *
    have hkat : ∀ (i : Nat) (b : Addr) (i1 j1 : Nat) (kd : Str), ys[i]? = some (.ref b) → (upd H1 l (.lst (bs.map V.ref))) b = some (.tup [.int (i1 : Int), .int (j1 : Int), .str kd]) → ks[i]? = some [Sum.inl (i1 : Int), Sum.inl (j1 : Int), Sum.inr kd] := fun i b i1 j1 kd h1 h2 => by
      rw [← hks, List.getElem?_map, h1]
      exact congrArg some (rows b i1 j1 kd h2)
    have hkl2 : ks.length = ys.length := by rw [← hks, List.length_map]
    have sHs := same_new (o := .lst ys) hp
    have s2 := (same_new (o := .lst (bs.map V.ref)) hl).trans (same_new (o := .lst ys) hp)
    have kly : KeyL (upd (upd H1 l (.lst (bs.map V.ref))) p (.lst ys)) kvs ys := fun y hy => (kl.same s2) y (pm.subset hy)
    have hpp : (upd (upd H1 l (.lst (bs.map V.ref))) p (.lst ys)) p = some (.lst ys) := upd_same
    have hq2 := s2 _ _ hq
    have s02 := s1.trans s2
    have hyl : ys.length ≤ 10000 := by rw [pm.length_eq, List.length_map]; omega
    have hks2 := hkat
    refine ⟨p, rfl, ⟨_, SqL.of hpp⟩, ?_⟩
    generalize hH2 : upd (upd H1 l (.lst (bs.map V.ref))) p (.lst ys) = H2 at *
    refine for_list (xs := ys) (fun i σ H3 => ∃ q ps v2 v3 v4 v5 v6, σ = [some (.ref wd), some (.ref q), v2, v3, v4, v5, v6, none] ∧ H q = none ∧ H3 q = some (.lst (natV ps)) ∧ ps.length = xs.length ∧ (∀ x ∈ ps, x < xs.length) ∧ ps = (ks.take i).foldl stepP (List.range xs.length) ∧ Same H2 H3 ∧
        (∀ y ∈ ys.take i, ∀ (b : Addr) (i1 j1 : Nat) (kd : Str), y = .ref b → H2 b = some (.tup [.int (i1 : Int), .int (j1 : Int), .str kd]) → ps[i1]? = ps[j1]?))
      ⟨q, List.range xs.length, none, none, none, none, none, rfl, hq0, hq2, by simp, fun x hx => List.mem_range.mp hx, rfl, Same.refl _, fun y hy => by simp at hy⟩ (fun i σ H3 _ ⟨_, _, _, _, _, _, _, _, _, _, _, _, _, sm, _⟩ => SqL.of (sm _ _ hpp)) ?_ ?_
    · rintro i y σ H3 hi ⟨q, ps, v2, v3, v4, v5, v6, rfl, hq0, hq3, hpl, hpn, hpf, s3, hdone⟩
      obtain ⟨b1, i1, j1, x1, kd1, rfl, hb1, hmem, hij, hjn, _, _, _⟩ := kly.tie ti (List.mem_of_getElem? hi)
      have hb3 := s3 _ _ hb1
      have hbs1 : (upd H1 l (.lst (bs.map V.ref))) b1 = some (.tup [.int (i1 : Int), .int (j1 : Int), .str kd1]) := by
        obtain ⟨b', i', j', x', kd', e', hb', _⟩ := rows2 _ (List.mem_of_getElem? hi)
        cases e'
        have := sHs _ _ hb'
        rw [hb1] at this
        rw [hb', ← Option.some.inj this]
      obtain ⟨u, hu1⟩ : ∃ u, ps[i1]? = some u := ⟨_, List.getElem?_eq_getElem (by omega)⟩
      obtain ⟨v, hv1⟩ : ∃ v, ps[j1]? = some v := ⟨_, List.getElem?_eq_getElem (by omega)⟩
      refine ⟨b1, _, rfl, SqT.of hb3, rfl, _, _, rfl, _, _, rfl, _, _, rfl, rfl, ?_⟩
      refine ⟨_, rfl, _, rfl, q, _, _, V.int (u : Int), rfl, rfl, SqL.of hq3, atI_nat (by rw [List.getElem?_map, hu1]; rfl), _, rfl, _, rfl, q, _, _, V.int (v : Int), rfl, rfl, SqL.of hq3, atI_nat (by rw [List.getElem?_map, hv1]; rfl), (by show 2 ≤ sizeLine; decide), fun tt htt => ?_⟩
      refine ⟨tt, _, rfl, SqT.of upd_same, rfl, _, _, rfl, _, _, rfl, rfl, ?_⟩
      have s4 := same_new (o := .tup [V.int (u : Int), V.int (v : Int)]) htt
      refine ⟨_, rfl, q, rfl, ⟨_, SqL.of (s4 _ _ hq3)⟩, fun D hD => ?_⟩
      have hD3 : H3 D = none := s4.free hD
      have hD0 : H D = none := (s02.trans s3).free hD3
      refine lc_list (xs := natV ps) (fun j H4 => H4 D = some (.lst (natV ((ps.map fun z => if z = v then u else z).take j))) ∧ Same H3 H4) ⟨upd_same, s4.trans (same_new hD)⟩ (fun j H4 _ h => SqL.of (h.2 _ _ hq3)) ?_ ?_
      · rintro j z H4 hj ⟨hD4, s5⟩
        have hjl := (List.getElem?_eq_some_iff.mp hj).1
        rw [List.length_map] at hjl
        rw [List.getElem?_map] at hj
        obtain ⟨z0, hz0, rfl⟩ := Option.map_eq_some_iff.mp hj
        refine ⟨rfl, tyes ?_⟩
        have tk : natV ((ps.map fun z => if z = v then u else z).take (j + 1)) = natV ((ps.map fun z => if z = v then u else z).take j) ++ [V.int ((if z0 = v then u else z0 : Nat) : Int)] := by
          have e : (ps.map fun z => if z = v then u else z)[j]? = some (if z0 = v then u else z0) := by rw [List.getElem?_map, hz0]; rfl
          rw [List.take_add_one, e]
          unfold natV
          rw [List.map_append]
          rfl
        have fin : ∀ y, y = V.int ((if z0 = v then u else z0 : Nat) : Int) → ∃ acc, H4 D = some (.lst acc) ∧ acc.length < sizeLine ∧ (upd H4 D (.lst (acc ++ [y]))) D = some (.lst (natV ((ps.map fun z => if z = v then u else z).take (j + 1)))) ∧ Same H3 (upd H4 D (.lst (acc ++ [y]))) := fun y hy => by
          refine ⟨_, hD4, Evl.sz_lt (by rw [List.length_map, List.length_take, List.length_map]; omega), by rw [upd_same, tk, hy], fun b o e => ?_⟩
          rw [upd_ne (ne_of_none e hD3)]
          exact s5 b o e
        refine ⟨_, rfl, _, rfl, rfl, _, rfl, ?_⟩
        refine ite2 (fun h => ?_) (fun h => ?_)
        · refine ⟨_, rfl, fin _ ?_⟩
          have : (V.int (z0 : Int)) = V.int (v : Int) := of_decide_eq_true h
          injection this with this
          rw [if_pos (by omega)]
        · refine ⟨_, rfl, fin _ ?_⟩
          have : ¬ (V.int (z0 : Int)) = V.int (v : Int) := of_decide_eq_false (Bool.eq_false_iff.mpr h)
          rw [if_neg (fun e => this (by rw [e]))]
      · rintro H4 ⟨hD4, s5⟩
        rw [List.length_map] at hD4
        rw [List.take_of_length_le (by simp)] at hD4
        refine ⟨D, ps.map fun z => if z = v then u else z, _, _, _, _, _, rfl, hD0, hD4, by simp [hpl], ?_, ?_, s3.trans s5, ?_⟩
        · intro x hx
          obtain ⟨z, hz, rfl⟩ := List.mem_map.mp hx
          split
          · exact hpn u (List.mem_of_getElem? hu1)
          · exact hpn z hz
        · rw [List.take_add_one, hkat i b1 i1 j1 kd1 hi hbs1, List.foldl_append, ← hpf]
          show _ = ps.map fun z => if z = (ps[(j1 : Int).toNat]?).getD 0 then (ps[(i1 : Int).toNat]?).getD 0 else z
          rw [Int.toNat_natCast, Int.toNat_natCast, hu1, hv1]
          rfl
        · intro y hy b i2 j2 kd2 e hb2
          rw [List.getElem?_map, List.getElem?_map]
          rw [List.take_add_one, hi] at hy
          rcases List.mem_append.mp hy with z | z
          · rw [hdone y z b i2 j2 kd2 e hb2]
          · have z' : y = V.ref b1 := by simpa using z
            rw [z'] at e
            cases e
            rw [hb1] at hb2
            injection hb2 with hb2
            injection hb2 with hb2
            simp at hb2
            obtain ⟨e1, e2, _⟩ := hb2
            have e1' : i1 = i2 := by omega
            have e2' : j1 = j2 := by omega
            subst e1' e2'
            rw [hu1, hv1]
            show some (if u = v then u else u) = some (if v = v then u else v)
            simp
    · rintro σ H3 ⟨q, ps, v2, v3, v4, v5, v6, rfl, hq0, hq3, hpl, hpn, hpf, s3, hdone⟩
      refine ⟨_, rfl, k q ps H3 hq0 hq3 hpl hpn ?_ ⟨ks, sk, pk, by rw [hpf, List.take_of_length_le (by omega)]⟩ (s02.trans s3)⟩
      intro i j kd v hm
      rw [List.take_of_length_le (Nat.le_refl _)] at hdone
      have hex : ∃ b, V.ref b ∈ ys ∧ H2 b = some (.tup [.int (i : Int), .int (j : Int), .str kd]) := by
        obtain ⟨b, hb, hb1⟩ := keyL_all hk _ hm
        exact ⟨b, pm.mem_iff.mpr (List.mem_map.mpr ⟨b, hb, rfl⟩), s2 _ _ hb1⟩
      obtain ⟨b, hb, hb2⟩ := hex
      exact hdone _ hb b i j kd rfl hb2
end
end Nm
set_option autoImplicit true
set_option maxRecDepth 100000
set_option maxHeartbeats 4000000
/-! how wide all ties of a world are together -/
namespace Nm
open PySem L2
def wOf : V → Nat
  | .int i => i.toNat
  | _ => 0
def totW (kvs : List (List Key × V)) : Nat := (kvs.map fun kv => wOf kv.2).sum
theorem tot_map {k : List Key} {v : V} : ∀ {kvs : List (List Key × V)} {y : V}, (kvs.map (·.1)).Nodup → valV kvs k = some y → totW (kvs.map fun kv => if kv.1 = k then (kv.1, v) else kv) + wOf y = totW kvs + wOf v
  | [], _, _, h => by rw [valV_nil] at h; cases h
  | p :: r, y, nd, h => by
    rw [List.map_cons, List.nodup_cons] at nd
    by_cases e : p.1 = k
    · rw [valV_pos e] at h
      have h : p.2 = y := Option.some.inj h
      have stay : (r.map fun kv => if kv.1 = k then (kv.1, v) else kv) = r := by
        have : (r.map fun kv => if kv.1 = k then (kv.1, v) else kv) = r.map id := by
          refine List.map_congr_left fun kv hm => ?_
          rw [if_neg (fun z => nd.1 (List.mem_map.mpr ⟨kv, hm, z.trans e.symm⟩))]
          rfl
        rw [this, List.map_id]
      rw [List.map_cons, if_pos e, stay]
      show wOf v + totW r + wOf y = wOf p.2 + totW r + wOf v
      rw [h]
      omega
    · rw [valV_neg e] at h
      have ih := tot_map (v := v) nd.2 h
      rw [List.map_cons, if_neg e]
      show wOf p.2 + totW (r.map fun kv => if kv.1 = k then (kv.1, v) else kv) + wOf y = wOf p.2 + totW r + wOf v
      omega
theorem tot_put {kvs : List (List Key × V)} {k : List Key} (nd : (kvs.map (·.1)).Nodup) (v : V) : totW (putK kvs k v) + wOf ((valV kvs k).getD .non) = totW kvs + wOf v := by
  cases e : valV kvs k with
  | none =>
    rw [putK_new v e]
    unfold totW
    rw [List.map_append, List.sum_append]
    simp [wOf]
  | some y =>
    have h : (kvs.any fun kv => decide (kv.1 = k)) = true := by rw [valV_any, e]; rfl
    have e2 : putK kvs k v = kvs.map fun kv => if kv.1 = k then (kv.1, v) else kv := by
      unfold putK
      rw [if_pos h]
    rw [e2]
    exact tot_map nd e
theorem w_le_tot {kvs : List (List Key × V)} {kv : List Key × V} (h : kv ∈ kvs) : wOf kv.2 ≤ totW kvs := by
  induction kvs with
  | nil => cases h
  | cons p r ih =>
    have e : totW (p :: r) = wOf p.2 + totW r := rfl
    rcases List.mem_cons.mp h with z | z
    · rw [e, z]
      omega
    · have := ih z
      omega
theorem len_le_tot : ∀ {kvs : List (List Key × V)}, (∀ kv ∈ kvs, ∃ x : Nat, kv.2 = V.int (x : Int) ∧ 1 ≤ x) → kvs.length ≤ totW kvs
  | [], _ => Nat.le_refl _
  | p :: r, h => by
    have ih := len_le_tot (kvs := r) fun kv hm => h kv (List.mem_cons_of_mem _ hm)
    obtain ⟨x, e, h1⟩ := h p List.mem_cons_self
    have e2 : totW (p :: r) = wOf p.2 + totW r := rfl
    rw [e2, e, List.length_cons]
    show r.length + 1 ≤ (x : Int).toNat + totW r
    omega
theorem Ties.len {n m : Nat} {kvs : List (List Key × V)} (T : Ties n m kvs) : kvs.length ≤ totW kvs := len_le_tot fun kv hm => by
  obtain ⟨x, h1, h2, _⟩ := T.val kv hm
  exact ⟨x, h1, h2⟩
theorem tot_le_len {n m : Nat} : ∀ {kvs : List (List Key × V)}, Ties n m kvs → totW kvs ≤ m * kvs.length
  | [], _ => Nat.zero_le _
  | p :: r, T => by
    have ih := tot_le_len (kvs := r) (n := n) (m := m) ⟨fun kv hm => T.key kv (List.mem_cons_of_mem _ hm), fun kv hm => T.val kv (List.mem_cons_of_mem _ hm), (List.nodup_cons.mp (by simpa using T.nd)).2⟩
    obtain ⟨x, e, _, h2⟩ := T.val p List.mem_cons_self
    have e2 : totW (p :: r) = wOf p.2 + totW r := rfl
    rw [e2, e, List.length_cons, Nat.mul_succ]
    show (x : Int).toNat + totW r ≤ _
    omega
/-- the width of the tie whose key stands at a reference -/
def wtY (H : Hp) (kvs : List (List Key × V)) (y : V) : Nat := wOf ((valV kvs (rowK (rowAt H y))).getD .non)
theorem wtY_of {H : Hp} {n m : Nat} {kvs : List (List Key × V)} (T : Ties n m kvs) {b : Addr} {i j x : Nat} {kd : Str} (h : H b = some (.tup [.int (i : Int), .int (j : Int), .str kd])) (hm : ([Sum.inl (i : Int), Sum.inl (j : Int), Sum.inr kd], V.int (x : Int)) ∈ kvs) : wtY H kvs (.ref b) = x := by
  unfold wtY
  rw [rowAt_of h]
  show wOf ((valV kvs [Sum.inl (i : Int), Sum.inl (j : Int), Sum.inr kd]).getD .non) = x
  rw [val_of_mem T.nd hm]
  show (x : Int).toNat = x
  omega
theorem sum_keys {kvs : List (List Key × V)} (nd : (kvs.map (·.1)).Nodup) : ((kvs.map (·.1)).map fun k => wOf ((valV kvs k).getD .non)).sum = totW kvs := by
  unfold totW
  rw [List.map_map]
  congr 1
  refine List.map_congr_left fun kv hm => ?_
  show wOf ((valV kvs kv.1).getD .non) = wOf kv.2
  rw [val_of_mem (k := kv.1) (v := kv.2) nd hm]
  rfl
theorem sum_ys {H : Hp} {n m : Nat} {kvs : List (List Key × V)} {bs : List Addr} {ys : List V} (T : Ties n m kvs) (hk : IsKeys H kvs bs) (pm : ys.Perm (bs.map V.ref)) : (ys.map (wtY H kvs)).sum = totW kvs := by
  have e1 : (ys.map (wtY H kvs)).sum = ((bs.map V.ref).map (wtY H kvs)).sum := (pm.map _).sum_nat
  have e2 : (bs.map V.ref).map (wtY H kvs) = ((bs.map V.ref).map fun y => rowK (rowAt H y)).map fun k => wOf ((valV kvs k).getD .non) := by rw [List.map_map, List.map_map, List.map_map]; rfl
  rw [e1, e2, row_key (n := n) (m := m) hk T.key]
  exact sum_keys T.nd
theorem take_step {f : V → Nat} {ys : List V} {i : Nat} {y : V} (h : ys[i]? = some y) : ((ys.take (i + 1)).map f).sum = ((ys.take i).map f).sum + f y := by
  rw [List.take_add_one, h, List.map_append, List.sum_append]
  simp
theorem take_le {f : V → Nat} {ys : List V} (i : Nat) : ((ys.take i).map f).sum ≤ (ys.map f).sum := by
  have e : (ys.map f).sum = ((ys.take i).map f).sum + ((ys.drop i).map f).sum := by
    rw [← List.sum_append, ← List.map_append, List.take_append_drop]
  omega
end Nm
set_option autoImplicit true
set_option maxRecDepth 100000
set_option maxHeartbeats 4000000
/-! sums over the ties of a world, each as often as it is wide -/
namespace Nm
open PySem L2
def Sg (f : List Key → Nat) (kvs : List (List Key × V)) : Nat := (kvs.map fun kv => wOf kv.2 * f kv.1).sum
theorem Sg.nil (f : List Key → Nat) : Sg f [] = 0 := rfl
theorem Sg.cons (f : List Key → Nat) (kv : List Key × V) (r : List (List Key × V)) : Sg f (kv :: r) = wOf kv.2 * f kv.1 + Sg f r := rfl
theorem Sg.congr {f g : List Key → Nat} {kvs : List (List Key × V)} (h : ∀ kv ∈ kvs, f kv.1 = g kv.1) : Sg f kvs = Sg g kvs := by
  unfold Sg
  congr 1
  exact List.map_congr_left fun kv hm => by rw [h kv hm]
theorem Sg.perm {f : List Key → Nat} {a b : List (List Key × V)} (h : a.Perm b) : Sg f a = Sg f b := (h.map _).sum_nat
theorem sg_map {f : List Key → Nat} {k : List Key} {v : V} : ∀ {kvs : List (List Key × V)} {y : V}, (kvs.map (·.1)).Nodup → valV kvs k = some y → Sg f (kvs.map fun kv => if kv.1 = k then (kv.1, v) else kv) + wOf y * f k = Sg f kvs + wOf v * f k
  | [], _, _, h => by rw [valV_nil] at h; cases h
  | p :: r, y, nd, h => by
    rw [List.map_cons, List.nodup_cons] at nd
    by_cases e : p.1 = k
    · rw [valV_pos e] at h
      have h : p.2 = y := Option.some.inj h
      have stay : (r.map fun kv => if kv.1 = k then (kv.1, v) else kv) = r := by
        have : (r.map fun kv => if kv.1 = k then (kv.1, v) else kv) = r.map id := by
          refine List.map_congr_left fun kv hm => ?_
          rw [if_neg (fun z => nd.1 (List.mem_map.mpr ⟨kv, hm, z.trans e.symm⟩))]
          rfl
        rw [this, List.map_id]
      rw [List.map_cons, if_pos e, stay, Sg.cons, Sg.cons, h, e]
      show wOf v * f k + _ + _ = _
      omega
    · rw [valV_neg e] at h
      have ih := sg_map (f := f) (v := v) nd.2 h
      rw [List.map_cons, if_neg e, Sg.cons, Sg.cons]
      omega
theorem sg_put {f : List Key → Nat} {kvs : List (List Key × V)} {k : List Key} (nd : (kvs.map (·.1)).Nodup) (v : V) : Sg f (putK kvs k v) + wOf ((valV kvs k).getD .non) * f k = Sg f kvs + wOf v * f k := by
  cases e : valV kvs k with
  | none =>
    rw [putK_new v e]
    unfold Sg
    rw [List.map_append, List.sum_append]
    simp [wOf]
  | some y =>
    have h : (kvs.any fun kv => decide (kv.1 = k)) = true := by rw [valV_any, e]; rfl
    have e2 : putK kvs k v = kvs.map fun kv => if kv.1 = k then (kv.1, v) else kv := by
      unfold putK
      rw [if_pos h]
    rw [e2]
    exact sg_map nd e
/-- one more of a key -/
theorem sg_inc {f : List Key → Nat} {kvs : List (List Key × V)} {k : List Key} (nd : (kvs.map (·.1)).Nodup) {x : Nat} (h : (valV kvs k).getD (.int 0) = .int (x : Int)) : Sg f (putK kvs k (.int ((x + 1 : Nat) : Int))) = Sg f kvs + f k := by
  have e1 := sg_put (f := f) (k := k) nd (.int ((x + 1 : Nat) : Int))
  have e2 : wOf (V.int ((x + 1 : Nat) : Int)) = x + 1 := Int.toNat_natCast _
  have e3 : wOf ((valV kvs k).getD .non) = x := by
    cases e : valV kvs k with
    | none =>
      rw [e] at h
      have h : V.int 0 = V.int (x : Int) := h
      injection h with h
      have : x = 0 := by omega
      rw [this]
      rfl
    | some v =>
      rw [e] at h
      have h : v = V.int (x : Int) := h
      rw [h]
      exact Int.toNat_natCast x
  rw [e2, e3] at e1
  have : (x + 1) * f k = x * f k + f k := Nat.succ_mul _ _
  omega
/-- the key that stands at a reference -/
def keyY (H : Hp) (y : V) : List Key := rowK (rowAt H y)
theorem sg_keys {f : List Key → Nat} {kvs : List (List Key × V)} (nd : (kvs.map (·.1)).Nodup) : ((kvs.map (·.1)).map fun k => wOf ((valV kvs k).getD .non) * f k).sum = Sg f kvs := by
  unfold Sg
  rw [List.map_map]
  congr 1
  refine List.map_congr_left fun kv hm => ?_
  show wOf ((valV kvs kv.1).getD .non) * f kv.1 = wOf kv.2 * f kv.1
  rw [val_of_mem (k := kv.1) (v := kv.2) nd hm]
  rfl
theorem ys_keys {H : Hp} {n m : Nat} {kvs : List (List Key × V)} {bs : List Addr} {ys : List V} (T : Ties n m kvs) (hk : IsKeys H kvs bs) (pm : ys.Perm (bs.map V.ref)) : (ys.map (keyY H)).Perm (kvs.map (·.1)) := by
  rw [← row_key (n := n) (m := m) hk T.key]
  exact pm.map _
theorem sg_ys {H : Hp} {n m : Nat} {kvs : List (List Key × V)} {bs : List Addr} {ys : List V} (f : List Key → Nat) (T : Ties n m kvs) (hk : IsKeys H kvs bs) (pm : ys.Perm (bs.map V.ref)) : (ys.map fun y => wtY H kvs y * f (keyY H y)).sum = Sg f kvs := by
  have e2 : (ys.map fun y => wtY H kvs y * f (keyY H y)) = (ys.map (keyY H)).map fun k => wOf ((valV kvs k).getD .non) * f k := by rw [List.map_map]; rfl
  rw [e2, ((ys_keys T hk pm).map _).sum_nat]
  exact sg_keys T.nd
theorem ys_nodup {H : Hp} {n m : Nat} {kvs : List (List Key × V)} {bs : List Addr} {ys : List V} (T : Ties n m kvs) (hk : IsKeys H kvs bs) (pm : ys.Perm (bs.map V.ref)) : (ys.map (keyY H)).Nodup := (ys_keys T hk pm).nodup_iff.mpr T.nd
/-- where a place is led -/
def lf (led : List Nat) (x : Nat) : Nat := (led[x]?).getD 0
theorem lf_of {led : List Nat} {x p : Nat} (h : led[x]? = some p) : lf led x = p := by
  unfold lf
  rw [h]
  rfl
/-- what a tie of that kind gives a place: the number of its other end's -/
def tieC (h : Nat → Nat) (x : Nat) (kd : Str) : List Key → Nat
  | [Sum.inl i, Sum.inl j, Sum.inr k] => if k = kd then (if i = (x : Int) then h j.toNat else 0) + (if j = (x : Int) then h i.toNat else 0) else 0
  | _ => 0
theorem tieC_nat (h : Nat → Nat) (x : Nat) (kd k : Str) (i j : Nat) : tieC h x kd [Sum.inl (i : Int), Sum.inl (j : Int), Sum.inr k] = if k = kd then (if i = x then h j else 0) + (if j = x then h i else 0) else 0 := by
  show (if k = kd then (if (i : Int) = (x : Int) then h (j : Int).toNat else 0) + (if (j : Int) = (x : Int) then h (i : Int).toNat else 0) else 0) = _
  simp only [Int.toNat_natCast, Int.natCast_inj]
theorem tieC_swap (h : Nat → Nat) (x : Nat) (kd k : Str) (i j : Nat) : tieC h x kd [Sum.inl (i : Int), Sum.inl (j : Int), Sum.inr k] = tieC h x kd [Sum.inl (j : Int), Sum.inl (i : Int), Sum.inr k] := by
  rw [tieC_nat, tieC_nat, Nat.add_comm]
theorem two_perm {n0 n1 u1 u2 : Nat} (h : [(n0 : Int), (n1 : Int)].Perm [(u1 : Int), (u2 : Int)]) : (n0 = u1 ∧ n1 = u2) ∨ (n0 = u2 ∧ n1 = u1) := by
  have h0 := h.mem_iff.mp (show (n0 : Int) ∈ [(n0 : Int), (n1 : Int)] by simp)
  have h1 := h.mem_iff.mp (show (n1 : Int) ∈ [(n0 : Int), (n1 : Int)] by simp)
  have h2 := h.mem_iff.mpr (show (u1 : Int) ∈ [(u1 : Int), (u2 : Int)] by simp)
  have h3 := h.mem_iff.mpr (show (u2 : Int) ∈ [(u1 : Int), (u2 : Int)] by simp)
  simp at h0 h1 h2 h3
  omega
theorem tieC_perm {h : Nat → Nat} {x : Nat} {kd k : Str} {n0 n1 u1 u2 : Nat} (p : [(n0 : Int), (n1 : Int)].Perm [(u1 : Int), (u2 : Int)]) : tieC h x kd [Sum.inl (n0 : Int), Sum.inl (n1 : Int), Sum.inr k] = tieC h x kd [Sum.inl (u1 : Int), Sum.inl (u2 : Int), Sum.inr k] := by
  rcases two_perm p with ⟨rfl, rfl⟩ | ⟨rfl, rfl⟩
  · rfl
  · exact tieC_swap _ _ _ _ _ _
/-! ### keys by other numbers -/
def newK (s : Nat → Nat) : List Key → List Key
  | [Sum.inl i, Sum.inl j, Sum.inr k] => [Sum.inl ((min (s i.toNat) (s j.toNat) : Nat) : Int), Sum.inl ((max (s i.toNat) (s j.toNat) : Nat) : Int), Sum.inr k]
  | k => k
theorem newK_nat (s : Nat → Nat) (i j : Nat) (k : Str) : newK s [Sum.inl (i : Int), Sum.inl (j : Int), Sum.inr k] = [Sum.inl ((min (s i) (s j) : Nat) : Int), Sum.inl ((max (s i) (s j) : Nat) : Int), Sum.inr k] := rfl
theorem newK_perm {s : Nat → Nat} {n0 n1 i j : Nat} {k : Str} (p : [(n0 : Int), (n1 : Int)].Perm [(s i : Int), (s j : Int)]) (h : n0 < n1) : newK s [Sum.inl (i : Int), Sum.inl (j : Int), Sum.inr k] = [Sum.inl (n0 : Int), Sum.inl (n1 : Int), Sum.inr k] := by
  rw [newK_nat]
  rcases two_perm p with ⟨rfl, rfl⟩ | ⟨rfl, rfl⟩
  · rw [Nat.min_eq_left (Nat.le_of_lt h), Nat.max_eq_right (Nat.le_of_lt h)]
  · rw [Nat.min_eq_right (Nat.le_of_lt h), Nat.max_eq_left (Nat.le_of_lt h)]
theorem newK_inj {s : Nat → Nat} {n : Nat} (si : ∀ x < n, ∀ y < n, s x = s y → x = y) {a b : List Key} (ha : TieK n a) (hb : TieK n b) (e : newK s a = newK s b) : a = b := by
  obtain ⟨i, j, k, rfl, h1, h2, _⟩ := ha
  obtain ⟨i', j', k', rfl, h1', h2', _⟩ := hb
  rw [newK_nat, newK_nat] at e
  have e1 := Sum.inl.inj (List.cons.inj e).1
  have e2 := Sum.inl.inj (List.cons.inj (List.cons.inj e).2).1
  have e3 := Sum.inr.inj (List.cons.inj (List.cons.inj (List.cons.inj e).2).2).1
  subst e3
  have q : (s i = s i' ∧ s j = s j') ∨ (s i = s j' ∧ s j = s i') := by omega
  rcases q with ⟨q1, q2⟩ | ⟨q1, q2⟩
  · rw [si i (by omega) i' (by omega) q1, si j h2 j' h2' q2]
  · have a1 := si i (by omega) j' h2' q1
    have a2 := si j h2 i' (by omega) q2
    omega
theorem newK_nodup {s : Nat → Nat} {n : Nat} (si : ∀ x < n, ∀ y < n, s x = s y → x = y) : ∀ {ks : List (List Key)}, ks.Nodup → (∀ k ∈ ks, TieK n k) → (ks.map (newK s)).Nodup
  | [], _, _ => List.nodup_nil
  | k :: r, nd, h => by
    rw [List.nodup_cons] at nd
    rw [List.map_cons, List.nodup_cons]
    refine ⟨fun hm => ?_, newK_nodup si nd.2 fun k hk => h k (List.mem_cons_of_mem _ hk)⟩
    obtain ⟨k', h1, h2⟩ := List.mem_map.mp hm
    exact nd.1 (newK_inj si (h k' (List.mem_cons_of_mem _ h1)) (h k List.mem_cons_self) h2 ▸ h1)
theorem take_not {α β : Type} {f : α → β} : ∀ {l : List α} {i : Nat} {a : α}, (l.map f).Nodup → l[i]? = some a → f a ∉ (l.take i).map f
  | [], _, _, _, h => by cases h
  | b :: r, 0, _, _, _ => by simp
  | b :: r, i + 1, a, nd, h => by
    rw [List.map_cons, List.nodup_cons] at nd
    have h : r[i]? = some a := h
    rw [List.take_succ_cons, List.map_cons, List.mem_cons, not_or]
    exact ⟨fun e => nd.1 (e ▸ List.mem_map.mpr ⟨a, List.mem_of_getElem? h, rfl⟩), take_not nd.2 h⟩
/-- the ties that were seated anew, so far -/
def seatK (H : Hp) (kvs : List (List Key × V)) (s : Nat → Nat) (l : List V) : List (List Key × V) := l.map fun y => (newK s (keyY H y), V.int (wtY H kvs y : Nat))
theorem seatK_sg (f : List Key → Nat) (H : Hp) (kvs : List (List Key × V)) (s : Nat → Nat) (l : List V) : Sg f (seatK H kvs s l) = (l.map fun y => wtY H kvs y * f (newK s (keyY H y))).sum := by
  unfold Sg seatK
  rw [List.map_map]
  congr 1
theorem seatK_step {H : Hp} {kvs : List (List Key × V)} {s : Nat → Nat} {ys : List V} {i : Nat} {y : V} (nd : (ys.map fun y => newK s (keyY H y)).Nodup) (h : ys[i]? = some y) : putK (seatK H kvs s (ys.take i)) (newK s (keyY H y)) (V.int (wtY H kvs y : Nat)) = seatK H kvs s (ys.take (i + 1)) := by
  have hn : valV (seatK H kvs s (ys.take i)) (newK s (keyY H y)) = none := by
    cases e : valV (seatK H kvs s (ys.take i)) (newK s (keyY H y)) with
    | none => rfl
    | some v =>
      have := valV_in e
      unfold seatK at this
      rw [List.map_map] at this
      exact absurd this (take_not (f := fun y => newK s (keyY H y)) nd h)
  rw [putK_new _ hn]
  unfold seatK
  rw [List.take_add_one, h, List.map_append]
  rfl
/-- seated anew: each new place is an old one, with its colour and its ties -/
def Seatd (N : Nat) (kvs : List (List Key × V)) (led : List Nat) (cl : List Str) (kvs' : List (List Key × V)) (led' : List Nat) (cl' : List Str) : Prop :=
  ∀ x < N, ∃ y < N, led'[x]? = led[y]? ∧ cl'[x]? = cl[y]? ∧ ∀ (g : Nat → Nat) (kd : Str), Sg (tieC (fun z => g (lf led' z)) x kd) kvs' = Sg (tieC (fun z => g (lf led z)) y kd) kvs
theorem tieC_new {h h' : Nat → Nat} {s : Nat → Nat} {n x y : Nat} {kd : Str} (si : ∀ z < n, s z = x ↔ z = y) (hh : ∀ z < n, h' (s z) = h z) {k : List Key} (hk : TieK n k) : tieC h' x kd (newK s k) = tieC h y kd k := by
  obtain ⟨i, j, k, rfl, h1, h2, _⟩ := hk
  have e : newK s [Sum.inl (i : Int), Sum.inl (j : Int), Sum.inr k] = [Sum.inl (s i : Int), Sum.inl (s j : Int), Sum.inr k] ∨ newK s [Sum.inl (i : Int), Sum.inl (j : Int), Sum.inr k] = [Sum.inl (s j : Int), Sum.inl (s i : Int), Sum.inr k] := by
    rw [newK_nat]
    by_cases c : s i ≤ s j
    · rw [Nat.min_eq_left c, Nat.max_eq_right c]
      exact .inl rfl
    · rw [Nat.min_eq_right (by omega), Nat.max_eq_left (by omega)]
      exact .inr rfl
  have e2 : tieC h' x kd (newK s [Sum.inl (i : Int), Sum.inl (j : Int), Sum.inr k]) = tieC h' x kd [Sum.inl (s i : Int), Sum.inl (s j : Int), Sum.inr k] := by
    rcases e with e | e
    · rw [e]
    · rw [e, tieC_swap]
  rw [e2, tieC_nat, tieC_nat, hh i (by omega), hh j h2]
  have a1 := si i (by omega)
  have a2 := si j h2
  simp only [a1, a2]
end Nm
set_option autoImplicit true
set_option maxRecDepth 100000
set_option maxHeartbeats 4000000
namespace Nm
open PySem L2
def nameN (k : Nat) : Str := ("n" : Str) ++ ((toString (k : Int) : String) : Str)
theorem nameN_w : ∀ k < 100, isWordB (nameN k) = true := by decide +kernel
theorem nameN_nd : ((List.range 100).map nameN).Nodup := by decide +kernel
section
variable {κ : Type} [DecidableEq κ]
theorem val_none_of {kvs : List (κ × V)} {k : κ} (h : k ∉ kvs.map (·.1)) : valV kvs k = none := by
  cases e : valV kvs k with
  | none => rfl
  | some v => exact absurd (valV_in e) h
end
theorem merge_nd : ∀ {kvs acc : List (Key × V)}, ((acc ++ kvs).map (·.1)).Nodup → mergeK acc kvs = acc ++ kvs
  | [], acc, _ => (List.append_nil _).symm
  | kv :: r, acc, h => by
    show mergeK (putK acc kv.1 kv.2) r = acc ++ kv :: r
    have hn : kv.1 ∉ acc.map (·.1) := fun hm => by
      rw [List.map_append, List.nodup_append] at h
      exact h.2.2 kv.1 hm kv.1 (by simp) rfl
    rw [putK_new _ (val_none_of hn)]
    have e : acc ++ kv :: r = (acc ++ [(kv.1, kv.2)]) ++ r := by simp
    rw [e] at h ⊢
    exact merge_nd h
def natOf : V → Nat
  | .int x => x.toNat
  | _ => 0
theorem perm_nat {ys : List V} {l : List Nat} (h : ys.Perm (natV l)) : ∃ zs : List Nat, ys = natV zs ∧ zs.Perm l := by
  refine ⟨ys.map natOf, ?_, ?_⟩
  · unfold natV
    rw [List.map_map]
    conv => lhs; rw [← List.map_id ys]
    refine List.map_congr_left fun v hv => ?_
    obtain ⟨x, _, rfl⟩ := List.mem_map.mp (h.subset hv)
    rfl
  · have := h.map natOf
    unfold natV at this
    rw [List.map_map] at this
    have e : l.map (natOf ∘ fun (i : Nat) => V.int (i : Int)) = l := by
      conv => rhs; rw [← List.map_id l]
      rfl
    rw [e] at this
    exact this
theorem nameN_len : ∀ k : Nat, k < 100 → ("n" : Str).length + ((toString (k : Int) : String) : Str).length ≤ 100 := by decide +kernel
theorem log_small {i : Nat} (h : i < 1000) : (0 + (i : Int)).natAbs.log2 < 1920 := by
  have e : (0 + (i : Int)).natAbs = i := by omega
  rw [e]
  have := Nat.log2_le_self i
  omega
/-- the pairs (place, seat) -/
def seatKV (od : List Nat) (i : Nat) : List (Key × V) := (od.zipIdx.take i).map fun p => (Sum.inl (p.1 : Int), V.int (p.2 : Int))
theorem seat_keys (od : List Nat) : (seatKV od od.length).map (·.1) = od.map fun (x : Nat) => (Sum.inl (x : Int) : Key) := by
  unfold seatKV
  rw [List.take_of_length_le (by simp), List.map_map]
  have : od = od.zipIdx.map (·.1) := by simp
  conv => rhs; rw [this]
  rw [List.map_map]
  rfl
theorem seat_nd {od : List Nat} (h : od.Nodup) : ((seatKV od od.length).map (·.1)).Nodup := by
  rw [seat_keys]
  refine List.Pairwise.map _ (fun a b hab => ?_) h
  exact fun e => hab (by have := Sum.inl.inj e; omega)
theorem seat_mem {od : List Nat} {j x : Nat} (h : od[j]? = some x) : ((Sum.inl (x : Int) : Key), V.int (j : Int)) ∈ seatKV od od.length := by
  unfold seatKV
  rw [List.take_of_length_le (by simp)]
  refine List.mem_map.mpr ⟨(x, j), ?_, rfl⟩
  rw [List.mem_zipIdx_iff_getElem?]
  exact h
theorem seat_step {od : List Nat} {i x : Nat} (h : od[i]? = some x) : seatKV od (i + 1) = seatKV od i ++ [(Sum.inl (x : Int), V.int (i : Int))] := by
  unfold seatKV
  have e : od.zipIdx[i]? = some (x, i) := by simp [h]
  rw [List.take_add_one, e, List.map_append]
  rfl
theorem paired_snoc {α β : Type} {F : α → β → Prop} : ∀ {l : List α} {m : List β} {a : α} {b : β}, Paired F l m → F a b → Paired F (l ++ [a]) (m ++ [b])
  | _, _, _, _, .nil, h => .cons h .nil
  | _, _, _, _, .cons r t, h => .cons r (paired_snoc t h)
structure TxtD (mg : Str → Option Value) : Prop extends TxtC mg where
  dict : mg "dict" = none
  enumerate : mg "enumerate" = none
  str : mg "str" = none
section
variable {P : Program} {w : World} {K : PySem.W.Frag} {mg : Str → Option Value} {base : Heap}
/-! ### _law_seated -/
def spSeated : Sp := fun vs H Q _ => ∃ (s c wd a b t ld : Addr) (cl : List Str) (m : Nat) (kvs : List (List Key × V)) (led : List Nat), vs = [.ref s, .ref wd, .ref ld] ∧ Src H s c ∧ H wd = some (.dK (worldD a b t)) ∧ wd ≠ s ∧ H b = some (.lst (cl.map V.str)) ∧ b ≠ c ∧ H t = some (.dT kvs) ∧ H ld = some (.lst (natV led)) ∧ ld ≠ c ∧
  cl.length = led.length ∧ (∀ x ∈ cl, isWordB x = true) ∧ 1 ≤ led.length ∧ led.length ≤ 100 ∧ kvs.length ≤ 4000 ∧ Ties led.length m kvs ∧
  ∀ (r wd' a' b' t' ld' : Addr) (nm cl' : List Str) (kvs' : List (List Key × V)) (led' : List Nat) (H' : Hp), H wd' = none → H a' = none → H b' = none → H t' = none → H ld' = none → H' r = some (.tup [.ref wd', .ref ld']) → WorldOk H' s c wd' a' b' t' nm cl' kvs' → nm.length = led.length → Ties nm.length m kvs' → kvs'.length ≤ 4000 → totW kvs' ≤ totW kvs →
    H' ld' = some (.lst (natV led')) → led'.length = led.length → (∀ x, x ∈ led' ↔ x ∈ led) → Seatd led.length kvs led cl kvs' led' cl' → Src H' s c → Kp s c H H' → Q (.ref r) H'
abbrev nSeat : List Str := ["_law_source", "_law_world", "_law_led", "_law_order", "_law_names", "_law_seats", "_law_ties", "_law_one", "_law_other", "_law_kind", "_law_spot", "_law_colours", "_law_k", "_law_new", "_law_old"]
theorem scSeat : FnScope nSeat ["_law_source", "_law_world", "_law_led"] (defScope sSeated) := ⟨rfl, rfl, rfl, by decide +kernel, rfl, by decide +kernel, by decide +kernel⟩
theorem ok_seat {f : Addr} {fd : FuncData} (F : Fun K "_law_seated" "_law_seated" sSeated f fd) (T : TxtD mg) (Ga : Def P w K mg base "_law_any_order" ["_law_source", "_law_items"] 2 (spAny K)) : FnOk P w K mg base CX0 3 f fd ["_law_source", "_law_world", "_law_led"] spSeated := by
  obtain ⟨fa, fda, Ga, ma, ka, ba⟩ := Ga.ex
  refine F.ok scSeat (fun vs H Q E h => ?_) (fun cdv A outer s H vs Q E hr h => ?_)
  · obtain ⟨_, _, _, _, _, _, _, _, _, _, _, rfl, _⟩ := h
    rfl
  · obtain ⟨sa, ca, wd, a, b, t, ld, cl, m, kvs, led, rfl, S, hwd, nws, hb, nbc, ht, hld, nlc, hcl, hcw, hn1, hn2, hkl, ti, k⟩ := h
    have hu := hu_of hr
    refine ⟨_, Evl.pss_cut (ps_set (i := 3) scSeat.nd rfl (Or.inl rfl) (pe_call Ga hr (by rfl) ma ka ba .nil pass0 (pa_cons (pv 0) (pa_cons (pe_listRg rfl (by rfl) T.list (prg_1 (by rfl) T.range (pe_callB call_len_seq (by rfl) T.len PySem.boot_len (pa_cons (pv 2) pa_nil)))) pa_nil))))
      (Evl.pss_cut (ps_set (i := 4) scSeat.nd rfl (Or.inl rfl) (pe_call Ga hr (by rfl) ma ka ba .nil pass0 (pa_cons (pv 0) (pa_cons (pe_lc (own := [("_law_k", 12)]) (g := gName 12) (tt := tYes) rfl scSeat.nd (pi_range1 (by rfl) T.range (pa_cons (pe_callB call_len_seq (by rfl) T.len PySem.boot_len (pa_cons (pv 2) pa_nil)) pa_nil))
          (blkOk_by (N := nSeat) (sc := defScope sSeated) (by decide +kernel)) (fun _ _ _ _ _ => pg_name (i := 12) scSeat.nd rfl (Or.inl rfl)) (fun _ _ _ _ _ => pts_nil)
          (fun _ _ _ _ _ => pe_op op_add_str pe_str (pe_callTy call_str_int (by rfl) T.str (by decide +kernel) (pa_cons (pv 12) pa_nil)))) pa_nil))))
      (Evl.pss_cut (ps_set (i := 5) scSeat.nd rfl (Or.inl rfl) (pe_callTy (call_dictP rfl) (by rfl) T.dict (by decide +kernel) (pa_cons (pe_lc (own := [("_law_new", 13), ("_law_old", 14)]) (g := gTup K 2 (gCons (gName 13) (gCons (gName 14) gNil))) (tt := tYes) rfl scSeat.nd (pi_enum (by rfl) T.enumerate (pa_cons (pv 3) pa_nil))
          (blkOk_by (N := nSeat) (sc := defScope sSeated) (by decide +kernel)) (fun _ _ _ _ _ => pg_tup rfl (pgs_cons (pg_name (i := 13) scSeat.nd rfl (Or.inl rfl)) (pgs_cons (pg_name (i := 14) scSeat.nd rfl (Or.inl rfl)) pgs_nil))) (fun _ _ _ _ _ => pts_nil)
          (fun _ _ _ _ _ => pe_tup (pa_cons (pv 14) (pa_cons (pv 13) pa_nil)))) pa_nil)))
      (pss_cons (ps_set (i := 6) scSeat.nd rfl (Or.inl rfl) pe_dnewT)
      (Evl.pss_cut (ps_for PassesOwn.never rfl (pi_list (pe_callB cr_sortedR (by rfl) T.sorted (by decide +kernel) (pa_cons (pe_callTy (call_list_dT rfl) (by rfl) T.list (by decide +kernel) (pa_cons (pe_dget hu (pv 1) pe_str (fun _ _ => rfl)) pa_nil)) pa_nil)))
          (pg_tup rfl (pgs_cons (pg_name (i := 7) scSeat.nd rfl (.inl rfl)) (pgs_cons (pg_name (i := 8) scSeat.nd rfl (.inl rfl)) (pgs_cons (pg_name (i := 9) scSeat.nd rfl (.inl rfl)) pgs_nil))))
        (pss_cons (ps_set (i := 10) scSeat.nd rfl (Or.inl rfl) (pe_callB cr_sorted (by rfl) T.sorted (by decide +kernel) (pa_cons (pe_lst (pa_cons (pe_dget hu (pv 5) (pv 7) (fun _ _ => rfl)) (pa_cons (pe_dget hu (pv 5) (pv 8) (fun _ _ => rfl)) pa_nil))) pa_nil)))
        (pss_one (ps_dput hu (pv 6) (pe_tup (pa_cons (pe_ix ix_list (pv 10) pe_int (fun _ _ => rfl)) (pa_cons (pe_ix ix_list (pv 10) pe_int (fun _ _ => rfl)) (pa_cons (pv 9) pa_nil)))) (pe_dget hu (pe_dget hu (pv 1) pe_str (fun _ _ => rfl)) (pe_tup (pa_cons (pv 7) (pa_cons (pv 8) (pa_cons (pv 9) pa_nil)))) (fun _ _ => rfl)) rfl))))
      (Evl.pss_cut (ps_setLc (i := 11) (own := [("_law_old", 14)]) (g := gName 14) (tt := tYes) (te := tOp (rIxL K) (tDGet (tVar 1) (tC (.str "colours"))) (tVar 14)) rfl scSeat.nd rfl rfl (sw_true rfl rfl rfl (by decide +kernel)) (pi_list (pv 3))
          (blkOk_by (N := nSeat) (sc := defScope sSeated) (by decide +kernel)) (fun _ _ _ _ _ => pg_name (i := 14) scSeat.nd rfl (Or.inl rfl)) (fun _ _ _ _ _ => pts_nil)
          (fun _ _ _ _ _ => by exact pe_ix ix_list (pe_dget hu (pv 1) pe_str (fun _ _ => rfl)) (pv 14) (fun _ _ => rfl)))
      (pss_one (ps_ret (pe_tup (pa_cons (pe_disp (pps_cons pe_str (pv 4) (pps_cons pe_str (pv 11) (pps_cons pe_str (pv 6) pps_nil))) (by rfl) (by rfl) (fun z => by cases z) (by decide)) (pa_cons
          (pe_lc (own := [("_law_old", 14)]) (g := gName 14) (tt := tYes) (te := tOp (rIxL K) (tVar 2) (tVar 14)) rfl scSeat.nd (pi_list (pv 3))
          (blkOk_by (N := nSeat) (sc := defScope sSeated) (by decide +kernel)) (fun _ _ _ _ _ => pg_name (i := 14) scSeat.nd rfl (Or.inl rfl)) (fun _ _ _ _ _ => pts_nil)
          (fun _ _ _ _ _ => by exact pe_ix ix_list (pv 2) (pv 14) (fun _ _ => rfl))) pa_nil)))))))))), ?_⟩
    generalize hN : led.length = N at *
    -- order
    refine ⟨fun σ H1 => ∃ o od, σ = [some (.ref sa), some (.ref wd), some (.ref ld), some (.ref o), none, none, none, none, none, none, none, none, none, none, none] ∧ H o = none ∧ H1 o = some (.lst (natV od)) ∧ od.Perm (List.range N) ∧ Src H1 sa ca ∧ Kp sa ca H H1, ?_, ?_⟩
    · refine ⟨_, rfl, _, rfl, ld, _, rfl, .inl (SqL.of hld), _, rfl, RgOk.of_le (by omega) (by rw [List.length_map]; omega) (by omega) (by omega), fun q hq => ?_⟩
      refine ⟨sa, ca, q, _, rfl, S.new hq, SqL.of upd_same, by rw [List.length_map, hN, rgV_nat]; simp; omega, fun p ys H1 hp pm hpl S1 kp1 => ?_⟩
      rw [List.length_map, hN, rgV_nat] at pm
      obtain ⟨od, rfl, po⟩ := perm_nat pm
      have hq' : H p = none := (same_new hq).free hp
      exact ⟨p, od, rfl, hq', hpl, po, S1, (Kp.same (same_new hq)).trans kp1⟩
    rintro σ H1 ⟨o, od, rfl, ho0, ho, po, S1, kp1⟩
    have hol : od.length = N := by rw [po.length_eq]; simp
    obtain ⟨nos, noc⟩ := S.ne ho0
    obtain ⟨cs0, l0, m0, t0, S0⟩ := id S
    have nls : ld ≠ sa := ne_of hld S0.ds (by intro z; cases z)
    have nbs : b ≠ sa := ne_of hb S0.ds (by intro z; cases z)
    have nts : t ≠ sa := ne_of ht S0.ds (by intro z; cases z)
    have ntc : t ≠ ca := ne_of ht S0.dc (by intro z; cases z)
    have nwc : wd ≠ ca := ne_of hwd S0.dc (by intro z; cases z)
    have hld1 := kp1 _ _ hld nls nlc
    -- names
    refine ⟨fun σ H2 => ∃ na nm, σ = [some (.ref sa), some (.ref wd), some (.ref ld), some (.ref o), some (.ref na), none, none, none, none, none, none, none, none, none, none] ∧ H na = none ∧ H2 na = some (.lst (List.map V.str nm)) ∧ nm.Perm ((List.range N).map nameN) ∧ Src H2 sa ca ∧ Kp sa ca H1 H2, ?_, ?_⟩
    · refine ⟨_, rfl, _, rfl, ld, _, rfl, .inl (SqL.of hld1), _, rfl, by rw [List.length_map]; omega, by rw [List.length_map]; omega, fun D hD => ?_⟩
      rw [List.length_map, hN]
      refine lc_range (lo := 0) (n := N) (fun i H2 => H2 D = some (.lst (((List.range i).map nameN).map V.str)) ∧ Same H1 H2) ⟨upd_same, same_new hD⟩ ?_ ?_
      · rintro i H2 hi ⟨hD2, s2⟩
        refine ⟨rfl, tyes ?_⟩
        have hl := nameN_len i (by omega)
        refine ⟨_, rfl, _, rfl, log_small (by omega), _, _, rfl, rfl, ?_, _, hD2, Evl.sz_lt (by simp; omega), ?_, ?_⟩
        · rw [Int.zero_add]
          exact Evl.sz_of (by omega)
        · rw [upd_same, List.range_succ, List.map_append, List.map_append, Int.zero_add]
          rfl
        · intro b o e
          rw [upd_ne (ne_of_none e hD)]
          exact s2 b o e
      · rintro H2 ⟨hD2, s2⟩
        refine ⟨sa, ca, D, _, rfl, S1.same s2, SqL.of hD2, by simp; omega, fun p ys H3 hp pm hpl S3 kp3 => ?_⟩
        obtain ⟨nm, rfl, pn⟩ := perm_str pm
        have hp0 : H p = none := kp1.free S1 (s2.free hp)
        exact ⟨p, nm, rfl, hp0, hpl, pn, S3, (Kp.same s2).trans kp3⟩
    rintro σ H2 ⟨na, nm, rfl, hna0, hna, pn, S2, kp2⟩
    have hnl : nm.length = N := by rw [pn.length_eq]; simp
    obtain ⟨nns, nnc⟩ := S.ne hna0
    have ho2 := kp2 _ _ ho nos noc
    have kp02 := kp1.trans kp2
    -- seats
    refine ⟨fun σ H3 => ∃ se, σ = [some (.ref sa), some (.ref wd), some (.ref ld), some (.ref o), some (.ref na), some (.ref se), none, none, none, none, none, none, none, none, none] ∧ H3 se = some (.dK (seatKV od od.length)) ∧ Same H2 H3, ?_, ?_⟩
    · refine ⟨_, rfl, o, _, rfl, SqL.of ho2, fun D hD => ?_⟩
      refine lc_it (walk_enum (xs := natV od)) (fun i H3 => ∃ ps : List Addr, H3 D = some (.lst (ps.map V.ref)) ∧ ps.length = i ∧ Paired (fun p kv => H3 p = some (.tup [kV kv.1, kv.2])) ps (seatKV od i) ∧ Same H2 H3) ⟨[], upd_same, rfl, .nil, same_new hD⟩ (fun i H3 _ ⟨_, _, _, _, h⟩ => SqL.of (h _ _ ho2)) ?_ ?_
      · rintro i x H3 H4 hi ⟨ps, hD3, hpl, pr, s3⟩ ⟨T, x1, y1, rfl, hT, rfl, e1, e2⟩
        rw [List.length_map] at hi
        have e2 : (natV od)[i]? = some y1 := e2
        rw [List.getElem?_map] at e2
        obtain ⟨y0, hy0, rfl⟩ := Option.map_eq_some_iff.mp e2
        cases e1
        refine ⟨T, _, rfl, SqT.of upd_same, rfl, _, _, rfl, _, _, rfl, rfl, rfl, tyes ?_⟩
        refine ⟨_, rfl, _, rfl, (by show 2 ≤ sizeLine; decide), fun u hu => ?_⟩
        have sT := same_new (o := .tup [V.int (i : Nat), V.int (y0 : Int)]) hT
        have su := same_new (o := .tup [V.int (y0 : Int), V.int (i : Nat)]) hu
        have sTu := sT.trans su
        have nDu : u ≠ D := fun e => by subst e; rw [sT _ _ hD3] at hu; cases hu
        refine ⟨_, sTu _ _ hD3, Evl.sz_lt (by rw [List.length_map]; omega), ps ++ [u], by rw [upd_same, List.map_append]; rfl, by simp [hpl], ?_, ?_⟩
        · rw [seat_step hy0]
          refine paired_snoc (Paired.mapP pr fun p kv h => ?_) ?_
          · rw [upd_ne (ne_of h hD3 (by intro z; cases z))]
            exact sTu _ _ h
          · rw [upd_ne nDu]
            exact upd_same
        · intro b ob e
          rw [upd_ne (ne_of_none e hD)]
          exact sTu _ _ (s3 b ob e)
      · rintro H3 ⟨ps, hD3, hpl, pr, s3⟩
        rw [List.length_map] at pr
        refine ⟨D, ps, seatKV od od.length, rfl, SqL.of hD3, Paired.mapP pr fun p kv h => SqT.of h, fun p hp => ?_⟩
        have nd : ((seatKV od od.length).map (·.1)).Nodup := seat_nd (po.nodup_iff.mpr List.nodup_range)
        refine ⟨p, rfl, ?_, s3.trans (same_new hp)⟩
        rw [upd_same, merge_nd (acc := []) (by simpa using nd)]
        rfl
    rintro σ H3 ⟨se, rfl, hse, s3⟩
    intro t2 ht2
    have s4 := same_new (o := .dT []) ht2
    have s24 := s3.trans s4
    have S4 := S2.same s24
    have kp04 : Kp sa ca H (upd H3 t2 (.dT [])) := kp02.trans (Kp.same s24)
    have h20 : H t2 = none := kp02.free S2 (s3.free ht2)
    obtain ⟨n2s, n2c⟩ := S.ne h20
    have hwd4 := kp04 _ _ hwd nws nwc
    have hb4 := kp04 _ _ hb nbs nbc
    have ht4 := kp04 _ _ ht nts ntc
    have hld4 := kp04 _ _ hld nls nlc
    have ho4 := s24 _ _ ho2
    have hna4 := s24 _ _ hna
    have hse4 := s4 _ _ hse
    have h24 : (upd H3 t2 (.dT [])) t2 = some (.dT []) := upd_same
    have ntt : t2 ≠ t := fun e => by subst e; rw [h20] at ht; cases ht
    generalize upd H3 t2 (.dT []) = H4 at *
    -- the ties
    refine ⟨fun σ H5 => ∃ v7 v8 v9 v10 kv2, σ = [some (.ref sa), some (.ref wd), some (.ref ld), some (.ref o), some (.ref na), some (.ref se), some (.ref t2), v7, v8, v9, v10, none, none, none, none] ∧ H5 t2 = some (.dT kv2) ∧ Ties N m kv2 ∧ (kv2.length ≤ 4000 ∧ totW kv2 ≤ totW kvs ∧ ∀ F, Sg F kv2 = Sg (fun k => F (newK (fun z => od.idxOf z) k)) kvs) ∧ (∀ b o, H4 b = some o → b ≠ t2 → H5 b = some o), ?_, ?_⟩
    · refine ⟨_, rfl, wd, _, rfl, dg_ties hwd4, t, kvs, rfl, .inl ht4, fun l bs hl hk => ?_⟩
      obtain ⟨kl, hbl⟩ := keyL_of hk
      have kl2 := kl.same (same_new (o := .lst (bs.map V.ref)) hl)
      obtain ⟨so1, so2⟩ := sort_ties kl2 ti
      refine ⟨l, _, _, rfl, SqL.of upd_same, so1, so2, fun ys p pm hp => ?_⟩
      have s5 := (same_new (o := .lst (bs.map V.ref)) hl).trans (same_new (o := .lst ys) hp)
      have kly : KeyL (upd (upd H4 l (.lst (bs.map V.ref))) p (.lst ys)) kvs ys := fun y hy => (kl.same s5) y (pm.subset hy)
      have hpp : (upd (upd H4 l (.lst (bs.map V.ref))) p (.lst ys)) p = some (.lst ys) := upd_same
      have hyl : ys.length ≤ 4000 := by rw [pm.length_eq, List.length_map]; omega
      have np2 : p ≠ t2 := fun e => by subst e; rw [same_new hl _ _ h24] at hp; cases hp
      have sumY := sum_ys ti (isKeys_same hk s5) pm
      have sumG := fun (F : List Key → Nat) => sg_ys (fun k => F (newK (fun z => od.idxOf z) k)) ti (isKeys_same hk s5) pm
      have odN : ∀ x < N, od[od.idxOf x]? = some x := fun x hx => by
        have hm : x ∈ od := po.mem_iff.mpr (List.mem_range.mpr hx)
        rw [List.getElem?_eq_getElem (List.idxOf_lt_length_of_mem hm), List.getElem_idxOf]
      have sinj : ∀ x < N, ∀ y < N, od.idxOf x = od.idxOf y → x = y := fun x hx y hy e => by
        have a := odN x hx
        have b := odN y hy
        rw [e, b] at a
        exact (Option.some.inj a).symm
      have ndY : (ys.map fun y => newK (fun z => od.idxOf z) (keyY (upd (upd H4 l (.lst (bs.map V.ref))) p (.lst ys)) y)).Nodup := by
        have h1 := newK_nodup (s := fun z => od.idxOf z) sinj (ys_nodup ti (isKeys_same hk s5) pm) fun k hk' => by
          obtain ⟨kv, hm, rfl⟩ := List.mem_map.mp ((ys_keys ti (isKeys_same hk s5) pm).mem_iff.mp hk')
          exact ti.key kv hm
        rw [List.map_map] at h1
        exact h1
      generalize upd (upd H4 l (.lst (bs.map V.ref))) p (.lst ys) = H5 at *
      refine ⟨p, rfl, ⟨_, SqL.of hpp⟩, ?_⟩
      refine for_list (xs := ys) (fun i σ H6 => ∃ v7 v8 v9 v10 kv2, σ = [some (.ref sa), some (.ref wd), some (.ref ld), some (.ref o), some (.ref na), some (.ref se), some (.ref t2), v7, v8, v9, v10, none, none, none, none] ∧ H6 t2 = some (.dT kv2) ∧ Ties N m kv2 ∧ (kv2.length ≤ i ∧ totW kv2 ≤ ((ys.take i).map (wtY H5 kvs)).sum ∧ kv2 = seatK H5 kvs (fun z => od.idxOf z) (ys.take i)) ∧ (∀ b o, H5 b = some o → b ≠ t2 → H6 b = some o))
        ⟨none, none, none, none, [], rfl, s5 _ _ h24, Ties.nil N m, ⟨Nat.le_refl _, Nat.zero_le _, rfl⟩, fun b o e _ => e⟩ (fun i σ H6 _ ⟨_, _, _, _, _, _, _, _, _, h⟩ => SqL.of (h _ _ hpp np2)) ?_ ?_
      · rintro i y σ H6 hi ⟨v7, v8, v9, v10, kv2, rfl, h26, ti6, ⟨hl6, hl6b, hl6c⟩, kp6⟩
        have hil := (List.getElem?_eq_some_iff.mp hi).1
        obtain ⟨b1, i1, j1, x1, kd1, rfl, hb1, hmem, hij, hjn, hkw, hx1, hx2⟩ := kly.tie ti (List.mem_of_getElem? hi)
        have stay : ∀ b o, H4 b = some o → b ≠ t2 → H6 b = some o := fun b o e h => kp6 b o (s5 _ _ e) h
        have nb12 : b1 ≠ t2 := ne_of hb1 (s5 _ _ h24) (by intro z; cases z)
        have hb6 := kp6 _ _ hb1 nb12
        have hse6 := stay _ _ hse4 (ne_of hse4 h24 (by intro z; cases z))
        have hwd6 := stay _ _ hwd4 (ne_of hwd4 h24 (by intro z; cases z))
        have ht6 := stay _ _ ht4 ntt.symm
        have seat : ∀ x < N, ∃ j, od[j]? = some x ∧ j < N ∧ valV (seatKV od od.length) (Sum.inl (x : Int) : Key) = some (V.int (j : Int)) := fun x hx => by
          obtain ⟨j, hj⟩ := List.getElem?_of_mem (po.mem_iff.mpr (List.mem_range.mpr hx))
          have hjl := (List.getElem?_eq_some_iff.mp hj).1
          exact ⟨j, hj, by omega, val_of_mem (seat_nd (po.nodup_iff.mpr List.nodup_range)) (seat_mem hj)⟩
        obtain ⟨u1, hu1, hu1n, hv1⟩ := seat i1 (by omega)
        obtain ⟨u2, hu2, hu2n, hv2⟩ := seat j1 hjn
        have hne : u1 ≠ u2 := fun e => by subst e; rw [hu1] at hu2; have := Option.some.inj hu2; omega
        refine ⟨b1, _, rfl, SqT.of hb6, rfl, _, _, rfl, _, _, rfl, _, _, rfl, rfl, ?_⟩
        refine ⟨_, rfl, _, rfl, se, _, rfl, (by rw [← hv1]; exact DGet.k (k := Sum.inl (i1 : Int)) hse6), _, rfl, _, rfl, se, _, rfl, (by rw [← hv2]; exact DGet.k (k := Sum.inl (j1 : Int)) hse6), (by show 2 ≤ sizeLine; decide), fun l1 hl1 => ?_⟩
        refine ⟨l1, [(u1 : Int), (u2 : Int)], rfl, SqL.of upd_same, (by show 2 < 64; decide), fun ns sp pms srt hsp => ?_⟩
        obtain ⟨n0, n1, rfl, h01, h1N⟩ : ∃ n0 n1 : Nat, ns = [(n0 : Int), (n1 : Int)] ∧ n0 < n1 ∧ n1 < N := by
          have hl2 : ns.length = 2 := pms.length_eq
          match ns, hl2 with
          | [z0, z1], _ =>
            have hle : z0 ≤ z1 := by simpa using srt
            have h0 := pms.mem_iff.mp (show z0 ∈ [z0, z1] by simp)
            have h1 := pms.mem_iff.mp (show z1 ∈ [z0, z1] by simp)
            have h2 := pms.mem_iff.mpr (show (u1 : Int) ∈ [(u1 : Int), (u2 : Int)] by simp)
            have h3 := pms.mem_iff.mpr (show (u2 : Int) ∈ [(u1 : Int), (u2 : Int)] by simp)
            simp at h0 h1 h2 h3
            refine ⟨z0.toNat, z1.toNat, ?_, by omega, by omega⟩
            rw [Int.toNat_of_nonneg (by omega), Int.toNat_of_nonneg (by omega)]
        have s7 := (same_new (o := .lst ([(u1 : Int), (u2 : Int)].map V.int)) hl1).trans (same_new (o := .lst ([(n0 : Int), (n1 : Int)].map V.int)) hsp)
        have hsp7 : (upd (upd H6 l1 (.lst ([(u1 : Int), (u2 : Int)].map V.int))) sp (.lst ([(n0 : Int), (n1 : Int)].map V.int))) sp = some (.lst [V.int (n0 : Int), V.int (n1 : Int)]) := upd_same
        refine ⟨_, rfl, wd, _, rfl, dg_ties (s7 _ _ hwd6), _, rfl, _, rfl, _, rfl, (by show 3 ≤ sizeLine; decide), fun q1 hq1 => ?_⟩
        have s8 := s7.trans (same_new (o := .tup [V.int (i1 : Int), V.int (j1 : Int), V.str kd1]) hq1)
        refine ⟨t, V.int (x1 : Int), rfl, (by rw [← val_of_mem ti.nd hmem]; exact DGet.t (k := [Sum.inl (i1 : Int), Sum.inl (j1 : Int), Sum.inr kd1]) (s8 _ _ ht6) upd_same), ?_⟩
        have hsp8 := same_new (o := .tup [V.int (i1 : Int), V.int (j1 : Int), V.str kd1]) hq1 _ _ hsp7
        refine ⟨_, rfl, _, rfl, sp, _, 0, V.int (n0 : Int), rfl, rfl, SqL.of hsp8, atI_nat (j := 0) rfl, _, rfl, sp, _, 1, V.int (n1 : Int), rfl, rfl, SqL.of hsp8, atI_nat (j := 1) rfl, _, rfl, (by show 3 ≤ sizeLine; decide), fun q2 hq2 => ?_⟩
        have s9 := s8.trans (same_new (o := .tup [V.int (n0 : Int), V.int (n1 : Int), V.str kd1]) hq2)
        refine ⟨t2, _, rfl, DPut.t (k := [Sum.inl (n0 : Int), Sum.inl (n1 : Int), Sum.inr kd1]) (s9 _ _ h26) upd_same (Evl.sz_lt (by omega)), ?_⟩
        refine ⟨_, _, _, _, _, rfl, upd_same, ti6.put ⟨n0, n1, kd1, rfl, h01, h1N, hkw⟩ hx1 hx2, ⟨by have := length_putK kv2 [Sum.inl (n0 : Int), Sum.inl (n1 : Int), Sum.inr kd1] (V.int (x1 : Int)); omega, by
          have e1 := tot_put (k := [Sum.inl (n0 : Int), Sum.inl (n1 : Int), Sum.inr kd1]) ti6.nd (V.int (x1 : Int))
          have e2 : wOf (V.int (x1 : Int)) = x1 := Int.toNat_natCast _
          rw [take_step hi, wtY_of ti hb1 hmem]
          omega, by
          have e1 := seatK_step (H := H5) (kvs := kvs) ndY hi
          have e2 : keyY H5 (.ref b1) = [Sum.inl (i1 : Int), Sum.inl (j1 : Int), Sum.inr kd1] := by
            unfold keyY
            rw [rowAt_of hb1]
            rfl
          have eu1 : u1 = od.idxOf i1 := (List.getElem?_inj (List.getElem?_eq_some_iff.mp hu1).1 (po.nodup_iff.mpr List.nodup_range)).mp (hu1.trans (odN i1 (by omega)).symm)
          have eu2 : u2 = od.idxOf j1 := (List.getElem?_inj (List.getElem?_eq_some_iff.mp hu2).1 (po.nodup_iff.mpr List.nodup_range)).mp (hu2.trans (odN j1 hjn).symm)
          have e3 := newK_perm (s := fun z => od.idxOf z) (n0 := n0) (n1 := n1) (i := i1) (j := j1) (k := kd1) (by show [(n0 : Int), (n1 : Int)].Perm [((od.idxOf i1 : Nat) : Int), ((od.idxOf j1 : Nat) : Int)]; rw [← eu1, ← eu2]; exact pms) h01
          rw [e2, wtY_of ti hb1 hmem, e3] at e1
          rw [hl6c]
          exact e1⟩, fun b o e h => ?_⟩
        rw [upd_ne h]
        exact s9 _ _ (kp6 b o e h)
      · rintro σ H6 ⟨v7, v8, v9, v10, kv2, rfl, h26, ti6, ⟨hl6, hl6b, hl6c⟩, kp6⟩
        refine ⟨v7, v8, v9, v10, kv2, rfl, h26, ti6, ⟨by omega, by have := take_le (f := wtY H5 kvs) (ys := ys) ys.length; omega, fun F => ?_⟩, fun b o e h => kp6 b o (s5 _ _ e) h⟩
        rw [hl6c, seatK_sg, List.take_length]
        exact sumG F
    rintro σ H5 ⟨v7, v8, v9, v10, kv2, rfl, h25, ti5, ⟨hl5, hl5b, hl5c⟩, kp5⟩
    have S5 : Src H5 sa ca := by
      obtain ⟨cs, l, m, tt, S4⟩ := S4
      exact ⟨cs, l, m, tt, ⟨kp5 _ _ S4.ds n2s.symm, kp5 _ _ S4.dc n2c.symm, S4.nn, S4.len, S4.l0, S4.m0, S4.m1, S4.t0⟩⟩
    have kp05 : Kp sa ca H H5 := fun b o e h1 h2 => kp5 b o (kp04 b o e h1 h2) (ne_of_none e h20)
    have hwd5 := kp5 _ _ hwd4 (ne_of hwd4 h24 (by intro z; cases z))
    have hb5 := kp5 _ _ hb4 (ne_of hb4 h24 (by intro z; cases z))
    have hld5 := kp5 _ _ hld4 (ne_of hld4 h24 (by intro z; cases z))
    have ho5 := kp5 _ _ ho4 (ne_of ho4 h24 (by intro z; cases z))
    have hna5 := kp5 _ _ hna4 (ne_of hna4 h24 (by intro z; cases z))
    have odN : ∀ x ∈ od, x < N := fun x hx => List.mem_range.mp (po.mem_iff.mp hx)
    -- colours
    refine ⟨fun σ H6 => ∃ bc cl2, σ = [some (.ref sa), some (.ref wd), some (.ref ld), some (.ref o), some (.ref na), some (.ref se), some (.ref t2), v7, v8, v9, v10, some (.ref bc), none, none, none] ∧ H bc = none ∧ H6 bc = some (.lst (List.map V.str cl2)) ∧ cl2.length = N ∧ (∀ x ∈ cl2, isWordB x = true) ∧ (∀ x < N, cl2[x]? = cl[lf od x]?) ∧ Same H5 H6, ?_, ?_⟩
    · refine ⟨_, rfl, o, rfl, ⟨_, SqL.of ho5⟩, fun D hD => ?_⟩
      refine lc_list (xs := natV od) (fun i H6 => ∃ cl2, H6 D = some (.lst (List.map V.str cl2)) ∧ cl2.length = i ∧ (∀ x ∈ cl2, isWordB x = true) ∧ (∀ x < i, cl2[x]? = cl[lf od x]?) ∧ Same H5 H6) ⟨[], upd_same, rfl, (fun x hx => (List.not_mem_nil hx).elim), (fun x hx => absurd hx (Nat.not_lt_zero _)), same_new hD⟩ (fun i H6 _ ⟨_, _, _, _, _, h⟩ => SqL.of (h _ _ ho5)) ?_ ?_
      · rintro i x H6 hi ⟨cl2, hD6, hcl2, hcw2, hco2, s6⟩
        have hil := (List.getElem?_eq_some_iff.mp hi).1
        rw [List.length_map] at hil
        rw [List.getElem?_map] at hi
        obtain ⟨y0, hy0, rfl⟩ := Option.map_eq_some_iff.mp hi
        have hyN := odN y0 (List.mem_of_getElem? hy0)
        obtain ⟨cy, hcy⟩ : ∃ cy, cl[y0]? = some cy := ⟨_, List.getElem?_eq_getElem (by omega)⟩
        refine ⟨rfl, tyes ?_⟩
        refine ⟨_, rfl, wd, _, rfl, dg_colours (s6 _ _ hwd5), _, rfl, b, _, _, V.str cy, rfl, rfl, SqL.of (s6 _ _ hb5), atI_nat (by rw [List.getElem?_map, hcy]; rfl), ?_⟩
        refine ⟨_, hD6, Evl.sz_lt (by rw [List.length_map]; omega), cl2 ++ [cy], by rw [upd_same, List.map_append]; rfl, by simp [hcl2], ?_, ?_, ?_⟩
        · intro x hx
          rcases List.mem_append.mp hx with z | z
          · exact hcw2 x z
          · rw [List.mem_singleton] at z
            subst z
            exact hcw _ (List.mem_of_getElem? hcy)
        · intro x hx
          by_cases c : x < i
          · rw [List.getElem?_append_left (by omega)]
            exact hco2 x c
          · have hxi : x = i := by omega
            subst hxi
            rw [List.getElem?_append_right (by omega), hcl2, Nat.sub_self, lf_of hy0, hcy]
            rfl
        · intro b o e
          rw [upd_ne (ne_of_none e hD)]
          exact s6 b o e
      · rintro H6 ⟨cl2, hD6, hcl2, hcw2, hco2, s6⟩
        rw [List.length_map] at hcl2 hco2
        exact ⟨D, cl2, rfl, kp05.free S5 hD, hD6, by omega, hcw2, fun x hx => hco2 x (by omega), s6⟩
    rintro σ H6 ⟨bc, cl2, rfl, hbc0, hbc, hcl2, hcw2, hco2, s6⟩
    have S6 := S5.same s6
    have kp06 := kp05.trans (Kp.same s6)
    obtain ⟨nbs', nbc'⟩ := S.ne hbc0
    -- the answer
    intro p hp
    have sp := same_new (o := .dK []) hp
    have hp0 : H p = none := kp06.free S6 hp
    obtain ⟨nps, npc⟩ := S.ne hp0
    refine ⟨_, rfl, _, rfl, _, rfl, upd_same, worldD na bc t2, rfl, (by show 3 ≤ 15; decide), ?_⟩
    rw [merge_wd]
    have hna6 := s6 _ _ hna5
    have h26 := s6 _ _ h25
    have npn : p ≠ na := fun e => by subst e; rw [hna6] at hp; cases hp
    have npb : p ≠ bc := fun e => by subst e; rw [hbc] at hp; cases hp
    have np2 : p ≠ t2 := fun e => by subst e; rw [h26] at hp; cases hp
    have ud : ∀ b o, H6 b = some o → (upd (upd H6 p (.dK [])) p (.dK (worldD na bc t2))) b = some o := fun b o e => by
      rw [upd_ne (ne_of_none e hp), upd_ne (ne_of_none e hp)]
      exact e
    have hpp : (upd (upd H6 p (.dK [])) p (.dK (worldD na bc t2))) p = some (.dK (worldD na bc t2)) := upd_same
    have s7 : Same H6 (upd (upd H6 p (.dK [])) p (.dK (worldD na bc t2))) := ud
    generalize upd (upd H6 p (.dK [])) p (.dK (worldD na bc t2)) = H7 at *
    refine ⟨_, rfl, o, rfl, ⟨_, SqL.of (s7 _ _ (s6 _ _ ho5))⟩, fun D hD => ?_⟩
    have S7 := S6.same s7
    have kp07 := kp06.trans (Kp.same s7)
    have hD0 : H D = none := kp07.free S7 hD
    refine lc_list (xs := natV od) (fun i H8 => ∃ led', H8 D = some (.lst (natV led')) ∧ led'.length = i ∧ led' = (od.take i).map (fun y => led.getD y 0) ∧ Same H7 H8) ⟨[], upd_same, rfl, rfl, same_new hD⟩ (fun i H8 _ ⟨_, _, _, _, h⟩ => SqL.of (h _ _ (s7 _ _ (s6 _ _ ho5)))) ?_ ?_
    · rintro i x H8 hi ⟨led', hD8, hll, hlm, s8⟩
      have hil := (List.getElem?_eq_some_iff.mp hi).1
      rw [List.length_map] at hil
      rw [List.getElem?_map] at hi
      obtain ⟨y0, hy0, rfl⟩ := Option.map_eq_some_iff.mp hi
      have hyN := odN y0 (List.mem_of_getElem? hy0)
      obtain ⟨ly, hly⟩ : ∃ ly, led[y0]? = some ly := ⟨_, List.getElem?_eq_getElem (by omega)⟩
      refine ⟨rfl, tyes ?_⟩
      refine ⟨_, rfl, _, rfl, ld, _, _, V.int (ly : Int), rfl, rfl, SqL.of (s8 _ _ (s7 _ _ (s6 _ _ hld5))), atI_nat (by rw [List.getElem?_map, hly]; rfl), ?_⟩
      refine ⟨_, hD8, Evl.sz_lt (by rw [List.length_map]; omega), led' ++ [ly], by unfold natV; rw [upd_same, List.map_append]; rfl, by simp [hll], ?_, ?_⟩
      · rw [List.take_add_one, hy0, List.map_append, hlm]
        show _ = _ ++ [led.getD y0 0]
        rw [List.getD_eq_getElem?_getD, hly]
        rfl
      · intro b o e
        rw [upd_ne (ne_of_none e hD)]
        exact s8 b o e
    · rintro H8 ⟨led', hD8, hll, hlm, s8⟩
      have hled : ∀ x, led'[x]? = (od[x]?).map fun y => led.getD y 0 := fun x => by
        rw [hlm, List.take_of_length_le (by rw [List.length_map]; omega), List.getElem?_map]
      have std : Seatd N kvs led cl kv2 led' cl2 := by
        intro x hx
        obtain ⟨y, hy⟩ : ∃ y, od[x]? = some y := ⟨_, List.getElem?_eq_getElem (by omega)⟩
        have hyN := odN y (List.mem_of_getElem? hy)
        obtain ⟨ly, hly⟩ : ∃ ly, led[y]? = some ly := ⟨_, List.getElem?_eq_getElem (by omega)⟩
        have odI : ∀ z < N, od[od.idxOf z]? = some z := fun z hz => by
          have hm : z ∈ od := po.mem_iff.mpr (List.mem_range.mpr hz)
          rw [List.getElem?_eq_getElem (List.idxOf_lt_length_of_mem hm), List.getElem_idxOf]
        refine ⟨y, hyN, ?_, ?_, fun g kd => ?_⟩
        · rw [hled, hy, hly]
          show some (led.getD y 0) = some ly
          rw [List.getD_eq_getElem?_getD, hly]
          rfl
        · rw [hco2 x hx, lf_of hy]
        · rw [hl5c]
          refine Sg.congr fun kv hm => tieC_new (n := N) (s := fun z => od.idxOf z) (fun z hz => ?_) (fun z hz => ?_) (ti.key kv hm)
          · constructor
            · intro e
              have e : od.idxOf z = x := e
              have := odI z hz
              rw [e, hy] at this
              exact (Option.some.inj this).symm
            · rintro rfl
              exact ((List.getElem?_inj (List.getElem?_eq_some_iff.mp hy).1 (po.nodup_iff.mpr List.nodup_range)).mp (hy.trans (odI z hz).symm)).symm
          · show g (lf led' (od.idxOf z)) = g (lf led z)
            congr 1
            unfold lf
            rw [hled, odI z hz]
            show led.getD z 0 = (led[z]?).getD 0
            rw [List.getD_eq_getElem?_getD]
      replace hlm : ∀ x, x ∈ led' ↔ x ∈ led := fun x => by
        rw [List.take_of_length_le (by rw [List.length_map]; omega)] at hlm
        rw [hlm, List.mem_map]
        constructor
        · rintro ⟨y, hy, rfl⟩
          have hyN := odN y hy
          rw [List.getD_eq_getElem?_getD, List.getElem?_eq_getElem (show y < led.length by omega)]
          exact List.getElem_mem _
        · intro hx
          obtain ⟨y, hy⟩ := List.getElem?_of_mem hx
          have hyl := (List.getElem?_eq_some_iff.mp hy).1
          refine ⟨y, po.mem_iff.mpr (List.mem_range.mpr (by omega)), ?_⟩
          rw [List.getD_eq_getElem?_getD, hy]
          rfl
      rw [List.length_map] at hll
      refine ⟨(by show 2 ≤ sizeLine; decide), fun r hr => ?_⟩
      have s9 := s8.trans (same_new (o := .tup [.ref p, .ref D]) hr)
      have kp09 := kp07.trans (Kp.same s9)
      refine k r p na bc t2 D nm cl2 kv2 led' _ hp0 hna0 hbc0 h20 hD0 upd_same ⟨s9 _ _ hpp, s9 _ _ (s7 _ _ hna6), s9 _ _ (s7 _ _ hbc), s9 _ _ (s7 _ _ h26), ⟨nps, npc⟩, ⟨nns, nnc⟩, ⟨nbs', nbc'⟩, ⟨n2s, n2c⟩, ?_, ?_, hcw2, by omega, by omega⟩ (by omega) (by rw [hnl]; exact ti5) hl5 hl5b (same_new hr _ _ hD8) (by omega) hlm std (S7.same s9) kp09
      · refine pn.nodup_iff.mpr (List.Sublist.nodup (List.Sublist.map nameN ?_) nameN_nd)
        exact List.range_sublist.mpr hn2
      · intro x hx
        obtain ⟨y, hy, rfl⟩ := List.mem_map.mp (pn.mem_iff.mp hx)
        exact nameN_w y (by have := List.mem_range.mp hy; omega)
end
end Nm
set_option autoImplicit true
set_option maxRecDepth 100000
set_option maxHeartbeats 4000000
/-! the copies of a place, and their ties -/
namespace Nm
open PySem L2
section
variable {κ : Type} [DecidableEq κ]
theorem mem_of_val : ∀ {kvs : List (κ × V)} {k : κ} {v : V}, valV kvs k = some v → (k, v) ∈ kvs
  | [], _, _, h => by cases h
  | kv :: r, k, v, h => by
    by_cases e : kv.1 = k
    · rw [valV_pos e] at h
      cases h
      subst e
      exact List.mem_cons_self
    · rw [valV_neg e] at h
      exact List.mem_cons_of_mem _ (mem_of_val h)
end
def SeatsOk (kvS : List (List Key × V)) (led : List Nat) (ok : Nat → Nat → Prop) : Prop := ∀ p u, ok p u → ∃ idx : Nat, led[idx]? = some p ∧ valV kvS [Sum.inl (p : Int), Sum.inl (u : Int)] = some (V.int (idx : Int))
theorem SeatsOk.put {kvS : List (List Key × V)} {led : List Nat} {ok ok' : Nat → Nat → Prop} (h : SeatsOk kvS led ok) {i j : Nat} (e : ∀ p u, ok' p u → ok p u ∨ (p = i ∧ u = j)) :
    SeatsOk (putK kvS [Sum.inl (i : Int), Sum.inl (j : Int)] (V.int (led.length : Int))) (led ++ [i]) ok' := by
  intro p u hp
  rw [valV_put]
  by_cases hk : ([Sum.inl (p : Int), Sum.inl (u : Int)] : List Key) = [Sum.inl (i : Int), Sum.inl (j : Int)]
  · rw [if_pos hk]
    have hpi : p = i := by
      have := Sum.inl.inj (List.cons.inj hk).1
      omega
    exact ⟨led.length, by rw [hpi]; simp, rfl⟩
  · rw [if_neg hk]
    rcases e p u hp with z | ⟨z1, z2⟩
    · obtain ⟨idx, h1, h2⟩ := h p u z
      exact ⟨idx, by rw [List.getElem?_append_left (List.getElem?_eq_some_iff.mp h1).1]; exact h1, h2⟩
    · subst z1 z2
      exact absurd rfl hk
/-- the seat of a copy -/
def sf (kvS : List (List Key × V)) (p u : Nat) : Nat := natOf ((valV kvS [Sum.inl (p : Int), Sum.inl (u : Int)]).getD .non)
theorem sf_of {kvS : List (List Key × V)} {p u idx : Nat} (h : valV kvS [Sum.inl (p : Int), Sum.inl (u : Int)] = some (V.int (idx : Int))) : sf kvS p u = idx := by
  unfold sf
  rw [h]
  exact Int.toNat_natCast idx
/-- each place stands for one copy -/
structure SeatsX (kvS : List (List Key × V)) (led : List Nat) (ok : Nat → Nat → Prop) : Prop where
  cov : ∀ x p : Nat, led[x]? = some p → ∃ u, ok p u ∧ sf kvS p u = x
  inj : ∀ p u v, ok p u → ok p v → sf kvS p u = sf kvS p v → u = v
theorem SeatsX.nil (ok : Nat → Nat → Prop) (h : ∀ p u, ¬ ok p u) : SeatsX [] [] ok := ⟨(fun x p e => by cases e), fun p u _ o => absurd o (h p u)⟩
theorem SeatsX.mono {kvS : List (List Key × V)} {led : List Nat} {ok ok' : Nat → Nat → Prop} (h : SeatsX kvS led ok) (e : ∀ p u, ok p u → ok' p u) (e2 : ∀ p u, ok' p u → ok p u) : SeatsX kvS led ok' :=
  ⟨fun x p hx => by obtain ⟨u, a, b⟩ := h.cov x p hx; exact ⟨u, e p u a, b⟩, fun p u v a b => h.inj p u v (e2 p u a) (e2 p v b)⟩
theorem SeatsX.put {kvS : List (List Key × V)} {led : List Nat} {ok ok' : Nat → Nat → Prop} (h : SeatsX kvS led ok) (S : SeatsOk kvS led ok) {i j : Nat} (n : ¬ ok i j) (e : ∀ p u, ok' p u → ok p u ∨ (p = i ∧ u = j)) (e2 : ∀ p u, ok p u → ok' p u) (e3 : ok' i j) :
    SeatsX (putK kvS [Sum.inl (i : Int), Sum.inl (j : Int)] (V.int (led.length : Int))) (led ++ [i]) ok' := by
  have old : ∀ p u, ok p u → sf (putK kvS [Sum.inl (i : Int), Sum.inl (j : Int)] (V.int (led.length : Int))) p u = sf kvS p u ∧ sf kvS p u < led.length := fun p u o => by
    obtain ⟨idx, h1, h2⟩ := S p u o
    have hk : ¬ ([Sum.inl (p : Int), Sum.inl (u : Int)] : List Key) = [Sum.inl (i : Int), Sum.inl (j : Int)] := fun z => by
      have z1 := Sum.inl.inj (List.cons.inj z).1
      have z2 := Sum.inl.inj (List.cons.inj (List.cons.inj z).2).1
      have z1 : p = i := by omega
      have z2 : u = j := by omega
      subst z1 z2
      exact n o
    refine ⟨?_, by rw [sf_of h2]; exact (List.getElem?_eq_some_iff.mp h1).1⟩
    unfold sf
    rw [valV_put, if_neg hk]
  have new : sf (putK kvS [Sum.inl (i : Int), Sum.inl (j : Int)] (V.int (led.length : Int))) i j = led.length := by
    unfold sf
    rw [valV_put, if_pos rfl]
    exact Int.toNat_natCast _
  refine ⟨fun x p hx => ?_, fun p u v a b hs => ?_⟩
  · by_cases c : x < led.length
    · rw [List.getElem?_append_left c] at hx
      obtain ⟨u, a, b⟩ := h.cov x p hx
      exact ⟨u, e2 p u a, by rw [(old p u a).1]; exact b⟩
    · have hl := (List.getElem?_eq_some_iff.mp hx).1
      rw [List.length_append, List.length_singleton] at hl
      have hx' : x = led.length := by omega
      subst hx'
      rw [List.getElem?_append_right (Nat.le_refl _), Nat.sub_self] at hx
      have : i = p := by simpa using hx
      subst this
      exact ⟨j, e3, new⟩
  · rcases e p u a with a1 | ⟨a1, a2⟩ <;> rcases e p v b with b1 | ⟨b1, b2⟩
    · rw [(old p u a1).1, (old p v b1).1] at hs
      exact h.inj p u v a1 b1 hs
    · subst b1 b2
      rw [(old p u a1).1, new] at hs
      have := (old p u a1).2
      omega
    · subst a1 a2
      rw [(old p v b1).1, new] at hs
      have := (old p v b1).2
      omega
    · omega
/-! ### sums -/
theorem sumz {α : Type} {f : α → Nat} : ∀ {l : List α}, (∀ u ∈ l, f u = 0) → (l.map f).sum = 0
  | [], _ => rfl
  | a :: r, h => by
    rw [List.map_cons, List.sum_cons, h a List.mem_cons_self, sumz fun u hu => h u (List.mem_cons_of_mem _ hu)]
theorem sumo {α : Type} [DecidableEq α] {f : α → Nat} {a : α} : ∀ {l : List α}, l.Nodup → a ∈ l → (∀ u ∈ l, u ≠ a → f u = 0) → (l.map f).sum = f a
  | b :: r, nd, ha, h => by
    rw [List.nodup_cons] at nd
    rw [List.map_cons, List.sum_cons]
    by_cases e : b = a
    · subst e
      rw [sumz fun u hu => h u (List.mem_cons_of_mem _ hu) (fun z => nd.1 (z ▸ hu))]
      rfl
    · rw [h b List.mem_cons_self e, sumo nd.2 ((List.mem_cons.mp ha).resolve_left (fun z => e z.symm)) fun u hu => h u (List.mem_cons_of_mem _ hu)]
      omega
theorem suma {α : Type} {f g : α → Nat} : ∀ {l : List α}, (l.map fun u => f u + g u).sum = (l.map f).sum + (l.map g).sum
  | [] => rfl
  | a :: r => by
    rw [List.map_cons, List.sum_cons, List.map_cons, List.sum_cons, List.map_cons, List.sum_cons, suma]
    omega
/-- so many copies of a tie: each copy of an end has just one -/
theorem unit_count {s : Nat → Nat → Nat} {f : Nat → Nat} {c i j x : Nat} {τ : Nat → Nat} {g : Nat → Nat} {kd k : Str} (hτ : ∀ u < c, τ u < c) (hτs : ∀ z < c, ∃ u < c, τ u = z) (hτi : ∀ u < c, ∀ v < c, τ u = τ v → u = v)
    (hf : ∀ u < c, f (s i u) = i ∧ f (s j u) = j) (hc : ∀ p, p = i ∨ p = j → f x = p → ∃ u < c, s p u = x) (hi : ∀ p, p = i ∨ p = j → ∀ u < c, ∀ v < c, s p u = s p v → u = v) :
    ((List.range c).map fun u => tieC (fun z => g (f z)) x kd [Sum.inl (s i u : Int), Sum.inl (s j (τ u) : Int), Sum.inr k]).sum = tieC g (f x) kd [Sum.inl (i : Int), Sum.inl (j : Int), Sum.inr k] := by
  rw [tieC_nat]
  by_cases hk : k = kd
  · rw [if_pos hk]
    have e : ((List.range c).map fun u => tieC (fun z => g (f z)) x kd [Sum.inl (s i u : Int), Sum.inl (s j (τ u) : Int), Sum.inr k]) = (List.range c).map fun u => (if s i u = x then g j else 0) + (if s j (τ u) = x then g i else 0) := by
      refine List.map_congr_left fun u hu => ?_
      have hu := List.mem_range.mp hu
      rw [tieC_nat, if_pos hk, (hf u hu).1, (hf _ (hτ u hu)).2]
    rw [e, suma]
    congr 1
    · by_cases hx : i = f x
      · rw [if_pos hx]
        obtain ⟨u0, h0, e0⟩ := hc i (.inl rfl) hx.symm
        rw [sumo (a := u0) List.nodup_range (List.mem_range.mpr h0) fun u hu hne => if_neg fun z => hne (hi i (.inl rfl) u (List.mem_range.mp hu) u0 h0 (z.trans e0.symm))]
        exact if_pos e0
      · rw [if_neg hx]
        exact sumz fun u hu => if_neg fun z => hx (by rw [← z, (hf u (List.mem_range.mp hu)).1])
    · by_cases hx : j = f x
      · rw [if_pos hx]
        obtain ⟨z0, h0, e0⟩ := hc j (.inr rfl) hx.symm
        obtain ⟨u0, h1, e1⟩ := hτs z0 h0
        rw [sumo (a := u0) List.nodup_range (List.mem_range.mpr h1) fun u hu hne => if_neg fun z => hne (hτi u (List.mem_range.mp hu) u0 h1 (by
          rw [e1]
          exact hi j (.inr rfl) _ (hτ u (List.mem_range.mp hu)) z0 h0 (z.trans e0.symm)))]
        rw [e1]
        exact if_pos e0
      · rw [if_neg hx]
        exact sumz fun u hu => if_neg fun z => hx (by rw [← z, (hf _ (hτ u (List.mem_range.mp hu))).2])
  · rw [if_neg hk]
    exact sumz fun u _ => by rw [tieC_nat, if_neg hk]
theorem turn_ok {c t : Nat} (ht : t < c) : (∀ u < c, (u + t) % c < c) ∧ (∀ z < c, ∃ u < c, (u + t) % c = z) ∧ ∀ u < c, ∀ v < c, (u + t) % c = (v + t) % c → u = v := by
  have md : ∀ u < c, (u + t) % c = if u + t < c then u + t else u + t - c := fun u hu => by
    by_cases h : u + t < c
    · rw [if_pos h, Nat.mod_eq_of_lt h]
    · rw [if_neg h, Nat.mod_eq_sub_mod (by omega), Nat.mod_eq_of_lt (by omega)]
  refine ⟨fun u hu => Nat.mod_lt _ (by omega), fun z hz => ?_, fun u hu v hv e => ?_⟩
  · by_cases h : t ≤ z
    · exact ⟨z - t, by omega, by rw [md _ (by omega), if_pos (by omega)]; omega⟩
    · exact ⟨z + c - t, by omega, by rw [md _ (by omega), if_neg (by omega)]; omega⟩
  · rw [md u hu, md v hv] at e
    split at e <;> split at e <;> omega
/-- of a covering: colours, and the ties of each place -/
def Cov (kvs : List (List Key × V)) (cl : List Str) (kvs' : List (List Key × V)) (led' : List Nat) (cl' : List Str) : Prop :=
  ∀ x p, led'[x]? = some p → cl'[x]? = cl[p]? ∧ ∀ (g : Nat → Nat) (kd : Str), Sg (tieC (fun z => g (lf led' z)) x kd) kvs' = Sg (tieC g p kd) kvs
end Nm
set_option autoImplicit true
set_option maxRecDepth 100000
set_option maxHeartbeats 4000000
namespace Nm
open PySem L2
theorem Ties.mono {n m m' : Nat} {kvs : List (List Key × V)} (h : Ties n m kvs) (e : m ≤ m') : Ties n m' kvs := ⟨h.key, fun kv hm => by
  obtain ⟨x, a, b, c⟩ := h.val kv hm
  exact ⟨x, a, b, by omega⟩, h.nd⟩
theorem two_sorted {ns : List Int} {u1 u2 N : Nat} (pms : ns.Perm [(u1 : Int), (u2 : Int)]) (srt : ns.Pairwise (· ≤ ·)) (hne : u1 ≠ u2) (h1 : u1 < N) (h2 : u2 < N) : ∃ n0 n1 : Nat, ns = [(n0 : Int), (n1 : Int)] ∧ n0 < n1 ∧ n1 < N := by
  have hl2 : ns.length = 2 := pms.length_eq
  match ns, hl2 with
  | [z0, z1], _ =>
    have hle : z0 ≤ z1 := by simpa using srt
    have h0 := pms.mem_iff.mp (show z0 ∈ [z0, z1] by simp)
    have h1 := pms.mem_iff.mp (show z1 ∈ [z0, z1] by simp)
    have h2 := pms.mem_iff.mpr (show (u1 : Int) ∈ [(u1 : Int), (u2 : Int)] by simp)
    have h3 := pms.mem_iff.mpr (show (u2 : Int) ∈ [(u1 : Int), (u2 : Int)] by simp)
    simp at h0 h1 h2 h3
    refine ⟨z0.toNat, z1.toNat, ?_, by omega, by omega⟩
    rw [Int.toNat_of_nonneg (by omega), Int.toNat_of_nonneg (by omega)]
section
variable {P : Program} {w : World} {K : PySem.W.Frag} {mg : Str → Option Value} {base : Heap}
def spPick0 : Sp := fun vs H Q _ => ∃ (s : Addr) (n : Int), vs = [.ref s, .int n] ∧ n < 2 ∧ Q (.int 0) H
/-- pick, of 0 too -/
def spPickZ : Sp := fun vs H Q E => spPick vs H Q E ∨ spPick0 vs H Q E
theorem ok_pickZ {f : Addr} {fd : FuncData} (F : Fun K "_law_pick" "_law_pick" sPick f fd) (T : TxtA mg) : FnOk P w K mg base CX0 1 f fd ["_law_source", "_law_many"] spPickZ := by
  have h0 : FnOk P w K mg base CX0 1 f fd ["_law_source", "_law_many"] spPick0 := by
    refine F.ok scPick (fun vs H Q E h => ?_) (fun cdv A outer s H vs Q E hr h => ?_)
    · obtain ⟨p, n, rfl, _⟩ := h
      rfl
    · obtain ⟨sa, n, rfl, n1, k⟩ := h
      have hu := hu_of hr
      refine ⟨_, pss_cons (ps_if (pt_cmpR op_lt (pv 1) pe_int (nomark _)) (pss_one (ps_ret pe_int)) pss_nil)
        (pss_cons (ps_set (i := 2) scPick.nd rfl (Or.inl rfl) (pe_dget hu (pv 0) pe_str (fun _ _ => rfl)))
        (Evl.pss_cut (ps_while PassesOwn.never (PW.pt (pw_and (pt_cmpR op_lt (pe_dget hu (pv 0) pe_str (fun _ _ => rfl)) pe_int (nomark _)) (pw_and1 (pt_cmpR op_gt (pe_callB call_len_seq (by rfl) T.len PySem.boot_len (pa_cons (pv 2) pa_nil)) pe_int (nomark _)))))
          (pss_one (ps_dput hu (pv 0) pe_str (pe_bm0 PySem.F.plainAttrs_list PySem.F.slot_list_pop PySem.F.type_list_pop mt_pop (pv 2)) rfl)))
        (pss_cons (ps_set (i := 3) scPick.nd rfl (Or.inl rfl) (pe_dget hu (pv 0) pe_str (fun _ _ => rfl)))
        (pss_cons (ps_if (pt_cmpR op_gt (pv 3) pe_int (nomark _))
          (pss_cons (ps_dput hu (pv 0) pe_str (pe_op op_fdiv (pv 3) (pv 1)) rfl) (pss_one (ps_ret (pe_op op_mod (pe_callTy call_int1 (by rfl) T.int (by decide +kernel) (pa_cons (pv 3) pa_nil)) (pv 1))))) pss_nil)
        (pss_cons (ps_dput hu (pv 0) pe_str (pe_op op_add (pe_dget hu (pv 0) pe_str (fun _ _ => rfl)) pe_int) rfl)
        (pss_cons (ps_set (i := 4) scPick.nd rfl (Or.inl rfl) (pe_dget hu (pv 0) pe_str (fun _ _ => rfl)))
        (pss_cons (ps_set (i := 5) scPick.nd rfl (Or.inl rfl) (pe_op op_mod (pe_callTy call_int1 (by rfl) T.int (by decide +kernel) (pa_cons (pe_op op_add (pe_dget hu (pv 0) pe_str (fun _ _ => rfl)) (pe_op op_mul (pv 4) pe_int)) pa_nil)) pe_int))
        (pss_cons (ps_set (i := 5) scPick.nd rfl (Or.inl rfl) (pe_op op_mod (pe_callTy call_int1 (by rfl) T.int (by decide +kernel) (pa_cons (pe_op op_add (pe_op op_mul (pv 5) (pv 5)) (pe_op op_mul (pv 4) pe_int)) pa_nil)) pe_int))
        (pss_one (ps_ret (pe_op op_mod (pe_callTy call_int1 (by rfl) T.int (by decide +kernel) (pa_cons (pe_op op_fdiv (pv 5) pe_int) pa_nil)) (pv 1)))))))))))), ?_⟩
      refine ⟨_, rfl, _, _, rfl, rfl, _, rfl, ?_⟩
      have : decide (n < 2) = true := decide_eq_true n1
      show (if decide (n < 2) = true then _ else _)
      rw [if_pos this]
      exact k
  have h1 := ok_pick (P := P) (w := w) (base := base) F T
  exact ⟨fun vs H Q E h => h.elim (h1.len vs H Q E) (h0.len vs H Q E), fun A outer s H args us vs Q E hr he hb hv h => h.elim (h1.run A outer s H args us vs Q E hr he hb hv) (h0.run A outer s H args us vs Q E hr he hb hv)⟩
/-! ### _law_over -/
/-- how long it can be, when all counts are equal -/
def LedK (_n : Nat) (ns led : List Nat) (b : Nat → Nat) : Prop := ∀ c0, (∀ x ∈ ns, x = c0) → led.length ≤ b c0
def spOver : Sp := fun vs H Q _ => ∃ (s c wd a b t nu : Addr) (nm cl : List Str) (m : Nat) (kvs : List (List Key × V)) (ns : List Nat), vs = [.ref s, .ref wd, .ref nu] ∧ Src H s c ∧ WorldOk H s c wd a b t nm cl kvs ∧ Ties nm.length m kvs ∧ totW kvs ≤ 800 ∧ nm.length ≤ 10 ∧ H nu = some (.lst (natV ns)) ∧ nu ≠ c ∧ nm.length ≤ ns.length ∧ (∀ x ∈ ns, x ≤ 5) ∧
  (∀ ps, PartsRel nm.length kvs ps → ∃ p ∈ ps, ∃ x, ns[p]? = some x ∧ 1 ≤ x) ∧
  ∀ (r wd' a' b' t' ld' : Addr) (nm' cl' : List Str) (kvs' : List (List Key × V)) (led' : List Nat) (H' : Hp), H wd' = none → H a' = none → H b' = none → H t' = none → H ld' = none → H' r = some (.tup [.ref wd', .ref ld']) → WorldOk H' s c wd' a' b' t' nm' cl' kvs' → nm'.length ≤ 100 → Ties nm'.length 4000 kvs' → kvs'.length ≤ 4000 → totW kvs' ≤ 5 * totW kvs →
    H' ld' = some (.lst (natV led')) → led'.length = nm'.length → Cov kvs cl kvs' led' cl' → (∀ x ∈ led', x < nm.length) → LedK nm.length ns led' (fun c => c * nm.length) → (∀ p < nm.length, (∀ c0, (∀ x ∈ ns, x = c0) → 1 ≤ c0) → (∀ x ∈ ns, ∀ y ∈ ns, x = y) → p ∈ led') → Src H' s c → Kp s c H H' → Q (.ref r) H'
abbrev nOver : List Str := ["_law_source", "_law_world", "_law_numbers", "_law_parts_here", "_law_led", "_law_seats", "_law_ties", "_law_p", "_law_part", "_law_u", "_law_one", "_law_other", "_law_kind", "_law_many", "_law_unit", "_law_turn", "_law_spot", "_law_key", "_law_colours"]
theorem scOver : FnScope nOver ["_law_source", "_law_world", "_law_numbers"] (defScope sOver) := ⟨rfl, rfl, rfl, by decide +kernel, rfl, by decide +kernel, by decide +kernel⟩
abbrev stO (sa wd nu pa ld se t2 : Addr) (v7 v8 v9 v10 v11 v12 v13 v14 v15 v16 v17 v18 : Option V) : L2.St := [some (.ref sa), some (.ref wd), some (.ref nu), some (.ref pa), some (.ref ld), some (.ref se), some (.ref t2), v7, v8, v9, v10, v11, v12, v13, v14, v15, v16, v17, v18]
theorem ok_over {f : Addr} {fd : FuncData} (F : Fun K "_law_over" "_law_over" sOver f fd) (T : TxtD mg) (Gz : Def P w K mg base "_law_pick" ["_law_source", "_law_many"] 1 spPickZ) (Gq : Def P w K mg base "_law_parts" ["_law_world"] 1 spParts)
    (Gs : Def P w K mg base "_law_seated" ["_law_source", "_law_world", "_law_led"] 3 spSeated) : FnOk P w K mg base CX0 4 f fd ["_law_source", "_law_world", "_law_numbers"] spOver := by
  obtain ⟨fp, fdp, Gp, mp, kp, bp⟩ := Gz.ex
  obtain ⟨fq, fdq, Gq, mq, kq, bq⟩ := Gq.ex
  obtain ⟨fs, fds, Gs, ms, ks, bs⟩ := Gs.ex
  refine F.ok scOver (fun vs H Q E h => ?_) (fun cdv A outer s H vs Q E hr h => ?_)
  · obtain ⟨_, _, _, _, _, _, _, _, _, _, _, _, rfl, _⟩ := h
    rfl
  · obtain ⟨sa, ca, wd, a, b, t, nu, nm, cl, mm, kvs, ns, rfl, S, W, ti, htot, hn10, hnu, nnc, hnsl, hns10, hone, k⟩ := h
    have hkl : kvs.length ≤ 800 := Nat.le_trans ti.len htot
    have hu := hu_of hr
    have hr1 := hr.mono (by decide : 1 ≤ 3)
    refine ⟨_, Evl.pss_cut (ps_asg (pe_tup (pa_cons (pe_call Gq hr1 (by rfl) mq kq bq .nil pass0 (pa_cons (pv 1) pa_nil)) (pa_cons (pe_lst pa_nil) (pa_cons pe_dnewT (pa_cons pe_dnewT pa_nil))))) (pg_tup rfl (pgs_cons (pg_name (i := 3) scOver.nd rfl (.inl rfl)) (pgs_cons (pg_name (i := 4) scOver.nd rfl (.inl rfl)) (pgs_cons (pg_name (i := 5) scOver.nd rfl (.inl rfl)) (pgs_cons (pg_name (i := 6) scOver.nd rfl (.inl rfl)) pgs_nil))))))
      (Evl.pss_cut (ps_for PassesOwn.never rfl (pi_enum (by rfl) T.enumerate (pa_cons (pv 3) pa_nil)) (pg_tup rfl (pgs_cons (pg_name (i := 7) scOver.nd rfl (.inl rfl)) (pgs_cons (pg_name (i := 8) scOver.nd rfl (.inl rfl)) pgs_nil)))
        (pss_one (ps_for PassesOwn.never rfl (pi_range1 (by rfl) T.range (pa_cons (pe_ix ix_list (pv 2) (pv 8) (fun _ _ => rfl)) pa_nil)) (pg_name (i := 9) scOver.nd rfl (Or.inl rfl))
          (pss_cons (ps_dput hu (pv 5) (pe_tup (pa_cons (pv 7) (pa_cons (pv 9) pa_nil))) (pe_callB call_len_seq (by rfl) T.len PySem.boot_len (pa_cons (pv 4) pa_nil)) rfl)
          (pss_one (ps_expr (pe_bm PySem.F.plainAttrs_list PySem.F.slot_list_append PySem.F.type_list_append mt_append (pv 4) (pa_cons (pv 7) pa_nil))))))))
      (Evl.pss_cut (ps_for PassesOwn.never rfl (pi_list (pe_callB cr_sortedR (by rfl) T.sorted (by decide +kernel) (pa_cons (pe_callTy (call_list_dT rfl) (by rfl) T.list (by decide +kernel) (pa_cons (pe_dget hu (pv 1) pe_str (fun _ _ => rfl)) pa_nil)) pa_nil)))
          (pg_tup rfl (pgs_cons (pg_name (i := 10) scOver.nd rfl (.inl rfl)) (pgs_cons (pg_name (i := 11) scOver.nd rfl (.inl rfl)) (pgs_cons (pg_name (i := 12) scOver.nd rfl (.inl rfl)) pgs_nil))))
        (pss_cons (ps_set (i := 13) scOver.nd rfl (Or.inl rfl) (pe_ix ix_list (pv 2) (pe_ix ix_list (pv 3) (pv 10) (fun _ _ => rfl)) (fun _ _ => rfl)))
        (pss_one (ps_for PassesOwn.never rfl (pi_range1 (by rfl) T.range (pa_cons (pe_dget hu (pe_dget hu (pv 1) pe_str (fun _ _ => rfl)) (pe_tup (pa_cons (pv 10) (pa_cons (pv 11) (pa_cons (pv 12) pa_nil)))) (fun _ _ => rfl)) pa_nil)) (pg_name (i := 14) scOver.nd rfl (Or.inl rfl))
          (Evl.pss_cut (ps_set (i := 15) scOver.nd rfl (Or.inl rfl) (pe_call Gp hr1 (by rfl) mp kp bp .nil pass0 (pa_cons (pv 0) (pa_cons (pv 13) pa_nil))))
          (pss_one (ps_for PassesOwn.never rfl (pi_range1 (by rfl) T.range (pa_cons (pv 13) pa_nil)) (pg_name (i := 9) scOver.nd rfl (Or.inl rfl))
            (pss_cons (ps_set (i := 16) scOver.nd rfl (Or.inl rfl) (pe_callB cr_sorted (by rfl) T.sorted (by decide +kernel) (pa_cons (pe_lst (pa_cons (pe_dget hu (pv 5) (pe_tup (pa_cons (pv 10) (pa_cons (pv 9) pa_nil))) (fun _ _ => rfl)) (pa_cons (pe_dget hu (pv 5) (pe_tup (pa_cons (pv 11) (pa_cons (pe_op op_mod (pe_callTy call_int1 (by rfl) T.int (by decide +kernel) (pa_cons (pe_op op_add (pv 9) (pv 15)) pa_nil)) (pv 13)) pa_nil))) (fun _ _ => rfl)) pa_nil))) pa_nil)))
            (pss_cons (ps_set (i := 17) scOver.nd rfl (Or.inl rfl) (pe_tup (pa_cons (pe_ix ix_list (pv 16) pe_int (fun _ _ => rfl)) (pa_cons (pe_ix ix_list (pv 16) pe_int (fun _ _ => rfl)) (pa_cons (pv 12) pa_nil)))))
            (pss_one (ps_dput hu (pv 6) (pv 17) (pe_op op_add (pe_dget2 hu (pv 6) (pv 17) pe_int ⟨rfl, rfl, rfl, rfl⟩) pe_int) rfl)))))))))))
      (Evl.pss_cut (ps_setLc (i := 18) (own := [("_law_p", 7)]) (g := gName 7) (tt := tYes) (te := tOp (rIxL K) (tDGet (tVar 1) (tC (.str "colours"))) (tVar 7)) rfl scOver.nd rfl rfl (sw_true rfl rfl rfl (by decide +kernel)) (pi_list (pv 4))
          (blkOk_by (N := nOver) (sc := defScope sOver) (by decide +kernel)) (fun _ _ _ _ _ => pg_name (i := 7) scOver.nd rfl (Or.inl rfl)) (fun _ _ _ _ _ => pts_nil)
          (fun _ _ _ _ _ => by exact pe_ix ix_list (pe_dget hu (pv 1) pe_str (fun _ _ => rfl)) (pv 7) (fun _ _ => rfl)))
      (pss_one (ps_ret (pe_call Gs hr (by rfl) ms ks bs .nil pass0 (pa_cons (pv 0) (pa_cons (pe_disp (pps_cons pe_str (pv 4) (pps_cons pe_str (pv 18) (pps_cons pe_str (pv 6) pps_nil))) (by rfl) (by rfl) (fun z => by cases z) (by decide)) (pa_cons (pv 4) pa_nil))))))))), ?_⟩
    generalize hn : nm.length = n at *
    refine ⟨fun σ H2 => ∃ pa ps ld se t2, σ = stO sa wd nu pa ld se t2 none none none none none none none none none none none none ∧ (H pa = none ∧ H ld = none ∧ H se = none ∧ H t2 = none ∧ pa ≠ ld ∧ se ≠ t2) ∧ H2 pa = some (.lst (natV ps)) ∧ ps.length = n ∧ (∀ x ∈ ps, x < n) ∧
        (∀ (i j : Nat) (kd : Str) (v : V), ([Sum.inl (i : Int), Sum.inl (j : Int), Sum.inr kd], v) ∈ kvs → ps[i]? = ps[j]?) ∧ PartsRel n kvs ps ∧ H2 ld = some (.lst []) ∧ H2 se = some (.dT []) ∧ H2 t2 = some (.dT []) ∧ Same H H2, ?_, ?_⟩
    · refine ⟨_, rfl, wd, a, b, t, _, mm, kvs, rfl, W.d, W.hn, W.ht, by rw [List.length_map]; omega, by omega, by rw [List.length_map, hn]; exact ti, fun pa ps H1 hpa0 hpa hpl hpn hpe hpr s1 => ?_⟩
      rw [List.length_map, hn] at hpl hpn hpr
      refine ⟨(by show 0 ≤ sizeLine; decide), fun ld hld => ?_⟩
      intro se hse t2 ht2
      refine ⟨(by show 4 ≤ sizeLine; decide), fun tp htp => ?_⟩
      obtain ⟨n1, hse1⟩ := nx hse
      obtain ⟨n2, ht2'⟩ := nx ht2
      obtain ⟨n3, ht21⟩ := nx ht2'
      have a1 := same_new (o := .lst []) hld
      have a2 := same_new (o := .dT []) hse
      have a3 := same_new (o := .dT []) ht2
      have a4 := same_new (o := .tup [V.ref pa, V.ref ld, V.ref se, V.ref t2]) htp
      refine ⟨tp, _, rfl, SqT.of upd_same, rfl, _, _, rfl, _, _, rfl, _, _, rfl, _, _, rfl, rfl, ?_⟩
      exact ⟨pa, ps, ld, se, t2, rfl, ⟨hpa0, s1.free hld, s1.free hse1, s1.free ht21, ne_of_none hpa hld, n2.symm⟩, a4 _ _ (a3 _ _ (a2 _ _ (a1 _ _ hpa))), hpl, hpn, hpe, hpr, a4 _ _ (a3 _ _ (a2 _ _ upd_same)), a4 _ _ (a3 _ _ upd_same), a4 _ _ upd_same, (((s1.trans a1).trans a2).trans a3).trans a4⟩
    rintro σ H2 ⟨pa, ps, ld, se, t2, rfl, ⟨hpa0, hld0, hse0, ht20, npl, nst⟩, hpa, hpl, hpn, hpe, hpr, hld, hse, ht2, s2⟩
    have W2 := W.same s2
    have S2 := S.same s2
    have hnu2 := s2 _ _ hnu
    obtain ⟨nls, nlc⟩ := S.ne hld0
    obtain ⟨nes, nec⟩ := S.ne hse0
    obtain ⟨n2s, n2c⟩ := S.ne ht20
    obtain ⟨nps, npc⟩ := S.ne hpa0
    have nnl : nu ≠ ld := fun e => by subst e; rw [hld0] at hnu; cases hnu
    have nne : nu ≠ se := ne_of hnu2 hse (by intro z; cases z)
    have npe : pa ≠ se := ne_of hpa hse (by intro z; cases z)
    have nle : ld ≠ se := ne_of hld hse (by intro z; cases z)
    -- seats
    refine ⟨fun σ H3 => ∃ v7 v8 v9 led kvS, σ = stO sa wd nu pa ld se t2 v7 v8 v9 none none none none none none none none none ∧ H3 ld = some (.lst (natV led)) ∧ H3 se = some (.dT kvS) ∧ (∀ x ∈ led, x < n) ∧ led.length ≤ 100 ∧ 1 ≤ led.length ∧ LedK n ns led (fun c => c * n) ∧
        (SeatsOk kvS led (fun p u => ∃ q c, ps[p]? = some q ∧ ns[q]? = some c ∧ u < c) ∧ SeatsX kvS led (fun p u => ∃ q c, ps[p]? = some q ∧ ns[q]? = some c ∧ u < c)) ∧ (∀ b o, H2 b = some o → b ≠ ld → b ≠ se → H3 b = some o), ?_, ?_⟩
    · refine ⟨_, rfl, pa, _, rfl, SqL.of hpa, ?_⟩
      refine for_it (walk_enum (xs := natV ps)) (fun i σ H3 => ∃ v7 v8 v9 led kvS, σ = stO sa wd nu pa ld se t2 v7 v8 v9 none none none none none none none none none ∧ H3 ld = some (.lst (natV led)) ∧ H3 se = some (.dT kvS) ∧ (∀ x ∈ led, x < n) ∧ led.length ≤ 10 * i ∧ kvS.length ≤ led.length ∧ LedK n ns led (fun c => c * i) ∧
          (SeatsOk kvS led (fun p u => p < i ∧ ∃ q c, ps[p]? = some q ∧ ns[q]? = some c ∧ u < c) ∧ SeatsX kvS led (fun p u => p < i ∧ ∃ q c, ps[p]? = some q ∧ ns[q]? = some c ∧ u < c)) ∧ (∀ b o, H2 b = some o → b ≠ ld → b ≠ se → H3 b = some o))
        ⟨none, none, none, [], [], rfl, hld, hse, (fun x hx => (List.not_mem_nil hx).elim), by simp, Nat.le_refl _, fun c0 _ => Nat.zero_le _, ⟨fun p u h => by omega, SeatsX.nil _ fun p u h => by omega⟩, fun b o e _ _ => e⟩ (fun i σ H3 _ ⟨_, _, _, _, _, _, _, _, _, _, _, _, _, h⟩ => SqL.of (h _ _ hpa npl npe)) ?_ ?_
      · rintro i x σ H3 H4 hi ⟨v7, v8, v9, led, kvS, rfl, hld3, hse3, hln, hll, hkS, hLK, ⟨hS, hX⟩, fr3⟩ ⟨T, x1, y1, rfl, hT, rfl, e1, e2⟩
        rw [List.length_map] at hi
        have e2 : (natV ps)[i]? = some y1 := e2
        rw [List.getElem?_map] at e2
        obtain ⟨q, hq, rfl⟩ := Option.map_eq_some_iff.mp e2
        cases e1
        have hqn := hpn q (List.mem_of_getElem? hq)
        obtain ⟨c, hc⟩ : ∃ c, ns[q]? = some c := ⟨_, List.getElem?_eq_getElem (by omega)⟩
        have hc10 := hns10 c (List.mem_of_getElem? hc)
        have sT := same_new (o := .tup [V.int (i : Nat), V.int (q : Int)]) hT
        have nTl : T ≠ ld := fun e => by subst e; rw [hld3] at hT; cases hT
        have nTe : T ≠ se := fun e => by subst e; rw [hse3] at hT; cases hT
        refine ⟨T, _, rfl, SqT.of upd_same, rfl, _, _, rfl, _, _, rfl, rfl, ?_⟩
        refine ⟨_, rfl, _, rfl, nu, _, _, V.int (c : Int), rfl, rfl, SqL.of (sT _ _ (fr3 _ _ hnu2 nnl nne)), atI_nat (by rw [List.getElem?_map, hc]; rfl), _, rfl, by omega, by omega, ?_⟩
        refine for_range (lo := 0) (n := (c : Int).toNat) (fun j σ H5 => ∃ v9 led kvS, σ = stO sa wd nu pa ld se t2 (some (.int (i : Nat))) (some (.int (q : Int))) v9 none none none none none none none none none ∧ H5 ld = some (.lst (natV led)) ∧ H5 se = some (.dT kvS) ∧ (∀ x ∈ led, x < n) ∧ led.length ≤ 10 * i + j ∧ kvS.length ≤ led.length ∧ LedK n ns led (fun c => c * i + j) ∧
            (SeatsOk kvS led (fun p u => (p < i ∧ ∃ q c, ps[p]? = some q ∧ ns[q]? = some c ∧ u < c) ∨ (p = i ∧ u < j)) ∧ SeatsX kvS led (fun p u => (p < i ∧ ∃ q c, ps[p]? = some q ∧ ns[q]? = some c ∧ u < c) ∨ (p = i ∧ u < j))) ∧ (∀ b o, H2 b = some o → b ≠ ld → b ≠ se → H5 b = some o))
          ⟨v9, led, kvS, rfl, sT _ _ hld3, sT _ _ hse3, hln, by omega, hkS, fun c0 h0 => Nat.le_trans (hLK c0 h0) (Nat.le_add_right _ _), ⟨fun p u h => hS p u (h.resolve_right (by omega)), hX.mono (fun p u h => .inl h) (fun p u h => h.resolve_right (by omega))⟩, fun b o e h1 h2 => sT _ _ (fr3 b o e h1 h2)⟩ ?_ ?_
        · rintro j σ H5 hj ⟨v9, led, kvS, rfl, hld5, hse5, hln, hll, hkS, hLK, ⟨hS, hX⟩, fr5⟩
          have hj' : j < c := by omega
          refine ⟨_, rfl, ld, _, rfl, .inl (SqL.of hld5), _, rfl, _, rfl, _, rfl, (by show 2 ≤ sizeLine; decide), fun u hu => ?_⟩
          have su := same_new (o := .tup [V.int (i : Nat), V.int (0 + (j : Int))]) hu
          refine ⟨se, _, rfl, DPut.t (k := [Sum.inl ((i : Nat) : Int), Sum.inl (0 + (j : Int))]) (su _ _ hse5) upd_same (Evl.sz_lt (by omega)), ?_⟩
          have nul : u ≠ ld := fun e => by subst e; rw [hld5] at hu; cases hu
          have hld6 : (upd (upd H5 u (.tup [V.int (i : Nat), V.int (0 + (j : Int))])) se (.dT (putK kvS [Sum.inl ((i : Nat) : Int), Sum.inl (0 + (j : Int))] (V.int ((natV led).length : Int))))) ld = some (.lst (natV led)) := by rw [upd_ne nle]; exact su _ _ hld5
          refine ⟨_, rfl, .inl ⟨rfl, _, SqL.of hld6⟩, _, rfl, ld, _, _, rfl, rfl, hld6, Evl.sz_lt (by rw [List.length_map]; omega), ?_⟩
          refine ⟨_, led ++ [i], _, rfl, by unfold natV; rw [upd_same, List.map_append]; rfl, by rw [upd_ne nle.symm, upd_same], ?_, by simp; omega, ?_, ?_, ?_, ?_⟩
          · intro x hx
            rcases List.mem_append.mp hx with z | z
            · exact hln x z
            · rw [List.mem_singleton] at z
              omega
          · have := length_putK kvS [Sum.inl ((i : Nat) : Int), Sum.inl (0 + (j : Int))] (V.int ((natV led).length : Int))
            simp only [List.length_append, List.length_singleton]
            omega
          · intro c0 h0
            have h1 : led.length ≤ c0 * i + j := hLK c0 h0
            show (led ++ [i]).length ≤ c0 * i + (j + 1)
            rw [List.length_append, List.length_singleton]
            exact Nat.succ_le_succ h1
          · have e1 : ∀ p u, ((p < i ∧ ∃ q c, ps[p]? = some q ∧ ns[q]? = some c ∧ u < c) ∨ (p = i ∧ u < j + 1)) → ((p < i ∧ ∃ q c, ps[p]? = some q ∧ ns[q]? = some c ∧ u < c) ∨ (p = i ∧ u < j)) ∨ (p = i ∧ u = j) := fun p u h => by
              rcases h with h | ⟨h1, h2⟩
              · exact .inl (.inl h)
              · by_cases e : u = j
                · exact .inr ⟨h1, e⟩
                · exact .inl (.inr ⟨h1, by omega⟩)
            rw [Int.zero_add, List.length_map]
            exact ⟨hS.put e1, hX.put hS (fun h => by omega) e1 (fun p u h => by
              rcases h with h | ⟨h1, h2⟩
              · exact .inl h
              · exact .inr ⟨h1, by omega⟩) (.inr ⟨rfl, by omega⟩)⟩
          · intro b o e h1 h2
            rw [upd_ne h1, upd_ne h2]
            exact su _ _ (fr5 b o e h1 h2)
        · rintro σ H5 ⟨v9, led, kvS, rfl, hld5, hse5, hln, hll, hkS, hLK, ⟨hS, hX⟩, fr5⟩
          have e1 : ∀ p u, (p < i + 1 ∧ ∃ q c, ps[p]? = some q ∧ ns[q]? = some c ∧ u < c) → (p < i ∧ ∃ q c, ps[p]? = some q ∧ ns[q]? = some c ∧ u < c) ∨ (p = i ∧ u < (c : Int).toNat) := fun p u h => by
            obtain ⟨h1, q', c', h2, h3, h4⟩ := h
            by_cases e : p = i
            · subst e
              rw [hq] at h2
              cases h2
              rw [hc] at h3
              cases h3
              exact .inr ⟨rfl, by omega⟩
            · exact .inl ⟨by omega, q', c', h2, h3, h4⟩
          refine ⟨_, _, v9, led, kvS, rfl, hld5, hse5, hln, by omega, hkS, fun c0 h0 => ?_, ⟨fun p u h => hS p u (e1 p u h), hX.mono (fun p u h => ?_) e1⟩, fr5⟩
          · have h1 := hLK c0 h0
            have h2 := h0 c (List.mem_of_getElem? hc)
            show led.length ≤ c0 * (i + 1)
            rw [Nat.mul_succ]
            have h1 : led.length ≤ c0 * i + (c : Int).toNat := h1
            omega
          rcases h with ⟨h1, h2⟩ | ⟨h1, h2⟩
          · exact ⟨by omega, h2⟩
          · subst h1
            exact ⟨by omega, q, c, hq, hc, by omega⟩
      · rintro σ H3 ⟨v7, v8, v9, led, kvS, rfl, hld3, hse3, hln, hll, hkS, hLK, ⟨hS, hX⟩, fr3⟩
        rw [List.length_map] at hll hS hX
        have e1 : ∀ p u, (∃ q c, ps[p]? = some q ∧ ns[q]? = some c ∧ u < c) → p < ps.length ∧ ∃ q c, ps[p]? = some q ∧ ns[q]? = some c ∧ u < c := fun p u h => ⟨by obtain ⟨q, c, h1, _⟩ := h; exact (List.getElem?_eq_some_iff.mp h1).1, h⟩
        have hS' : SeatsOk kvS led (fun p u => ∃ q c, ps[p]? = some q ∧ ns[q]? = some c ∧ u < c) := fun p u h => hS p u (e1 p u h)
        have hX' : SeatsX kvS led (fun p u => ∃ q c, ps[p]? = some q ∧ ns[q]? = some c ∧ u < c) := hX.mono (fun p u h => h.2) e1
        refine ⟨v7, v8, v9, led, kvS, rfl, hld3, hse3, hln, by omega, ?_, fun c0 h0 => ?_, ⟨hS', hX'⟩, fr3⟩
        rotate_left
        · have h1 := hLK c0 h0
          rw [List.length_map, hpl] at h1
          exact h1
        obtain ⟨p, hp, x, hx, hx1⟩ := hone ps hpr
        obtain ⟨idx, hidx⟩ := List.getElem?_of_mem hp
        obtain ⟨z, hz, _⟩ := hS' idx 0 ⟨p, x, hidx, hx, by omega⟩
        have := (List.getElem?_eq_some_iff.mp hz).1
        omega
    rintro σ H3 ⟨v7, v8, v9, led, kvS, rfl, hld3, hse3, hln, hl100, hl1, hLK, ⟨hS, hX⟩, fr3⟩
    have S3 : Src H3 sa ca := by
      obtain ⟨cs, l, m, tt, S2⟩ := S2
      exact ⟨cs, l, m, tt, ⟨fr3 _ _ S2.ds nls.symm nes.symm, fr3 _ _ S2.dc nlc.symm nec.symm, S2.nn, S2.len, S2.l0, S2.m0, S2.m1, S2.t0⟩⟩
    have fr03 : ∀ b o, H b = some o → H3 b = some o := fun b o e => fr3 _ _ (s2 _ _ e) (ne_of_none e hld0) (ne_of_none e hse0)
    have W3 := W.same fr03
    have hnu3 := fr03 _ _ hnu
    have hpa3 := fr3 _ _ hpa npl npe
    have nt2l : t2 ≠ ld := (ne_of hld ht2 (by intro z; cases z)).symm
    have ht23 := fr3 _ _ ht2 nt2l nst.symm
    have npt2 : pa ≠ t2 := ne_of hpa ht2 (by intro z; cases z)
    have nut2 : nu ≠ t2 := ne_of hnu2 ht2 (by intro z; cases z)
    have ntt2 : t ≠ t2 := ne_of_none W.ht ht20
    have nus : nu ≠ sa := by
      obtain ⟨cs, l, m, tt, S0⟩ := S
      exact ne_of hnu S0.ds (by intro z; cases z)
    generalize hNN : led.length = N at *
    -- ties
    refine ⟨fun σ H6 => ∃ v9 v10 v11 v12 v13 v14 v15 v16 v17 kv2, σ = stO sa wd nu pa ld se t2 v7 v8 v9 v10 v11 v12 v13 v14 v15 v16 v17 none ∧ H6 t2 = some (.dT kv2) ∧ Ties N 4000 kv2 ∧ (totW kv2 ≤ 5 * totW kvs ∧ ∀ x px, led[x]? = some px → ∀ (g : Nat → Nat) (kd : Str), Sg (tieC (fun z => g (lf led z)) x kd) kv2 = Sg (tieC g px kd) kvs) ∧ Src H6 sa ca ∧ Kp3 sa ca t2 H3 H6, ?_, ?_⟩
    · refine ⟨_, rfl, wd, _, rfl, dg_ties W3.d, t, kvs, rfl, .inl W3.ht, fun l bs hl hk => ?_⟩
      obtain ⟨kl, hbl⟩ := keyL_of hk
      have kl2 := kl.same (same_new (o := .lst (bs.map V.ref)) hl)
      obtain ⟨so1, so2⟩ := sort_ties kl2 ti
      refine ⟨l, _, _, rfl, SqL.of upd_same, so1, so2, fun ys p pm hp => ?_⟩
      have s5 := (same_new (o := .lst (bs.map V.ref)) hl).trans (same_new (o := .lst ys) hp)
      have kly : KeyL (upd (upd H3 l (.lst (bs.map V.ref))) p (.lst ys)) kvs ys := fun y hy => (kl.same s5) y (pm.subset hy)
      have hpp : (upd (upd H3 l (.lst (bs.map V.ref))) p (.lst ys)) p = some (.lst ys) := upd_same
      have hyl : ys.length ≤ 800 := by rw [pm.length_eq, List.length_map]; omega
      have hp3 : H3 p = none := (same_new hl).free hp
      have np2 : p ≠ t2 := fun e => by subst e; rw [ht23] at hp3; cases hp3
      obtain ⟨nps', npc'⟩ := S3.ne hp3
      have S5 := S3.same s5
      have sumY := sum_ys ti (isKeys_same hk s5) pm
      have sumG := fun (F : List Key → Nat) => sg_ys F ti (isKeys_same hk s5) pm
      generalize upd (upd H3 l (.lst (bs.map V.ref))) p (.lst ys) = H5 at *
      generalize hZ : (fun i : Nat => ((ys.take i).map (wtY H5 kvs)).sum) = Z at *
      have Zle : ∀ i, Z i ≤ totW kvs := fun i => by rw [← hZ, ← sumY]; exact take_le i
      have Z0 : Z 0 = 0 := by rw [← hZ]; rfl
      generalize hY : (fun (F : List Key → Nat) (i : Nat) => ((ys.take i).map fun y => wtY H5 kvs y * F (keyY H5 y)).sum) = Y at *
      have Y0 : ∀ F, Y F 0 = 0 := fun F => by rw [← hY]; rfl
      have Yend : ∀ F, Y F ys.length = Sg F kvs := fun F => by
        rw [← sumG F, ← hY]
        show ((ys.take ys.length).map _).sum = _
        rw [List.take_length]
      refine ⟨p, rfl, ⟨_, SqL.of hpp⟩, ?_⟩
      refine for_list (xs := ys) (fun i σ H6 => ∃ v9 v10 v11 v12 v13 v14 v15 v16 v17 kv2, σ = stO sa wd nu pa ld se t2 v7 v8 v9 v10 v11 v12 v13 v14 v15 v16 v17 none ∧ H6 t2 = some (.dT kv2) ∧ Ties N 4000 kv2 ∧ (totW kv2 ≤ 5 * Z i ∧ ∀ x px, led[x]? = some px → ∀ (g : Nat → Nat) (kd : Str), Sg (tieC (fun z => g (lf led z)) x kd) kv2 = Y (tieC g px kd) i) ∧ Src H6 sa ca ∧ Kp3 sa ca t2 H5 H6)
        ⟨v9, none, none, none, none, none, none, none, none, [], rfl, s5 _ _ ht23, Ties.nil N _, ⟨Nat.zero_le _, fun x px _ g kd => by rw [Y0]; rfl⟩, S5, Kp3.refl H5⟩ (fun i σ H6 _ ⟨_, _, _, _, _, _, _, _, _, _, _, _, _, _, _, h⟩ => SqL.of (h _ _ hpp nps' npc' np2)) ?_ ?_
      · rintro i y σ H6 hi ⟨v9, v10, v11, v12, v13, v14, v15, v16, v17, kv2, rfl, h26, ti6, ⟨hl6, hg6⟩, S6, kp6⟩
        have hil := (List.getElem?_eq_some_iff.mp hi).1
        obtain ⟨b1, i1, j1, x1, kd1, rfl, hb1, hmem, hij, hjn, hkw, hx1, hx2⟩ := kly.tie ti (List.mem_of_getElem? hi)
        have Zs : Z (i + 1) = Z i + x1 := by
          have := take_step (f := wtY H5 kvs) hi
          rw [wtY_of ti hb1 hmem] at this
          rw [← hZ]
          exact this
        have Zl := Zle (i + 1)
        have Ys : ∀ F, Y F (i + 1) = Y F i + x1 * F [Sum.inl (i1 : Int), Sum.inl (j1 : Int), Sum.inr kd1] := fun F => by
          have := take_step (f := fun y => wtY H5 kvs y * F (keyY H5 y)) hi
          have e2 : keyY H5 (.ref b1) = [Sum.inl (i1 : Int), Sum.inl (j1 : Int), Sum.inr kd1] := by
            unfold keyY
            rw [rowAt_of hb1]
            rfl
          rw [wtY_of ti hb1 hmem, e2] at this
          rw [← hY]
          exact this
        have stay : ∀ b o, H3 b = some o → b ≠ sa → b ≠ ca → b ≠ t2 → H6 b = some o := fun b o e h1 h2 h3 => kp6 b o (s5 _ _ e) h1 h2 h3
        have hb6 : H6 b1 = some (.tup [.int (i1 : Int), .int (j1 : Int), .str kd1]) := by
          obtain ⟨cs, l', m, tt, S5'⟩ := S5
          exact kp6 _ _ hb1 (ne_of hb1 S5'.ds (by intro z; cases z)) (ne_of hb1 S5'.dc (by intro z; cases z)) (ne_of hb1 (s5 _ _ ht23) (by intro z; cases z))
        obtain ⟨q, hq⟩ : ∃ q, ps[i1]? = some q := ⟨_, List.getElem?_eq_getElem (by omega)⟩
        have hq2 : ps[j1]? = some q := by rw [← hpe i1 j1 kd1 _ hmem]; exact hq
        have hqn := hpn q (List.mem_of_getElem? hq)
        obtain ⟨c, hc⟩ : ∃ c, ns[q]? = some c := ⟨_, List.getElem?_eq_getElem (by omega)⟩
        have hc10 := hns10 c (List.mem_of_getElem? hc)
        refine ⟨b1, _, rfl, SqT.of hb6, rfl, _, _, rfl, _, _, rfl, _, _, rfl, rfl, ?_⟩
        refine ⟨_, rfl, _, rfl, _, rfl, pa, _, _, V.int (q : Int), rfl, rfl, SqL.of (stay _ _ hpa3 nps npc npt2), atI_nat (by rw [List.getElem?_map, hq]; rfl), nu, _, _, V.int (c : Int), rfl, rfl, SqL.of (stay _ _ hnu3 nus nnc nut2), atI_nat (by rw [List.getElem?_map, hc]; rfl), ?_⟩
        have hwd6 := stay _ _ W3.d W3.ds.1 W3.ds.2 (ne_of W3.d ht23 (by intro z; cases z))
        have ht6 := stay _ _ W3.ht W3.ts.1 W3.ts.2 ntt2
        refine ⟨_, rfl, wd, _, rfl, dg_ties hwd6, _, rfl, _, rfl, _, rfl, (by show 3 ≤ sizeLine; decide), fun q1 hq1 => ?_⟩
        have s7 := same_new (o := .tup [V.int (i1 : Int), V.int (j1 : Int), V.str kd1]) hq1
        refine ⟨t, V.int (x1 : Int), rfl, (by rw [← val_of_mem ti.nd hmem]; exact DGet.t (k := [Sum.inl (i1 : Int), Sum.inl (j1 : Int), Sum.inr kd1]) (s7 _ _ ht6) upd_same), _, rfl, by omega, by omega, ?_⟩
        refine for_range (lo := 0) (n := (x1 : Int).toNat) (fun un σ H7 => ∃ v9 v14 v15 v16 v17 kv2, σ = stO sa wd nu pa ld se t2 v7 v8 v9 (some (.int (i1 : Int))) (some (.int (j1 : Int))) (some (.str kd1)) (some (.int (c : Int))) v14 v15 v16 v17 none ∧ H7 t2 = some (.dT kv2) ∧ Ties N 4000 kv2 ∧ (totW kv2 ≤ 5 * Z i + 5 * un ∧ ∀ x px, led[x]? = some px → ∀ (g : Nat → Nat) (kd : Str), Sg (tieC (fun z => g (lf led z)) x kd) kv2 = Y (tieC g px kd) i + un * tieC g px kd [Sum.inl (i1 : Int), Sum.inl (j1 : Int), Sum.inr kd1]) ∧ Src H7 sa ca ∧ Kp3 sa ca t2 H5 H7)
          ⟨v9, v14, v15, v16, v17, kv2, rfl, s7 _ _ h26, ti6, ⟨by omega, fun x px hx g kd => by rw [hg6 x px hx g kd, Nat.zero_mul, Nat.add_zero]⟩, S6.same s7, kp6.kp (Kp.same s7)⟩ ?_ ?_
        · rintro un σ H7 hun ⟨v9, v14, v15, v16, v17, kv2, rfl, h27, ti7, ⟨hl7, hg7⟩, S7, kp7⟩
          have hun' : un < x1 := by omega
          refine ⟨fun σ H8 => ∃ tu : Nat, σ = stO sa wd nu pa ld se t2 v7 v8 v9 (some (.int (i1 : Int))) (some (.int (j1 : Int))) (some (.str kd1)) (some (.int (c : Int))) (some (.int (0 + (un : Int)))) (some (.int (tu : Int))) v16 v17 none ∧ (1 ≤ c → tu < c) ∧ H8 t2 = some (.dT kv2) ∧ Src H8 sa ca ∧ Kp3 sa ca t2 H5 H8, ?_, ?_⟩
          · refine ⟨_, rfl, _, rfl, ?_⟩
            by_cases hc0 : 1 ≤ c
            · refine .inl ⟨sa, ca, _, rfl, S7, by omega, by omega, fun kk H8 k0 k1 S8 kp8 => ?_⟩
              refine ⟨kk.toNat, ?_, fun _ => by omega, kp8 _ _ h27 n2s n2c, S8, kp7.kp kp8⟩
              rw [Int.toNat_of_nonneg k0]
              rfl
            · exact .inr ⟨sa, _, rfl, by omega, 0, rfl, fun h => absurd h hc0, h27, S7, kp7⟩
          rintro σ H8 ⟨tu, rfl, htu, h28, S8, kp8⟩
          refine ⟨_, rfl, _, rfl, by omega, by omega, ?_⟩
          refine for_range (lo := 0) (n := (c : Int).toNat) (fun wu σ H9 => ∃ v9 v16 v17 kv2, σ = stO sa wd nu pa ld se t2 v7 v8 v9 (some (.int (i1 : Int))) (some (.int (j1 : Int))) (some (.str kd1)) (some (.int (c : Int))) (some (.int (0 + (un : Int)))) (some (.int (tu : Int))) v16 v17 none ∧ H9 t2 = some (.dT kv2) ∧ Ties N 4000 kv2 ∧ (totW kv2 ≤ 5 * Z i + 5 * un + wu ∧ ∀ x px, led[x]? = some px → ∀ (g : Nat → Nat) (kd : Str), Sg (tieC (fun z => g (lf led z)) x kd) kv2 = Y (tieC g px kd) i + un * tieC g px kd [Sum.inl (i1 : Int), Sum.inl (j1 : Int), Sum.inr kd1] + ((List.range wu).map fun u => tieC (fun z => g (lf led z)) x kd [Sum.inl (sf kvS i1 u : Int), Sum.inl (sf kvS j1 ((u + tu) % c) : Int), Sum.inr kd1]).sum) ∧ Src H9 sa ca ∧ Kp3 sa ca t2 H5 H9)
            ⟨v9, v16, v17, kv2, rfl, h28, ti7, ⟨hl7, fun x px hx g kd => hg7 x px hx g kd⟩, S8, kp8⟩ ?_ ?_
          · rintro wu σ H9 hwu ⟨v9, v16, v17, kv2, rfl, h29, ti9, ⟨hl9, hg9⟩, S9, kp9⟩
            have hwc : wu < c := by omega
            have stay9 : ∀ b o, H3 b = some o → b ≠ sa → b ≠ ca → b ≠ t2 → H9 b = some o := fun b o e h1 h2 h3 => kp9 b o (s5 _ _ e) h1 h2 h3
            have hse9 := stay9 _ _ hse3 nes nec nst
            obtain ⟨u1, hu1, hv1⟩ := hS i1 wu ⟨q, c, hq, hc, hwc⟩
            have hmod : ∃ z : Nat, (0 + (wu : Int) + (tu : Int)) % (c : Int) = (z : Int) ∧ z < c := by
              have h1 := Int.emod_nonneg (0 + (wu : Int) + (tu : Int)) (show (c : Int) ≠ 0 by omega)
              have h2 := Int.emod_lt_of_pos (0 + (wu : Int) + (tu : Int)) (show (0 : Int) < c by omega)
              exact ⟨((0 + (wu : Int) + (tu : Int)) % (c : Int)).toNat, by rw [Int.toNat_of_nonneg h1], by omega⟩
            obtain ⟨z, hz, hzc⟩ := hmod
            obtain ⟨u2, hu2, hv2⟩ := hS j1 z ⟨q, c, hq2, hc, hzc⟩
            have hu1N := (List.getElem?_eq_some_iff.mp hu1).1
            have hu2N := (List.getElem?_eq_some_iff.mp hu2).1
            have hne : u1 ≠ u2 := fun e => by subst e; rw [hu1] at hu2; have := Option.some.inj hu2; omega
            refine ⟨_, rfl, _, rfl, _, rfl, (by show 2 ≤ sizeLine; decide), fun q2 hq2' => ?_⟩
            have s10 := same_new (o := .tup [V.int (i1 : Int), V.int (0 + (wu : Int))]) hq2'
            refine ⟨se, V.int (u1 : Int), rfl, (by rw [← hv1]; refine DGet.t (k := [Sum.inl (i1 : Int), Sum.inl (wu : Int)]) (s10 _ _ hse9) ?_; rw [upd_same, Int.zero_add]; rfl), ?_⟩
            refine ⟨_, rfl, _, rfl, _, rfl, _, rfl, _, _, rfl, rfl, .inl ⟨_, rfl, _, rfl, _, _, rfl, rfl, by show (0 : Int) < c; omega, (by show 2 ≤ sizeLine; decide), fun q3 hq3 => ?_⟩⟩
            have s11 := s10.trans (same_new (o := .tup [V.int (j1 : Int), V.int ((0 + (wu : Int) + (tu : Int)) % (c : Int))]) hq3)
            refine ⟨se, V.int (u2 : Int), rfl, (by rw [← hv2]; refine DGet.t (k := [Sum.inl (j1 : Int), Sum.inl (z : Int)]) (s11 _ _ hse9) ?_; rw [upd_same]; show some (HO.tup [V.int (j1 : Int), V.int ((0 + (wu : Int) + (tu : Int)) % (c : Int))]) = _; rw [hz]; rfl), (by show 2 ≤ sizeLine; decide), fun l1 hl1 => ?_⟩
            refine ⟨l1, [(u1 : Int), (u2 : Int)], rfl, SqL.of upd_same, (by show 2 < 64; decide), fun ns' sp pms srt hsp => ?_⟩
            obtain ⟨n0, n1, rfl, h01, h1N⟩ := two_sorted pms srt hne (by omega : u1 < N) (by omega)
            have s12 := (s11.trans (same_new (o := .lst ([(u1 : Int), (u2 : Int)].map V.int)) hl1)).trans (same_new (o := .lst ([(n0 : Int), (n1 : Int)].map V.int)) hsp)
            refine ⟨_, rfl, sp, _, 0, V.int (n0 : Int), rfl, rfl, SqL.of upd_same, atI_nat (j := 0) rfl, _, rfl, sp, _, 1, V.int (n1 : Int), rfl, rfl, SqL.of upd_same, atI_nat (j := 1) rfl, _, rfl, (by show 3 ≤ sizeLine; decide), fun kt hkt => ?_⟩
            have s13 := s12.trans (same_new (o := .tup [V.int (n0 : Int), V.int (n1 : Int), V.str kd1]) hkt)
            have h213 := s13 _ _ h29
            refine ⟨_, rfl, t2, rfl, .inr ⟨kv2, .inl h213⟩, _, rfl, valV kv2 [Sum.inl (n0 : Int), Sum.inl (n1 : Int), Sum.inr kd1], DGet.t (k := [Sum.inl (n0 : Int), Sum.inl (n1 : Int), Sum.inr kd1]) h213 upd_same, ?_⟩
            have pms' := pms
            obtain ⟨x, hx, hxm⟩ : ∃ x : Nat, (valV kv2 [Sum.inl (n0 : Int), Sum.inl (n1 : Int), Sum.inr kd1]).getD (V.int 0) = V.int (x : Int) ∧ x ≤ totW kv2 := by
              cases e : valV kv2 [Sum.inl (n0 : Int), Sum.inl (n1 : Int), Sum.inr kd1] with
              | none => exact ⟨0, rfl, Nat.zero_le _⟩
              | some v =>
                obtain ⟨x, h1, _, h3⟩ := ti9.val _ (mem_of_val e)
                have h4 := w_le_tot (mem_of_val e)
                have h1 : v = V.int (x : Int) := h1
                subst h1
                have h5 : wOf (V.int (x : Int)) = x := Int.toNat_natCast _
                exact ⟨x, rfl, by rw [← h5]; exact h4⟩
            rw [hx]
            refine ⟨_, _, rfl, rfl, _, rfl, _, rfl, t2, _, rfl, DPut.t (k := [Sum.inl (n0 : Int), Sum.inl (n1 : Int), Sum.inr kd1]) h213 upd_same (Evl.sz_lt (by have := ti9.len; omega)), ?_⟩
            refine ⟨_, _, _, putK kv2 [Sum.inl (n0 : Int), Sum.inl (n1 : Int), Sum.inr kd1] (V.int ((x + 1 : Nat) : Int)), rfl, upd_same, ti9.put ⟨n0, n1, kd1, rfl, h01, h1N, hkw⟩ (by omega) (by omega), ⟨by
              have e1 := tot_put (k := [Sum.inl (n0 : Int), Sum.inl (n1 : Int), Sum.inr kd1]) ti9.nd (V.int ((x + 1 : Nat) : Int))
              have e2 : wOf (V.int ((x + 1 : Nat) : Int)) = x + 1 := Int.toNat_natCast _
              have e3 : x ≤ wOf ((valV kv2 [Sum.inl (n0 : Int), Sum.inl (n1 : Int), Sum.inr kd1]).getD .non) := by
                cases e : valV kv2 [Sum.inl (n0 : Int), Sum.inl (n1 : Int), Sum.inr kd1] with
                | none =>
                  rw [e] at hx
                  have hx : V.int 0 = V.int (x : Int) := hx
                  injection hx with hx
                  omega
                | some v =>
                  rw [e] at hx
                  have hx : v = V.int (x : Int) := hx
                  rw [hx]
                  exact Nat.le_of_eq (Int.toNat_natCast x).symm
              omega, fun x2 px hx2 g kd => ?_⟩, (S9.same s13).upd n2s n2c, (kp9.kp (Kp.same s13)).put⟩
            have ez : (wu + tu) % c = z := by
              have : (((wu + tu) % c : Nat) : Int) = (z : Int) := by rw [← hz, Int.natCast_emod, Int.natCast_add, Int.zero_add]
              omega
            have e1 : u1 = sf kvS i1 wu := (sf_of hv1).symm
            have e2 : u2 = sf kvS j1 ((wu + tu) % c) := by rw [ez]; exact (sf_of hv2).symm
            rw [sg_inc ti9.nd hx, hg9 x2 px hx2 g kd, tieC_perm pms', List.range_succ, List.map_append, List.sum_append, e1, e2]
            simp only [List.map_singleton, List.sum_singleton]
            omega
          · rintro σ H9 ⟨v9, v16, v17, kv2, rfl, h29, ti9, ⟨hl9, hg9⟩, S9, kp9⟩
            refine ⟨v9, _, _, v16, v17, kv2, rfl, h29, ti9, ⟨by omega, fun x px hx g kd => ?_⟩, S9, kp9⟩
            have ec : (c : Int).toNat = c := Int.toNat_natCast c
            have key : ((List.range c).map fun u => tieC (fun z => g (lf led z)) x kd [Sum.inl (sf kvS i1 u : Int), Sum.inl (sf kvS j1 ((u + tu) % c) : Int), Sum.inr kd1]).sum = tieC g (lf led x) kd [Sum.inl (i1 : Int), Sum.inl (j1 : Int), Sum.inr kd1] := by
              have okp : ∀ p, p = i1 ∨ p = j1 → ∀ u, u < c → ∃ q c, ps[p]? = some q ∧ ns[q]? = some c ∧ u < c := fun p hp u hu => by
                rcases hp with rfl | rfl
                · exact ⟨q, c, hq, hc, hu⟩
                · exact ⟨q, c, hq2, hc, hu⟩
              have okn : ∀ p, p = i1 ∨ p = j1 → ∀ u, (∃ q c, ps[p]? = some q ∧ ns[q]? = some c ∧ u < c) → u < c := fun p hp u ⟨q', c', a1, a2, a3⟩ => by
                rcases hp with rfl | rfl
                · rw [hq] at a1
                  cases a1
                  rw [hc] at a2
                  cases a2
                  exact a3
                · rw [hq2] at a1
                  cases a1
                  rw [hc] at a2
                  cases a2
                  exact a3
              have lfs : ∀ p, p = i1 ∨ p = j1 → ∀ u, u < c → lf led (sf kvS p u) = p := fun p hp u hu => by
                obtain ⟨idx, a1, a2⟩ := hS p u (okp p hp u hu)
                rw [sf_of a2]
                exact lf_of a1
              by_cases hc0 : 1 ≤ c
              · have tk := turn_ok (htu hc0)
                exact unit_count (s := sf kvS) (f := lf led) (τ := fun u => (u + tu) % c) tk.1 tk.2.1 tk.2.2 (fun u hu => ⟨lfs _ (.inl rfl) u hu, lfs _ (.inr rfl) u hu⟩) (fun p hp e => by
                  rw [lf_of hx] at e
                  subst e
                  obtain ⟨u, a1, a2⟩ := hX.cov x px hx
                  exact ⟨u, okn _ hp u a1, a2⟩) (fun p hp u hu v hv e => hX.inj p u v (okp p hp u hu) (okp p hp v hv) e)
              · have : c = 0 := by omega
                subst this
                refine unit_count (s := sf kvS) (f := lf led) (τ := fun u => (u + tu) % 0) (fun u hu => absurd hu (by omega)) (fun u hu => absurd hu (by omega)) (fun u hu => absurd hu (by omega)) (fun u hu => absurd hu (by omega)) (fun p hp e => ?_) (fun p hp u hu => absurd hu (by omega))
                rw [lf_of hx] at e
                subst e
                obtain ⟨u, a1, a2⟩ := hX.cov x px hx
                exact ⟨u, okn _ hp u a1, a2⟩
            rw [hg9 x px hx g kd, ec, key, lf_of hx, Nat.succ_mul]
            omega
        · rintro σ H7 ⟨v9, v14, v15, v16, v17, kv2, rfl, h27, ti7, ⟨hl7, hg7⟩, S7, kp7⟩
          refine ⟨v9, _, _, _, _, v14, v15, v16, v17, kv2, rfl, h27, ti7, ⟨by omega, fun x px hx g kd => ?_⟩, S7, kp7⟩
          rw [hg7 x px hx g kd, Ys, Int.toNat_natCast]
      · rintro σ H6 ⟨v9, v10, v11, v12, v13, v14, v15, v16, v17, kv2, rfl, h26, ti6, ⟨hl6, hg6⟩, S6, kp6⟩
        exact ⟨v9, v10, v11, v12, v13, v14, v15, v16, v17, kv2, rfl, h26, ti6, ⟨by have := Zle ys.length; omega, fun x px hx g kd => by rw [hg6 x px hx g kd, Yend]⟩, S6, fun b o e h1 h2 h3 => kp6 b o (s5 _ _ e) h1 h2 h3⟩
    rintro σ H6 ⟨v9, v10, v11, v12, v13, v14, v15, v16, v17, kv2, rfl, h26, ti6, ⟨hl6, hg6⟩, S6, kp6⟩
    have st6 : ∀ b o, H3 b = some o → b ≠ sa → b ≠ ca → b ≠ t2 → H6 b = some o := kp6
    have nlt2 : ld ≠ t2 := nt2l.symm
    have hld6 := kp6 _ _ hld3 nls nlc nlt2
    have W6d := kp6 _ _ W3.d W3.ds.1 W3.ds.2 (ne_of W3.d ht23 (by intro z; cases z))
    have W6c := kp6 _ _ W3.hc W3.bs.1 W3.bs.2 (ne_of W3.hc ht23 (by intro z; cases z))
    have kp06 : Kp sa ca H H6 := fun b o e h1 h2 => kp6 b o (fr03 b o e) h1 h2 (ne_of_none e ht20)
    -- colours
    refine ⟨fun σ H7 => ∃ bc cl2, σ = stO sa wd nu pa ld se t2 v7 v8 v9 v10 v11 v12 v13 v14 v15 v16 v17 (some (.ref bc)) ∧ H6 bc = none ∧ H7 bc = some (.lst (List.map V.str cl2)) ∧ cl2.length = N ∧ (∀ x ∈ cl2, isWordB x = true) ∧ (∀ x < N, cl2[x]? = cl[lf led x]?) ∧ Same H6 H7, ?_, ?_⟩
    · refine ⟨_, rfl, ld, rfl, ⟨_, SqL.of hld6⟩, fun D hD => ?_⟩
      refine lc_list (xs := natV led) (fun i H7 => ∃ cl2, H7 D = some (.lst (List.map V.str cl2)) ∧ cl2.length = i ∧ (∀ x ∈ cl2, isWordB x = true) ∧ (∀ x < i, cl2[x]? = cl[lf led x]?) ∧ Same H6 H7) ⟨[], upd_same, rfl, (fun x hx => (List.not_mem_nil hx).elim), (fun x hx => absurd hx (Nat.not_lt_zero _)), same_new hD⟩ (fun i H7 _ ⟨_, _, _, _, _, h⟩ => SqL.of (h _ _ hld6)) ?_ ?_
      · rintro i x H7 hi ⟨cl2, hD7, hcl2, hcw2, hco2, s7⟩
        have hil := (List.getElem?_eq_some_iff.mp hi).1
        rw [List.length_map] at hil
        rw [List.getElem?_map] at hi
        obtain ⟨y0, hy0, rfl⟩ := Option.map_eq_some_iff.mp hi
        have hyN := hln y0 (List.mem_of_getElem? hy0)
        have hcn := W.cn
        obtain ⟨cy, hcy⟩ : ∃ cy, cl[y0]? = some cy := ⟨_, List.getElem?_eq_getElem (by omega)⟩
        refine ⟨rfl, tyes ?_⟩
        refine ⟨_, rfl, wd, _, rfl, dg_colours (s7 _ _ W6d), _, rfl, b, _, _, V.str cy, rfl, rfl, SqL.of (s7 _ _ W6c), atI_nat (by rw [List.getElem?_map, hcy]; rfl), ?_⟩
        refine ⟨_, hD7, Evl.sz_lt (by rw [List.length_map]; omega), cl2 ++ [cy], by rw [upd_same, List.map_append]; rfl, by simp [hcl2], ?_, ?_, ?_⟩
        · intro x hx
          rcases List.mem_append.mp hx with z | z
          · exact hcw2 x z
          · rw [List.mem_singleton] at z
            subst z
            exact W.cw _ (List.mem_of_getElem? hcy)
        · intro x hx
          by_cases c : x < i
          · rw [List.getElem?_append_left (by omega)]
            exact hco2 x c
          · have hxi : x = i := by omega
            subst hxi
            rw [List.getElem?_append_right (by omega), hcl2, Nat.sub_self, lf_of hy0, hcy]
            rfl
        · intro b o e
          rw [upd_ne (ne_of_none e hD)]
          exact s7 b o e
      · rintro H7 ⟨cl2, hD7, hcl2, hcw2, hco2, s7⟩
        rw [List.length_map] at hcl2 hco2
        exact ⟨D, cl2, rfl, hD, hD7, by omega, hcw2, fun x hx => hco2 x (by omega), s7⟩
    rintro σ H7 ⟨bc, cl2, rfl, hbc6, hbc, hcl2, hcw2, hco2, s7⟩
    have S7 := S6.same s7
    have hbc0 : H bc = none := kp06.free S6 hbc6
    obtain ⟨nbs, nbc⟩ := S.ne hbc0
    refine ⟨_, rfl, ?_⟩
    intro p hp
    have sp := same_new (o := .dK []) hp
    obtain ⟨nps', npc'⟩ := S7.ne hp
    refine ⟨_, rfl, _, rfl, _, rfl, upd_same, worldD ld bc t2, rfl, (by show 3 ≤ 15; decide), ?_⟩
    rw [merge_wd]
    have s8 : Same H7 (upd (upd H7 p (.dK [])) p (.dK (worldD ld bc t2))) := fun b o e => by
      rw [upd_ne (ne_of_none e hp), upd_ne (ne_of_none e hp)]
      exact e
    have hpp : (upd (upd H7 p (.dK [])) p (.dK (worldD ld bc t2))) p = some (.dK (worldD ld bc t2)) := upd_same
    have kp08 : Kp sa ca H (upd (upd H7 p (.dK [])) p (.dK (worldD ld bc t2))) := (kp06.trans (Kp.same s7)).trans (Kp.same s8)
    generalize upd (upd H7 p (.dK [])) p (.dK (worldD ld bc t2)) = H8 at *
    have S8 := S7.same s8
    refine ⟨_, rfl, sa, ca, p, ld, bc, t2, ld, cl2, 4000, kv2, led, rfl, S8, hpp, nps', s8 _ _ hbc, nbc, s8 _ _ (s7 _ _ h26), s8 _ _ (s7 _ _ hld6), nlc, by omega, hcw2, by omega, by omega, (by have := ti6.len; omega), by rw [hNN]; exact ti6, ?_⟩
    intro r wd' a' b' t' ld' nm' cl' kvs' led' H' z1 z2 z3 z4 z5 hr' W' hl' ti' hk' ht' hld' hll' hlm std S' kp'
    have hcov : Cov kvs cl kvs' led' cl' := fun x p hx => by
      have hxN : x < led.length := by have := (List.getElem?_eq_some_iff.mp hx).1; omega
      obtain ⟨y, hy, y1, y2, y3⟩ := std x hxN
      have hy2 : led[y]? = some p := by rw [← y1]; exact hx
      refine ⟨by rw [y2, hco2 y (by omega), lf_of hy2], fun g kd => ?_⟩
      rw [y3 g kd, hg6 y p hy2 g kd]
    refine k r wd' a' b' t' ld' nm' cl' kvs' led' H' (kp08.free S8 z1) (kp08.free S8 z2) (kp08.free S8 z3) (kp08.free S8 z4) (kp08.free S8 z5) hr' W' (by omega) ti' hk' (by omega) hld' (by omega) hcov (fun x hx => hln x ((hlm x).mp hx)) (fun c0 h0 => by have h1 : led.length ≤ c0 * n := hLK c0 h0; show led'.length ≤ c0 * n; omega) (fun p hp hc1 heq => (hlm p).mpr ?_) S' (kp08.trans kp')
    obtain ⟨q, hq⟩ : ∃ q, ps[p]? = some q := ⟨_, List.getElem?_eq_getElem (by omega)⟩
    have hqn := hpn q (List.mem_of_getElem? hq)
    obtain ⟨c, hc⟩ : ∃ c, ns[q]? = some c := ⟨_, List.getElem?_eq_getElem (by omega)⟩
    have c1 := hc1 c (fun x hx => heq x hx c (List.mem_of_getElem? hc))
    obtain ⟨idx, h1, _⟩ := hS p 0 ⟨q, c, hq, hc, by omega⟩
    exact List.mem_of_getElem? h1
end
end Nm
set_option autoImplicit true
set_option maxRecDepth 100000
set_option maxHeartbeats 4000000
namespace Nm
open PySem PySem.Spec PyProof.Rows L2
/-- len(set(xs)) of ints, equal ones among them -/
def tLenSetJ (K : PySem.W.Frag) (ta : TE) : TE := fun σ H Q => ta σ H fun x H1 => ∃ (l : Addr) (ns : List Int), x = .ref l ∧ SqL K H1 l (ns.map V.int) ∧ ns.length ≤ 4000 ∧ Q (.int ((firstMet (fun i => ns.getD i 0) ns.length).length : Nat)) H1
theorem pe_lenSetJ {X : Cx} {a : PySem.Expr} {ta : TE} {p p2 q pos : Pos} (hg : Gl X "len") (hm : X.mg "len" = none) (hg2 : Gl X "set") (hm2 : X.mg "set" = none) (ha : PE X a ta) (hc : X.calm = true := by rfl)
    (na : starEach [a] X.env = (false, eval a X.env) :: starEach [] X.env := by rfl) : PE X (.Call (.Name "len" p) [.Call (.Name "set" p2) [a] [] q] [] pos) (tLenSetJ X.K ta) := by
  refine ⟨fun pins s σ H Q I h => ?_⟩
  refine Call_ (ld_blt I hg hm boot_len ?_)
  refine callWith_builtin1 (args_cons ?_ rfl) rfl rfl
  refine Call_ (ld_blt I hg2 hm2 boot_set ?_)
  refine callWith_type1 (args_cons (thn (ha.run pins s σ H _ I h) fun v s1 ⟨x, H1, I1, r1, q1⟩ => args_nil ?_) na) na rfl
  obtain ⟨l, ns, rfl, hq, hl, q1⟩ := q1
  cases r1
  obtain ⟨its, r, pl, hz⟩ := I1.list hq
  have hlen : its.toArray.size = ns.length := by rw [List.size_toArray, ← r.length, List.length_map]
  refine call_set_list (I1.ok.hd hc) pl.isList (by simpa using RZ.intsAre_vals r) (by rw [hlen]; unfold scanBound; omega) fun h' tk hS hk => ?_
  refine args_nil ?_
  rw [hlen] at hS
  have hle := firstMet_length_le (fun i => ns.getD i 0) ns.length
  obtain ⟨o, es, ep, t, ho, hex, hd, _, _, _, hf, hn⟩ := hS
  have I2 : Inv X pins σ H1 { s1 with heap := h', toks := tk } := I1.kept fun b o e => hk b o (Heap.lt_size e) e
  exact call_len_set ho hex hd hf (by rw [hn] <;> omega) ⟨.int ((firstMet (fun i => ns.getD i 0) ns.length).length : Nat), H1, I2.tok _, ⟨_, by rw [hn]⟩, q1⟩
end Nm
set_option autoImplicit true
set_option maxRecDepth 100000
set_option maxHeartbeats 4000000
namespace Nm
open PySem L2
structure TxtE (mg : Str → Option Value) : Prop extends TxtD mg where
  max : mg "max" = none
  min : mg "min" = none
  set : mg "set" = none
  sum : mg "sum" = none
theorem natV_int (l : List Nat) : natV l = (l.map fun (i : Nat) => (i : Int)).map V.int := by
  unfold natV
  rw [List.map_map]
  rfl
theorem sum_zero : ∀ {l : List Nat}, (∀ x ∈ l, x = 0) → (l.map fun (i : Nat) => (i : Int)).sum = 0
  | [], _ => rfl
  | x :: l, h => by
    rw [List.map_cons, List.sum_cons, sum_zero fun y hy => h y (List.mem_cons_of_mem _ hy), h x List.mem_cons_self]
    rfl
end Nm
set_option autoImplicit true
set_option maxRecDepth 100000
set_option maxHeartbeats 4000000
namespace Nm
open PySem L2
def keyOf : V → Key
  | .int i => Sum.inl i
  | .str x => Sum.inr x
  | _ => Sum.inl 0
theorem keyOf_kV (k : Key) : keyOf (kV k) = k := by cases k <;> rfl
theorem perm_key {ys : List V} {l : List Key} (h : ys.Perm (l.map kV)) : ∃ zs : List Key, ys = zs.map kV ∧ zs.Perm l := by
  refine ⟨ys.map keyOf, ?_, ?_⟩
  · rw [List.map_map]
    conv => lhs; rw [← List.map_id ys]
    refine List.map_congr_left fun v hv => ?_
    obtain ⟨x, _, rfl⟩ := List.mem_map.mp (h.subset hv)
    show kV x = kV (keyOf (kV x))
    rw [keyOf_kV]
  · have := h.map keyOf
    rw [List.map_map] at this
    have e : l.map (keyOf ∘ kV) = l := by
      conv => rhs; rw [← List.map_id l]
      exact List.map_congr_left fun x _ => keyOf_kV x
    rw [e] at this
    exact this
/-- the pairs of a dict told by keys -/
def byKeys (kvs : List (Key × V)) (ks : List Key) : List (Key × V) := ks.map fun k => (k, (valV kvs k).getD .non)
theorem byKeys_self {kvs : List (Key × V)} (nd : (kvs.map (·.1)).Nodup) : byKeys kvs (kvs.map (·.1)) = kvs := by
  unfold byKeys
  rw [List.map_map]
  conv => rhs; rw [← List.map_id kvs]
  refine List.map_congr_left fun kv hm => ?_
  show (kv.1, (valV kvs kv.1).getD .non) = kv
  rw [val_of_mem nd (v := kv.2) hm]
  rfl
theorem byKeys_perm {kvs : List (Key × V)} {ks : List Key} (nd : (kvs.map (·.1)).Nodup) (h : ks.Perm (kvs.map (·.1))) : (byKeys kvs ks).Perm kvs := by
  have := h.map fun k => (k, (valV kvs k).getD .non)
  rw [show (kvs.map (·.1)).map (fun k => (k, (valV kvs k).getD .non)) = kvs from byKeys_self nd] at this
  exact this
structure TxtF (mg : Str → Option Value) : Prop extends TxtE mg where
  zip : mg "zip" = none
section
variable {P : Program} {w : World} {K : PySem.W.Frag} {mg : Str → Option Value} {base : Heap}
/-! ### _law_any_dict -/
def spAnyDict : Sp := fun vs H Q _ => ∃ (s c d : Addr) (kvs : List (Key × V)), vs = [.ref s, .ref d] ∧ Src H s c ∧ H d = some (.dK kvs) ∧ d ≠ s ∧ (kvs.map (·.1)).Nodup ∧ kvs.length ≤ 1000 ∧
  ∀ (p : Addr) (kvs' : List (Key × V)) (H' : Hp), H p = none → kvs'.Perm kvs → H' p = some (.dK kvs') → Src H' s c → Kp s c H H' → Q (.ref p) H'
abbrev nAD : List Str := ["_law_source", "_law_told", "_law_key"]
theorem scAD : FnScope nAD ["_law_source", "_law_told"] (defScope sAnyDict) := ⟨rfl, rfl, rfl, by decide +kernel, rfl, by decide +kernel, by decide +kernel⟩
theorem ok_anyDict {f : Addr} {fd : FuncData} (F : Fun K "_law_any_dict" "_law_any_dict" sAnyDict f fd) (T : TxtF mg) (Ga : Def P w K mg base "_law_any_order" ["_law_source", "_law_items"] 2 (spAny K)) : FnOk P w K mg base CX0 3 f fd ["_law_source", "_law_told"] spAnyDict := by
  obtain ⟨fa, fda, Ga, ma, ka, ba⟩ := Ga.ex
  refine F.ok scAD (fun vs H Q E h => ?_) (fun cdv A outer s H vs Q E hr h => ?_)
  · obtain ⟨_, _, _, _, rfl, _⟩ := h
    rfl
  · obtain ⟨sa, ca, d, kvs, rfl, S, hd, nds, nd, hl, k⟩ := h
    have hu := hu_of hr
    refine ⟨_, pss_one (ps_ret (pe_callTy (call_dictP rfl) (by rfl) T.dict (by decide +kernel) (pa_cons (pe_lc (own := [("_law_key", 2)]) (g := gName 2) (tt := tYes) rfl scAD.nd (pi_list (pe_call Ga hr (by rfl) ma ka ba .nil pass0 (pa_cons (pv 0) (pa_cons (pe_callTy (call_list_dK rfl) (by rfl) T.list (by decide +kernel) (pa_cons (pv 1) pa_nil)) pa_nil))))
          (blkOk_by (N := nAD) (sc := defScope sAnyDict) (by decide +kernel)) (fun _ _ _ _ _ => pg_name (i := 2) scAD.nd rfl (Or.inl rfl)) (fun _ _ _ _ _ => pts_nil)
          (fun _ _ _ _ _ => pe_tup (pa_cons (pv 2) (pa_cons (pe_dget hu (pv 1) (pv 2) (fun _ _ => rfl)) pa_nil)))) pa_nil))), ?_⟩
    have ndc : d ≠ ca := by
      obtain ⟨cs, l, m, tt, S0⟩ := S
      exact ne_of hd S0.dc (by intro z; cases z)
    refine ⟨_, rfl, _, rfl, d, kvs, rfl, hd, fun q hq => ?_⟩
    refine ⟨sa, ca, q, _, rfl, S.new hq, SqL.of upd_same, by rw [List.length_map]; exact (by omega), fun p ys H1 hp pm hpl S1 kp1 => ?_⟩
    rw [show (kvs.map fun kv => kV kv.1) = (kvs.map (·.1)).map kV by rw [List.map_map]; rfl] at pm
    obtain ⟨ks, rfl, pk⟩ := perm_key pm
    have kp01 : Kp sa ca H H1 := (Kp.same (same_new hq)).trans kp1
    have hd1 := kp01 _ _ hd nds ndc
    have hkl : ks.length ≤ 1000 := by rw [pk.length_eq, List.length_map]; exact hl
    refine ⟨p, rfl, ⟨_, SqL.of hpl⟩, fun D hD => ?_⟩
    refine lc_list (xs := ks.map kV) (fun i H2 => ∃ ps : List Addr, H2 D = some (.lst (ps.map V.ref)) ∧ ps.length = i ∧ Paired (fun p kv => H2 p = some (.tup [kV kv.1, kv.2])) ps ((byKeys kvs ks).take i) ∧ Same H1 H2) ⟨[], upd_same, rfl, .nil, same_new hD⟩ (fun i H2 _ ⟨_, _, _, _, h⟩ => SqL.of (h _ _ hpl)) ?_ ?_
    · rintro i x H2 hi ⟨ps, hD2, hpsl, pr, s2⟩
      have hil := (List.getElem?_eq_some_iff.mp hi).1
      rw [List.length_map] at hil
      rw [List.getElem?_map] at hi
      obtain ⟨k0, hk0, rfl⟩ := Option.map_eq_some_iff.mp hi
      obtain ⟨kv0, hm0, e0⟩ := List.mem_map.mp (pk.mem_iff.mp (List.mem_of_getElem? hk0))
      have hv0 : valV kvs k0 = some kv0.2 := by rw [← e0]; exact val_of_mem nd hm0
      refine ⟨rfl, tyes ?_⟩
      refine ⟨_, rfl, _, rfl, _, rfl, d, kv0.2, rfl, (by rw [← hv0]; exact DGet.k (s2 _ _ hd1)), (by show 2 ≤ sizeLine; decide), fun u hu => ?_⟩
      have su := same_new (o := .tup [kV k0, kv0.2]) hu
      have nDu : u ≠ D := fun e => by subst e; rw [hD2] at hu; cases hu
      refine ⟨_, su _ _ hD2, Evl.sz_lt (by rw [List.length_map]; omega), ps ++ [u], by rw [upd_same, List.map_append]; rfl, by simp [hpsl], ?_, fun b o e => ?_⟩
      · have e : (byKeys kvs ks)[i]? = some (k0, kv0.2) := by unfold byKeys; rw [List.getElem?_map, hk0]; simp [hv0]
        rw [List.take_add_one, e]
        refine paired_snoc (Paired.mapP pr fun p kv h => ?_) ?_
        · rw [upd_ne (ne_of h hD2 (by intro z; cases z))]
          exact su _ _ h
        · rw [upd_ne nDu]
          exact upd_same
      · rw [upd_ne (ne_of_none e hD)]
        exact su _ _ (s2 b o e)
    · rintro H2 ⟨ps, hD2, hpsl, pr, s2⟩
      rw [List.length_map, List.take_of_length_le (by unfold byKeys; simp)] at pr
      refine ⟨D, ps, byKeys kvs ks, rfl, SqL.of hD2, Paired.mapP pr fun p kv h => SqT.of h, fun r hr => ?_⟩
      have pb := byKeys_perm nd pk
      refine k r (byKeys kvs ks) _ (kp01.free S1 (s2.free hr)) pb ?_ ((S1.same s2).new hr) ((kp01.trans (Kp.same s2)).trans (Kp.same (same_new hr)))
      rw [upd_same, merge_nd (acc := []) (by simpa using (pb.map (·.1)).nodup_iff.mpr nd)]
      rfl
/-! ### _law_dict -/
/-- each name of nm' to the name that its number leads to -/
def leadKV (nm' nm : List Str) (led : List Nat) : List (Key × V) := (nm'.zip led).map fun p => (Sum.inr p.1, V.str ((nm[p.2]?).getD ""))
theorem lead_keys {nm' nm : List Str} {led : List Nat} (h : led.length = nm'.length) : (leadKV nm' nm led).map (·.1) = nm'.map Sum.inr := by
  unfold leadKV
  rw [List.map_map]
  have : nm' = (nm'.zip led).map (·.1) := by rw [List.map_fst_zip (by omega)]
  conv => rhs; rw [this]
  rw [List.map_map]
  rfl
theorem lead_nd {nm' nm : List Str} {led : List Nat} (h : led.length = nm'.length) (nd : nm'.Nodup) : ((leadKV nm' nm led).map (·.1)).Nodup := by
  rw [lead_keys h]
  exact List.Pairwise.map _ (fun a b hab e => hab (Sum.inr.inj e)) nd
def spDict : Sp := fun vs H Q _ => ∃ (s c wo ao bo to ww aw bw tw ld : Addr) (nm' nm : List Str) (led : List Nat), vs = [.ref s, .ref wo, .ref ww, .ref ld] ∧ Src H s c ∧ H wo = some (.dK (worldD ao bo to)) ∧ H ao = some (.lst (nm'.map V.str)) ∧ H ww = some (.dK (worldD aw bw tw)) ∧ H aw = some (.lst (nm.map V.str)) ∧ H ld = some (.lst (natV led)) ∧
  led.length = nm'.length ∧ (∀ x ∈ led, x < nm.length) ∧ nm'.Nodup ∧ nm'.length ≤ 100 ∧
  ∀ (p : Addr) (kvs' : List (Key × V)) (H' : Hp), H p = none → kvs'.Perm (leadKV nm' nm led) → H' p = some (.dK kvs') → Src H' s c → Kp s c H H' → Q (.ref p) H'
abbrev nDc : List Str := ["_law_source", "_law_over_here", "_law_web", "_law_led", "_law_name", "_law_p"]
theorem scDc : FnScope nDc ["_law_source", "_law_over_here", "_law_web", "_law_led"] (defScope sDict) := ⟨rfl, rfl, rfl, by decide +kernel, rfl, by decide +kernel, by decide +kernel⟩
theorem ok_dict {f : Addr} {fd : FuncData} (F : Fun K "_law_dict" "_law_dict" sDict f fd) (T : TxtF mg) (Gd : Def P w K mg base "_law_any_dict" ["_law_source", "_law_told"] 3 spAnyDict) : FnOk P w K mg base CX0 4 f fd ["_law_source", "_law_over_here", "_law_web", "_law_led"] spDict := by
  obtain ⟨fa, fda, Ga, ma, ka, ba⟩ := Gd.ex
  refine F.ok scDc (fun vs H Q E h => ?_) (fun cdv A outer s H vs Q E hr h => ?_)
  · obtain ⟨_, _, _, _, _, _, _, _, _, _, _, _, _, _, rfl, _⟩ := h
    rfl
  · obtain ⟨sa, ca, wo, ao, bo, to, ww, aw, bw, tw, ld, nm', nm, led, rfl, S, hwo, hao, hww, haw, hld, hll, hln, nd, hl100, k⟩ := h
    have hu := hu_of hr
    refine ⟨_, pss_one (ps_ret (pe_call Ga hr (by rfl) ma ka ba .nil pass0 (pa_cons (pv 0) (pa_cons (pe_callTy (call_dictP rfl) (by rfl) T.dict (by decide +kernel) (pa_cons (pe_lc (own := [("_law_name", 4), ("_law_p", 5)]) (g := gTup K 2 (gCons (gName 4) (gCons (gName 5) gNil))) (tt := tYes) (te := tTup (tCons (tVar 4) (tCons (tOp (rIxL K) (tDGet (tVar 2) (tC (.str "names"))) (tVar 5)) tNil))) rfl scDc.nd (pi_zip (by rfl) T.zip (pa_cons (pe_dget hu (pv 1) pe_str (fun _ _ => rfl)) (pa_cons (pv 3) pa_nil)))
          (blkOk_by (N := nDc) (sc := defScope sDict) (by decide +kernel)) (fun _ _ _ _ _ => pg_tup rfl (pgs_cons (pg_name (i := 4) scDc.nd rfl (Or.inl rfl)) (pgs_cons (pg_name (i := 5) scDc.nd rfl (Or.inl rfl)) pgs_nil))) (fun _ _ _ _ _ => pts_nil)
          (fun _ _ _ _ _ => by exact pe_tup (pa_cons (pv 4) (pa_cons (pe_ix ix_list (pe_dget hu (pv 2) pe_str (fun _ _ => rfl)) (pv 5) (fun _ _ => rfl)) pa_nil)))) pa_nil)) pa_nil)))), ?_⟩
    refine ⟨_, rfl, _, rfl, wo, _, rfl, dg_names hwo, _, rfl, ao, ld, _, _, rfl, SqL.of hao, SqL.of hld, fun D hD => ?_⟩
    refine lc_it (walk_zip (xs := nm'.map V.str) (ys := natV led) (n := nm'.length) (by rw [List.length_map, List.length_map]; omega)) (fun i H2 => ∃ ps : List Addr, H2 D = some (.lst (ps.map V.ref)) ∧ ps.length = i ∧ Paired (fun p kv => H2 p = some (.tup [kV kv.1, kv.2])) ps ((leadKV nm' nm led).take i) ∧ Same H H2) ⟨[], upd_same, rfl, .nil, same_new hD⟩ (fun i H2 _ ⟨_, _, _, _, h⟩ => ⟨SqL.of (h _ _ hao), SqL.of (h _ _ hld)⟩) ?_ ?_
    · rintro i x H2 H3 hi ⟨ps, hD2, hpsl, pr, s2⟩ ⟨T, x1, y1, rfl, hT, rfl, e1, e2⟩
      have e1 : (nm'.map V.str)[i]? = some x1 := e1
      have e2 : (natV led)[i]? = some y1 := e2
      rw [List.getElem?_map] at e1 e2
      obtain ⟨x0, hx0, rfl⟩ := Option.map_eq_some_iff.mp e1
      obtain ⟨y0, hy0, rfl⟩ := Option.map_eq_some_iff.mp e2
      have hyn := hln y0 (List.mem_of_getElem? hy0)
      obtain ⟨z0, hz0⟩ : ∃ z0, nm[y0]? = some z0 := ⟨_, List.getElem?_eq_getElem hyn⟩
      have sT := same_new (o := .tup [V.str x0, V.int (y0 : Int)]) hT
      refine ⟨T, _, rfl, SqT.of upd_same, rfl, _, _, rfl, _, _, rfl, rfl, rfl, tyes ?_⟩
      refine ⟨_, rfl, _, rfl, ww, _, rfl, dg_names (sT _ _ (s2 _ _ hww)), _, rfl, aw, _, _, V.str z0, rfl, rfl, SqL.of (sT _ _ (s2 _ _ haw)), atI_nat (by rw [List.getElem?_map, hz0]; rfl), (by show 2 ≤ sizeLine; decide), fun u hu => ?_⟩
      have su := sT.trans (same_new (o := .tup [V.str x0, V.str z0]) hu)
      have nDu : u ≠ D := fun e => by subst e; rw [sT _ _ hD2] at hu; cases hu
      refine ⟨_, su _ _ hD2, Evl.sz_lt (by rw [List.length_map]; omega), ps ++ [u], by rw [upd_same, List.map_append]; rfl, by simp [hpsl], ?_, fun b o e => ?_⟩
      · have e : (leadKV nm' nm led)[i]? = some (Sum.inr x0, V.str z0) := by
          unfold leadKV
          have hz : (nm'.zip led)[i]? = some (x0, y0) := by rw [List.getElem?_zip_eq_some]; exact ⟨hx0, hy0⟩
          rw [List.getElem?_map, hz]
          simp [hz0]
        rw [List.take_add_one, e]
        refine paired_snoc (Paired.mapP pr fun p kv h => ?_) ?_
        · rw [upd_ne (ne_of h hD2 (by intro z; cases z))]
          exact su _ _ h
        · rw [upd_ne nDu]
          exact upd_same
      · rw [upd_ne (ne_of_none e hD)]
        exact su _ _ (s2 b o e)
    · rintro H2 ⟨ps, hD2, hpsl, pr, s2⟩
      have hlk : (leadKV nm' nm led).length = nm'.length := by unfold leadKV; simp; omega
      rw [List.take_of_length_le (by omega)] at pr
      refine ⟨D, ps, leadKV nm' nm led, rfl, SqL.of hD2, Paired.mapP pr fun p kv h => SqT.of h, fun r hr => ?_⟩
      have lnd := lead_nd (nm := nm) hll nd
      have s3 := s2.trans (same_new (o := .dK (mergeK [] (leadKV nm' nm led))) hr)
      have S3 := S.same s3
      refine ⟨sa, ca, r, leadKV nm' nm led, rfl, S3, ?_, (S.ne (s2.free hr)).1, lnd, by omega, fun p kvs' H' hp pm hp' S' kp' => ?_⟩
      · rw [upd_same, merge_nd (acc := []) (by simpa using lnd)]
        rfl
      · exact k p kvs' H' (s3.free hp) pm hp' S' ((Kp.same s3).trans kp')
end
end Nm
set_option autoImplicit true
set_option maxRecDepth 100000
set_option maxHeartbeats 4000000
namespace Nm
open PySem L2
/-- the places below i that are led to q -/
def posU (led : List Nat) (i q : Nat) : List Nat := (List.range i).filter fun w => decide (led[w]? = some q)
theorem posU_yes {led : List Nat} {i q : Nat} (h : led[i]? = some q) : posU led (i + 1) q = posU led i q ++ [i] := by
  unfold posU
  rw [List.range_succ, List.filter_append]
  simp [h]
theorem posU_no {led : List Nat} {i q q' : Nat} (h : led[i]? = some q') (hn : q ≠ q') : posU led (i + 1) q = posU led i q := by
  unfold posU
  rw [List.range_succ, List.filter_append]
  simp [h]
  exact fun e => hn e.symm
theorem posU_len (led : List Nat) (i q : Nat) : (posU led i q).length ≤ i := by
  unfold posU
  have := List.length_filter_le (fun w => decide (led[w]? = some q)) (List.range i)
  rw [List.length_range] at this
  exact this
theorem posU_lt {led : List Nat} {i q w : Nat} (h : w ∈ posU led i q) : w < i := List.mem_range.mp (List.mem_filter.mp h).1
structure TxtG (mg : Str → Option Value) : Prop extends TxtF mg where
  isinstance : mg "isinstance" = none
  all : mg "all" = none
  bool : mg "bool" = none
  letters : ∃ t, mg "LETTERS" = some (.str "abcdefghijklmnopqrstuvwxyz" t)
  digits : ∃ t, mg "DIGITS" = some (.str "0123456789" t)
section
variable {P : Program} {w : World} {K : PySem.W.Frag} {mg : Str → Option Value} {base : Heap}
/-! ### is_word, is_number -/
def spWord : Sp := fun vs H Q _ => ∃ z : Str, vs = [.str z] ∧ isWordB z = true ∧ ∀ H', Same H H' → Q (.bl true) H'
abbrev nWord : List Str := ["value", "letters", "letter"]
theorem scWord : FnScope nWord ["value"] (defScope sIsWord) := ⟨rfl, rfl, rfl, by decide +kernel, rfl, by decide +kernel, by decide +kernel⟩
theorem ok_word {f : Addr} {fd : FuncData} (F : Fun K "is_word" "is_word" sIsWord f fd) (T : TxtG mg) : FnOk P w K mg base CX0 1 f fd ["value"] spWord := by
  obtain ⟨tl, Tl⟩ := T.letters
  obtain ⟨td, Td⟩ := T.digits
  refine F.ok scWord (fun vs H Q E h => ?_) (fun cdv A outer s H vs Q E hr h => ?_)
  · obtain ⟨_, rfl, _⟩ := h
    rfl
  · obtain ⟨z, rfl, hz, k⟩ := h
    refine ⟨_, pss_cons (ps_if (pt_not (pt_val (pe_callB call_isi (by rfl) T.isinstance (by decide +kernel) (pa_cons (pv 0) (pa_cons (pe_bltn (v := .ty "str") (by rfl) T.str (by decide +kernel) rfl) pa_nil))))) (pss_one (ps_ret pe_bl)) pss_nil)
      (pss_cons (ps_set (i := 1) scWord.nd rfl (Or.inl rfl) (pe_bm PySem.F.plainAttrs_str PySem.F.slot_str_rstrip PySem.F.type_str_rstrip mt_rstripChars (pv 0) (pa_cons (pe_glob (v := .str "0123456789") (by rfl) Td ⟨_, rfl⟩) pa_nil)))
      (pss_cons (ps_if (PW.pt (pw_or (pt_not (pt_chain op_le op_le pe_int (pe_callB call_len_str (by rfl) T.len PySem.boot_len (pa_cons (pv 1) pa_nil)) pe_int)) (pw_or1 (pt_cmpR op_gt (pe_op op_sub (pe_callB call_len_str (by rfl) T.len PySem.boot_len (pa_cons (pv 0) pa_nil)) (pe_callB call_len_str (by rfl) T.len PySem.boot_len (pa_cons (pv 1) pa_nil))) pe_int (nomark _))))) (pss_one (ps_ret pe_bl)) pss_nil)
      (pss_one (ps_ret (pe_callB (cr_all rfl) (by rfl) T.all (by decide +kernel) (pa_cons (pe_lc (own := [("letter", 2)]) (g := gName 2) (tt := tYes) rfl scWord.nd (pi_str (pv 1))
          (blkOk_by (N := nWord) (sc := defScope sIsWord) (by decide +kernel)) (fun _ _ _ _ _ => pg_name (i := 2) scWord.nd rfl (Or.inl rfl)) (fun _ _ _ _ _ => pts_nil)
          (fun _ _ _ _ _ => pe_cmpR op_in_sign (pv 2) (pe_glob (v := .str "abcdefghijklmnopqrstuvwxyz") (by rfl) Tl ⟨_, rfl⟩) (by rfl))) pa_nil)))))), ?_⟩
    unfold isWordB at hz
    simp only [Bool.and_eq_true, decide_eq_true_eq, List.all_eq_true] at hz
    obtain ⟨⟨⟨⟨h100, h1⟩, h8⟩, h4⟩, hall⟩ := hz
    refine ⟨_, rfl, _, _, _, _, true, rfl, ClsV.ty "str", TyX.base (TyOf.str z), kit_ty (by decide +kernel), _, rfl, iteF ?_⟩
    refine ⟨_, rfl, ?_, _, _, rfl, rfl, Evl.sz_of (by omega), ?_⟩
    · rfl
    refine ⟨_, rfl, _, rfl, Evl.sz_of (show (letB z).length ≤ 100000 by omega), _, _, rfl, rfl, _, rfl, ?_⟩
    have c1 : decide ((1 : Int) ≤ ((letB z).length : Int)) = true := decide_eq_true (by omega)
    have c2 : decide (((letB z).length : Int) ≤ 8) = true := decide_eq_true (by omega)
    have c3 : decide ((4 : Int) < (z.length : Int) - ((letB z).length : Int)) = false := decide_eq_false (by omega)
    show (if decide ((1 : Int) ≤ ((letB z).length : Int)) = true then _ else _)
    rw [if_pos c1]
    refine ⟨_, _, rfl, rfl, _, rfl, ?_⟩
    show (if (!decide (((letB z).length : Int) ≤ 8)) = true then _ else _)
    rw [c2]
    refine iteF ?_
    refine ⟨_, rfl, _, rfl, Evl.sz_of (by omega), _, rfl, _, rfl, Evl.sz_of (show (letB z).length ≤ 100000 by omega), _, _, rfl, rfl, _, _, rfl, rfl, _, rfl, ?_⟩
    show (if decide ((4 : Int) < (z.length : Int) - ((letB z).length : Int)) = true then _ else _)
    rw [c3]
    refine iteF ?_
    refine ⟨_, rfl, letB z, rfl, fun D hD => ?_⟩
    refine lc_it walk_str (fun i H1 => ∃ bs : List Bool, H1 D = some (.lst (bs.map V.bl)) ∧ bs.length = i ∧ (∀ b ∈ bs, b = true) ∧ Same H H1) ⟨[], upd_same, rfl, (fun b hb => (List.not_mem_nil hb).elim), same_new hD⟩ (fun _ _ _ _ => trivial) ?_ ?_
    · rintro i x H1 H2 hi ⟨bs, hD1, hbl, hbt, s1⟩ ⟨rfl, c, hc, rfl⟩
      have hi8 : i < 8 := by
        have : (letB z).cps.size = (letB z).length := rfl
        omega
      have hcm : c ∈ (letB z).cps.toList := by
        rw [← Array.getElem?_toList] at hc
        exact List.mem_of_getElem? hc
      have hin : decide (c ∈ ("abcdefghijklmnopqrstuvwxyz" : Str).cps.toList) = true := decide_eq_true (hall c hcm)
      refine ⟨rfl, tyes ?_⟩
      refine ⟨_, rfl, c, _, rfl, rfl, _, hD1, Evl.sz_lt (by rw [List.length_map]; omega), bs ++ [true], ?_, by simp [hbl], ?_, fun b o e => ?_⟩
      · rw [upd_same, List.map_append, hin]
        rfl
      · intro b hb
        rcases List.mem_append.mp hb with q | q
        · exact hbt b q
        · exact List.mem_singleton.mp q
      · rw [upd_ne (ne_of_none e hD)]
        exact s1 b o e
    · rintro H1 ⟨bs, hD1, hbl, hbt, s1⟩
      refine ⟨D, bs, rfl, SqL.of hD1, ?_⟩
      have : bs.all id = true := List.all_eq_true.mpr fun b hb => hbt b hb
      rw [this]
      exact k H1 s1
def spInteger : Sp := fun vs H Q _ => ∃ i : Int, vs = [.int i] ∧ Q (.bl true) H
theorem scInteger : FnScope ["value"] ["value"] (defScope sIsInteger) := ⟨rfl, rfl, rfl, by decide +kernel, rfl, by decide +kernel, by decide +kernel⟩
theorem ok_integer {f : Addr} {fd : FuncData} (F : Fun K "is_integer" "is_integer" sIsInteger f fd) (T : TxtG mg) : FnOk P w K mg base CX0 1 f fd ["value"] spInteger := by
  refine F.ok scInteger (fun vs H Q E h => ?_) (fun cdv A outer s H vs Q E hr h => ?_)
  · obtain ⟨_, rfl, _⟩ := h
    rfl
  · obtain ⟨i, rfl, k⟩ := h
    refine ⟨_, pss_one (ps_ret (pe_and (pe_callB call_isi (by rfl) T.isinstance (by decide +kernel) (pa_cons (pv 0) (pa_cons (pe_bltn (v := .ty "int") (by rfl) T.int (by decide +kernel) rfl) pa_nil)))
      (pe_one (pe_not (pe_callB call_isi (by rfl) T.isinstance (by decide +kernel) (pa_cons (pv 0) (pa_cons (pe_bltn (v := .ty "bool") (by rfl) T.bool (by decide +kernel) rfl) pa_nil))))))), ?_⟩
    refine ⟨_, rfl, _, _, _, _, true, rfl, ClsV.ty "int", TyX.base (TyOf.int i), kit_ty (by decide +kernel), _, rfl, iteT ?_⟩
    exact ⟨_, rfl, _, _, _, _, false, rfl, ClsV.ty "bool", TyX.base (TyOf.int i), kit_ty (by decide +kernel), _, rfl, k⟩
def spNumber : Sp := fun vs H Q _ => ∃ i l : Int, vs = [.int i, .int l] ∧ Q (.bl (decide (l ≤ i))) H
theorem scNumber : FnScope ["value", "least"] ["value", "least"] (defScope sIsNumber) := ⟨rfl, rfl, rfl, by decide +kernel, rfl, by decide +kernel, by decide +kernel⟩
theorem ok_number {f : Addr} {fd : FuncData} (F : Fun K "is_number" "is_number" sIsNumber f fd) (Gi : Def P w K mg base "is_integer" ["value"] 1 spInteger) : FnOk P w K mg base CX0 2 f fd ["value", "least"] spNumber := by
  obtain ⟨fi, fdi, Gi, mi, ki, bi⟩ := Gi.ex
  refine F.ok scNumber (fun vs H Q E h => ?_) (fun cdv A outer s H vs Q E hr h => ?_)
  · obtain ⟨_, _, rfl, _⟩ := h
    rfl
  · obtain ⟨i, l, rfl, k⟩ := h
    refine ⟨_, pss_one (ps_ret (pe_and (pe_call Gi hr (by rfl) mi ki bi .nil pass0 (pa_cons (pv 0) pa_nil)) (pe_one (pe_cmpR op_ge (pv 0) (pv 1) (nomark _))))), ?_⟩
    refine ⟨_, rfl, i, rfl, _, rfl, iteT ?_⟩
    exact ⟨_, rfl, _, rfl, _, _, rfl, rfl, k⟩
end
end Nm
set_option autoImplicit true
set_option maxRecDepth 100000
set_option maxHeartbeats 4000000
namespace Nm
open PySem L2
/-- a list of pairs (name, colour) stands at p -/
def PlacesAt (H : Hp) (p : Addr) (nm cl : List Str) : Prop := ∃ ts : List Addr, H p = some (.lst (ts.map V.ref)) ∧ ts.length = nm.length ∧ ∀ (i : Nat) (t : Addr), ts[i]? = some t → ∃ x y, nm[i]? = some x ∧ cl[i]? = some y ∧ H t = some (.tup [.str x, .str y])
section
variable {P : Program} {w : World} {K : PySem.W.Frag} {mg : Str → Option Value} {base : Heap}
/-! ### need_word -/
def spNeedW : Sp := fun vs H Q _ => ∃ x : Str, vs = [.str x] ∧ isWordB x = true ∧ ∀ H', Same H H' → Q .non H'
abbrev nNW : List Str := ["value"]
theorem scNW : FnScope nNW ["value"] (defScope sNeedWord) := ⟨rfl, rfl, rfl, by decide +kernel, rfl, by decide +kernel, by decide +kernel⟩
theorem ok_needW {f : Addr} {fd : FuncData} (F : Fun K "need_word" "need_word" sNeedWord f fd) (_T : TxtG mg) (Gw : Def P w K mg base "is_word" ["value"] 1 spWord) : FnOk P w K mg base CX0 2 f fd ["value"] spNeedW := by
  obtain ⟨fw, fdw, Gw, mw, kw, bw⟩ := Gw.ex
  refine F.ok scNW (fun vs H Q E h => ?_) (fun cdv A outer s H vs Q E hr h => ?_)
  · obtain ⟨_, rfl, _⟩ := h
    rfl
  · obtain ⟨x, rfl, hx, k⟩ := h
    refine ⟨_, pss_one (ps_if (pt_not (pt_val (pe_call Gw hr (by rfl) mw kw bw .nil pass0 (pa_cons (pv 0) pa_nil)))) (pss_one ps_never) pss_nil), ?_⟩
    refine ⟨_, rfl, x, rfl, hx, fun H2 s2 => ⟨_, rfl, iteF ?_⟩⟩
    exact k H2 s2
/-! ### need_once -/
def spOnce : Sp := fun vs H Q _ => ∃ (p : Addr) (nm : List Str), vs = [.ref p] ∧ H p = some (.lst (nm.map V.str)) ∧ nm.length ≤ 1000 ∧ nm.Nodup ∧ ∀ H', Same H H' → Q .non H'
abbrev nNO : List Str := ["names", "told", "name"]
theorem scNO : FnScope nNO ["names"] (defScope sNeedOnce) := ⟨rfl, rfl, rfl, by decide +kernel, rfl, by decide +kernel, by decide +kernel⟩
theorem ok_once {f : Addr} {fd : FuncData} (F : Fun K "need_once" "need_once" sNeedOnce f fd) (T : TxtG mg) : FnOk P w K mg base CX0 1 f fd ["names"] spOnce := by
  refine F.ok scNO (fun vs H Q E h => ?_) (fun cdv A outer s H vs Q E hr h => ?_)
  · obtain ⟨_, _, rfl, _⟩ := h
    rfl
  · obtain ⟨p, nm, rfl, hp, h1000, nd, k⟩ := h
    refine ⟨_, pss_cons (ps_set (i := 1) scNO.nd rfl (Or.inl rfl) (pe_callTy0 cr_set0K (by rfl) T.set (by decide +kernel)))
      (pss_one (ps_for PassesOwn.never rfl (pi_list (pv 0)) (pg_name (i := 2) scNO.nd rfl (.inl rfl))
        (pss_cons (ps_if (pt_cmpR or_sinK (pv 2) (pv 1) (by rfl)) (pss_one ps_never) pss_nil)
        (pss_one (ps_expr (pe_saddK (pv 1) (pa_cons (pv 2) pa_nil))))))), ?_⟩
    refine ⟨rfl, fun se hse => ?_⟩
    have s2 := same_new (o := SetK P w se (fun _ => false) 0) hse
    refine ⟨_, rfl, p, rfl, ⟨_, SqL.of (s2 _ _ hp)⟩, ?_⟩
    refine for_list (xs := nm.map V.str) (fun i σ H2 => ∃ v2 S n, σ = [some (.ref p), some (.ref se), v2] ∧ H2 se = some (SetK P w se S n) ∧ n ≤ i ∧ (∀ k, S k = true → ∃ x ∈ nm.take i, k = Sum.inr x) ∧ Same H H2)
      ⟨none, fun _ => false, 0, rfl, upd_same, Nat.le_refl _, (fun k h => by cases h), s2⟩ (fun i σ H2 _ ⟨_, _, _, _, _, _, _, h⟩ => SqL.of (h _ _ hp)) ?_ ?_
    · rintro i v σ H2 hi ⟨v2, S, n, rfl, hS, hn, hSk, s3⟩
      have hil := (List.getElem?_eq_some_iff.mp hi).1
      rw [List.length_map] at hil
      rw [List.getElem?_map] at hi
      obtain ⟨x, hx, rfl⟩ := Option.map_eq_some_iff.mp hi
      have hxS : S (Sum.inr x) = false := by
        cases e : S (Sum.inr x) with
        | false => rfl
        | true =>
          obtain ⟨x', hx', e'⟩ := hSk _ e
          cases e'
          obtain ⟨j, hj⟩ := List.getElem?_of_mem hx'
          rw [List.getElem?_take] at hj
          split at hj
          · rename_i hji
            have h1 := (List.getElem?_eq_some_iff.mp hj).1
            have h2 := (List.getElem?_eq_some_iff.mp hx).1
            have : j = i := (List.getElem?_inj h1 nd).mp (hj.trans hx.symm)
            omega
          · cases hj
      refine ⟨_, rfl, _, rfl, Sum.inr x, se, S, n, rfl, rfl, hS, _, rfl, ?_⟩
      show (if (if false = true then !S (Sum.inr x) else S (Sum.inr x)) = true then _ else _)
      rw [hxS]
      refine iteF ?_
      refine ⟨_, rfl, ⟨se, S, n, rfl, hS⟩, _, rfl, se, Sum.inr x, S, n, rfl, rfl, hS, by unfold scanBound; omega, ?_⟩
      refine ⟨_, _, _, rfl, upd_same, ?_, ?_, fun b o e => ?_⟩
      · split <;> omega
      · intro k' hk'
        rw [List.take_add_one, hx]
        by_cases e : k' = Sum.inr x
        · exact ⟨x, by simp, e⟩
        · have : S k' = true := by simpa [e] using hk'
          obtain ⟨x', h1, h2⟩ := hSk k' this
          exact ⟨x', List.mem_append_left _ h1, h2⟩
      · rw [upd_ne (ne_of_none e hse)]
        exact s3 b o e
    · rintro σ H2 ⟨v2, S, n, rfl, hS, hn, hSk, s3⟩
      exact k H2 s3
/-! ### need_places -/
def spNeedP : Sp := fun vs H Q _ => ∃ (p : Addr) (nm cl : List Str), vs = [.ref p] ∧ PlacesAt H p nm cl ∧ 1 ≤ nm.length ∧ nm.length ≤ 1000 ∧ nm.Nodup ∧ (∀ x ∈ nm, isWordB x = true) ∧ (∀ x ∈ cl, isWordB x = true) ∧ ∀ H', Same H H' → Q .non H'
abbrev nNP : List Str := ["places", "name", "colour", "_"]
theorem scNP : FnScope nNP ["places"] (defScope sNeedPlaces) := ⟨rfl, rfl, rfl, by decide +kernel, rfl, by decide +kernel, by decide +kernel⟩
theorem ok_needP {f : Addr} {fd : FuncData} (F : Fun K "need_places" "need_places" sNeedPlaces f fd) (T : TxtG mg) (Gw : Def P w K mg base "need_word" ["value"] 2 spNeedW) (Go : Def P w K mg base "need_once" ["names"] 1 spOnce) : FnOk P w K mg base CX0 3 f fd ["places"] spNeedP := by
  obtain ⟨fw, fdw, Gw, mw, kw, bw⟩ := Gw.ex
  obtain ⟨fo, fdo, Go, mo, ko, bo⟩ := Go.ex
  refine F.ok scNP (fun vs H Q E h => ?_) (fun cdv A outer s H vs Q E hr h => ?_)
  · obtain ⟨_, _, _, rfl, _⟩ := h
    rfl
  · obtain ⟨p, nm, cl, rfl, ⟨ts, hp, htl, hts⟩, h1, h1000, nd, hnw, hcw, k⟩ := h
    have hr1 := hr.mono (by decide : 1 ≤ 2)
    refine ⟨_, pss_cons (ps_if (pt_cmpR op_eq (pe_callB call_len_seq (by rfl) T.len PySem.boot_len (pa_cons (pv 0) pa_nil)) pe_int (nomark _)) (pss_one ps_never) pss_nil)
      (pss_cons (ps_for PassesOwn.never rfl (pi_list (pv 0)) (pg_tup rfl (pgs_cons (pg_name (i := 1) scNP.nd rfl (.inl rfl)) (pgs_cons (pg_name (i := 2) scNP.nd rfl (.inl rfl)) pgs_nil)))
        (pss_cons (ps_expr (pe_call Gw hr (by rfl) mw kw bw .nil pass0 (pa_cons (pv 1) pa_nil)))
        (pss_one (ps_expr (pe_call Gw hr (by rfl) mw kw bw .nil pass0 (pa_cons (pv 2) pa_nil))))))
      (pss_one (ps_expr (pe_call Go hr1 (by rfl) mo ko bo .nil pass0 (pa_cons (pe_lc (own := [("name", 1), ("_", 3)]) (g := gTup K 2 (gCons (gName 1) (gCons (gName 3) gNil))) (tt := tYes) (te := tVar 1) rfl scNP.nd (pi_list (pv 0)) (blkOk_by (N := nNP) (sc := defScope sNeedPlaces) (by decide +kernel))
          (fun _ _ _ _ _ => pg_tup rfl (pgs_cons (pg_name (i := 1) scNP.nd rfl (Or.inl rfl)) (pgs_cons (pg_name (i := 3) scNP.nd rfl (Or.inl rfl)) pgs_nil))) (fun _ _ _ _ _ => pts_nil) (fun _ _ _ _ _ => pv 1)) pa_nil))))), ?_⟩
    refine ⟨_, rfl, p, _, rfl, .inl (SqL.of hp), rfl, _, rfl, ?_⟩
    refine ite2 (fun h => ?_) (fun _ => ?_)
    · have h := of_decide_eq_true h
      injection h with h
      rw [List.length_map] at h
      omega
    refine ⟨_, rfl, p, rfl, ⟨_, SqL.of hp⟩, ?_⟩
    refine for_list (xs := ts.map V.ref) (fun i σ H1 => ∃ v1 v2, σ = [some (.ref p), v1, v2, none] ∧ Same H H1) ⟨none, none, rfl, Same.refl H⟩ (fun i σ H1 _ ⟨_, _, _, h⟩ => SqL.of (h _ _ hp)) ?_ ?_
    · rintro i v σ H1 hi ⟨v1, v2, rfl, s1⟩
      rw [List.getElem?_map] at hi
      obtain ⟨t, ht, rfl⟩ := Option.map_eq_some_iff.mp hi
      obtain ⟨x, y, hx, hy, htt⟩ := hts i t ht
      refine ⟨t, _, rfl, SqT.of (s1 _ _ htt), rfl, _, _, rfl, _, _, rfl, rfl, ?_⟩
      refine ⟨_, rfl, x, rfl, hnw x (List.mem_of_getElem? hx), fun H2 s2 => ?_⟩
      refine ⟨_, rfl, y, rfl, hcw y (List.mem_of_getElem? hy), fun H3 s3 => ?_⟩
      exact ⟨_, _, rfl, (s1.trans s2).trans s3⟩
    rintro σ H1 ⟨v1, v2, rfl, s1⟩
    refine ⟨_, rfl, p, rfl, ⟨_, SqL.of (s1 _ _ hp)⟩, fun D hD => ?_⟩
    have hp1 := s1 _ _ hp
    refine lc_list (xs := ts.map V.ref) (fun i H4 => H4 D = some (.lst ((nm.take i).map V.str)) ∧ Same H1 H4) ⟨upd_same, same_new hD⟩ (fun i H4 _ h => SqL.of (h.2 _ _ hp1)) ?_ ?_
    · rintro i x H4 hx ⟨hD4, s4⟩
      have hi := (List.getElem?_eq_some_iff.mp hx).1
      rw [List.length_map] at hi
      rw [List.getElem?_map] at hx
      obtain ⟨t, ht, rfl⟩ := Option.map_eq_some_iff.mp hx
      obtain ⟨x, y, hx, hy, htt'⟩ := hts i t ht
      refine ⟨t, _, rfl, SqT.of (s4 _ _ (s1 _ _ htt')), rfl, _, _, rfl, _, _, rfl, rfl, rfl, tyes ?_⟩
      refine ⟨_, rfl, _, hD4, Evl.sz_lt (by rw [List.length_map, List.length_take]; omega), ?_, fun b o e => ?_⟩
      · rw [upd_same, List.take_add_one, hx, List.map_append]
        rfl
      · rw [upd_ne (ne_of_none e hD)]
        exact s4 b o e
    · rintro H4 ⟨hD4, s4⟩
      rw [List.length_map, htl, List.take_of_length_le (Nat.le_refl _)] at hD4
      exact ⟨D, nm, rfl, hD4, h1000, nd, fun H5 s5 => k H5 ((s1.trans s4).trans s5)⟩
end
end Nm
set_option autoImplicit true
set_option maxRecDepth 100000
set_option maxHeartbeats 4000000
/-! min and max of two texts -/
namespace Nm
open PySem PySem.Spec PyProof.Rows L2
section
variable {prog : Program} {w : World} {A : Around} {E : Value → Shared → Prop} {s : Shared}
def two (a b : Value) : Array Value := #[a, b]
theorem two_at {a b : Value} {i : Nat} {v : Value} (h : (two a b)[i]? = some v) : (i = 0 ∧ v = a) ∨ (i = 1 ∧ v = b) := by
  match i, h with
  | 0, h => left; simpa [two, eq_comm] using h
  | 1, h => right; simpa [two, eq_comm] using h
  | i + 2, h => simp [two] at h
def strAt (x y : Str) (i : Nat) : Str := if i = 0 then x else y
theorem two_str {x y : Str} {t u : Tok} {i : Nat} {v : Value} (h : (two (.str x t) (.str y u))[i]? = some v) : ∃ t', v = .str (strAt x y i) t' := by
  rcases two_at h with ⟨rfl, rfl⟩ | ⟨rfl, rfl⟩
  · exact ⟨t, rfl⟩
  · exact ⟨u, rfl⟩
theorem min_two_strs {x y : Str} {t u : Tok} {Q : Value → Shared → Prop} (hh : A.handled = none)
    (h : ∀ h' tk, (∀ c o, s.heap.get? c = some o → h'.get? c = some o) → Q (if y.cps.toList < x.cps.toList then .str y u else .str x t) { s with heap := h', toks := tk }) :
    wpAny (model prog w) A (call (.builtin "min") [.str x t, .str y u]) Q E s := by
  have hT : (s.heap.push { cls := .type "tuple", data := .seq #[.str x t, .str y u] }).IsTuple s.heap.objs.size (two (.str x t) (.str y u)) := ⟨_, Heap.get?_push_size _ rfl, rfl, 0, rfl⟩
  refine call_min_two (wpAny_pyIter_tuple hT ?_)
  have hsz : (s.heap.push { cls := .type "tuple", data := .seq #[.str x t, .str y u] }).objs.size = s.heap.objs.size + 1 := Heap.size_push ..
  refine ⟨_, [_, s.heap.objs.size], [_], _, _, _, fun i j => decide ((strAt x y i).cps.toList < (strAt x y j).cps.toList), rfl, Walks.tuple (A := A.in1) hh _ s.heap.objs.size (by rw [hsz]; exact Nat.ne_of_lt (Nat.lt_succ_self _)) (two (.str x t) (.str y u)),
    ⟨⟨_, Heap.get?_push_size _ rfl, rfl, rfl⟩, hT.push _⟩, fun c hc => ?_, by simp [two], ?_, fun v h' tk hP hk => ?_⟩
  · show c < ((s.heap.push _).push _).objs.size
    rw [Heap.size_push, hsz]
    rcases List.mem_cons.mp hc with rfl | hc
    · rw [hsz]; exact Nat.lt_succ_self _
    · rcases List.mem_cons.mp hc with rfl | hc
      · exact Nat.lt_succ_of_lt (Nat.lt_succ_self _)
      · cases hc
  · intro i j vi vj s' Q' E' hi hj hq
    obtain ⟨t1, rfl⟩ := two_str hi
    obtain ⟨t2, rfl⟩ := two_str hj
    exact lt_str (t := t1) (u := t2) hq
  · have hold : ∀ c o, s.heap.get? c = some o → h'.get? c = some o := fun c o e => by
      refine hk c o (fun hm => ?_) (Heap.get?_push_of_some _ (Heap.get?_push_of_some _ e))
      rcases List.mem_cons.mp hm with e1 | hm
      · have := Heap.lt_size e; rw [e1, hsz] at this; exact Nat.lt_irrefl _ (Nat.lt_of_succ_lt this)
      · cases hm
    have := h h' tk hold
    have hv : v = if y.cps.toList < x.cps.toList then Value.str y u else Value.str x t := by
      have hP' : (two (.str x t) (.str y u))[argBest (fun i j => decide ((strAt x y i).cps.toList < (strAt x y j).cps.toList)) 1]? = some v := hP
      by_cases hba : y.cps.toList < x.cps.toList
      · have e : argBest (fun i j => decide ((strAt x y i).cps.toList < (strAt x y j).cps.toList)) 1 = 1 := by simp [argBest, strAt, hba]
        rw [e] at hP'
        rw [if_pos hba]
        simpa [two] using hP'.symm
      · have e : argBest (fun i j => decide ((strAt x y i).cps.toList < (strAt x y j).cps.toList)) 1 = 0 := by simp [argBest, strAt, hba]
        rw [e] at hP'
        rw [if_neg hba]
        simpa [two] using hP'.symm
    rw [hv]; exact this
theorem max_two_strs {x y : Str} {t u : Tok} {Q : Value → Shared → Prop} (hh : A.handled = none)
    (h : ∀ h' tk, (∀ c o, s.heap.get? c = some o → h'.get? c = some o) → Q (if x.cps.toList < y.cps.toList then .str y u else .str x t) { s with heap := h', toks := tk }) :
    wpAny (model prog w) A (call (.builtin "max") [.str x t, .str y u]) Q E s := by
  have hT : (s.heap.push { cls := .type "tuple", data := .seq #[.str x t, .str y u] }).IsTuple s.heap.objs.size (two (.str x t) (.str y u)) := ⟨_, Heap.get?_push_size _ rfl, rfl, 0, rfl⟩
  refine call_max_two (wpAny_pyIter_tuple hT ?_)
  have hsz : (s.heap.push { cls := .type "tuple", data := .seq #[.str x t, .str y u] }).objs.size = s.heap.objs.size + 1 := Heap.size_push ..
  refine ⟨_, [_, s.heap.objs.size], [_], _, _, _, fun i j => decide ((strAt x y j).cps.toList < (strAt x y i).cps.toList), rfl, Walks.tuple (A := A.in1) hh _ s.heap.objs.size (by rw [hsz]; exact Nat.ne_of_lt (Nat.lt_succ_self _)) (two (.str x t) (.str y u)),
    ⟨⟨_, Heap.get?_push_size _ rfl, rfl, rfl⟩, hT.push _⟩, fun c hc => ?_, by simp [two], ?_, fun v h' tk hP hk => ?_⟩
  · show c < ((s.heap.push _).push _).objs.size
    rw [Heap.size_push, hsz]
    rcases List.mem_cons.mp hc with rfl | hc
    · rw [hsz]; exact Nat.lt_succ_self _
    · rcases List.mem_cons.mp hc with rfl | hc
      · exact Nat.lt_succ_of_lt (Nat.lt_succ_self _)
      · cases hc
  · intro i j vi vj s' Q' E' hi hj hq
    obtain ⟨t1, rfl⟩ := two_str hi
    obtain ⟨t2, rfl⟩ := two_str hj
    exact PySem.P.gt_str (t := t1) (u := t2) hq
  · have hold : ∀ c o, s.heap.get? c = some o → h'.get? c = some o := fun c o e => by
      refine hk c o (fun hm => ?_) (Heap.get?_push_of_some _ (Heap.get?_push_of_some _ e))
      rcases List.mem_cons.mp hm with e1 | hm
      · have := Heap.lt_size e; rw [e1, hsz] at this; exact Nat.lt_irrefl _ (Nat.lt_of_succ_lt this)
      · cases hm
    have := h h' tk hold
    have hv : v = if x.cps.toList < y.cps.toList then Value.str y u else Value.str x t := by
      have hP' : (two (.str x t) (.str y u))[argBest (fun i j => decide ((strAt x y j).cps.toList < (strAt x y i).cps.toList)) 1]? = some v := hP
      by_cases hba : x.cps.toList < y.cps.toList
      · have e : argBest (fun i j => decide ((strAt x y j).cps.toList < (strAt x y i).cps.toList)) 1 = 1 := by simp [argBest, strAt, hba]
        rw [e] at hP'
        rw [if_pos hba]
        simpa [two] using hP'.symm
      · have e : argBest (fun i j => decide ((strAt x y j).cps.toList < (strAt x y i).cps.toList)) 1 = 0 := by simp [argBest, strAt, hba]
        rw [e] at hP'
        rw [if_neg hba]
        simpa [two] using hP'.symm
    rw [hv]; exact this
end
def minS (x y : Str) : Str := if y.cps.toList < x.cps.toList then y else x
def maxS (x y : Str) : Str := if x.cps.toList < y.cps.toList then y else x
section
variable {X : Cx}
theorem call_min2S (hc : X.calm = true) : CallR X (.builtin "min") (fun xs H Q => ∃ x y, xs = [.str x, .str y] ∧ Q (.str (minS x y)) H) := by
  intro pins s σ H xs us Q I r h
  obtain ⟨x, y, rfl, q⟩ := h
  obtain ⟨u, w', rfl, ⟨t, rfl⟩, ⟨t', rfl⟩⟩ := vals2 r
  refine min_two_strs (I.ok.hd hc) fun h' tk k => ⟨_, H, I.kept k, ?_, q⟩
  unfold minS
  by_cases hj : y.cps.toList < x.cps.toList
  · rw [if_pos hj, if_pos hj]; exact ⟨_, rfl⟩
  · rw [if_neg hj, if_neg hj]; exact ⟨_, rfl⟩
theorem call_max2S (hc : X.calm = true) : CallR X (.builtin "max") (fun xs H Q => ∃ x y, xs = [.str x, .str y] ∧ Q (.str (maxS x y)) H) := by
  intro pins s σ H xs us Q I r h
  obtain ⟨x, y, rfl, q⟩ := h
  obtain ⟨u, w', rfl, ⟨t, rfl⟩, ⟨t', rfl⟩⟩ := vals2 r
  refine max_two_strs (I.ok.hd hc) fun h' tk k => ⟨_, H, I.kept k, ?_, q⟩
  unfold maxS
  by_cases hj : x.cps.toList < y.cps.toList
  · rw [if_pos hj, if_pos hj]; exact ⟨_, rfl⟩
  · rw [if_neg hj, if_neg hj]; exact ⟨_, rfl⟩
end
end Nm
set_option autoImplicit true
set_option maxRecDepth 100000
set_option maxHeartbeats 4000000
namespace Nm
open PySem L2
theorem val_ex : ∀ {kvs : List (Key × V)} {k : Key}, k ∈ kvs.map (·.1) → ∃ v, valV kvs k = some v
  | kv :: r, k, h => by
    by_cases e : kv.1 = k
    · exact ⟨_, valV_pos e⟩
    · rw [valV_neg e]
      rw [List.map_cons] at h
      rcases List.mem_cons.mp h with z | z
      · exact absurd z.symm e
      · exact val_ex z
/-- a tie as it is told -/
structure TieV where
  x : Str
  y : Str
  kd : Str
  w : Int
def TieV.tup (t : TieV) : List V := [.str t.x, .str t.y, .str t.kd, .int t.w]
structure TieV.Ok (t : TieV) (nm : List Str) : Prop where
  hx : t.x ∈ nm
  hy : t.y ∈ nm
  ne : t.x ≠ t.y
  kw : isWordB t.kd = true
  w1 : 1 ≤ t.w
/-- the spot of a tie -/
def TieV.spot (t : TieV) : List Key := [Sum.inr (minS t.x t.y), Sum.inr (maxS t.x t.y), Sum.inr t.kd]
section
variable {P : Program} {w : World} {K : PySem.W.Frag} {mg : Str → Option Value} {base : Heap}
/-! ### tie_spot -/
def spSpot : Sp := fun vs H Q _ => ∃ (t d : Addr) (tv : TieV) (nm : List Str) (kvs : List (Key × V)), vs = [.ref t, .ref d] ∧ H t = some (.tup tv.tup) ∧ H d = some (.dK kvs) ∧ kvs.map (·.1) = nm.map Sum.inr ∧ tv.Ok nm ∧
  ∀ (r : Addr) (H' : Hp), H r = none → H' r = some (.tup (tv.spot.map kV)) → Same H H' → Q (.ref r) H'
abbrev nSp : List Str := ["tie", "names", "one", "other", "kind", "width"]
theorem scSp : FnScope nSp ["tie", "names"] (defScope sTieSpot) := ⟨rfl, rfl, rfl, by decide +kernel, rfl, by decide +kernel, by decide +kernel⟩
structure TxtH (mg : Str → Option Value) : Prop extends TxtG mg where
  tuple : mg "tuple" = none
theorem ok_spot {f : Addr} {fd : FuncData} (F : Fun K "tie_spot" "tie_spot" sTieSpot f fd) (T : TxtH mg) (Gw : Def P w K mg base "is_word" ["value"] 1 spWord) (Gn : Def P w K mg base "is_number" ["value", "least"] 2 spNumber) : FnOk P w K mg base CX0 3 f fd ["tie", "names"] spSpot := by
  obtain ⟨fw, fdw, Gw, mw, kw, bw⟩ := Gw.ex
  obtain ⟨fn, fdn, Gn, mn, kn, bn⟩ := Gn.ex
  refine F.ok scSp (fun vs H Q E h => ?_) (fun cdv A outer s H vs Q E hr h => ?_)
  · obtain ⟨_, _, _, _, _, rfl, _⟩ := h
    rfl
  · obtain ⟨t, d, tv, nm, kvs, rfl, ht, hd, hk, ok, k⟩ := h
    have hu := hu_of hr
    refine ⟨_, pss_cons (ps_if (PW.pt (pw_or (pt_not (pt_val (pe_callB call_isi (by rfl) T.isinstance (by decide +kernel) (pa_cons (pv 0) (pa_cons (pe_bltn (v := .ty "tuple") (by rfl) T.tuple (by decide +kernel) rfl) pa_nil))))) (pw_or1 (pt_cmpR op_ne (pe_callB call_len_seq (by rfl) T.len PySem.boot_len (pa_cons (pv 0) pa_nil)) pe_int (nomark _))))) (pss_one (ps_ret pe_non)) pss_nil)
      (pss_cons (ps_asg (pv 0) (pg_tup rfl (pgs_cons (pg_name (i := 2) scSp.nd rfl (.inl rfl)) (pgs_cons (pg_name (i := 3) scSp.nd rfl (.inl rfl)) (pgs_cons (pg_name (i := 4) scSp.nd rfl (.inl rfl)) (pgs_cons (pg_name (i := 5) scSp.nd rfl (.inl rfl)) pgs_nil))))))
      (pss_cons (ps_if (PW.pt (pw_or (pt_not (pt_val (pe_callB call_isi (by rfl) T.isinstance (by decide +kernel) (pa_cons (pv 2) (pa_cons (pe_bltn (v := .ty "str") (by rfl) T.str (by decide +kernel) rfl) pa_nil))))) (pw_or (pt_not (pt_val (pe_callB call_isi (by rfl) T.isinstance (by decide +kernel) (pa_cons (pv 3) (pa_cons (pe_bltn (v := .ty "str") (by rfl) T.str (by decide +kernel) rfl) pa_nil))))) (pw_or1 (pt_cmpR op_eq (pv 2) (pv 3) (nomark _)))))) (pss_one (ps_ret pe_non)) pss_nil)
      (pss_cons (ps_if (PW.pt (pw_or (pt_cmp (pc_dnotin hu (pv 2) (pv 1))) (pw_or1 (pt_cmp (pc_dnotin hu (pv 3) (pv 1)))))) (pss_one (ps_ret pe_non)) pss_nil)
      (pss_cons (ps_if (PW.pt (pw_or (pt_not (pt_val (pe_call Gw (hr.mono (by decide)) (by rfl) mw kw bw .nil pass0 (pa_cons (pv 4) pa_nil)))) (pw_or1 (pt_not (pt_val (pe_call Gn hr (by rfl) mn kn bn .nil pass0 (pa_cons (pv 5) (pa_cons pe_int pa_nil)))))))) (pss_one (ps_ret pe_non)) pss_nil)
      (pss_one (ps_ret (pe_tup (pa_cons (pe_callB (call_min2S rfl) (by rfl) T.min (by decide +kernel) (pa_cons (pv 2) (pa_cons (pv 3) pa_nil))) (pa_cons (pe_callB (call_max2S rfl) (by rfl) T.max (by decide +kernel) (pa_cons (pv 2) (pa_cons (pv 3) pa_nil))) (pa_cons (pv 4) pa_nil)))))))))), ?_⟩
    refine ⟨_, rfl, _, _, _, _, true, rfl, ClsV.ty "tuple", TyX.base (TyOf.tup ht), kit_ty (by decide +kernel), _, rfl, iteF ?_⟩
    refine ⟨_, rfl, t, _, rfl, .inr (SqT.of ht), rfl, _, rfl, iteF ?_⟩
    refine ⟨_, rfl, t, _, rfl, SqT.of ht, rfl, _, _, rfl, _, _, rfl, _, _, rfl, _, _, rfl, rfl, ?_⟩
    refine ⟨_, rfl, _, _, _, _, true, rfl, ClsV.ty "str", TyX.base (TyOf.str _), kit_ty (by decide +kernel), _, rfl, iteF ?_⟩
    refine ⟨_, rfl, _, _, _, _, true, rfl, ClsV.ty "str", TyX.base (TyOf.str _), kit_ty (by decide +kernel), _, rfl, iteF ?_⟩
    have hne : decide (V.str tv.x = V.str tv.y) = false := decide_eq_false (fun e => ok.ne (by injection e))
    refine ⟨_, rfl, _, rfl, rfl, _, rfl, ?_⟩
    rw [hne]
    refine iteF ?_
    have there : ∀ z, z ∈ nm → ∃ v, valV kvs (Sum.inr z) = some v := fun z hz => val_ex (by rw [hk]; exact List.mem_map.mpr ⟨z, hz, rfl⟩)
    obtain ⟨vx, hvx⟩ := there tv.x ok.hx
    obtain ⟨vy, hvy⟩ := there tv.y ok.hy
    refine ⟨_, rfl, _, rfl, d, some vx, rfl, (by rw [← hvx]; exact DGet.k (k := Sum.inr tv.x) hd), _, rfl, iteF ?_⟩
    refine ⟨_, rfl, _, rfl, d, some vy, rfl, (by rw [← hvy]; exact DGet.k (k := Sum.inr tv.y) hd), _, rfl, iteF ?_⟩
    refine ⟨_, rfl, tv.kd, rfl, ok.kw, fun H1 s1 => ⟨_, rfl, iteF ?_⟩⟩
    have hw1 : decide ((1 : Int) ≤ tv.w) = true := decide_eq_true ok.w1
    refine ⟨_, rfl, tv.w, 1, rfl, _, rfl, ?_⟩
    rw [hw1]
    refine iteF ?_
    refine ⟨_, rfl, _, rfl, _, _, rfl, _, rfl, _, rfl, _, _, rfl, _, rfl, (by show 3 ≤ sizeLine; decide), fun r hr => ?_⟩
    exact k r _ (s1.free hr) upd_same (s1.trans (same_new hr))
end
end Nm
set_option autoImplicit true
set_option maxRecDepth 100000
set_option maxHeartbeats 4000000
/-! name = {k: v for ..}, the name a local -/
namespace Nm
open PySem PySem.Spec PyProof.Rows L2
section
variable {X : Cx}
theorem ps_setDc {n : Nat} {z : Str} {zp : Pos} {ke ve tg iter : PySem.Expr} {ifs : List PySem.Expr} {scp : Scope} {own : List (Str × Nat)} {pos spos : Pos} {wi : TI} {g : TG} {tt : TT} {tk tv : TE}
    (calm : X.calm = true) (nd : X.N.Nodup) (at_ : X.N[n]? = some z) (loc : X.env.scope.names.lookup z = some .local)
    (sw : swapsWith (.DictComp ke ve [⟨tg, iter, ifs, 0⟩] scp pos) (some (.Name z zp)) spos.line X.env = pure true) (wlk : PI X tg iter wi) (blk : BlkOk X.N X.env.scope scp own)
    (tgt : ∀ (s : Shared) (H : Hp) (C : Addr) (cs : List (Str × Addr)) (fp : List Addr), PG (X.blk s H scp (compEnvC scp cs C X.env) fp) tg g)
    (tst : ∀ (s : Shared) (H : Hp) (C : Addr) (cs : List (Str × Addr)) (fp : List Addr), PTs (X.blk s H scp (compEnvC scp cs C X.env) fp) ifs tt)
    (key : ∀ (s : Shared) (H : Hp) (C : Addr) (cs : List (Str × Addr)) (fp : List Addr), PE (X.blk s H scp (compEnvC scp cs C X.env) fp) ke tk)
    (val : ∀ (s : Shared) (H : Hp) (C : Addr) (cs : List (Str × Addr)) (fp : List Addr), PE (X.blk s H scp (compEnvC scp cs C X.env) fp) ve tv)
    (fold : ∀ x, foldedSetIterable iter X.env x = pure x := by intro _; rfl) :
    PS X (.Assign [.Name z zp] (.DictComp ke ve [⟨tg, iter, ifs, 0⟩] scp pos) spos) (tAsg (tDc wi g tt tk tv (own.map (·.2))) (gName n)) := by
  refine ⟨fun pins s σ H D I hyp => ?_⟩
  rw [exec_Assign_Name_used _ _ _ _ sw]
  refine wpAny_bind (wpAny_standAt (wpAny_bind ?_))
  show wpAny _ X.A (do let _ ← comprehension (.DictComp ke ve [⟨tg, iter, ifs, 0⟩] scp pos) scp X.env (firstIterPos [⟨tg, iter, ifs, 0⟩] pos) newDict false (eval iter X.env) (some (assign (.Name z zp) X.env))) _ _ s
  have hyp' : tDc wi g tt tk tv (own.map (·.2)) σ H (fun x H1 => gName n x σ H1 D.nx) := hyp
  have core := dc_core (pos := pos) (pos' := firstIterPos [⟨tg, iter, ifs, 0⟩] pos) (use := some (assign (.Name z zp) X.env)) (Qf := fun _ s' => SP X pins D .next s') calm nd I wlk blk tgt tst key val fold hyp' fun L C s' m H' I' q hn f => ?_
  · exact wpAny_bind (thn core fun _ s' hq => wpAny_pure (wpAny_pure hq))
  show wpAny _ _ (assign (.Name z zp) X.env (.ref L)) _ _ _
  refine wpAny_assign_Name (store_ok2 (v := V.ref L) I' nd at_ (.inl loc) rfl (fun s2 I2 ⟨a, sb, ha⟩ => ?_) (.inr loc))
  have ⟨f0, f1, f2, f3, f4, f5⟩ := f
  have haC : C ≠ a := ha.elim (fun e => e ▸ f1) (fun e w => f4 z a e w.symm)
  exact ⟨m, hn.sameBut sb haC, fun h3 sb3 => ⟨_, H', I2.turned (t' := s2.toks) (fun b o hb e => (sb3.2 b hb).trans e) f0 f1 f3 f4 f5, q⟩⟩
theorem sw_dict {ke ve : PySem.Expr} {gs : List Comprehension} {scp : Scope} {pos zp : Pos} {z : Str} {l : Nat} {env : Env} (hk : env.scope.kind = .function) (loc : env.scope.names.lookup z = some .local) (hl : (zp.line == pos.line) = true)
    (ha : (scp.names.any fun (n, k) => n == z && (k == .local || k == .cell)) = false) : swapsWith (.DictComp ke ve gs scp pos) (some (.Name z zp)) l env = pure true := by
  have kz : env.kindOf z = some .local := loc
  have hb : env.blockKind = .function := by
    unfold Env.blockKind
    rw [hk]
    rfl
  unfold swapsWith
  simp only [hb, kz, ha, Expr.pos, hl]
  rfl
end
end Nm
set_option autoImplicit true
set_option maxRecDepth 100000
set_option maxHeartbeats 4000000
namespace Nm
open PySem L2
/-- a dict comprehension over any walk: P by the turn and the heap, the new dict at D within -/
theorem dc_walk {J : It} {n : Nat} {G : Hp → Prop} {Y : Nat → Hp → V → Hp → Prop} (wk : Walk J n G Y) {g : TG} {tt : TT} {tk tv : TE} {vs : List Nat} {σ : L2.St} {H1 : Hp} {D : Addr} {Qd : Hp → Prop} (Pv : Nat → Hp → Prop) (h0 : Pv 0 (upd H1 D (.dK [])))
    (hG : ∀ i H, i ≤ n → Pv i H → G H)
    (hs : ∀ i x H H', i < n → Pv i H → Y i H x H' → g x (wipe σ vs) H' fun σ2 H2 => wipe σ2 vs = wipe σ vs ∧ tt σ2 H2 fun b H3 =>
      if b = true then tk σ2 H3 fun y H4 => tv σ2 H4 fun z H5 => ∃ kvs k, y = kV k ∧ H5 D = some (.dK kvs) ∧ kvs.length < sizeLine ∧ Pv (i + 1) (upd H5 D (.dK (putK kvs k z))) else Pv (i + 1) H3)
    (hd : ∀ H, Pv n H → Qd H) :
    ∃ W : Nat → Nat → Hp → Prop, (∃ m, W 0 m (upd H1 D (.dK []))) ∧ ∀ i m H, W i m H →
      (J.stop i H ∧ Qd H) ∨ (J.go i H ∧ ∃ Nx : Hp → Prop, (∀ H', Nx H' → ∃ m', m' < m ∧ W (i + 1) m' H') ∧ ∀ x H', J.yld i H x H' → g x (wipe σ vs) H' fun σ2 H2 => wipe σ2 vs = wipe σ vs ∧ tt σ2 H2 fun b H3 =>
        if b = true then tk σ2 H3 fun y H4 => tv σ2 H4 fun z H5 => ∃ kvs k, y = kV k ∧ H5 D = some (.dK kvs) ∧ kvs.length < sizeLine ∧ Nx (upd H5 D (.dK (putK kvs k z))) else Nx H3) := by
  refine ⟨fun i m H => m + i = n ∧ Pv i H, ⟨n, by omega, h0⟩, fun i m H ⟨e, p⟩ => ?_⟩
  have q := hG i H (by omega) p
  cases m with
  | zero =>
    obtain rfl : i = n := by omega
    exact .inl ⟨wk.stops H q, hd H p⟩
  | succ m => exact .inr ⟨wk.goes i H (by omega) q, Pv (i + 1), fun H' p' => ⟨m, by omega, by omega, p'⟩, fun x H' y => hs i x H H' (by omega) p (wk.yields i H x H' (by omega) q y)⟩
/-- names and their places -/
def numKV (nm : List Str) (i : Nat) : List (Key × V) := (nm.zipIdx.take i).map fun p => (Sum.inr p.1, V.int (p.2 : Int))
theorem num_step {nm : List Str} {i : Nat} {x : Str} (h : nm[i]? = some x) : numKV nm (i + 1) = numKV nm i ++ [(Sum.inr x, V.int (i : Int))] := by
  unfold numKV
  have e : nm.zipIdx[i]? = some (x, i) := by simp [h]
  rw [List.take_add_one, e, List.map_append]
  rfl
theorem num_keys (nm : List Str) (i : Nat) : (numKV nm i).map (·.1) = (nm.take i).map Sum.inr := by
  unfold numKV
  rw [List.map_map]
  have : nm.take i = (nm.zipIdx.take i).map (·.1) := by rw [List.map_take]; simp
  rw [this, List.map_map]
  rfl
theorem num_nd {nm : List Str} (nd : nm.Nodup) (i : Nat) : ((numKV nm i).map (·.1)).Nodup := by
  rw [num_keys]
  exact List.Pairwise.map _ (fun a b hab e => hab (Sum.inr.inj e)) ((List.take_sublist i nm).nodup nd)
theorem num_new {nm : List Str} (nd : nm.Nodup) {i : Nat} {x : Str} (h : nm[i]? = some x) : valV (numKV nm i) (Sum.inr x) = none := by
  refine val_none_of fun hm => ?_
  rw [num_keys] at hm
  obtain ⟨y, hy, e⟩ := List.mem_map.mp hm
  cases e
  obtain ⟨j, hj⟩ := List.getElem?_of_mem hy
  rw [List.getElem?_take] at hj
  split at hj
  · rename_i hji
    have h1 := (List.getElem?_eq_some_iff.mp hj).1
    have : j = i := (List.getElem?_inj h1 nd).mp (hj.trans h.symm)
    omega
  · cases hj
theorem num_at {nm : List Str} (nd : nm.Nodup) {i : Nat} {x : Str} (h : nm[i]? = some x) : valV (numKV nm nm.length) (Sum.inr x) = some (V.int (i : Int)) := by
  refine val_of_mem (num_nd nd _) ?_
  unfold numKV
  rw [List.take_of_length_le (by simp)]
  refine List.mem_map.mpr ⟨(x, i), ?_, rfl⟩
  rw [List.mem_zipIdx_iff_getElem?]
  exact h
/-- the row of a tie: its places, the lesser first, its kind, its width -/
structure RowV where
  i : Nat
  j : Nat
  kd : Str
  w : Int
def RowV.key (r : RowV) : Int × List Key := ((r.i : Int), [Sum.inl (r.j : Int), Sum.inr r.kd, Sum.inl r.w])
def RowV.tup (r : RowV) : List V := [.int (r.i : Int), .int (r.j : Int), .str r.kd, .int r.w]
/-- r is the row of t -/
def RowOf (nm : List Str) (t : TieV) (r : RowV) : Prop := ∃ a b, nm[a]? = some t.x ∧ nm[b]? = some t.y ∧ r.i = min a b ∧ r.j = max a b ∧ r.kd = t.kd ∧ r.w = t.w
/-- a list of ties stands at p -/
def TiesAt (H : Hp) (p : Addr) (tl : List TieV) : Prop := ∃ ts : List Addr, H p = some (.lst (ts.map V.ref)) ∧ Paired (fun t tv => H t = some (.tup (TieV.tup tv))) ts tl
/-- the ordered ties: a list of tuples by rows in order -/
def OrdAt (H : Hp) (p : Addr) (nm : List Str) (rs : List RowV) : Prop := ∃ ts : List Addr, H p = some (.lst (ts.map V.ref)) ∧ Paired (fun t (r : RowV) => ∃ x y, nm[r.i]? = some x ∧ nm[r.j]? = some y ∧ H t = some (.tup [.str x, .str y, .str r.kd, .int r.w])) ts rs
def rowBack (H : Hp) : V → RowV
  | .ref b => (match H b with
    | some (.tup [.int i, .int j, .str kd, .int w]) => ⟨i.toNat, j.toNat, kd, w⟩
    | _ => ⟨0, 0, "", 0⟩)
  | _ => ⟨0, 0, "", 0⟩
theorem rowBack_of {H : Hp} {b : Addr} {r : RowV} (h : H b = some (.tup r.tup)) : rowBack H (.ref b) = r := by
  show (match H b with
    | some (.tup [.int i, .int j, .str kd, .int w]) => (⟨i.toNat, j.toNat, kd, w⟩ : RowV)
    | _ => ⟨0, 0, "", 0⟩) = r
  rw [h]
  cases r
  rfl
theorem rows_back {H : Hp} : ∀ {us : List Addr} {rw : List RowV}, Paired (fun u (r : RowV) => H u = some (.tup r.tup)) us rw → (us.map V.ref).map (rowBack H) = rw
  | _, _, .nil => rfl
  | _, _, .cons h t => by
    rw [List.map_cons, List.map_cons, rows_back t, rowBack_of h]
theorem paired_get {α β : Type} {F : α → β → Prop} : ∀ {l : List α} {m : List β} {i : Nat} {a : α}, Paired F l m → l[i]? = some a → ∃ b, m[i]? = some b ∧ F a b
  | _, _, _, _, .nil, h => by simp at h
  | _, _, 0, _, .cons r _, h => by
    simp at h
    subst h
    exact ⟨_, rfl, r⟩
  | _, _, i + 1, _, .cons _ t, h => by
    simp at h
    obtain ⟨b, h1, h2⟩ := paired_get t h
    exact ⟨b, by simpa using h1, h2⟩
theorem paired_mem {α β : Type} {F : α → β → Prop} {l : List α} {m : List β} {a : α} (h : Paired F l m) (hm : a ∈ l) : ∃ b ∈ m, F a b := by
  obtain ⟨i, hi⟩ := List.getElem?_of_mem hm
  obtain ⟨b, h1, h2⟩ := paired_get h hi
  exact ⟨b, List.mem_of_getElem? h1, h2⟩
theorem paired_back {α β : Type} {F : α → β → Prop} : ∀ {l : List α} {m : List β} {b : β}, Paired F l m → b ∈ m → ∃ a ∈ l, F a b
  | _, _, _, .nil, h => (List.not_mem_nil h).elim
  | _, _, b, .cons (a := a) r t, h => by
    rcases List.mem_cons.mp h with e | e
    · subst e
      exact ⟨a, List.mem_cons_self, r⟩
    · obtain ⟨a', h1, h2⟩ := paired_back t e
      exact ⟨a', List.mem_cons_of_mem _ h1, h2⟩
section
variable {P : Program} {w : World} {K : PySem.W.Frag} {mg : Str → Option Value} {base : Heap}
/-! ### ordered_ties -/
def spOrd : Sp := fun vs H Q _ => ∃ (p q : Addr) (nm : List Str) (tl : List TieV), vs = [.ref p, .ref q] ∧ TiesAt H p tl ∧ H q = some (.lst (nm.map V.str)) ∧ nm.Nodup ∧ nm.length ≤ 1000 ∧ tl.length ≤ 20000 ∧ (∀ t ∈ tl, t.Ok nm) ∧
  ∀ (r : Addr) (rs rw : List RowV) (H' : Hp), H r = none → Paired (RowOf nm) tl rw → rs.Perm rw → rs.Pairwise (fun x y => lexK (rowK y.key) (rowK x.key) = false) → OrdAt H' r nm rs → Same H H' → Q (.ref r) H'
abbrev nOrd : List Str := ["ties", "names", "numbers", "rows", "one", "other", "kind", "width", "first", "last", "at", "name"]
theorem scOrd : FnScope nOrd ["ties", "names"] (defScope sOrderedTies) := ⟨rfl, rfl, rfl, by decide +kernel, rfl, by decide +kernel, by decide +kernel⟩
theorem ok_ord {f : Addr} {fd : FuncData} (F : Fun K "ordered_ties" "ordered_ties" sOrderedTies f fd) (T : TxtH mg) : FnOk P w K mg base CX0 1 f fd ["ties", "names"] spOrd := by
  refine F.ok scOrd (fun vs H Q E h => ?_) (fun cdv A outer s H vs Q E hr h => ?_)
  · obtain ⟨_, _, _, _, rfl, _⟩ := h
    rfl
  · obtain ⟨p, q, nm, tl, rfl, ⟨ts, hp, hts⟩, hq, nd, hn, htl, hok, k⟩ := h
    have hu := hu_of hr
    refine ⟨_, Evl.pss_cut (ps_setDc (n := 2) (own := [("at", 10), ("name", 11)]) (g := gTup K 2 (gCons (gName 10) (gCons (gName 11) gNil))) (tt := tYes) rfl scOrd.nd rfl rfl (sw_dict rfl rfl rfl (by decide +kernel)) (pi_enum (by rfl) T.enumerate (pa_cons (pv 1) pa_nil))
        (blkOk_by (N := nOrd) (sc := defScope sOrderedTies) (by decide +kernel)) (fun _ _ _ _ _ => pg_tup rfl (pgs_cons (pg_name (i := 10) scOrd.nd rfl (Or.inl rfl)) (pgs_cons (pg_name (i := 11) scOrd.nd rfl (Or.inl rfl)) pgs_nil))) (fun _ _ _ _ _ => pts_nil) (fun _ _ _ _ _ => pv 11) (fun _ _ _ _ _ => pv 10))
      (pss_cons (ps_set (i := 3) scOrd.nd rfl (Or.inl rfl) (pe_lst pa_nil))
      (Evl.pss_cut (ps_for PassesOwn.never rfl (pi_list (pv 0)) (pg_tup rfl (pgs_cons (pg_name (i := 4) scOrd.nd rfl (.inl rfl)) (pgs_cons (pg_name (i := 5) scOrd.nd rfl (.inl rfl)) (pgs_cons (pg_name (i := 6) scOrd.nd rfl (.inl rfl)) (pgs_cons (pg_name (i := 7) scOrd.nd rfl (.inl rfl)) pgs_nil)))))
        (pss_cons (ps_set (i := 8) scOrd.nd rfl (Or.inl rfl) (pe_callB (call_min2 rfl) (by rfl) T.min (by decide +kernel) (pa_cons (pe_dget hu (pv 2) (pv 4) (fun _ _ => rfl)) (pa_cons (pe_dget hu (pv 2) (pv 5) (fun _ _ => rfl)) pa_nil))))
        (pss_cons (ps_set (i := 9) scOrd.nd rfl (Or.inl rfl) (pe_callB (call_max2 rfl) (by rfl) T.max (by decide +kernel) (pa_cons (pe_dget hu (pv 2) (pv 4) (fun _ _ => rfl)) (pa_cons (pe_dget hu (pv 2) (pv 5) (fun _ _ => rfl)) pa_nil))))
        (pss_one (ps_expr (pe_bm PySem.F.plainAttrs_list PySem.F.slot_list_append PySem.F.type_list_append mt_append (pv 3) (pa_cons (pe_tup (pa_cons (pv 8) (pa_cons (pv 9) (pa_cons (pv 6) (pa_cons (pv 7) pa_nil))))) pa_nil)))))))
      (pss_one (ps_ret (pe_lc (own := [("first", 8), ("last", 9), ("kind", 6), ("width", 7)]) (g := gTup K 4 (gCons (gName 8) (gCons (gName 9) (gCons (gName 6) (gCons (gName 7) gNil))))) (tt := tYes) (te := tTup (tCons (tOp (rIxL K) (tVar 1) (tVar 8)) (tCons (tOp (rIxL K) (tVar 1) (tVar 9)) (tCons (tVar 6) (tCons (tVar 7) tNil))))) rfl scOrd.nd (pi_list (pe_callB cr_sortedO (by rfl) T.sorted (by decide +kernel) (pa_cons (pv 3) pa_nil)))
          (blkOk_by (N := nOrd) (sc := defScope sOrderedTies) (by decide +kernel)) (fun _ _ _ _ _ => pg_tup rfl (pgs_cons (pg_name (i := 8) scOrd.nd rfl (Or.inl rfl)) (pgs_cons (pg_name (i := 9) scOrd.nd rfl (Or.inl rfl)) (pgs_cons (pg_name (i := 6) scOrd.nd rfl (Or.inl rfl)) (pgs_cons (pg_name (i := 7) scOrd.nd rfl (Or.inl rfl)) pgs_nil))))) (fun _ _ _ _ _ => pts_nil)
          (fun _ _ _ _ _ => by exact pe_tup (pa_cons (pe_ix ix_list (pv 1) (pv 8) (fun _ _ => rfl)) (pa_cons (pe_ix ix_list (pv 1) (pv 9) (fun _ _ => rfl)) (pa_cons (pv 6) (pa_cons (pv 7) pa_nil)))))))))), ?_⟩
    -- numbers
    refine ⟨fun σ H1 => ∃ nu, σ = [some (.ref p), some (.ref q), some (.ref nu), none, none, none, none, none, none, none, none, none] ∧ H1 nu = some (.dK (numKV nm nm.length)) ∧ Same H H1, ?_, ?_⟩
    · refine ⟨_, rfl, q, _, rfl, SqL.of hq, fun D hD => ?_⟩
      refine dc_walk (walk_enum (xs := nm.map V.str)) (fun i H1 => H1 D = some (.dK (numKV nm i)) ∧ Same H H1) ⟨upd_same, same_new hD⟩ (fun i H1 _ h => SqL.of (h.2 _ _ hq)) ?_ ?_
      · rintro i x H1 H2 hi ⟨hD1, s1⟩ ⟨T', x1, y1, rfl, hT, rfl, e1, e2⟩
        rw [List.length_map] at hi
        have e2 : (nm.map V.str)[i]? = some y1 := e2
        rw [List.getElem?_map] at e2
        obtain ⟨z, hz, rfl⟩ := Option.map_eq_some_iff.mp e2
        cases e1
        have sT := same_new (o := .tup [V.int (i : Nat), V.str z]) hT
        refine ⟨T', _, rfl, SqT.of upd_same, rfl, _, _, rfl, _, _, rfl, rfl, rfl, tyes ?_⟩
        refine ⟨_, rfl, _, rfl, _, Sum.inr z, rfl, sT _ _ hD1, Evl.sz_lt (by unfold numKV; simp; omega), ?_, fun b o e => ?_⟩
        · rw [upd_same, putK_new _ (num_new nd hz), num_step hz]
        · rw [upd_ne (ne_of_none e hD)]
          exact sT _ _ (s1 b o e)
      · rintro H1 ⟨hD1, s1⟩
        rw [List.length_map] at hD1
        exact ⟨D, rfl, hD1, s1⟩
    rintro σ H1 ⟨nu, rfl, hnu, s1⟩
    refine ⟨(by show 0 ≤ sizeLine; decide), fun ro hro => ?_⟩
    have s2 := s1.trans (same_new (o := .lst []) hro)
    have hnu2 := same_new (o := .lst []) hro _ _ hnu
    have hro2 : (upd H1 ro (.lst [])) ro = some (.lst (List.map V.ref [])) := upd_same
    have hro0 : H ro = none := s1.free hro
    generalize upd H1 ro (.lst []) = H2 at *
    have nnr : nu ≠ ro := ne_of hnu2 hro2 (by intro z; cases z)
    -- rows
    refine ⟨fun σ H3 => ∃ v4 v5 v6 v7 v8 v9 us rw, σ = [some (.ref p), some (.ref q), some (.ref nu), some (.ref ro), v4, v5, v6, v7, v8, v9, none, none] ∧ H3 ro = some (.lst (List.map V.ref us)) ∧ us.length = tl.length ∧ Paired (fun u (r : RowV) => H3 u = some (.tup r.tup)) us rw ∧ Paired (RowOf nm) tl rw ∧ Same H H3, ?_, ?_⟩
    · refine ⟨_, rfl, p, rfl, ⟨_, SqL.of (s2 _ _ hp)⟩, ?_⟩
      have htl2 : ts.length = tl.length := Paired.length hts
      refine for_list (xs := ts.map V.ref) (fun i σ H3 => ∃ v4 v5 v6 v7 v8 v9 us rw, σ = [some (.ref p), some (.ref q), some (.ref nu), some (.ref ro), v4, v5, v6, v7, v8, v9, none, none] ∧ H3 ro = some (.lst (List.map V.ref us)) ∧ us.length = i ∧ Paired (fun u (r : RowV) => H3 u = some (.tup r.tup)) us rw ∧ Paired (RowOf nm) (tl.take i) rw ∧ H3 nu = some (.dK (numKV nm nm.length)) ∧ Same H H3)
        ⟨none, none, none, none, none, none, [], [], rfl, hro2, rfl, .nil, .nil, hnu2, s2⟩ (fun i σ H3 _ ⟨_, _, _, _, _, _, _, _, _, _, _, _, _, _, h⟩ => SqL.of (h _ _ hp)) ?_ ?_
      · rintro i v σ H3 hi ⟨v4, v5, v6, v7, v8, v9, us, rw', rfl, hro3, hul, pu, pr, hnu3, s3⟩
        have hil := (List.getElem?_eq_some_iff.mp hi).1
        rw [List.length_map] at hil
        rw [List.getElem?_map] at hi
        obtain ⟨t, ht, rfl⟩ := Option.map_eq_some_iff.mp hi
        obtain ⟨tv, htv, htt⟩ := paired_get hts ht
        have ok := hok tv (List.mem_of_getElem? htv)
        obtain ⟨a, ha⟩ := List.getElem?_of_mem ok.hx
        obtain ⟨b, hb⟩ := List.getElem?_of_mem ok.hy
        have da : DGet H3 nu (V.str tv.x) (some (V.int (a : Int))) := by rw [← num_at nd ha]; exact DGet.k (k := Sum.inr tv.x) hnu3
        have db : DGet H3 nu (V.str tv.y) (some (V.int (b : Int))) := by rw [← num_at nd hb]; exact DGet.k (k := Sum.inr tv.y) hnu3
        refine ⟨t, _, rfl, SqT.of (s3 _ _ htt), rfl, _, _, rfl, _, _, rfl, _, _, rfl, _, _, rfl, rfl, ?_⟩
        refine ⟨_, rfl, _, rfl, nu, _, rfl, da, _, rfl, _, rfl, nu, _, rfl, db, _, _, rfl, ?_⟩
        refine ⟨_, rfl, _, rfl, nu, _, rfl, da, _, rfl, _, rfl, nu, _, rfl, db, _, _, rfl, ?_⟩
        refine ⟨_, rfl, .inl ⟨rfl, _, SqL.of hro3⟩, _, rfl, _, rfl, _, rfl, _, rfl, (by show 4 ≤ sizeLine; decide), fun u hu => ?_⟩
        have e1 : (if (b : Int) < (a : Int) then (b : Int) else (a : Int)) = ((min a b : Nat) : Int) := by split <;> omega
        have e2 : (if (b : Int) > (a : Int) then (b : Int) else (a : Int)) = ((max a b : Nat) : Int) := by split <;> omega
        rw [e1, e2]
        have su := same_new (o := .tup [V.int ((min a b : Nat) : Int), V.int ((max a b : Nat) : Int), V.str tv.kd, V.int tv.w]) hu
        have nur : u ≠ ro := fun e => by subst e; rw [hro3] at hu; cases hu
        refine ⟨ro, _, _, rfl, rfl, su _ _ hro3, Evl.sz_lt (by rw [List.length_map]; omega), ?_⟩
        refine ⟨_, _, _, _, _, _, us ++ [u], rw' ++ [⟨min a b, max a b, tv.kd, tv.w⟩], rfl, by rw [upd_same, List.map_append]; rfl, by simp [hul], ?_, ?_, by rw [upd_ne nnr]; exact su _ _ hnu3, fun b' o e => ?_⟩
        · refine paired_snoc (Paired.mapP pu fun u' r h => ?_) ?_
          · rw [upd_ne (ne_of h hro3 (by intro z; cases z))]
            exact su _ _ h
          · rw [upd_ne nur]
            exact upd_same
        · rw [List.take_add_one, htv]
          exact paired_snoc pr ⟨a, b, ha, hb, rfl, rfl, rfl, rfl⟩
        · rw [upd_ne (ne_of_none e hro0)]
          exact su _ _ (s3 b' o e)
      · rintro σ H3 ⟨v4, v5, v6, v7, v8, v9, us, rw', rfl, hro3, hul, pu, pr, hnu3, s3⟩
        rw [List.length_map] at hul pr
        rw [htl2, List.take_of_length_le (Nat.le_refl _)] at pr
        exact ⟨v4, v5, v6, v7, v8, v9, us, rw', rfl, hro3, by omega, pu, pr, s3⟩
    rintro σ H3 ⟨v4, v5, v6, v7, v8, v9, us, rw', rfl, hro3, hul, pu, pr, s3⟩
    have inr' : ∀ r ∈ rw', r.i < nm.length ∧ r.j < nm.length := fun r hr' => by
      obtain ⟨tv, _, a, b, ha, hb, e1, e2, _⟩ := paired_back pr hr'
      have h1 := (List.getElem?_eq_some_iff.mp ha).1
      have h2 := (List.getElem?_eq_some_iff.mp hb).1
      omega
    have isr : ∀ y ∈ us.map V.ref, ∃ u r, y = V.ref u ∧ H3 u = some (.tup (RowV.tup r)) ∧ r ∈ rw' ∧ rowBack H3 y = r := fun y hy => by
      obtain ⟨u, hu', rfl⟩ := List.mem_map.mp hy
      obtain ⟨r, hr', hur⟩ := paired_mem pu hu'
      exact ⟨u, r, rfl, hur, hr', rowBack_of hur⟩
    refine ⟨_, rfl, ro, us.map V.ref, fun v => (rowBack H3 v).key, rfl, SqL.of hro3, fun y hy => ?_, fun y hy z hz => .int (.str (.int .nil)), fun ys pp srt pm hpp => ?_⟩
    · obtain ⟨u, r, rfl, hur, _, e⟩ := isr y hy
      refine ⟨u, rfl, ?_⟩
      show H3 u = some (.tup ((rowK (rowBack H3 (V.ref u)).key).map kV))
      rw [e]
      exact hur
    have s4 := same_new (o := .lst ys) hpp
    have hq4 := s4 _ _ (s3 _ _ hq)
    have hyl : ys.length = tl.length := by rw [pm.length_eq, List.length_map]; exact hul
    refine ⟨pp, rfl, ⟨_, SqL.of upd_same⟩, fun D hD => ?_⟩
    have hD0 : H D = none := s3.free (s4.free hD)
    refine lc_list (xs := ys) (fun i H5 => ∃ os : List Addr, H5 D = some (.lst (os.map V.ref)) ∧ os.length = i ∧ Paired (fun t (r : RowV) => ∃ x y, nm[r.i]? = some x ∧ nm[r.j]? = some y ∧ H5 t = some (.tup [.str x, .str y, .str r.kd, .int r.w])) os ((ys.map (rowBack H3)).take i) ∧ Same (upd H3 pp (.lst ys)) H5)
      ⟨[], upd_same, rfl, .nil, same_new hD⟩ (fun i H5 _ ⟨_, _, _, _, h⟩ => SqL.of (h _ _ upd_same)) ?_ ?_
    · rintro i y H5 hi ⟨os, hD5, hol, po, s5⟩
      have hil := (List.getElem?_eq_some_iff.mp hi).1
      obtain ⟨u, r, rfl, hur, hrm, e⟩ := isr y (pm.subset (List.mem_of_getElem? hi))
      obtain ⟨hi1, hj1⟩ := inr' r hrm
      obtain ⟨x1, hx1⟩ : ∃ x1, nm[r.i]? = some x1 := ⟨_, List.getElem?_eq_getElem hi1⟩
      obtain ⟨y1, hy1⟩ : ∃ y1, nm[r.j]? = some y1 := ⟨_, List.getElem?_eq_getElem hj1⟩
      refine ⟨u, _, rfl, SqT.of (s5 _ _ (s4 _ _ hur)), rfl, _, _, rfl, _, _, rfl, _, _, rfl, _, _, rfl, rfl, rfl, tyes ?_⟩
      refine ⟨_, rfl, _, rfl, q, _, _, V.str x1, rfl, rfl, SqL.of (s5 _ _ hq4), atI_nat (by rw [List.getElem?_map, hx1]; rfl), _, rfl, _, rfl, q, _, _, V.str y1, rfl, rfl, SqL.of (s5 _ _ hq4), atI_nat (by rw [List.getElem?_map, hy1]; rfl), _, rfl, _, rfl, (by show 4 ≤ sizeLine; decide), fun o ho => ?_⟩
      have so := same_new (o := .tup [V.str x1, V.str y1, V.str r.kd, V.int r.w]) ho
      have noD : o ≠ D := fun e => by subst e; rw [hD5] at ho; cases ho
      refine ⟨_, so _ _ hD5, Evl.sz_lt (by rw [List.length_map]; omega), os ++ [o], by rw [upd_same, List.map_append]; rfl, by simp [hol], ?_, fun b' o' e' => ?_⟩
      · have e3 : (ys.map (rowBack H3))[i]? = some r := by rw [List.getElem?_map, hi, ← e]; rfl
        rw [List.take_add_one, e3]
        refine paired_snoc (Paired.mapP po fun t' r' ⟨x', y', h1, h2, h3⟩ => ⟨x', y', h1, h2, ?_⟩) ⟨x1, y1, hx1, hy1, by rw [upd_ne noD]; exact upd_same⟩
        rw [upd_ne (ne_of h3 hD5 (by intro z; cases z))]
        exact so _ _ h3
      · rw [upd_ne (ne_of_none e' hD)]
        exact so _ _ (s5 b' o' e')
    · rintro H5 ⟨os, hD5, hol, po, s5⟩
      rw [List.take_of_length_le (by simp)] at po
      refine k D (ys.map (rowBack H3)) rw' H5 hD0 pr ?_ ?_ ⟨os, hD5, po⟩ ((s3.trans s4).trans s5)
      · rw [← rows_back pu]
        exact pm.map _
      · exact List.pairwise_map.mpr srt
end
end Nm
set_option autoImplicit true
set_option maxRecDepth 100000
set_option maxHeartbeats 4000000
namespace Nm
open PySem L2
/-- what of the class is asked -/
structure TxtW (K : PySem.W.Frag) (mg : Str → Option Value) (C : Addr) : Prop extends TxtH mg where
  cl : Cls K C
  nCo : NoAttr K C "_colour_of"
  nNa : NoAttr K C "_names"
  nTi : NoAttr K C "_ties"
  nWi : NoAttr K C "_width_of"
/-- the fields of a web -/
def webF (dc q r wd : Addr) : List (Str × V) := [("_colour_of", .ref dc), ("_names", .ref q), ("_ties", .ref r), ("_width_of", .ref wd)]
/-- the dict of the colours -/
def colK (nm cl : List Str) : List (Key × V) := (nm.zip cl).map fun p => (Sum.inr p.1, V.str p.2)
theorem colK_keys {nm cl : List Str} (h : nm.length ≤ cl.length) : (colK nm cl).map (·.1) = nm.map Sum.inr := by
  unfold colK
  rw [List.map_map]
  have : nm = (nm.zip cl).map (·.1) := by rw [List.map_fst_zip h]
  conv => rhs; rw [this]
  rw [List.map_map]
  rfl
theorem colK_nd {nm cl : List Str} (h : nm.length ≤ cl.length) (nd : nm.Nodup) : ((colK nm cl).map (·.1)).Nodup := by
  rw [colK_keys h]
  exact List.Pairwise.map _ (fun a b hab e => hab (Sum.inr.inj e)) nd
theorem colK_at {nm cl : List Str} (h : nm.length ≤ cl.length) (nd : nm.Nodup) {i : Nat} {x y : Str} (hx : nm[i]? = some x) (hy : cl[i]? = some y) : valV (colK nm cl) (Sum.inr x) = some (V.str y) := by
  refine val_of_mem (colK_nd h nd) ?_
  unfold colK
  refine List.mem_map.mpr ⟨(x, y), ?_, rfl⟩
  refine List.mem_of_getElem? (i := i) ?_
  rw [List.getElem?_zip_eq_some]
  exact ⟨hx, hy⟩
/-- the dict of the widths -/
def widS (nm : List Str) (kv : List (List Key × V)) (r : RowV) : List (List Key × V) := putK (putK kv [Sum.inr ((nm[r.i]?).getD ""), Sum.inr ((nm[r.j]?).getD ""), Sum.inr r.kd] (.int r.w)) [Sum.inr ((nm[r.j]?).getD ""), Sum.inr ((nm[r.i]?).getD ""), Sum.inr r.kd] (.int r.w)
def widK (nm : List Str) (rs : List RowV) : List (List Key × V) := rs.foldl (widS nm) []
theorem widK_step {nm : List Str} {rs : List RowV} {i : Nat} {r : RowV} (h : rs[i]? = some r) : widK nm (rs.take (i + 1)) = widS nm (widK nm (rs.take i)) r := by
  unfold widK
  rw [List.take_add_one, h, Option.toList_some, List.foldl_append]
  rfl
/-- a web stands at p -/
structure WebX (C : Addr) (H : Hp) (p q dc r wd : Addr) (nm cl : List Str) (rs : List RowV) : Prop where
  hp : ∃ dx, H p = some (.ins C dx (webF dc q r wd))
  hq : H q = some (.lst (nm.map V.str))
  hdc : H dc = some (.dK (colK nm cl))
  hr : OrdAt H r nm rs
  hwd : H wd = some (.dT (widK nm rs))
theorem ext_tie {nm : List Str} {H H' : Hp} {r : Addr} {rs : List RowV} (h : OrdAt H r nm rs) (e : ∀ o, H r = some o → H' r = some o) (k : ∀ b xs, H b = some (.tup xs) → H' b = some (.tup xs)) : OrdAt H' r nm rs := by
  obtain ⟨ts, h1, h2⟩ := h
  exact ⟨ts, e _ h1, Paired.mapP h2 fun t r ⟨x, y, a, b, z⟩ => ⟨x, y, a, b, k _ _ z⟩⟩
theorem WebX.same {C : Addr} {H H' : Hp} {p q dc r wd : Addr} {nm cl : List Str} {rs : List RowV} (W : WebX C H p q dc r wd nm cl rs) (s : Same H H') : WebX C H' p q dc r wd nm cl rs := by
  obtain ⟨⟨dx, h1⟩, h2, h3, h4, h5⟩ := W
  exact ⟨⟨dx, s _ _ h1⟩, s _ _ h2, s _ _ h3, ext_tie h4 (fun _ => s _ _) (fun _ _ => s _ _), s _ _ h5⟩
/-- all but what stands at p is kept -/
def But (p : Addr) (H H' : Hp) : Prop := ∀ b o, H b = some o → b ≠ p → H' b = some o
theorem But.of {p : Addr} {H H' : Hp} (h : Same H H') : But p H H' := fun b o e _ => h b o e
theorem But.trans {p : Addr} {H H1 H2 : Hp} (a : But p H H1) (b : But p H1 H2) : But p H H2 := fun c o e n => b c o (a c o e n) n
theorem But.upd {p : Addr} {H : Hp} {o : HO} : But p H (upd H p o) := fun b u e n => by
  rw [upd_ne n]
  exact e
theorem nm_new {nm : List Str} (nd : nm.Nodup) {i : Nat} {x : Str} {kvs : List (Key × V)} (h : nm[i]? = some x) (hk : kvs.map (·.1) = (nm.take i).map Sum.inr) : valV kvs (Sum.inr x) = none := by
  refine val_none_of fun hm => ?_
  rw [hk, ← num_keys] at hm
  have z := num_new nd h
  obtain ⟨v, e⟩ := val_ex hm
  rw [z] at e
  cases e
theorem PlacesAt.but {H H' : Hp} {p pl : Addr} {nm cl : List Str} {C dx : Addr} {fs : List (Str × V)} (h : PlacesAt H pl nm cl) (hp : H p = some (.ins C dx fs)) (b : But p H H') : PlacesAt H' pl nm cl := by
  obtain ⟨ts, h1, h2, h3⟩ := h
  refine ⟨ts, b _ _ h1 (ne_of h1 hp (by intro z; cases z)), h2, fun i t ht => ?_⟩
  obtain ⟨x, y, hx, hy, e⟩ := h3 i t ht
  exact ⟨x, y, hx, hy, b _ _ e (ne_of e hp (by intro z; cases z))⟩
theorem TiesAt.but {H H' : Hp} {p q : Addr} {tl : List TieV} {C dx : Addr} {fs : List (Str × V)} (h : TiesAt H q tl) (hp : H p = some (.ins C dx fs)) (b : But p H H') : TiesAt H' q tl := by
  obtain ⟨ts, h1, h2⟩ := h
  exact ⟨ts, b _ _ h1 (ne_of h1 hp (by intro z; cases z)), Paired.mapP h2 fun t v e => b _ _ e (ne_of e hp (by intro z; cases z))⟩
section
variable {P : Program} {w : World} {K : PySem.W.Frag} {mg : Str → Option Value} {base : Heap}
/-! ### need_ties: what is asked of it -/
def spNeedT : Sp := fun vs H Q _ => ∃ (p d : Addr) (tl : List TieV) (nm : List Str) (kvs : List (Key × V)), vs = [.ref p, .ref d] ∧ TiesAt H p tl ∧ H d = some (.dK kvs) ∧ kvs.map (·.1) = nm.map Sum.inr ∧ (∀ t ∈ tl, t.Ok nm) ∧ (tl.map TieV.spot).Nodup ∧ tl.length ≤ 4800 ∧
  ∀ H', Same H H' → Q .non H'
/-! ### Web.__init__ -/
def spWebI (C : Addr) : Sp := fun vs H Q _ => ∃ (p dx pl tt : Addr) (nm cl : List Str) (tl : List TieV), vs = [.ref p, .ref pl, .ref tt] ∧ H p = some (.ins C dx []) ∧ PlacesAt H pl nm cl ∧ TiesAt H tt tl ∧ 1 ≤ nm.length ∧ nm.length ≤ 1000 ∧ nm.Nodup ∧ (∀ x ∈ nm, isWordB x = true) ∧ (∀ x ∈ cl, isWordB x = true) ∧
  (∀ t ∈ tl, t.Ok nm) ∧ (tl.map TieV.spot).Nodup ∧ tl.length ≤ 4800 ∧ ∀ (q dc r wd : Addr) (rs rw : List RowV) (H' : Hp), H q = none → H dc = none → H r = none → H wd = none → WebX C H' p q dc r wd nm cl rs → Paired (RowOf nm) tl rw → rs.Perm rw → rs.Pairwise (fun x y => lexK (rowK y.key) (rowK x.key) = false) → But p H H' → Q .non H'
abbrev nWI : List Str := ["self", "places", "ties", "one", "other", "kind", "width", "name", "colour", "_"]
theorem scWI : FnScope nWI ["self", "places", "ties"] (defScope sWebInit) := ⟨rfl, rfl, rfl, by decide +kernel, rfl, by decide +kernel, by decide +kernel⟩
theorem ok_webI {f C : Addr} {fd : FuncData} (F : Fun K "__init__" "Web.__init__" sWebInit f fd) (T : TxtW K mg C) (Gp : Def P w K mg base "need_places" ["places"] 3 spNeedP) (Gt : Def P w K mg base "need_ties" ["ties", "names"] 4 spNeedT) (Go : Def P w K mg base "ordered_ties" ["ties", "names"] 1 spOrd) :
    FnOk P w K mg base CX0 5 f fd ["self", "places", "ties"] (spWebI C) := by
  obtain ⟨fp, fdp, Gp, mp, kp, bp⟩ := Gp.ex
  obtain ⟨ft, fdt, Gt, mt, kt, bt⟩ := Gt.ex
  obtain ⟨fo, fdo, Go, mo, ko, bo⟩ := Go.ex
  refine F.ok scWI (fun vs H Q E h => ?_) (fun cdv A outer s H vs Q E hr h => ?_)
  · obtain ⟨_, _, _, _, _, _, _, rfl, _⟩ := h
    rfl
  · obtain ⟨p, dx, pl, tt, nm, cl, tl, rfl, hp, hpl, htt, h1, hn, nd, hnw, hcw, hok, hsp, htl, k⟩ := h
    have hcl : nm.length ≤ cl.length := by
      obtain ⟨ts, _, hl, ht⟩ := hpl
      have : 0 < ts.length := by omega
      obtain ⟨x, y, _, hy, _⟩ := ht (ts.length - 1) _ (List.getElem?_eq_getElem (by omega))
      have := (List.getElem?_eq_some_iff.mp hy).1
      omega
    have hu := hu_of hr
    have hr1 := hr.mono (by decide : 1 ≤ 4)
    have hr2 := hr.mono (by decide : 3 ≤ 4)
    refine ⟨_, pss_cons (ps_expr (pe_call Gp hr2 (by rfl) mp kp bp .nil pass0 (pa_cons (pv 1) pa_nil)))
      (Evl.pss_cut (ps_fld (pv 0) (pe_dc (own := [("name", 7), ("colour", 8)]) (g := gTup K 2 (gCons (gName 7) (gCons (gName 8) gNil))) (tt := tYes) rfl scWI.nd (pi_list (pv 1)) (blkOk_by (N := nWI) (sc := defScope sWebInit) (by decide +kernel))
          (fun _ _ _ _ _ => pg_tup rfl (pgs_cons (pg_name (i := 7) scWI.nd rfl (Or.inl rfl)) (pgs_cons (pg_name (i := 8) scWI.nd rfl (Or.inl rfl)) pgs_nil))) (fun _ _ _ _ _ => pts_nil) (fun _ _ _ _ _ => pv 7) (fun _ _ _ _ _ => pv 8)) rfl)
      (pss_cons (ps_expr (pe_call Gt hr (by rfl) mt kt bt .nil pass0 (pa_cons (pv 2) (pa_cons (pe_fld (pv 0) rfl) pa_nil))))
      (Evl.pss_cut (ps_fld (pv 0) (pe_lc (own := [("name", 7), ("_", 9)]) (g := gTup K 2 (gCons (gName 7) (gCons (gName 9) gNil))) (tt := tYes) (te := tVar 7) rfl scWI.nd (pi_list (pv 1)) (blkOk_by (N := nWI) (sc := defScope sWebInit) (by decide +kernel))
          (fun _ _ _ _ _ => pg_tup rfl (pgs_cons (pg_name (i := 7) scWI.nd rfl (Or.inl rfl)) (pgs_cons (pg_name (i := 9) scWI.nd rfl (Or.inl rfl)) pgs_nil))) (fun _ _ _ _ _ => pts_nil) (fun _ _ _ _ _ => pv 7)) rfl)
      (pss_cons (ps_fld (pv 0) (pe_call Go hr1 (by rfl) mo ko bo .nil pass0 (pa_cons (pv 2) (pa_cons (pe_fld (pv 0) rfl) pa_nil))) rfl)
      (pss_cons (ps_fld (pv 0) pe_dnewT rfl)
      (pss_one (ps_for PassesOwn.never rfl (pi_list (pe_fld (pv 0) rfl)) (pg_tup rfl (pgs_cons (pg_name (i := 3) scWI.nd rfl (.inl rfl)) (pgs_cons (pg_name (i := 4) scWI.nd rfl (.inl rfl)) (pgs_cons (pg_name (i := 5) scWI.nd rfl (.inl rfl)) (pgs_cons (pg_name (i := 6) scWI.nd rfl (.inl rfl)) pgs_nil)))))
        (pss_cons (ps_dput hu (pe_fld (pv 0) rfl) (pe_tup (pa_cons (pv 3) (pa_cons (pv 4) (pa_cons (pv 5) pa_nil)))) (pv 6) rfl)
        (pss_one (ps_dput hu (pe_fld (pv 0) rfl) (pe_tup (pa_cons (pv 4) (pa_cons (pv 3) (pa_cons (pv 5) pa_nil)))) (pv 6) rfl)))))))))), ?_⟩
    refine ⟨_, rfl, pl, nm, cl, rfl, hpl, h1, hn, nd, hnw, hcw, fun H1 s1 => ?_⟩
    have hp1 := s1 _ _ hp
    have b1 : But p H H1 := But.of s1
    -- the colours
    refine ⟨fun σ H2 => ∃ dc, σ = [some (.ref p), some (.ref pl), some (.ref tt), none, none, none, none, none, none, none] ∧ H dc = none ∧ H2 p = some (.ins C dx (putF "_colour_of" (.ref dc) [])) ∧ H2 dc = some (.dK (colK nm cl)) ∧ But p H H2, ?_, ?_⟩
    · obtain ⟨ts, hpl1, hlen, hts⟩ := hpl.but hp b1
      refine ⟨_, rfl, pl, rfl, ⟨_, SqL.of hpl1⟩, fun D hD => ?_⟩
      refine dc_walk (walk_list (xs := ts.map V.ref)) (fun i H2 => H2 D = some (.dK ((colK nm cl).take i)) ∧ Same H1 H2) ⟨upd_same, same_new hD⟩ (fun i H2 _ h => SqL.of (h.2 _ _ hpl1)) ?_ ?_
      · rintro i x H2 H3 hi ⟨hD2, s2⟩ ⟨rfl, hx⟩
        rw [List.length_map] at hi
        rw [List.getElem?_map] at hx
        obtain ⟨t, ht, rfl⟩ := Option.map_eq_some_iff.mp hx
        obtain ⟨x, y, hx, hy, htt'⟩ := hts i t ht
        refine ⟨t, _, rfl, SqT.of (s2 _ _ htt'), rfl, _, _, rfl, _, _, rfl, rfl, rfl, tyes ?_⟩
        have hk : ((colK nm cl).take i).map (·.1) = (nm.take i).map Sum.inr := by rw [List.map_take, colK_keys hcl, List.map_take]
        have hkl : ((colK nm cl).take i).length ≤ i := by rw [List.length_take]; omega
        have hci : (colK nm cl)[i]? = some (Sum.inr x, V.str y) := by
          unfold colK
          have hz : (nm.zip cl)[i]? = some (x, y) := by rw [List.getElem?_zip_eq_some]; exact ⟨hx, hy⟩
          rw [List.getElem?_map, hz]
          rfl
        refine ⟨_, rfl, _, rfl, _, Sum.inr x, rfl, hD2, Evl.sz_lt (by omega), ?_, fun b o e => ?_⟩
        · rw [upd_same, putK_new _ (nm_new nd hx hk), List.take_add_one, hci]
          rfl
        · rw [upd_ne (ne_of_none e hD)]
          exact s2 b o e
      · rintro H2 ⟨hD2, s2⟩
        rw [List.length_map, hlen, List.take_of_length_le (by unfold colK; rw [List.length_map, List.length_zip]; omega)] at hD2
        have hp2 := s2 _ _ hp1
        have npD : D ≠ p := ne_of hD2 hp2 (by intro z; cases z)
        refine ⟨_, rfl, p, C, dx, _, rfl, hp2, T.cl, T.nCo, (by show 0 < 1000; decide), D, rfl, s1.free hD, upd_same, by rw [upd_ne npD]; exact hD2, ?_⟩
        exact (b1.trans (But.of s2)).trans But.upd
    rintro σ H2 ⟨dc, rfl, hdc0, hp2, hdc2, b2⟩
    -- need_ties
    refine ⟨_, rfl, _, rfl, p, C, dx, _, _, rfl, hp2, T.cl, T.nCo, (by rw [lookup_putF, if_pos rfl]), tt, dc, tl, nm, colK nm cl, rfl, htt.but hp b2, hdc2, colK_keys hcl, hok, hsp, htl, fun H3 s3 => ?_⟩
    have hp3 := s3 _ _ hp2
    have b3 := b2.trans (But.of s3)
    have ndp : dc ≠ p := ne_of hdc2 hp2 (by intro z; cases z)
    -- the names
    refine ⟨fun σ H4 => ∃ q, σ = [some (.ref p), some (.ref pl), some (.ref tt), none, none, none, none, none, none, none] ∧ H4 p = some (.ins C dx (putF "_names" (.ref q) (putF "_colour_of" (.ref dc) []))) ∧ (H4 dc = some (.dK (colK nm cl)) ∧ dc ≠ p) ∧ H q = none ∧ H4 q = some (.lst (nm.map V.str)) ∧ But p H H4, ?_, ?_⟩
    · obtain ⟨ts, hpl3, hlen, hts⟩ := hpl.but hp b3
      refine ⟨_, rfl, pl, rfl, ⟨_, SqL.of hpl3⟩, fun D hD => ?_⟩
      refine lc_list (xs := ts.map V.ref) (fun i H4 => H4 D = some (.lst ((nm.take i).map V.str)) ∧ Same H3 H4) ⟨upd_same, same_new hD⟩ (fun i H4 _ h => SqL.of (h.2 _ _ hpl3)) ?_ ?_
      · rintro i x H4 hx ⟨hD4, s4⟩
        have hi := (List.getElem?_eq_some_iff.mp hx).1
        rw [List.length_map] at hi
        rw [List.getElem?_map] at hx
        obtain ⟨t, ht, rfl⟩ := Option.map_eq_some_iff.mp hx
        obtain ⟨x, y, hx, hy, htt'⟩ := hts i t ht
        refine ⟨t, _, rfl, SqT.of (s4 _ _ htt'), rfl, _, _, rfl, _, _, rfl, rfl, rfl, tyes ?_⟩
        refine ⟨_, rfl, _, hD4, Evl.sz_lt (by rw [List.length_map, List.length_take]; omega), ?_, fun b o e => ?_⟩
        · rw [upd_same, List.take_add_one, hx, List.map_append]
          rfl
        · rw [upd_ne (ne_of_none e hD)]
          exact s4 b o e
      · rintro H4 ⟨hD4, s4⟩
        rw [List.length_map, hlen, List.take_of_length_le (Nat.le_refl _)] at hD4
        have hp4 := s4 _ _ hp3
        have npD : D ≠ p := ne_of hD4 hp4 (by intro z; cases z)
        have hD0 : H D = none := by
          cases e : H D with
          | none => rfl
          | some o =>
            have := b3 D o e npD
            rw [hD] at this
            cases this
        refine ⟨_, rfl, p, C, dx, _, rfl, hp4, T.cl, T.nNa, Nat.lt_of_le_of_lt (length_putF _ _ _) (by show 1 < 1000; decide), D, rfl, upd_same, ⟨by rw [upd_ne ndp]; exact s4 _ _ (s3 _ _ hdc2), ndp⟩, hD0, by rw [upd_ne npD]; exact hD4, ?_⟩
        exact (b3.trans (But.of s4)).trans But.upd
    rintro σ H4 ⟨q, rfl, hp4, ⟨hdc4, ndp⟩, hq0, hq4, b4⟩
    generalize hfs1 : putF "_names" (V.ref q) (putF "_colour_of" (.ref dc) []) = fs at *
    have hfl : fs.length ≤ 2 := by
      rw [← hfs1]
      exact Nat.le_trans (length_putF _ _ _) (Nat.succ_le_succ (length_putF _ _ _))
    have hfn : fs.lookup ("_names" : Str) = some (.ref q) := by rw [← hfs1, lookup_putF, if_pos rfl]
    -- the ties in order
    refine ⟨_, rfl, _, rfl, p, C, dx, _, _, rfl, hp4, T.cl, T.nNa, hfn, tt, q, nm, tl, rfl, htt.but hp b4, hq4, nd, hn, (by omega), hok, fun r rs rw' H5 hr0 pr pm srt ho s5 => ?_⟩
    have hp5 := s5 _ _ hp4
    have b5 := b4.trans (But.of s5)
    refine ⟨_, rfl, p, C, dx, _, rfl, hp5, T.cl, T.nTi, (by omega), ?_⟩
    have hrl : rs.length = tl.length := by rw [pm.length_eq, ← Paired.length pr]
    have hr00 : H r = none := by
      cases e : H r with
      | none => rfl
      | some o =>
        by_cases z : r = p
        · rw [z, hp4] at hr0
          cases hr0
        · have := b4 r o e z
          rw [hr0] at this
          cases this
    have ho5 := ho
    obtain ⟨os, hos, hpr⟩ := ho
    have nrp : r ≠ p := ne_of hos hp5 (by intro z; cases z)
    have nqp : q ≠ p := ne_of hq4 hp4 (by intro z; cases z)
    generalize hfs2 : putF "_ties" (V.ref r) fs = fs2
    have hfl2 : fs2.length ≤ 3 := by have := length_putF "_ties" (V.ref r) fs; rw [hfs2] at this; omega
    have hft2 : fs2.lookup ("_ties" : Str) = some (.ref r) := by rw [← hfs2, lookup_putF, if_pos rfl]
    have b6 : But p H5 (upd H5 p (.ins C dx fs2)) := But.upd
    have hp6 : (upd H5 p (.ins C dx fs2)) p = some (.ins C dx fs2) := upd_same
    generalize upd H5 p (.ins C dx fs2) = H6 at *
    -- the widths
    intro wd hwd
    have s7 := same_new (o := .dT []) hwd
    have hwd7 : (upd H6 wd (.dT [])) wd = some (.dT []) := upd_same
    generalize upd H6 wd (.dT []) = H7 at *
    have hp7 := s7 _ _ hp6
    refine ⟨_, rfl, p, C, dx, _, rfl, hp7, T.cl, T.nWi, (by omega), ?_⟩
    generalize hfs3 : putF "_width_of" (V.ref wd) fs2 = fs3
    have hft3 : fs3.lookup ("_ties" : Str) = some (.ref r) := by rw [← hfs3, lookup_putF, if_neg (by decide +kernel)]; exact hft2
    have hfw3 : fs3.lookup ("_width_of" : Str) = some (.ref wd) := by rw [← hfs3, lookup_putF, if_pos rfl]
    have nwp : wd ≠ p := ne_of hwd7 hp7 (by intro z; cases z)
    have b8 : But p H7 (upd H7 p (.ins C dx fs3)) := But.upd
    have hp8 : (upd H7 p (.ins C dx fs3)) p = some (.ins C dx fs3) := upd_same
    generalize upd H7 p (.ins C dx fs3) = H8 at *
    have bb : But p H H8 := ((b5.trans b6).trans (But.of s7)).trans b8
    have b58 : But p H5 H8 := (b6.trans (But.of s7)).trans b8
    have hwd8 := b8 _ _ hwd7 nwp
    have hr8 := b58 _ _ hos nrp
    have hq8 := b58 _ _ (s5 _ _ hq4) nqp
    have hdc8 := b58 _ _ (s5 _ _ hdc4) ndp
    have ndw : dc ≠ wd := ne_of hdc8 hwd8 (by intro z; cases z)
    have hw0 : H wd = none := by
      cases e : H wd with
      | none => rfl
      | some o =>
        have := (b5.trans b6) wd o e nwp
        rw [hwd] at this
        cases this
    have nrw : r ≠ wd := ne_of hr8 hwd8 (by intro z; cases z)
    have nqw : q ≠ wd := ne_of hq8 hwd8 (by intro z; cases z)
    have hpr8 : Paired (fun t (r : RowV) => ∃ x y, nm[r.i]? = some x ∧ nm[r.j]? = some y ∧ H8 t = some (.tup [.str x, .str y, .str r.kd, .int r.w])) os rs := Paired.mapP hpr fun t r ⟨x, y, hx, hy, h⟩ => ⟨x, y, hx, hy, b58 _ _ h (ne_of h hp5 (by intro z; cases z))⟩
    refine ⟨_, rfl, p, C, dx, _, _, rfl, hp8, T.cl, T.nTi, hft3, r, rfl, ⟨_, SqL.of hr8⟩, ?_⟩
    refine for_list (xs := os.map V.ref) (fun i σ H9 => ∃ v3 v4 v5 v6, σ = [some (.ref p), some (.ref pl), some (.ref tt), v3, v4, v5, v6, none, none, none] ∧ H9 wd = some (.dT (widK nm (rs.take i))) ∧ (widK nm (rs.take i)).length ≤ 2 * i ∧ But wd H8 H9) ⟨none, none, none, none, rfl, hwd8, Nat.le_refl _, fun b o e _ => e⟩ (fun i σ H9 _ ⟨_, _, _, _, _, _, _, h⟩ => SqL.of (h _ _ hr8 nrw)) ?_ ?_
    · rintro i v σ H9 hi ⟨v3, v4, v5, v6, rfl, hwd9, hkl, b9⟩
      have hil := (List.getElem?_eq_some_iff.mp hi).1
      rw [List.length_map, Paired.length hpr, hrl] at hil
      rw [List.getElem?_map] at hi
      obtain ⟨t, ht, rfl⟩ := Option.map_eq_some_iff.mp hi
      obtain ⟨rv, hrv, x, y, hxi, hyj, htt8⟩ := paired_get hpr8 ht
      have est := widK_step (nm := nm) hrv
      unfold widS at est
      rw [hxi, hyj, Option.getD_some, Option.getD_some] at est
      generalize hkv0 : widK nm (rs.take i) = kv at hwd9 hkl est
      have nt : t ≠ wd := ne_of htt8 hwd8 (by intro z; cases z)
      have hp9 := b9 _ _ hp8 nwp.symm
      refine ⟨t, _, rfl, SqT.of (b9 _ _ htt8 nt), rfl, _, _, rfl, _, _, rfl, _, _, rfl, _, _, rfl, rfl, ?_⟩
      refine ⟨_, rfl, _, rfl, p, C, dx, _, _, rfl, hp9, T.cl, T.nWi, hfw3, _, rfl, _, rfl, _, rfl, (by show 3 ≤ sizeLine; decide), fun u hu' => ?_⟩
      have su := same_new (o := .tup [V.str x, V.str y, V.str rv.kd]) hu'
      have hu1 : (upd H9 u (.tup [V.str x, V.str y, V.str rv.kd])) u = some (.tup (List.map kV [Sum.inr x, Sum.inr y, Sum.inr rv.kd])) := upd_same
      generalize upd H9 u (.tup [V.str x, V.str y, V.str rv.kd]) = H10 at *
      refine ⟨wd, _, rfl, DPut.t (su _ _ hwd9) hu1 (Evl.sz_lt (by omega)), ?_⟩
      have l1 := length_putK kv [Sum.inr x, Sum.inr y, Sum.inr rv.kd] (V.int rv.w)
      generalize putK kv [Sum.inr x, Sum.inr y, Sum.inr rv.kd] (V.int rv.w) = kv1 at *
      have b11 : But wd H9 (upd H10 wd (.dT kv1)) := (But.of su).trans But.upd
      have hwd11 : (upd H10 wd (.dT kv1)) wd = some (.dT kv1) := upd_same
      generalize upd H10 wd (.dT kv1) = H11 at *
      refine ⟨_, rfl, _, rfl, p, C, dx, _, _, rfl, b11 _ _ hp9 nwp.symm, T.cl, T.nWi, hfw3, _, rfl, _, rfl, _, rfl, (by show 3 ≤ sizeLine; decide), fun u2 hu2 => ?_⟩
      have su2 := same_new (o := .tup [V.str y, V.str x, V.str rv.kd]) hu2
      have hu3 : (upd H11 u2 (.tup [V.str y, V.str x, V.str rv.kd])) u2 = some (.tup (List.map kV [Sum.inr y, Sum.inr x, Sum.inr rv.kd])) := upd_same
      generalize upd H11 u2 (.tup [V.str y, V.str x, V.str rv.kd]) = H12 at *
      refine ⟨wd, _, rfl, DPut.t (su2 _ _ hwd11) hu3 (Evl.sz_lt (by omega)), ?_⟩
      have l2 := length_putK kv1 [Sum.inr y, Sum.inr x, Sum.inr rv.kd] (V.int rv.w)
      exact ⟨_, _, _, _, rfl, by rw [upd_same, est], by rw [est]; omega, ((b9.trans b11).trans (But.of su2)).trans But.upd⟩
    · rintro σ H9 ⟨v3, v4, v5, v6, rfl, hwd9, hkl, b9⟩
      rw [List.length_map, Paired.length hpr, List.take_length] at hwd9
      have e3 : fs3 = webF dc q r wd := by
        rw [← hfs3, ← hfs2, ← hfs1]
        rfl
      refine k q dc r wd rs rw' H9 hq0 hdc0 hr00 hw0 ⟨⟨dx, by rw [← e3]; exact b9 _ _ hp8 nwp.symm⟩, b9 _ _ hq8 nqw, b9 _ _ hdc8 ndw, ?_, hwd9⟩ pr pm srt fun b o e hb => b9 _ _ (bb b o e hb) (ne_of_none e hw0)
      refine ext_tie ho5 (fun o e => b9 _ _ (b58 _ _ e nrp) nrw) (fun b xs e => ?_)
      have e8 := b58 _ _ e (ne_of e hp5 (by intro z; cases z))
      exact b9 _ _ e8 (ne_of e8 hwd8 (by intro z; cases z))
end
end Nm
set_option autoImplicit true
set_option maxRecDepth 100000
set_option maxHeartbeats 4000000
/-! x in o, o an instance whose class has its own __contains__ -/
namespace Nm
open PySem PySem.Spec PyProof.Rows L2
section
variable {X : Cx}
def rHasOwn (C : Addr) (sp : Sp) (E : XK) : R2 := fun x y H Q => ∃ (a dx : Addr) (fs : List (Str × V)), y = .ref a ∧ H a = some (.ins C dx fs) ∧ sp [.ref a, x] H (fun v H1 => ∃ b : Bool, v = .bl b ∧ Q (.bl b) H1) E
theorem spec_own {K : PySem.W.Frag} {M : Model} {A : Around} {s : Shared} {E : Value → Shared → Prop} {a C f : Addr} {ox : Obj} {od : Option Obj} {name : Str} {Q : Option Value → Shared → Prop} (KX : K.In s.heap) (J : PySem.W.InstAt s.heap a ox C od) (hs : PySem.W.findIn K (.ref C) name = some (some (.ref f)))
    (q : Q (some (.ref f)) s) : wpAny M A (specialOf (.ref a) name) Q E s := by
  unfold specialOf
  exact wpAny_bind (J.type.here ((PySem.W.looks_findIn KX hs).here q))
theorem has_own {k : Nat} {f C : Addr} {fd : FuncData} {ps : List Str} {sp : Sp} {CX : CXT} {E : XK} (F : FnOk X.prog X.w X.K X.mg X.base CX k f fd ps sp) (M : Meth X.K C "__contains__" f) (hr : Room k X.A) (hb : Binds X.K fd ps []) (hx : Passes CX X E)
    {pins : List (Addr × Obj)} {s : Shared} {σ : L2.St} {H : Hp} {x y : V} {v u : Value} {Q : Bool → Shared → Prop} (I : Inv X pins σ H s) (rx : RelV x v) (ry : RelV y u)
    (h : ∃ (a dx : Addr) (fs : List (Str × V)), y = .ref a ∧ H a = some (.ins C dx fs) ∧ sp [.ref a, x] H (fun v H1 => ∃ b : Bool, v = .bl b ∧ ∀ s1, Inv X pins σ H1 s1 → Q b s1) E) : wpAny (model X.prog X.w) X.A (contains u v) Q X.xe s := by
  obtain ⟨a, dx, fs, rfl, ha, h⟩ := h
  cases (show u = Value.ref a from ry)
  obtain ⟨mA, O, _⟩ := ins_get I.hok ha
  obtain ⟨od, J, _⟩ := O.look
  have fn : PySem.W.typeIn X.K (.ref f) = some (.type "function") := beq_iff_eq.mp M.fn
  have rr : Vals [V.ref a, x] [Value.ref a, v] := .cons rfl (.cons rx .nil)
  have hl : ([Value.ref a, v] : List Value).length = ps.length := by rw [← rr.length]; exact F.len _ _ _ _ h
  have b := hb s [.ref a, v] I.kIn (by rw [List.append_nil]; exact hl)
  rw [List.append_nil] at b
  unfold contains
  refine wpAny_holding ?_
  dsimp only [stdlibNamesSay?]
  refine wpAny_bind (spec_own I.kIn J M.at_ ?_)
  show wpAny _ _ (if (some (Value.ref f) == some Value.none) = true then _ else _) _ _ _
  rw [if_neg (by simp)]
  unfold callSpecialUnlessNone?
  refine wpAny_bind (wpAny_bind (spec_own I.kIn J M.at_ ?_))
  refine wpAny_holding (wpAny_bind ((PySem.W.bind_fn I.kIn _ fn).here ?_))
  show wpAny _ _ (if (Value.ref f == Value.none) = true then _ else _) _ _ _
  rw [if_neg (by simp)]
  refine wpAny_bind (wpAny_call (codeAny_mono (F.run X.A X.stack s H ⟨[.ref a, v], []⟩ [.ref a, v] [.ref a, x] _ E hr I.env0 b rr h) fun r s' hq => ?_))
  cases r with
  | error e => exact hx pins σ H s e s' I hq
  | ok fl =>
    cases fl with
    | ret u =>
      obtain ⟨w1, H', I', rv, b, rfl, q⟩ := I.after hq
      cases (show u = Value.bool b from rv)
      exact wpAny_pure (wpAny_truthy_bool (q _ I'))
    | next => exact False.elim hq
    | brk => exact False.elim hq
    | cont => exact False.elim hq
theorem op_inOwn {k : Nat} {f C : Addr} {fd : FuncData} {ps : List Str} {sp : Sp} {CX : CXT} {E : XK} (F : FnOk X.prog X.w X.K X.mg X.base CX k f fd ps sp) (M : Meth X.K C "__contains__" f) (hr : Room k X.A) (hb : Binds X.K fd ps []) (hx : Passes CX X E) (mono : ∀ {vs H} {Q Q' : VK}, (∀ v H, Q v H → Q' v H) → sp vs H Q E → sp vs H Q' E) :
    OpR X (compareOp .In) (rHasOwn C sp E) := by
  intro pins s σ H x y v u Q I rx ry h
  obtain ⟨a, dx, fs, rfl, ha, h⟩ := h
  show wpAny _ _ (contains u v >>= fun b => (pure (Value.bool b) : Sem Value)) _ _ _
  refine wpAny_bind (has_own F M hr hb hx I rx ry ⟨a, dx, fs, rfl, ha, mono (fun w1 H1 ⟨b, e, q⟩ => ⟨b, e, fun s1 I1 => wpAny_pure ⟨.bl b, H1, I1, rfl, q⟩⟩) h⟩)
theorem op_notInOwn {k : Nat} {f C : Addr} {fd : FuncData} {ps : List Str} {sp : Sp} {CX : CXT} {E : XK} (F : FnOk X.prog X.w X.K X.mg X.base CX k f fd ps sp) (M : Meth X.K C "__contains__" f) (hr : Room k X.A) (hb : Binds X.K fd ps []) (hx : Passes CX X E) (mono : ∀ {vs H} {Q Q' : VK}, (∀ v H, Q v H → Q' v H) → sp vs H Q E → sp vs H Q' E) :
    OpR X (compareOp .NotIn) (fun x y H Q => ∃ (a dx : Addr) (fs : List (Str × V)), y = .ref a ∧ H a = some (.ins C dx fs) ∧ sp [.ref a, x] H (fun v H1 => ∃ b : Bool, v = .bl b ∧ Q (.bl (!b)) H1) E) := by
  intro pins s σ H x y v u Q I rx ry h
  obtain ⟨a, dx, fs, rfl, ha, h⟩ := h
  show wpAny _ _ (contains u v >>= fun b => (pure (Value.bool (!b)) : Sem Value)) _ _ _
  refine wpAny_bind (has_own F M hr hb hx I rx ry ⟨a, dx, fs, rfl, ha, mono (fun w1 H1 ⟨b, e, q⟩ => ⟨b, e, fun s1 I1 => wpAny_pure ⟨.bl (!b), H1, I1, rfl, q⟩⟩) h⟩)
end
end Nm
set_option autoImplicit true
set_option maxRecDepth 100000
set_option maxHeartbeats 4000000
namespace Nm
open PySem L2
/-- a method and its promise -/
structure MethD (P : Program) (w : World) (K : PySem.W.Frag) (mg : Str → Option Value) (base : Heap) (C : Addr) (m : Str) (ps : List Str) (k : Nat) (sp : Sp) : Prop where
  ex : ∃ f fd, FnOk P w K mg base CX0 k f fd ps sp ∧ Meth K C m f ∧ Binds K fd ps []
/-- the places over y -/
def overL (nm' : List Str) (g : Str → Str) (y : Str) : List Str := nm'.filter fun x => decide (g x = y)
theorem overL_yes {nm' : List Str} {g : Str → Str} {y x : Str} {i : Nat} (h : nm'[i]? = some x) (e : g x = y) : overL (nm'.take (i + 1)) g y = overL (nm'.take i) g y ++ [x] := by
  unfold overL
  rw [List.take_add_one, h, List.filter_append]
  simp [e]
theorem overL_no {nm' : List Str} {g : Str → Str} {y x : Str} {i : Nat} (h : nm'[i]? = some x) (e : ¬ g x = y) : overL (nm'.take (i + 1)) g y = overL (nm'.take i) g y := by
  unfold overL
  rw [List.take_add_one, h, List.filter_append]
  simp [e]
theorem overL_len (nm' : List Str) (g : Str → Str) (y : Str) : (overL nm' g y).length ≤ nm'.length := List.length_filter_le _ _
/-- names and the lists over them -/
def poKV (nm : List Str) (as : List Addr) : List (Key × V) := (nm.zip as).map fun p => (Sum.inr p.1, V.ref p.2)
theorem po_keys {nm : List Str} {as : List Addr} (h : as.length = nm.length) : (poKV nm as).map (·.1) = nm.map Sum.inr := by
  unfold poKV
  rw [List.map_map]
  have : nm = (nm.zip as).map (·.1) := by rw [List.map_fst_zip (by omega)]
  conv => rhs; rw [this]
  rw [List.map_map]
  rfl
theorem po_nd {nm : List Str} {as : List Addr} (h : as.length = nm.length) (nd : nm.Nodup) : ((poKV nm as).map (·.1)).Nodup := by
  rw [po_keys h]
  exact List.Pairwise.map _ (fun a b hab e => hab (Sum.inr.inj e)) nd
theorem po_at {nm : List Str} {as : List Addr} (h : as.length = nm.length) (nd : nm.Nodup) {q : Nat} {y : Str} {a : Addr} (hy : nm[q]? = some y) (ha : as[q]? = some a) : valV (poKV nm as) (Sum.inr y) = some (V.ref a) := by
  refine val_of_mem (po_nd h nd) ?_
  unfold poKV
  refine List.mem_map.mpr ⟨(y, a), ?_, rfl⟩
  refine List.mem_of_getElem? (i := q) ?_
  rw [List.getElem?_zip_eq_some]
  exact ⟨hy, ha⟩
section
variable {P : Program} {w : World} {K : PySem.W.Frag} {mg : Str → Option Value} {base : Heap}
/-! ### Web.places -/
def spPlaces (C : Addr) : Sp := fun vs H Q _ => ∃ (p q dc r wd : Addr) (nm cl : List Str) (rs : List RowV), vs = [.ref p] ∧ WebX C H p q dc r wd nm cl rs ∧ nm.length ≤ 1000 ∧ ∀ (l : Addr) (H' : Hp), H l = none → H' l = some (.lst (nm.map V.str)) → Same H H' → Q (.ref l) H'
theorem scPl : FnScope ["self"] ["self"] (defScope sWebPlaces) := ⟨rfl, rfl, rfl, by decide +kernel, rfl, by decide +kernel, by decide +kernel⟩
theorem ok_places {f C : Addr} {fd : FuncData} (F : Fun K "places" "Web.places" sWebPlaces f fd) (T : TxtW K mg C) : FnOk P w K mg base CX0 1 f fd ["self"] (spPlaces C) := by
  refine F.ok scPl (fun vs H Q E h => ?_) (fun cdv A outer s H vs Q E hr h => ?_)
  · obtain ⟨_, _, _, _, _, _, _, _, rfl, _⟩ := h
    rfl
  · obtain ⟨p, q, dc, r, wd, nm, cl, rs, rfl, W, hn, k⟩ := h
    obtain ⟨dx, hp⟩ := W.hp
    refine ⟨_, pss_one (ps_ret (pe_callTy call_list_of (by rfl) T.list (by decide +kernel) (pa_cons (pe_fld (pv 0) rfl) pa_nil))), ?_⟩
    refine ⟨_, rfl, p, C, dx, _, _, rfl, hp, T.cl, T.nNa, rfl, ?_⟩
    exact ⟨q, _, rfl, .inl (SqL.of W.hq), fun r hr0 => k r _ hr0 upd_same (same_new hr0)⟩
/-! ### Web.ties -/
def spTies (C : Addr) : Sp := fun vs H Q _ => ∃ (p q dc r wd : Addr) (nm cl : List Str) (rs : List RowV), vs = [.ref p] ∧ WebX C H p q dc r wd nm cl rs ∧ ∀ (l : Addr) (H' : Hp), H l = none → OrdAt H' l nm rs → Same H H' → Q (.ref l) H'
theorem scTi : FnScope ["self"] ["self"] (defScope sWebTies) := ⟨rfl, rfl, rfl, by decide +kernel, rfl, by decide +kernel, by decide +kernel⟩
theorem ok_ties {f C : Addr} {fd : FuncData} (F : Fun K "ties" "Web.ties" sWebTies f fd) (T : TxtW K mg C) : FnOk P w K mg base CX0 1 f fd ["self"] (spTies C) := by
  refine F.ok scTi (fun vs H Q E h => ?_) (fun cdv A outer s H vs Q E hr h => ?_)
  · obtain ⟨_, _, _, _, _, _, _, _, rfl, _⟩ := h
    rfl
  · obtain ⟨p, q, dc, r, wd, nm, cl, rs, rfl, W, k⟩ := h
    obtain ⟨dx, hp⟩ := W.hp
    obtain ⟨ts, h1, h2⟩ := W.hr
    refine ⟨_, pss_one (ps_ret (pe_callTy call_list_of (by rfl) T.list (by decide +kernel) (pa_cons (pe_fld (pv 0) rfl) pa_nil))), ?_⟩
    refine ⟨_, rfl, p, C, dx, _, _, rfl, hp, T.cl, T.nTi, rfl, ?_⟩
    refine ⟨r, _, rfl, .inl (SqL.of h1), fun l hl0 => ?_⟩
    have s := same_new (o := .lst (ts.map V.ref)) hl0
    exact k l _ hl0 ⟨ts, upd_same, Paired.mapP h2 fun t r ⟨x, y, a, b, z⟩ => ⟨x, y, a, b, s _ _ z⟩⟩ s
/-! ### Web.__contains__, of a text -/
def spHas (C : Addr) : Sp := fun vs H Q _ => ∃ (p q dc r wd : Addr) (nm cl : List Str) (rs : List RowV) (z : Str), vs = [.ref p, .str z] ∧ WebX C H p q dc r wd nm cl rs ∧ nm.length ≤ cl.length ∧ Q (.bl (decide (z ∈ nm))) H
theorem spHas_mono {C : Addr} {E : XK} {vs : List V} {H : Hp} {Q Q' : VK} (m : ∀ v H, Q v H → Q' v H) (h : spHas C vs H Q E) : spHas C vs H Q' E := by
  obtain ⟨p, q, dc, r, wd, nm, cl, rs, z, rfl, W, hc, k⟩ := h
  exact ⟨p, q, dc, r, wd, nm, cl, rs, z, rfl, W, hc, m _ _ k⟩
theorem key_in {nm : List Str} {kc : List (Key × V)} (h : kc.map (·.1) = nm.map Sum.inr) (z : Str) : (valV kc (Sum.inr z)).isSome = decide (z ∈ nm) := by
  cases e : valV kc (Sum.inr z) with
  | some v =>
    have := valV_in e
    rw [h, List.mem_map] at this
    obtain ⟨y, hy, e2⟩ := this
    cases e2
    exact (decide_eq_true hy).symm
  | none =>
    have := valV_not e
    rw [h, List.mem_map] at this
    exact (decide_eq_false fun z1 => this ⟨z, z1, rfl⟩).symm
theorem scHas : FnScope ["self", "name"] ["self", "name"] (defScope sWebHas) := ⟨rfl, rfl, rfl, by decide +kernel, rfl, by decide +kernel, by decide +kernel⟩
theorem ok_has {f C : Addr} {fd : FuncData} (F : Fun K "__contains__" "Web.__contains__" sWebHas f fd) (T : TxtW K mg C) : FnOk P w K mg base CX0 1 f fd ["self", "name"] (spHas C) := by
  refine F.ok scHas (fun vs H Q E h => ?_) (fun cdv A outer s H vs Q E hr h => ?_)
  · obtain ⟨_, _, _, _, _, _, _, _, _, rfl, _⟩ := h
    rfl
  · obtain ⟨p, q, dc, r, wd, nm, cl, rs, z, rfl, W, hc, k⟩ := h
    obtain ⟨dx, hp⟩ := W.hp
    have hu := hu_of hr
    refine ⟨_, pss_one (ps_ret (pe_and (pe_callB call_isi (by rfl) T.isinstance (by decide +kernel) (pa_cons (pv 1) (pa_cons (pe_bltn (v := .ty "str") (by rfl) T.str (by decide +kernel) rfl) pa_nil)))
      (pe_one (pe_cmp (pc_din hu (pv 1) (pe_fld (pv 0) rfl)))))), ?_⟩
    refine ⟨_, rfl, _, _, _, _, true, rfl, ClsV.ty "str", TyX.base (TyOf.str z), kit_ty (by decide +kernel), _, rfl, iteT ?_⟩
    refine ⟨_, rfl, _, rfl, p, C, dx, _, _, rfl, hp, T.cl, T.nCo, rfl, dc, _, rfl, DGet.k (k := Sum.inr z) W.hdc, ?_⟩
    rw [key_in (colK_keys hc)]
    exact k
/-! ### Web.colour, of a name that is there -/
def spColour (C : Addr) : Sp := fun vs H Q _ => ∃ (p q dc r wd : Addr) (nm cl : List Str) (rs : List RowV) (i : Nat) (x y : Str), vs = [.ref p, .str x] ∧ WebX C H p q dc r wd nm cl rs ∧ nm.Nodup ∧ nm.length ≤ cl.length ∧ nm[i]? = some x ∧ cl[i]? = some y ∧ Q (.str y) H
theorem scCo : FnScope ["self", "name"] ["self", "name"] (defScope sWebColour) := ⟨rfl, rfl, rfl, by decide +kernel, rfl, by decide +kernel, by decide +kernel⟩
theorem pss_nope {X : Cx} {b : List Stmt} : PSs X b (fun _ _ _ => False) := ⟨fun _ _ _ _ _ _ h => h.elim⟩
theorem ok_colour {f C : Addr} {fd : FuncData} (F : Fun K "colour" "Web.colour" sWebColour f fd) (T : TxtW K mg C) (Gh : MethD P w K mg base C "__contains__" ["self", "name"] 1 (spHas C)) : FnOk P w K mg base CX0 2 f fd ["self", "name"] (spColour C) := by
  obtain ⟨fh, fdh, Gh, mh, bh⟩ := Gh.ex
  refine F.ok scCo (fun vs H Q E h => ?_) (fun cdv A outer s H vs Q E hr h => ?_)
  · obtain ⟨_, _, _, _, _, _, _, _, _, _, _, rfl, _⟩ := h
    rfl
  · obtain ⟨p, q, dc, r, wd, nm, cl, rs, i, x, y, rfl, W, nd, hc, hx, hy, k⟩ := h
    obtain ⟨dx, hp⟩ := W.hp
    have hu := hu_of hr
    refine ⟨_, pss_cons (ps_if (pt_cmpR (op_notInOwn Gh mh (hr.mono (by decide)) bh pass0 spHas_mono) (pv 1) (pv 0) (by rfl)) pss_nope pss_nil)
      (pss_one (ps_ret (pe_dget hu (pe_fld (pv 0) rfl) (pv 1) (fun _ _ => rfl)))), ?_⟩
    refine ⟨_, rfl, _, rfl, p, dx, _, rfl, hp, p, q, dc, r, wd, nm, cl, rs, x, rfl, W, hc, ?_⟩
    rw [decide_eq_true (List.mem_of_getElem? hx)]
    refine ⟨true, rfl, _, rfl, iteF ?_⟩
    exact ⟨_, rfl, p, C, dx, _, _, rfl, hp, T.cl, T.nCo, rfl, _, rfl, dc, _, rfl, (by rw [← colK_at hc nd hx hy]; exact DGet.k (k := Sum.inr x) W.hdc), k⟩
/-! ### Web.__len__ -/
def spLen (C : Addr) : Sp := fun vs H Q _ => ∃ (p q dc r wd : Addr) (nm cl : List Str) (rs : List RowV), vs = [.ref p] ∧ WebX C H p q dc r wd nm cl rs ∧ Q (.int (nm.length : Nat)) H
theorem scLen : FnScope ["self"] ["self"] (defScope sWebLen) := ⟨rfl, rfl, rfl, by decide +kernel, rfl, by decide +kernel, by decide +kernel⟩
theorem ok_len {f C : Addr} {fd : FuncData} (F : Fun K "__len__" "Web.__len__" sWebLen f fd) (T : TxtW K mg C) : FnOk P w K mg base CX0 1 f fd ["self"] (spLen C) := by
  refine F.ok scLen (fun vs H Q E h => ?_) (fun cdv A outer s H vs Q E hr h => ?_)
  · obtain ⟨_, _, _, _, _, _, _, _, rfl, _⟩ := h
    rfl
  · obtain ⟨p, q, dc, r, wd, nm, cl, rs, rfl, W, k⟩ := h
    obtain ⟨dx, hp⟩ := W.hp
    refine ⟨_, pss_one (ps_ret (pe_callB call_len_seq (by rfl) T.len PySem.boot_len (pa_cons (pe_fld (pv 0) rfl) pa_nil))), ?_⟩
    refine ⟨_, rfl, p, C, dx, _, _, rfl, hp, T.cl, T.nNa, rfl, ?_⟩
    refine ⟨q, _, rfl, .inl (SqL.of W.hq), ?_⟩
    rw [List.length_map]
    exact k
end
end Nm
set_option autoImplicit true
set_option maxRecDepth 100000
set_option maxHeartbeats 4000000
namespace Nm
open PySem L2
/-- e, and what it gives stands still from here on -/
def tStill (t : TE) : TE := fun σ H Q => t σ H fun x H1 => ∃ d u, x = .ref d ∧ H1 d = some u ∧ Mut (some u) ∧ ∀ od, Q x (upd H1 d (.frz od u))
theorem pe_still {X : Cx} {e : PySem.Expr} {t : TE} (h : PE X e t) : PE X e (tStill t) := by
  refine ⟨fun pins s σ H Q I hw => ?_⟩
  refine thn (h.run pins s σ H _ I hw) fun v s1 ⟨x, H1, I1, r, d, u, _, hd, mu, q⟩ => ?_
  obtain ⟨od, I2⟩ := I1.lock hd mu
  exact ⟨x, _, I2, r, q od⟩
theorem po_get {nm : List Str} {as : List Addr} {i : Nat} {k : Key} {x : V} (h : (poKV nm as)[i]? = some (k, x)) : ∃ y a, nm[i]? = some y ∧ as[i]? = some a ∧ x = V.ref a := by
  unfold poKV at h
  rw [List.getElem?_map] at h
  obtain ⟨⟨y, a⟩, e1, e2⟩ := Option.map_eq_some_iff.mp h
  rw [List.getElem?_zip_eq_some] at e1
  cases e2
  exact ⟨y, a, e1.1, e1.2, rfl⟩
theorem po_len {nm : List Str} {as : List Addr} (h : as.length = nm.length) : (poKV nm as).length = nm.length := by
  unfold poKV
  rw [List.length_map, List.length_zip]
  omega
end Nm
set_option autoImplicit true
set_option maxRecDepth 100000
set_option maxHeartbeats 4000000
/-! list(zip(xs, ys)) -/
namespace Nm
open PySem PySem.Spec PyProof.Rows L2
theorem zip_lenless : typeLookup (.type "zip") "__len__" = pure none := am_miss_of_fast (by decide +kernel)
theorem zip_hintless : typeLookup (.type "zip") "__length_hint__" = pure none := am_miss_of_fast (by decide +kernel)
/-- a list of references as it stands -/
abbrev refsObj (ts : List Addr) (c : Nat) : Obj := { cls := .type "list", dict := none, data := .seq (ts.map Value.ref).toArray c, slots := #[] }
/-- a zip on its way into the list at S; g: the heap ahead of it all -/
structure ZL (g h : Heap) (z TI TO i1 i2 l1 l2 S : Addr) (xs ys : Array Value) (i : Nat) (ts : List Addr) (c : Nat) : Prop where
  base : ∀ b o, g.get? b = some o → h.get? b = some o
  size : g.objs.size ≤ h.objs.size
  ti : IsPair h TI (.ref i1) (.ref i2)
  a1 : h.IsListIter i1 l1 i
  a2 : h.IsListIter i2 l2 i
  b1 : h.IsList l1 xs
  b2 : h.IsList l2 ys
  to : ∃ u v, IsPair h TO u v
  st : IsZip h z TI TO .none ∨ ∃ T f oT, IsZipHeld h z TI TO T f ∧ h.get? T = some oT ∧ T ≠ z ∧ T ≠ i1 ∧ T ≠ i2 ∧ T ≠ S
  at_ : h.get? S = some (refsObj ts c)
  len : ts.length = i
  nd : ts.Nodup
  each : ∀ (j : Nat) t, ts[j]? = some t → ∃ x y, xs[j]? = some x ∧ ys[j]? = some y ∧ IsPair h t x y ∧ t ≠ z ∧ t ≠ TO ∧ t ≠ i1 ∧ t ≠ i2 ∧ t ≠ S ∧ g.objs.size ≤ t
/-- S stands apart -/
structure Off (g : Heap) (z TI TO i1 i2 l1 l2 S : Addr) : Prop where
  oz : S ≠ z
  oti : S ≠ TI
  oto : S ≠ TO
  oi1 : S ≠ i1
  oi2 : S ≠ i2
  ol1 : S ≠ l1
  ol2 : S ≠ l2
  nz : g.get? z = none
  nto : g.get? TO = none
  n1 : g.get? i1 = none
  n2 : g.get? i2 = none
  ns : g.get? S = none
/-- what comes of it -/
structure ZD (g h : Heap) (S : Addr) (xs ys : Array Value) (ts : List Addr) (c : Nat) : Prop where
  base : ∀ b o, g.get? b = some o → h.get? b = some o
  at_ : h.get? S = some (refsObj ts c)
  len : ts.length = xs.size
  nd : ts.Nodup
  each : ∀ (j : Nat) t, ts[j]? = some t → ∃ x y, xs[j]? = some x ∧ ys[j]? = some y ∧ IsPair h t x y ∧ t ≠ S ∧ g.objs.size ≤ t
section
variable {P : Program} {w : World} {A : Around} {E : Value → Shared → Prop} {R : Result → Shared → Prop} {g : Heap} {z TI TO i1 i2 l1 l2 S : Addr} {xs ys : Array Value}
/-- S changed -/
theorem ZL.lay {h h' : Heap} {i : Nat} {ts : List Addr} {c c' : Nat} (Z : ZL g h z TI TO i1 i2 l1 l2 S xs ys i ts c) (O : Off g z TI TO i1 i2 l1 l2 S) (k : ∀ b o, b ≠ S → h.get? b = some o → h'.get? b = some o) (le : h.objs.size ≤ h'.objs.size)
    (at_ : h'.get? S = some (refsObj ts c')) : ZL g h' z TI TO i1 i2 l1 l2 S xs ys i ts c' := by
  refine ⟨fun b o e => k b o (fun q => by subst q; rw [O.ns] at e; cases e) (Z.base b o e), Nat.le_trans Z.size le, k _ _ O.oti.symm Z.ti, Z.a1.at fun o e => k _ o O.oi1.symm e, Z.a2.at fun o e => k _ o O.oi2.symm e, Z.b1.at fun o e => k _ o O.ol1.symm e, Z.b2.at fun o e => k _ o O.ol2.symm e, let ⟨u, v, b⟩ := Z.to; ⟨u, v, k _ _ O.oto.symm b⟩, ?_, at_, Z.len, Z.nd, fun j t e => ?_⟩
  · rcases Z.st with a | ⟨T, f, oT, a, b, n1, n2, n3, n4⟩
    · exact .inl (k _ _ O.oz.symm a)
    · exact .inr ⟨T, f, oT, k _ _ O.oz.symm a, k _ _ n4 b, n1, n2, n3, n4⟩
  · obtain ⟨x, y, ex, ey, ep, n1, n2, n3, n4, n5, n6⟩ := Z.each j t e
    exact ⟨x, y, ex, ey, k _ _ n5 ep, n1, n2, n3, n4, n5, n6⟩
theorem zl_loop (D : ZipApart z TI TO i1 i2 l1 l2) (O : Off g z TI TO i1 i2 l1 l2 S) (same : xs.size = ys.size) (lim : xs.size ≤ sizeLine) (hh : A.in1.handled = none) (res : Value) :
    ∀ (k i : Nat) (s : Shared) (ts : List Addr) (c : Nat), xs.size - i = k → i ≤ xs.size → ZL g s.heap z TI TO i1 i2 l1 l2 S xs ys i ts c →
      (∀ h' ts' c', ZD g h' S xs ys ts' c' → R (.ok (.ret res)) { s with heap := h' }) →
      codeAny (model P w) A (.builtin "list.extend.loop" ⟨[.ref S, .ref z, res], []⟩) R s := by
  intro k
  induction k with
  | zero =>
    intro i s ts c ek le Z hR
    obtain rfl : i = xs.size := by omega
    have fin : ∀ h', (∀ b o, b ≠ z → b ≠ TO → b ≠ i1 → b ≠ i2 → s.heap.get? b = some o → h'.get? b = some o) → R (.ok (.ret res)) { s with heap := h' } := fun h' kp => by
      refine hR h' ts c ⟨fun b o e => kp b o (fun q => ?_) (fun q => ?_) (fun q => ?_) (fun q => ?_) (Z.base b o e), kp _ _ O.oz O.oto O.oi1 O.oi2 Z.at_, Z.len, Z.nd, fun j t e => ?_⟩
      · subst q; rw [O.nz] at e; cases e
      · subst q; rw [O.nto] at e; cases e
      · subst q; rw [O.n1] at e; cases e
      · subst q; rw [O.n2] at e; cases e
      · obtain ⟨x, y, ex, ey, ep, n1, n2, n3, n4, n5, n6⟩ := Z.each j t e
        exact ⟨x, y, ex, ey, kp _ _ n1 n2 n3 n4 ep, n5, n6⟩
    have hend : xs[xs.size]? = none ∨ ys[xs.size]? = none := .inl (Array.getElem?_eq_none (Nat.le_refl _))
    refine codeAny_builtin F.entry_extend_loop (by
      rw [Around.under_plainId F.plain_extend_loop _]
      show wpAny _ A.in1 (pyNext (.ref z) >>= _) _ _ s
      refine wpAny_bind ?_
      obtain ⟨u, v, o0⟩ := Z.to
      rcases Z.st with a | ⟨T, f, oT, a, b, n1, n2, n3, n4⟩
      · exact wpAny_pyNext_zip_end hh D a Z.ti o0 Z.a1 Z.a2 Z.b1 Z.b2 hend fun h' kp => wpAny_pure (fin h' kp)
      · exact wpAny_pyNext_zip_end_held hh D a b Z.ti Z.a1 Z.a2 Z.b1 Z.b2 hend fun h' kp => wpAny_pure (fin h' fun b o m1 _ m3 m4 e => kp b o m1 m3 m4 e))
  | succ k ih =>
    intro i s ts c ek le Z hR
    have lt : i < xs.size := by omega
    have ex := Array.getElem?_eq_getElem lt
    have ey := Array.getElem?_eq_getElem (show i < ys.size by omega)
    have off : ∀ {b o}, s.heap.get? b = some o → s.heap.objs.size ≠ b := fun e => Nat.ne_of_gt (Heap.lt_size e)
    have m1 : s.heap.objs.size ≠ i1 := let ⟨_, e, _⟩ := Z.a1; off e
    have m2 : s.heap.objs.size ≠ i2 := let ⟨_, e, _⟩ := Z.a2; off e
    have m3 : s.heap.objs.size ≠ S := off Z.at_
    have m4 : s.heap.objs.size ≠ z := by rcases Z.st with a | ⟨_, _, _, a, _⟩ <;> exact off a
    -- behind one item
    have turn : ∀ h1, (∃ T f oT, IsZipHeld h1 z TI TO T f ∧ h1.get? T = some oT ∧ T ≠ z ∧ T ≠ i1 ∧ T ≠ i2 ∧ T ≠ S) → (∃ u v, IsPair h1 TO u v) → h1.IsListIter i1 l1 (i + 1) → h1.IsListIter i2 l2 (i + 1) → IsPair h1 s.heap.objs.size xs[i] ys[i] → h1.objs.size = s.heap.objs.size + 1 →
        (∀ b o, b ≠ z → b ≠ TO → b ≠ i1 → b ≠ i2 → s.heap.get? b = some o → h1.get? b = some o) →
        wpAny (model P w) A.in1 (updateSeq S (·.push (.ref s.heap.objs.size)) >>= fun _ => again (.builtin "list.extend.loop" ⟨[.ref S, .ref z, res], []⟩))
          (fun fin s' => match fin with | .done f => R (.ok f) s' | .again c' => c'.quiet = true ∧ codeAny (model P w) A c' R s') (fun e s' => R (.error e) s') { s with heap := h1 } := fun h1 st1 to1 c1 c2 cp csz kp => by
      obtain ⟨_, _, o0⟩ := Z.to
      have m5 : s.heap.objs.size ≠ TO := off o0
      have at1 : h1.get? S = some (refsObj ts c) := kp _ _ O.oz O.oto O.oi1 O.oi2 Z.at_
      have sz1 : (ts.map Value.ref).toArray.size = i := by simp [Z.len]
      have nin : s.heap.objs.size ∉ ts := fun m => by
        obtain ⟨j, hj⟩ := List.getElem?_of_mem m
        obtain ⟨_, _, _, _, ep, _⟩ := Z.each j _ hj
        exact off ep rfl
      refine wpAny_bind (wpAny_updateSeq at1 rfl (wpAny_pure ⟨plainId_quiet F.plain_extend_loop _, ?_⟩) (by rw [sz1]; omega) (by show ((ts.map Value.ref).toArray.push _).size ≤ sizeLine + 1; rw [Array.size_push, sz1]; omega))
      have oth : ∀ b o, b ≠ S → h1.get? b = some o → (h1.update S (Obj.mapSeq (·.push (.ref s.heap.objs.size)))).get? b = some o := fun b o n e => (Heap.get?_update_other _ _ n.symm).trans e
      have at2 := Heap.get?_update_self (Obj.mapSeq (·.push (.ref s.heap.objs.size))) at1 rfl
      have size2 : (h1.update S (Obj.mapSeq (·.push (.ref s.heap.objs.size)))).objs.size = s.heap.objs.size + 1 := by rw [Heap.size_update, csz]
      refine ih (i + 1) { s with heap := h1.update S (Obj.mapSeq (·.push (.ref s.heap.objs.size))) } (ts ++ [s.heap.objs.size]) (c + 1) (by omega) lt ⟨fun b o e => ?_, by show g.objs.size ≤ (h1.update S _).objs.size; rw [size2]; have := Z.size; omega, oth _ _ O.oti.symm (kp _ _ D.TIz D.TITO D.TIi1 D.TIi2 Z.ti), c1.at fun o e => oth _ o O.oi1.symm e, c2.at fun o e => oth _ o O.oi2.symm e,
        Z.b1.at fun o e => oth _ o O.ol1.symm (kp _ o D.l1z D.l1TO D.l1i1 D.l1i2 e), Z.b2.at fun o e => oth _ o O.ol2.symm (kp _ o D.l2z D.l2TO D.l2i1 D.l2i2 e), let ⟨u, v, b⟩ := to1; ⟨u, v, oth _ _ O.oto.symm b⟩, .inr ?_, ?_, by simp [Z.len], ?_, fun j t e => ?_⟩ fun h' ts' c' zd => hR h' ts' c' zd
      · refine oth _ _ (fun q => ?_) (kp _ _ (fun q => ?_) (fun q => ?_) (fun q => ?_) (fun q => ?_) (Z.base b o e))
        · subst q; rw [O.ns] at e; cases e
        · subst q; rw [O.nz] at e; cases e
        · subst q; rw [O.nto] at e; cases e
        · subst q; rw [O.n1] at e; cases e
        · subst q; rw [O.n2] at e; cases e
      · obtain ⟨T, f, oT, a, b, n1, n2, n3, n4⟩ := st1
        exact ⟨T, f, oT, oth _ _ O.oz.symm a, oth _ _ n4 b, n1, n2, n3, n4⟩
      · rw [at2]
        simp [refsObj, Obj.mapSeq]
      · rw [List.nodup_append]
        refine ⟨Z.nd, by simp, fun a ha b hb q => ?_⟩
        rw [List.mem_singleton] at hb
        subst hb q
        exact nin ha
      · by_cases q : j < ts.length
        · rw [List.getElem?_append_left q] at e
          obtain ⟨x, y, fx, fy, ep, n1, n2, n3, n4, n5, n6⟩ := Z.each j t e
          exact ⟨x, y, fx, fy, oth _ _ n5 (kp _ _ n1 n2 n3 n4 ep), n1, n2, n3, n4, n5, n6⟩
        · have ej : j = i := by
            have := (List.getElem?_eq_some_iff.mp e).1
            rw [List.length_append, List.length_singleton, Z.len] at this
            rw [Z.len] at q
            omega
          subst ej
          rw [List.getElem?_append_right (by rw [Z.len]; exact Nat.le_refl _), Z.len, Nat.sub_self] at e
          cases e
          exact ⟨_, _, ex, ey, oth _ _ m3 cp, m4, m5, m1, m2, m3, Z.size⟩
    refine codeAny_builtin F.entry_extend_loop (by
      rw [Around.under_plainId F.plain_extend_loop _]
      show wpAny _ A.in1 (pyNext (.ref z) >>= _) _ _ s
      refine wpAny_bind ?_
      obtain ⟨u, v, o0⟩ := Z.to
      rcases Z.st with a | ⟨T, f, oT, a, b, n1, n2, n3, n4⟩
      · refine wpAny_pyNext_zip_item D a Z.ti o0 Z.a1 Z.a2 Z.b1 Z.b2 ex ey fun h1 q1 q2 q3 q4 q5 q6 kp => ?_
        exact turn h1 ⟨s.heap.objs.size, false, _, q1, q5, m4, m1, m2, m3⟩ ⟨_, _, q2⟩ q3 q4 q5 q6 kp
      · refine wpAny_pyNext_zip_item_held D a b Z.ti Z.a1 Z.a2 Z.b1 Z.b2 ex ey fun h1 q1 q3 q4 q5 q6 kp => ?_
        exact turn h1 ⟨T, true, oT, q1, kp _ _ n1 n2 n3 b, n1, n2, n3, n4⟩ ⟨u, v, kp _ _ D.TOz D.TOi1 D.TOi2 o0⟩ q3 q4 q5 q6 fun b o k1 _ k3 k4 e => kp b o k1 k3 k4 e)
end
end Nm
set_option autoImplicit true
set_option maxRecDepth 100000
set_option maxHeartbeats 4000000
/-! list(zip(xs, ys)) as an expression -/
namespace Nm
open PySem PySem.Spec PyProof.Rows L2
section
variable {P : Program} {w : World} {A : Around} {E : Value → Shared → Prop} {R : Result → Shared → Prop} {g : Heap} {z TI TO i1 i2 l1 l2 S : Addr} {xs ys : Array Value} {s : Shared}
/-- what a list's making waits for -/
abbrev Waits (P : Program) (w : World) (A : Around) (R : Result → Shared → Prop) : PySem.Fin → Shared → Prop := fun fin s' => match fin with
  | .done f => R (.ok f) s'
  | .again c' => c'.quiet = true ∧ codeAny (model P w) A c' R s'
theorem extend_zip (D : ZipApart z TI TO i1 i2 l1 l2) (O : Off g z TI TO i1 i2 l1 l2 S) (same : xs.size = ys.size) (lim : xs.size ≤ sizeLine) (hh : A.in1.handled = none) (res : Value) {c : Nat} (hz : IsZip s.heap z TI TO .none) (Z : ZL g s.heap z TI TO i1 i2 l1 l2 S xs ys 0 [] c)
    (hR : ∀ h' ts c', ZD g h' S xs ys ts c' → R (.ok (.ret res)) { s with heap := h' }) :
    wpAny (model P w) A.in1 (Builtin.List.listExtendWith (.ref S) (.ref z) res) (Waits P w A R) (fun e s' => R (.error e) s') s := by
  have ty : s.TypeIs (.ref z) "zip" := ⟨_, hz, rfl⟩
  unfold Builtin.List.listExtendWith
  refine wpAny_bind (wpAny_typeOf ty ?_)
  have q1 : Builtin.List.listSameRef (.ref S) (.ref z) = false := by simp [Builtin.List.listSameRef, O.oz]
  have q2 : (Value.type "zip" == Value.type "list") = false := by decide
  have q3 : (Value.type "zip" == Value.type "tuple") = false := by decide
  simp only [q1, q2, q3, Bool.or_false, Bool.false_eq_true, if_false]
  refine wpAny_bind (wpAny_pyIter_zip hz (wpAny_bind (wpAny_holding ?_)))
  unfold Builtin.List.listLengthHint
  refine wpAny_bind (wpAny_specialOf ty zip_lenless ?_)
  show wpAny _ A.in1 (specialOf (Value.ref z) (Str.ofString "__length_hint__") >>= _) _ _ _
  refine wpAny_bind (wpAny_specialOf ty zip_hintless (wpAny_pure ?_))
  show wpAny _ A.in1 (rule "list.extend.makes-room" >>= fun _ => Builtin.List.listTouch (.ref S) >>= fun _ => again (.builtin "list.extend.loop" ⟨[.ref S, .ref z, res], []⟩)) _ _ _
  refine wpAny_bind (wpAny_rule (wpAny_bind ?_))
  show wpAny _ A.in1 (updateSeq S (·.push .none) >>= fun _ => updateSeq S (·.pop)) _ _ _
  refine wpAny_bind (wpAny_updateSeq Z.at_ rfl ?_ (by simp [sizeLine_eq]) (by simp [sizeLine_eq]))
  have at2 := Heap.get?_update_self (Obj.mapSeq (·.push Value.none)) Z.at_ rfl
  refine wpAny_updateSeq at2 rfl ?_ (by simp [Obj.mapSeq, refsObj, sizeLine_eq]) (by simp [Obj.mapSeq, refsObj, sizeLine_eq])
  have at3 := Heap.get?_update_self (Obj.mapSeq (·.pop)) at2 rfl
  have oth : ∀ b o, b ≠ S → s.heap.get? b = some o → ((s.heap.update S (Obj.mapSeq (·.push Value.none))).update S (Obj.mapSeq (·.pop))).get? b = some o := fun b o n e => (Heap.get?_update_other _ _ n.symm).trans ((Heap.get?_update_other _ _ n.symm).trans e)
  have Z2 := Z.lay (h' := (s.heap.update S (Obj.mapSeq (·.push Value.none))).update S (Obj.mapSeq (·.pop))) (c' := c + 2) O oth (by rw [Heap.size_update, Heap.size_update]; exact Nat.le_refl _) (by rw [at3]; simp [refsObj, Obj.mapSeq])
  exact wpAny_pure ⟨plainId_quiet F.plain_extend_loop _, zl_loop D O same lim hh res _ 0 _ [] (c + 2) rfl (Nat.zero_le _) Z2 hR⟩
theorem init_zip (D : ZipApart z TI TO i1 i2 l1 l2) (O : Off g z TI TO i1 i2 l1 l2 S) (same : xs.size = ys.size) (lim : xs.size ≤ sizeLine) (hh : A.in1.handled = none) {c : Nat} (hz : IsZip s.heap z TI TO .none) (Z : ZL g s.heap z TI TO i1 i2 l1 l2 S xs ys 0 [] c)
    (hR : ∀ h' ts c', ZD g h' S xs ys ts c' → R (.ok (.ret .none)) { s with heap := h' }) :
    wpAny (model P w) A.in1 (Builtin.«list.__init__» ⟨[.ref S, .ref z], []⟩) (Waits P w A R) (fun e s' => R (.error e) s') s := by
  show wpAny _ A.in1 (Builtin.List.listItems (.ref S) >>= fun old => Builtin.List.listUpdate (.ref S) (fun _ => #[]) >>= fun _ => letGo old.toList.reverse >>= fun _ => Builtin.List.listExtendWith (.ref S) (.ref z) .none) _ _ s
  refine wpAny_bind ?_
  unfold Builtin.List.listItems
  refine wpAny_bind (wpAny_seqItems Z.at_ rfl (wpAny_pure ?_))
  show wpAny _ A.in1 (updateSeq S (fun _ => #[]) >>= fun _ => letGo ((([] : List Addr).map Value.ref).toArray).toList.reverse >>= fun _ => Builtin.List.listExtendWith (.ref S) (.ref z) .none) _ _ s
  refine wpAny_bind (wpAny_updateSeq Z.at_ rfl ?_ (by simp [sizeLine_eq]) (by simp [sizeLine_eq]))
  have at2 := Heap.get?_update_self (Obj.mapSeq (fun _ => (#[] : Array Value))) Z.at_ rfl
  have oth : ∀ b o, b ≠ S → s.heap.get? b = some o → (s.heap.update S (Obj.mapSeq (fun _ => (#[] : Array Value)))).get? b = some o := fun b o n e => (Heap.get?_update_other _ _ n.symm).trans e
  have Z2 := Z.lay (h' := s.heap.update S (Obj.mapSeq (fun _ => (#[] : Array Value)))) (c' := c) O oth (by rw [Heap.size_update]; exact Nat.le_refl _) (by rw [at2]; simp [refsObj, Obj.mapSeq])
  exact wpAny_bind (wpAny_letGo (extend_zip (s := { s with heap := s.heap.update S (Obj.mapSeq (fun _ => (#[] : Array Value))) }) D O same lim hh .none (oth _ _ O.oz.symm hz) Z2 hR))
/-- list(z) of a zip just made -/
theorem call_listZip {Q : Value → Shared → Prop} {h0 : Heap} (la : l1 < h0.objs.size) (lb : l2 < h0.objs.size) (hb1 : h0.IsList l1 xs) (hb2 : h0.IsList l2 ys) (same : xs.size = ys.size) (lim : xs.size ≤ sizeLine) (hh : A.in1.in1.handled = none)
    (hz : IsZip s.heap (h0.objs.size + 4) (h0.objs.size + 2) (h0.objs.size + 3) .none) (hTI : IsPair s.heap (h0.objs.size + 2) (.ref h0.objs.size) (.ref (h0.objs.size + 1))) (hTO : IsPair s.heap (h0.objs.size + 3) .none .none) (a1 : s.heap.IsListIter h0.objs.size l1 0) (a2 : s.heap.IsListIter (h0.objs.size + 1) l2 0)
    (hsz : s.heap.objs.size = h0.objs.size + 5) (hk : ∀ b o, h0.get? b = some o → s.heap.get? b = some o)
    (hQ : ∀ h' ts c', ZD h0 h' (h0.objs.size + 5) xs ys ts c' → Q (.ref (h0.objs.size + 5)) { s with heap := h' }) : wpAny (model P w) A (call (.type "list") [.ref (h0.objs.size + 4)]) Q E s := by
  have fresh : ∀ k, h0.get? (h0.objs.size + k) = none := fun k => Heap.get?_none_of_le (Nat.le_add_right _ _)
  have O : Off h0 (h0.objs.size + 4) (h0.objs.size + 2) (h0.objs.size + 3) h0.objs.size (h0.objs.size + 1) l1 l2 (h0.objs.size + 5) := ⟨Nat.ne_of_gt (Nat.add_lt_add_left (by decide) _), Nat.ne_of_gt (Nat.add_lt_add_left (by decide) _), Nat.ne_of_gt (Nat.add_lt_add_left (by decide) _), Nat.ne_of_gt (Nat.lt_add_of_pos_right (by decide)), Nat.ne_of_gt (Nat.add_lt_add_left (by decide) _), Nat.ne_of_gt (Nat.lt_add_right 5 la), Nat.ne_of_gt (Nat.lt_add_right 5 lb), fresh 4, fresh 3, fresh 0, fresh 1, fresh 5⟩
  refine callType_codes (Q₁ := fun obj s₁ => obj = .ref s.heap.objs.size ∧ s₁ = { s with heap := s.heap.push { cls := .type "list", data := .seq #[] } }) F.called_list (F.typeCall_list_1 _) F.entry_list_init (code_list_new _ ⟨rfl, rfl⟩) fun obj s₁ h₁ => ?_
  obtain ⟨rfl, rfl⟩ := h₁
  have at_ : (s.heap.push { cls := .type "list", data := .seq #[] }).get? s.heap.objs.size = some { cls := .type "list", data := .seq #[] } := Heap.get?_push_size _ rfl
  have kp : ∀ b o, s.heap.get? b = some o → (s.heap.push { cls := .type "list", data := .seq #[] }).get? b = some o := fun b o e => Heap.get?_push_of_some _ e
  refine ⟨⟨_, at_, rfl⟩, F.args_list_init_2 _ _, ?_⟩
  rw [hsz] at at_ ⊢
  refine init_zip (s := { s with heap := s.heap.push { cls := .type "list", data := .seq #[] } }) (PySem.W.ktu_apart h0.objs.size l1 l2 la lb) O same lim hh (kp _ _ hz) ⟨fun b o e => kp b o (hk b o e), by show h0.objs.size ≤ (s.heap.push _).objs.size; rw [Heap.size_push, hsz]; omega, kp _ _ hTI, a1.at fun o e => kp _ o e, a2.at fun o e => kp _ o e, hb1.at fun o e => kp _ o (hk _ o e), hb2.at fun o e => kp _ o (hk _ o e), ⟨_, _, kp _ _ hTO⟩, .inl (kp _ _ hz), at_, rfl, List.nodup_nil, fun j t e => by simp at e⟩ fun h' ts c' zd => ?_
  exact ⟨rfl, hQ h' ts c' zd⟩
/-! ### the objects that come of it -/
theorem refs_vals : ∀ ts : List Addr, Vals (ts.map V.ref) (ts.map Value.ref)
  | [] => .nil
  | t :: ts => .cons (show RelV (.ref t) (.ref t) from rfl) (refs_vals ts)
/-- tuples laid at these places -/
def layT (H : Hp) : List Addr → List V → List V → Hp
  | t :: ts, x :: xs, y :: ys => upd (layT H ts xs ys) t (.tup [x, y])
  | _, _, _ => H
theorem layT_out {H : Hp} {b : Addr} : ∀ {ts : List Addr} {xs ys : List V}, b ∉ ts → layT H ts xs ys b = H b
  | [], _, _, _ => by unfold layT; rfl
  | _ :: _, [], _, _ => by unfold layT; rfl
  | _ :: _, _ :: _, [], _ => by unfold layT; rfl
  | t :: ts, x :: xs, y :: ys, n => by
    show upd (layT H ts xs ys) t _ b = H b
    rw [upd_ne fun e => n (by rw [e]; exact List.mem_cons_self)]
    exact layT_out fun m => n (List.mem_cons_of_mem _ m)
theorem layT_at {H : Hp} : ∀ {ts : List Addr} {xs ys : List V} {j : Nat} {t : Addr} {x y : V}, ts.Nodup → ts[j]? = some t → xs[j]? = some x → ys[j]? = some y → layT H ts xs ys t = some (.tup [x, y])
  | [], _, _, _, _, _, _, _, e, _, _ => by simp at e
  | _ :: _, [], _, _, _, _, _, _, _, e, _ => by simp at e
  | _ :: _, _ :: _, [], _, _, _, _, _, _, _, e => by simp at e
  | t :: ts, x :: xs, y :: ys, 0, _, _, _, _, e1, e2, e3 => by
    cases e1
    cases e2
    cases e3
    exact upd_same
  | t :: ts, x :: xs, y :: ys, j + 1, t', _, _, nd, e1, e2, e3 => by
    obtain ⟨n1, n2⟩ := List.nodup_cons.mp nd
    rw [List.getElem?_cons_succ] at e1 e2 e3
    show upd (layT H ts xs ys) t _ t' = _
    rw [upd_ne fun e => n1 (by rw [← e]; exact List.mem_of_getElem? e1)]
    exact layT_at n2 e1 e2 e3
variable {X : Cx} {pins : List (Addr × Obj)} {σ : L2.St} {H H' : Hp} {h' : Heap}
/-- many objects laid at once -/
theorem laid_all (I : Inv X pins σ H s) (k : ∀ b u, s.heap.get? b = some u → h'.get? b = some u) (old : ∀ b, b < s.heap.objs.size → H' b = H b) (new : ∀ b o, s.heap.objs.size ≤ b → H' b = some o → ObjOk X.prog X.w H' h' b o) : Inv X pins σ H' { s with heap := h' } := by
  have same : ∀ b o, H b = some o → H' b = some o := fun b o e => (old b (I.hok.lt e)).trans e
  refine I.un (t' := s.toks) ⟨fun b o e _ _ _ => k b o e, fun b o e _ _ _ => ⟨o.slots, k b o e⟩, fun b o e n _ => (old b (Heap.lt_size e)).trans n, fun b o e _ => ⟨o, k b o e⟩, fun b xs e => same b _ e, fun b o u e => same b _ e, fun b ps e => ⟨#[], by rw [same b _ e]; simp⟩⟩ fun b o e => ?_
  by_cases c : b < s.heap.objs.size
  · rw [old b c] at e
    exact (I.hok b o e).stay (fun b u _ q => k b u q) (fun b q => same b _ q) fun b xs q => same b _ q
  · exact new b o (Nat.le_of_not_lt c) e
/-- list(zip(xs, ys)): new tuples in a new list -/
def tListZip (K : PySem.W.Frag) (t : TA) : TE := fun σ H Q => t σ H fun vs H1 => ∃ (a b : Addr) (xs ys : List V), vs = [.ref a, .ref b] ∧ SqL K H1 a xs ∧ SqL K H1 b ys ∧ xs.length = ys.length ∧ xs.length ≤ 1000 ∧
  ∀ (p : Addr) (ts : List Addr) (H2 : Hp), H1 p = none → ts.length = xs.length → H2 p = some (.lst (ts.map V.ref)) → (∀ (i : Nat) (t : Addr), ts[i]? = some t → ∃ x y, xs[i]? = some x ∧ ys[i]? = some y ∧ H2 t = some (.tup [x, y])) → (∀ b o, H1 b = some o → H2 b = some o) → Q (.ref p) H2
theorem pe_listZip {e e2 : Expr} {t : TA} {p p2 q pos : Pos} (hc : X.calm = true) (g1 : Gl X "list") (m1 : X.mg "list" = none) (g2 : Gl X "zip") (m2 : X.mg "zip" = none) (ha : PA X [e, e2] t)
    (n1 : starEach [e, e2] X.env = (false, eval e X.env) :: starEach [e2] X.env := by rfl) (n2 : (backTo q (starEach [e2] X.env)).any (·.1) = false := by rfl) (n3 : starEach [.Call (.Name "zip" p2) [e, e2] [] q] X.env = (false, eval (.Call (.Name "zip" p2) [e, e2] [] q) X.env) :: starEach [] X.env := by rfl) : PE X (.Call (.Name "list" p) [.Call (.Name "zip" p2) [e, e2] [] q] [] pos) (tListZip X.K t) := by
  refine ⟨fun pins s σ H Q I h => ?_⟩
  refine Call_ (ld_blt I g1 m1 (show bootBuiltins "list" = some (.type "list") by decide +kernel) (PyProof.Rows.callWith_type1 (PyProof.Rows.args_cons ?_ n3) n3 rfl))
  refine Call_ (ld_blt I g2 m2 PyProof.Rows.boot_zip (PyProof.Rows.callWith_type1 (thn (ha.run q pins s σ H _ I h) fun us s1 ⟨vs, H1, I1, r1, q1⟩ => ?_) n1 n2))
  obtain ⟨a, b, xs, ys, rfl, hqx, hqy, same, lim, k⟩ := q1
  obtain ⟨its, rv, p1, _⟩ := I1.list hqx
  obtain ⟨its2, rv2, p2', _⟩ := I1.list hqy
  have e1 := rv.length
  have e2' := rv2.length
  cases r1 with
  | cons r rr =>
    cases rr with
    | cons r' rr =>
      cases rr
      cases r
      cases r'
      refine call_zip_2 p1.isList p2'.isList fun h1 hz hTI hTO a1 a2 hsz hk => PyProof.Rows.args_nil ?_
      refine call_listZip (s := { s1 with heap := h1 }) (h0 := s1.heap) p1.lt p2'.lt p1.isList p2'.isList (by simp only [List.size_toArray]; omega) (by simp only [List.size_toArray, sizeLine_eq]; omega) (I1.ok.hd hc) hz hTI hTO a1 a2 hsz hk fun h2 ts c zd => ?_
      have len : ts.length = xs.length := by rw [zd.len, List.size_toArray, e1]
      have nsT : s1.heap.objs.size + 5 ∉ ts := fun m => by
        obtain ⟨j, hj⟩ := List.getElem?_of_mem m
        obtain ⟨_, _, _, _, _, n, _⟩ := zd.each j _ hj
        exact n rfl
      have at1 : upd (layT H1 ts xs ys) (s1.heap.objs.size + 5) (.lst (ts.map V.ref)) (s1.heap.objs.size + 5) = some (.lst (ts.map V.ref)) := upd_same
      have tup1 : ∀ (j : Nat) t x y, ts[j]? = some t → xs[j]? = some x → ys[j]? = some y → upd (layT H1 ts xs ys) (s1.heap.objs.size + 5) (.lst (ts.map V.ref)) t = some (.tup [x, y]) := fun j t x y f1 f2 f3 => by
        rw [upd_ne fun q => nsT (by rw [← q]; exact List.mem_of_getElem? f1)]
        exact layT_at zd.nd f1 f2 f3
      have old1 : ∀ b, b < s1.heap.objs.size → upd (layT H1 ts xs ys) (s1.heap.objs.size + 5) (.lst (ts.map V.ref)) b = H1 b := fun b lt => by
        rw [upd_ne (Nat.ne_of_lt (Nat.lt_add_right 5 lt))]
        refine layT_out fun m => ?_
        obtain ⟨j, hj⟩ := List.getElem?_of_mem m
        obtain ⟨_, _, _, _, _, _, n⟩ := zd.each j _ hj
        exact absurd lt (Nat.not_lt.mpr n)
      refine ⟨.ref (s1.heap.objs.size + 5), _, laid_all (s := s1) I1 zd.base old1 fun b o ge eb => ?_, rfl, k (s1.heap.objs.size + 5) ts _ (I1.hok.fresh (Nat.le_add_right _ _)) len at1 (fun j t f1 => ?_) fun b o eb => ?_⟩
      · by_cases cS : b = s1.heap.objs.size + 5
        · subst cS
          rw [at1] at eb
          cases eb
          exact ⟨by rw [List.length_map, len, sizeLine_eq]; omega, ts.map Value.ref, c, refs_vals ts, zd.at_⟩
        · by_cases cT : b ∈ ts
          · obtain ⟨j, hj⟩ := List.getElem?_of_mem cT
            have jl : j < ts.length := (List.getElem?_eq_some_iff.mp hj).1
            have fx := List.getElem?_eq_getElem (show j < xs.length by omega)
            have fy := List.getElem?_eq_getElem (show j < ys.length by omega)
            rw [tup1 j b _ _ hj fx fy] at eb
            cases eb
            obtain ⟨u, v, hu, hv, hp, _⟩ := zd.each j b hj
            obtain ⟨u', hu', ru⟩ := rv.get fx
            obtain ⟨v', hv', rv'⟩ := rv2.get fy
            have eu : u' = u := Option.some.inj (hu'.symm.trans (by simpa using hu))
            have ev : v' = v := Option.some.inj (hv'.symm.trans (by simpa using hv))
            subst eu ev
            exact ⟨by show 2 ≤ sizeLine; decide, [u', v'], .cons ru (.cons rv' .nil), ⟨_, hp, rfl, _, rfl⟩⟩
          · rw [upd_ne cS, layT_out cT, I1.hok.fresh ge] at eb
            cases eb
      · have jl : j < ts.length := (List.getElem?_eq_some_iff.mp f1).1
        have fx := List.getElem?_eq_getElem (show j < xs.length by omega)
        have fy := List.getElem?_eq_getElem (show j < ys.length by omega)
        exact ⟨_, _, fx, fy, tup1 j t _ _ f1 fx fy⟩
      · rw [old1 b (I1.hok.lt eb)]
        exact eb
end
end Nm
set_option autoImplicit true
set_option maxRecDepth 100000
set_option maxHeartbeats 4000000
/-! spots of ties, by the places of their ends -/
namespace Nm
open PySem L2
theorem pair_mm {x y : Str} (h : x ≠ y) : (minS x y = x ∧ maxS x y = y) ∨ (minS x y = y ∧ maxS x y = x) := by
  unfold minS maxS
  by_cases a : x.cps.toList < y.cps.toList
  · rw [if_pos a, if_neg (List.lt_asymm a)]
    exact .inl ⟨rfl, rfl⟩
  · by_cases b : y.cps.toList < x.cps.toList
    · rw [if_neg a, if_pos b]
      exact .inr ⟨rfl, rfl⟩
    · exfalso
      have := List.le_antisymm (List.not_lt.mp b) (List.not_lt.mp a)
      apply h
      cases x
      cases y
      simp_all
theorem mm_comm {x y : Str} (h : x ≠ y) : minS x y = minS y x ∧ maxS x y = maxS y x := by
  unfold minS maxS
  by_cases a : x.cps.toList < y.cps.toList
  · rw [if_pos a, if_neg (List.lt_asymm a), if_pos a, if_neg (List.lt_asymm a)]
    exact ⟨rfl, rfl⟩
  · by_cases b : y.cps.toList < x.cps.toList
    · rw [if_neg a, if_pos b, if_neg a, if_pos b]
      exact ⟨rfl, rfl⟩
    · exfalso
      have := List.le_antisymm (List.not_lt.mp b) (List.not_lt.mp a)
      apply h
      cases x
      cases y
      simp_all
/-- the spot that a key of a world's ties leads to -/
def spotK (nm : List Str) : List Key → List Key
  | [Sum.inl i, Sum.inl j, Sum.inr kd] => [Sum.inr (minS ((nm[i.toNat]?).getD "") ((nm[j.toNat]?).getD "")), Sum.inr (maxS ((nm[i.toNat]?).getD "") ((nm[j.toNat]?).getD "")), Sum.inr kd]
  | _ => []
theorem spotK_at {nm : List Str} {i j : Nat} {kd x y : Str} (hx : nm[i]? = some x) (hy : nm[j]? = some y) : spotK nm [Sum.inl (i : Int), Sum.inl (j : Int), Sum.inr kd] = [Sum.inr (minS x y), Sum.inr (maxS x y), Sum.inr kd] := by
  show [Sum.inr (minS ((nm[(i : Int).toNat]?).getD "") ((nm[(j : Int).toNat]?).getD "")), Sum.inr (maxS ((nm[(i : Int).toNat]?).getD "") ((nm[(j : Int).toNat]?).getD "")), Sum.inr kd] = _
  rw [Int.toNat_natCast, Int.toNat_natCast, hx, hy]
  rfl
theorem spotK_inj {nm : List Str} (nd : nm.Nodup) {k k' : List Key} (h : TieK nm.length k) (h' : TieK nm.length k') (e : spotK nm k = spotK nm k') : k = k' := by
  obtain ⟨i, j, kd, rfl, h1, h2, _⟩ := h
  obtain ⟨i', j', kd', rfl, h1', h2', _⟩ := h'
  obtain ⟨x, hx⟩ : ∃ x, nm[i]? = some x := ⟨_, List.getElem?_eq_getElem (by omega)⟩
  obtain ⟨y, hy⟩ : ∃ y, nm[j]? = some y := ⟨_, List.getElem?_eq_getElem (by omega)⟩
  obtain ⟨x', hx'⟩ : ∃ x, nm[i']? = some x := ⟨_, List.getElem?_eq_getElem (by omega)⟩
  obtain ⟨y', hy'⟩ : ∃ y, nm[j']? = some y := ⟨_, List.getElem?_eq_getElem (by omega)⟩
  rw [spotK_at hx hy, spotK_at hx' hy'] at e
  simp only [List.cons.injEq, Sum.inr.injEq, and_true] at e
  obtain ⟨e1, e2, e3⟩ := e
  have at_ : ∀ {a b : Nat} {z : Str}, nm[a]? = some z → nm[b]? = some z → a = b := fun {a b z} ha hb => (List.getElem?_inj (List.getElem?_eq_some_iff.mp ha).1 nd).mp (ha.trans hb.symm)
  have hne : x ≠ y := fun z => by
    subst z
    have := at_ hx hy
    omega
  have hne' : x' ≠ y' := fun z => by
    subst z
    have := at_ hx' hy'
    omega
  have fin : (i = i' ∧ j = j') ∨ (i = j' ∧ j = i') := by
    rcases pair_mm hne with ⟨a, b⟩ | ⟨a, b⟩ <;> rcases pair_mm hne' with ⟨a', b'⟩ | ⟨a', b'⟩ <;> rw [a, a'] at e1 <;> rw [b, b'] at e2 <;> subst e1 e2
    · exact .inl ⟨at_ hx hx', at_ hy hy'⟩
    · exact .inr ⟨at_ hx hy', at_ hy hx'⟩
    · exact .inr ⟨at_ hx hy', at_ hy hx'⟩
    · exact .inl ⟨at_ hx hx', at_ hy hy'⟩
  subst e3
  rcases fin with ⟨rfl, rfl⟩ | ⟨rfl, rfl⟩
  · rfl
  · omega
theorem spots_nd {nm : List Str} (nd : nm.Nodup) {ks : List (List Key)} (hk : ∀ k ∈ ks, TieK nm.length k) (hn : ks.Nodup) : (ks.map (spotK nm)).Nodup := by
  refine List.pairwise_map.mpr (List.Pairwise.imp_of_mem (fun {a b} ha hb hne e => hne ?_) hn)
  exact spotK_inj nd (hk a ha) (hk b hb) e
/-- the key that a tuple tells -/
def keyBack (H : Hp) : V → List Key
  | .ref b => (match H b with
    | some (.tup xs) => xs.map keyOf
    | _ => [])
  | _ => []
theorem keyBack_of {H : Hp} {b : Addr} {k : List Key} (h : H b = some (.tup (k.map kV))) : keyBack H (.ref b) = k := by
  show (match H b with
    | some (.tup xs) => xs.map keyOf
    | _ => []) = k
  rw [h]
  show (k.map kV).map keyOf = k
  rw [List.map_map]
  conv => rhs; rw [← List.map_id k]
  exact List.map_congr_left fun x _ => keyOf_kV x
theorem keys_back {H : Hp} : ∀ {kvs : List (List Key × V)} {bs : List Addr}, IsKeys H kvs bs → (bs.map V.ref).map (keyBack H) = kvs.map (·.1)
  | _, _, .nil => rfl
  | _, _, .cons h t => by
    rw [List.map_cons, List.map_cons, List.map_cons, keys_back t, keyBack_of h]
end Nm
set_option autoImplicit true
set_option maxRecDepth 100000
set_option maxHeartbeats 4000000
namespace Nm
open PySem L2
theorem step_up (x y : V) : stepV [x, y] 1 = [x, y] := by
  have e : stepIx 1 2 = [0, 1] := by decide +kernel
  show (stepIx 1 2).filterMap ([x, y][·]?) = [x, y]
  rw [e]
  rfl
theorem step_down (x y : V) : stepV [x, y] (-1) = [y, x] := by
  have e : stepIx (-1) 2 = [1, 0] := by decide +kernel
  show (stepIx (-1) 2).filterMap ([x, y][·]?) = [y, x]
  rw [e]
  rfl
/-- the row of a tie of a world -/
def tieRow : List Key × V → RowV
  | ([.inl i, .inl j, .inr kd], .int w) => ⟨i.toNat, j.toNat, kd, w⟩
  | _ => ⟨0, 0, "", 0⟩
/-- the rows of a world's ties, in order -/
def RowsOf (kvs : List (List Key × V)) (rs : List RowV) : Prop := rs.Perm (kvs.map tieRow) ∧ rs.Pairwise (fun x y => lexK (rowK y.key) (rowK x.key) = false)
theorem rowOf_uniq {nm : List Str} (nd : nm.Nodup) {t : TieV} {r r' : RowV} (h : RowOf nm t r) (h' : RowOf nm t r') : r = r' := by
  obtain ⟨a, b, ha, hb, e1, e2, e3, e4⟩ := h
  obtain ⟨a', b', ha', hb', f1, f2, f3, f4⟩ := h'
  have : a = a' := (List.getElem?_inj (List.getElem?_eq_some_iff.mp ha).1 nd).mp (ha.trans ha'.symm)
  have : b = b' := (List.getElem?_inj (List.getElem?_eq_some_iff.mp hb).1 nd).mp (hb.trans hb'.symm)
  cases r
  cases r'
  simp only at e1 e2 e3 e4 f1 f2 f3 f4
  subst e1 e2 e3 e4 f1 f2 f3 f4
  subst a' b'
  rfl
theorem rows_uniq {nm : List Str} (nd : nm.Nodup) : ∀ {tl : List TieV} {rw rw' : List RowV}, Paired (RowOf nm) tl rw → Paired (RowOf nm) tl rw' → rw = rw'
  | _, _, _, .nil, .nil => rfl
  | _, _, _, .cons h t, .cons h' t' => by rw [rowOf_uniq nd h h', rows_uniq nd t t']
theorem rows_perm {kvs : List (List Key × V)} {ks : List (List Key)} (nd : (kvs.map (·.1)).Nodup) (h : ks.Perm (kvs.map (·.1))) : (ks.map fun k => tieRow (k, (valV kvs k).getD .non)).Perm (kvs.map tieRow) := by
  have e : (kvs.map (·.1)).map (fun k => tieRow (k, (valV kvs k).getD .non)) = kvs.map tieRow := by
    rw [List.map_map]
    refine List.map_congr_left fun kv hm => ?_
    show tieRow (kv.1, (valV kvs kv.1).getD .non) = tieRow kv
    rw [val_of_mem nd (v := kv.2) hm]
    rfl
  rw [← e]
  exact h.map _
structure TxtM (K : PySem.W.Frag) (mg : Str → Option Value) (C f : Addr) : Prop extends TxtW K mg C where
  mgC : mg "Web" = some (.ref C)
  mkC : Mk K C f
section
variable {P : Program} {w : World} {K : PySem.W.Frag} {mg : Str → Option Value} {base : Heap}
/-! ### _law_made -/
def spMade (C : Addr) : Sp := fun vs H Q _ => ∃ (s c wd a b t : Addr) (nm cl : List Str) (kvs : List (List Key × V)) (m : Nat), vs = [.ref s, .ref wd] ∧ Src H s c ∧ WorldOk H s c wd a b t nm cl kvs ∧ Ties nm.length m kvs ∧ kvs.length ≤ 4000 ∧ nm.length ≤ 1000 ∧
  ∀ (p q dc r wb : Addr) (rs : List RowV) (H' : Hp), H p = none → H q = none → H dc = none → H r = none → H wb = none → WebX C H' p q dc r wb nm cl rs → RowsOf kvs rs → Src H' s c → Kp s c H H' → Q (.ref p) H'
abbrev nMd : List Str := ["_law_source", "_law_world", "_law_names", "_law_rows", "_law_one", "_law_other", "_law_kind", "_law_ends"]
theorem scMd : FnScope nMd ["_law_source", "_law_world"] (defScope sMade) := ⟨rfl, rfl, rfl, by decide +kernel, rfl, by decide +kernel, by decide +kernel⟩
theorem ok_made {f C fi : Addr} {fd fdi : FuncData} (F : Fun K "_law_made" "_law_made" sMade f fd) (T : TxtM K mg C fi) (Gp : Def P w K mg base "_law_pick" ["_law_source", "_law_many"] 1 spPick) (Ga : Def P w K mg base "_law_any_order" ["_law_source", "_law_items"] 2 (spAny K))
    (Gi : FnOk P w K mg base CX0 5 fi fdi ["self", "places", "ties"] (spWebI C)) (bi : Binds K fdi ["self", "places", "ties"] []) : FnOk P w K mg base CX0 7 f fd ["_law_source", "_law_world"] (spMade C) := by
  obtain ⟨fp, fdp, Gp, mp, kp, bp⟩ := Gp.ex
  obtain ⟨fa, fda, Ga, ma, ka, ba⟩ := Ga.ex
  refine F.ok scMd (fun vs H Q E h => ?_) (fun cdv A outer s H vs Q E hr h => ?_)
  · obtain ⟨_, _, _, _, _, _, _, _, _, _, rfl, _⟩ := h
    rfl
  · obtain ⟨sa, ca, wd, a, b, t, nm, cl, kvs, m, rfl, S, W, ti, hkl, hnl, k⟩ := h
    have hu := hu_of hr
    have hr1 := hr.mono (by decide : 1 ≤ 6)
    have hr2 := hr.mono (by decide : 2 ≤ 6)
    refine ⟨_, pss_cons (ps_par (i := 2) (j := 3) (by rfl) scMd.nd rfl rfl (by decide) rfl rfl (pa_cons (pe_dget hu (pv 1) pe_str (fun _ _ => rfl)) (pa_cons (pe_lst pa_nil) pa_nil)) (by rfl))
      (Evl.pss_cut (ps_for PassesOwn.never rfl (pi_list (pe_call Ga hr2 (by rfl) ma ka ba .nil pass0 (pa_cons (pv 0) (pa_cons (pe_callTy (call_list_dT rfl) (by rfl) T.list (by decide +kernel) (pa_cons (pe_dget hu (pv 1) pe_str (fun _ _ => rfl)) pa_nil)) pa_nil))))
        (pg_tup rfl (pgs_cons (pg_name (i := 4) scMd.nd rfl (.inl rfl)) (pgs_cons (pg_name (i := 5) scMd.nd rfl (.inl rfl)) (pgs_cons (pg_name (i := 6) scMd.nd rfl (.inl rfl)) pgs_nil))))
        (pss_cons (ps_set (i := 7) scMd.nd rfl (Or.inl rfl) (pe_stepL (pe_lst (pa_cons (pe_ix ix_list (pv 2) (pv 4) (fun _ _ => rfl)) (pa_cons (pe_ix ix_list (pv 2) (pv 5) (fun _ _ => rfl)) pa_nil))) (pe_op op_sub pe_int (pe_op op_mul pe_int (pe_call Gp hr1 (by rfl) mp kp bp .nil pass0 (pa_cons (pv 0) (pa_cons pe_int pa_nil)))))))
        (pss_one (ps_expr (pe_bm PySem.F.plainAttrs_list PySem.F.slot_list_append PySem.F.type_list_append mt_append (pv 3) (pa_cons (pe_tup (pa_cons (pe_ix ix_list (pv 7) pe_int (fun _ _ => rfl)) (pa_cons (pe_ix ix_list (pv 7) pe_int (fun _ _ => rfl)) (pa_cons (pv 6) (pa_cons (pe_dget hu (pe_dget hu (pv 1) pe_str (fun _ _ => rfl)) (pe_tup (pa_cons (pv 4) (pa_cons (pv 5) (pa_cons (pv 6) pa_nil)))) (fun _ _ => rfl)) pa_nil))))) pa_nil))))))
      (pss_one (ps_ret (pe_make T.mkC Gi hr (by rfl) T.mgC bi .nil pass0 (pa_cons (pe_listZip rfl (by rfl) T.list (by rfl) T.zip (pa_cons (pv 2) (pa_cons (pe_dget hu (pv 1) pe_str (fun _ _ => rfl)) pa_nil))) (pa_cons (pv 3) pa_nil)))))), ?_⟩
    have hn := W.hn
    refine ⟨_, rfl, wd, _, rfl, dg_names W.d, (by show 0 ≤ sizeLine; decide), fun ro hro => ⟨_, _, rfl, ?_⟩⟩
    have s1 := same_new (o := .lst []) hro
    have hro1 : (upd H ro (.lst [])) ro = some (.lst (List.map V.ref [])) := upd_same
    have W1 := W.same s1
    have S1 := S.same s1
    generalize upd H ro (.lst []) = H1 at *
    obtain ⟨nrs, nrc⟩ := S.ne hro
    refine ⟨fun σ H2 => ∃ v4 v5 v6 v7 tl, σ = [some (.ref sa), some (.ref wd), some (.ref a), some (.ref ro), v4, v5, v6, v7] ∧ TiesAt H2 ro tl ∧ (∀ t ∈ tl, t.Ok nm) ∧ (tl.map TieV.spot).Nodup ∧ (∃ rw0, Paired (RowOf nm) tl rw0 ∧ rw0.Perm (kvs.map tieRow)) ∧ tl.length ≤ 4000 ∧ Src H2 sa ca ∧ Kp sa ca H H2, ?_, ?_⟩
    · refine ⟨_, rfl, _, rfl, wd, _, rfl, dg_ties W1.d, t, kvs, rfl, .inl W1.ht, fun l bs hl hk => ?_⟩
      obtain ⟨kl, hbl⟩ := keyL_of hk
      have s2 := same_new (o := .lst (bs.map V.ref)) hl
      have hl2 : (upd H1 l (.lst (bs.map V.ref))) l = some (.lst (bs.map V.ref)) := upd_same
      have kb : (bs.map V.ref).map (keyBack H1) = kvs.map (·.1) := keys_back hk
      have hbk : ∀ y ∈ bs.map V.ref, ∃ b k, y = V.ref b ∧ H1 b = some (.tup (List.map kV k)) := fun y hy => by
        obtain ⟨b, k, v, h1, h2, _⟩ := kl y hy
        exact ⟨b, k, h1, h2⟩
      generalize upd H1 l (.lst (bs.map V.ref)) = H2 at *
      refine ⟨sa, ca, l, _, rfl, S1.same s2, SqL.of hl2, by rw [List.length_map]; omega, fun p ys H3 hp pm hp3 S3 kp3 => ?_⟩
      have kly : KeyL H3 kvs ys := fun y hy => ((kl.same s2).kp (S1.same s2) kp3) y (pm.subset hy)
      have W3 := (W1.same s2).kp kp3
      have hro3 := kp3 _ _ (s2 _ _ hro1) nrs nrc
      have hyl : ys.length ≤ 4000 := by rw [pm.length_eq, List.length_map]; omega
      have npr : p ≠ ro := fun e => by subst e; rw [s2 _ _ hro1] at hp; cases hp
      have hkk : ((ys.map (keyBack H1)).Perm (kvs.map (·.1))) := by rw [← kb]; exact pm.map _
      have kp03 : Kp sa ca H H3 := (Kp.same (s1.trans s2)).trans kp3
      have hp0 := S3
      have npsc := (S1.same s2).ne hp
      refine ⟨p, rfl, ⟨_, SqL.of hp3⟩, ?_⟩
      refine for_list (xs := ys) (fun i σ H4 => ∃ v4 v5 v6 v7 us tl, σ = [some (.ref sa), some (.ref wd), some (.ref a), some (.ref ro), v4, v5, v6, v7] ∧ H4 ro = some (.lst (List.map V.ref us)) ∧ us.length = i ∧ Paired (fun u tv => H4 u = some (.tup (TieV.tup tv))) us tl ∧ (∀ t ∈ tl, t.Ok nm) ∧ tl.map TieV.spot = ((ys.map (keyBack H1)).take i).map (spotK nm) ∧ Paired (RowOf nm) tl (((ys.map (keyBack H1)).take i).map fun k => tieRow (k, (valV kvs k).getD .non)) ∧ Src H4 sa ca ∧ Kp3 sa ca ro H3 H4)
        ⟨none, none, none, none, [], [], rfl, hro3, rfl, .nil, (fun t ht => (List.not_mem_nil ht).elim), rfl, .nil, S3, Kp3.refl H3⟩ (fun i σ H4 _ ⟨_, _, _, _, _, _, _, _, _, _, _, _, _, _, h⟩ => SqL.of (h _ _ hp3 npsc.1 npsc.2 npr)) ?_ ?_
      · rintro i y σ H4 hi ⟨v4, v5, v6, v7, us, tl, rfl, hro4, hul, pu, hok, hsp, prw, S4, kp4⟩
        have hil := (List.getElem?_eq_some_iff.mp hi).1
        have hym := List.mem_of_getElem? hi
        obtain ⟨b1, i1, j1, x1, kd1, rfl, hb1, hmem, hij, hjn, hkw, hx1, hx2⟩ := kly.tie ti hym
        obtain ⟨b1', k1, eb, hbk1⟩ := hbk _ (pm.subset hym)
        cases eb
        obtain ⟨cs0, l0, m0, t0, S30⟩ := id S3
        have nb1 : b1 ≠ sa := ne_of hb1 S30.ds (by intro z; cases z)
        have nb2 : b1 ≠ ca := ne_of hb1 S30.dc (by intro z; cases z)
        have nb3 : b1 ≠ ro := ne_of hb1 hro3 (by intro z; cases z)
        have ek : keyBack H1 (V.ref b1) = [Sum.inl (i1 : Int), Sum.inl (j1 : Int), Sum.inr kd1] := by
          have q1 := (kp3 _ _ (s2 _ _ hbk1) nb1 nb2).symm.trans hb1
          rw [keyBack_of hbk1]
          have q2 : List.map kV k1 = List.map kV [Sum.inl (i1 : Int), Sum.inl (j1 : Int), Sum.inr kd1] := by
            have := Option.some.inj q1
            injection this
          have q3 := congrArg (List.map keyOf) q2
          rw [List.map_map, List.map_map] at q3
          have idk : (keyOf ∘ kV : Key → Key) = id := funext fun z => keyOf_kV z
          rw [idk, List.map_id, List.map_id] at q3
          exact q3
        obtain ⟨x, hx⟩ : ∃ x, nm[i1]? = some x := ⟨_, List.getElem?_eq_getElem (by omega)⟩
        obtain ⟨y, hy⟩ : ∃ x, nm[j1]? = some x := ⟨_, List.getElem?_eq_getElem (by omega)⟩
        have hxy : x ≠ y := fun e => by
          subst e
          have := (List.getElem?_inj (List.getElem?_eq_some_iff.mp hx).1 W.nn).mp (hx.trans hy.symm)
          omega
        have nar : a ≠ ro := fun e => by subst e; rw [W.hn] at hro; cases hro
        have nwr : wd ≠ ro := fun e => by subst e; rw [W.d] at hro; cases hro
        have ntr : t ≠ ro := fun e => by subst e; rw [W.ht] at hro; cases hro
        have hn4 := kp4 _ _ W3.hn W.as.1 W.as.2 nar
        have hwd4 := kp4 _ _ W3.d W.ds.1 W.ds.2 nwr
        have ht4 := kp4 _ _ W3.ht W.ts.1 W.ts.2 ntr
        refine ⟨b1, _, rfl, SqT.of (kp4 _ _ hb1 nb1 nb2 nb3), rfl, _, _, rfl, _, _, rfl, _, _, rfl, rfl, ?_⟩
        refine ⟨_, rfl, _, rfl, a, _, _, V.str x, rfl, rfl, SqL.of hn4, atI_nat (by rw [List.getElem?_map, hx]; rfl), _, rfl, _, rfl, a, _, _, V.str y, rfl, rfl, SqL.of hn4, atI_nat (by rw [List.getElem?_map, hy]; rfl), (by show 2 ≤ sizeLine; decide), fun l1 hl1 => ?_⟩
        have s5 := same_new (o := .lst [V.str x, V.str y]) hl1
        have hl5 : (upd H4 l1 (.lst [V.str x, V.str y])) l1 = some (.lst [V.str x, V.str y]) := upd_same
        have S5 := S4.same s5
        have nl1 := S4.ne hl1
        generalize upd H4 l1 (.lst [V.str x, V.str y]) = H5 at *
        refine ⟨_, rfl, sa, ca, 2, rfl, S5, by decide, by decide, fun kk H6 k0 k1' S6 kp6 => ⟨_, _, rfl, rfl, .inl (by decide), _, _, rfl, rfl, ?_⟩⟩
        refine ⟨_, rfl, l1, _, rfl, ?_, rfl, SqL.of (kp6 _ _ hl5 nl1.1 nl1.2), fun en hen => ?_⟩
        · show (1 : Int) - 2 * kk ≠ 0
          omega
        have ends : ∃ x' y', stepV [V.str x, V.str y] ((some ((1 : Int) - 2 * kk)).getD 1) = [V.str x', V.str y'] ∧ ((x' = x ∧ y' = y) ∨ (x' = y ∧ y' = x)) := by
          have : kk = 0 ∨ kk = 1 := by omega
          rcases this with rfl | rfl
          · exact ⟨x, y, step_up _ _, .inl ⟨rfl, rfl⟩⟩
          · exact ⟨y, x, step_down _ _, .inr ⟨rfl, rfl⟩⟩
        obtain ⟨x', y', est, hor⟩ := ends
        rw [est]
        have s7 := same_new (o := .lst [V.str x', V.str y']) hen
        have hen7 : (upd H6 en (.lst [V.str x', V.str y'])) en = some (.lst [V.str x', V.str y']) := upd_same
        have S7 := S6.same s7
        have kp47 : Kp sa ca H4 (upd H6 en (.lst [V.str x', V.str y'])) := ((Kp.same s5).trans kp6).trans (Kp.same s7)
        generalize upd H6 en (.lst [V.str x', V.str y']) = H7 at *
        have hro7 := kp47 _ _ hro4 nrs nrc
        have hwd7 := kp47 _ _ hwd4 W.ds.1 W.ds.2
        have ht7 := kp47 _ _ ht4 W.ts.1 W.ts.2
        have hval : valV kvs [Sum.inl (i1 : Int), Sum.inl (j1 : Int), Sum.inr kd1] = some (V.int (x1 : Int)) := val_of_mem ti.nd hmem
        refine ⟨_, rfl, .inl ⟨rfl, _, SqL.of hro7⟩, _, rfl, en, _, _, V.str x', rfl, rfl, SqL.of hen7, atI_nat (j := 0) rfl, _, rfl, en, _, _, V.str y', rfl, rfl, SqL.of hen7, atI_nat (j := 1) rfl, _, rfl, _, rfl, wd, _, rfl, dg_ties hwd7, _, rfl, _, rfl, _, rfl, (by show 3 ≤ sizeLine; decide), fun u hu' => ?_⟩
        have s8 := same_new (o := .tup [V.int (i1 : Int), V.int (j1 : Int), V.str kd1]) hu'
        have hu8 : (upd H7 u (.tup [V.int (i1 : Int), V.int (j1 : Int), V.str kd1])) u = some (.tup (List.map kV [Sum.inl (i1 : Int), Sum.inl (j1 : Int), Sum.inr kd1])) := upd_same
        generalize upd H7 u (.tup [V.int (i1 : Int), V.int (j1 : Int), V.str kd1]) = H8 at *
        refine ⟨t, _, rfl, (by rw [← hval]; exact DGet.t (s8 _ _ ht7) hu8), (by show 4 ≤ sizeLine; decide), fun o ho => ?_⟩
        have s9 := same_new (o := .tup [V.str x', V.str y', V.str kd1, V.int (x1 : Int)]) ho
        have ho9 : (upd H8 o (.tup [V.str x', V.str y', V.str kd1, V.int (x1 : Int)])) o = some (.tup (TieV.tup ⟨x', y', kd1, (x1 : Int)⟩)) := upd_same
        have kp79 : Kp sa ca H4 (upd H8 o (.tup [V.str x', V.str y', V.str kd1, V.int (x1 : Int)])) := kp47.trans (Kp.same (s8.trans s9))
        have S9 := S7.same (s8.trans s9)
        have hro9 := s9 _ _ (s8 _ _ hro7)
        generalize upd H8 o (.tup [V.str x', V.str y', V.str kd1, V.int (x1 : Int)]) = H9 at *
        refine ⟨ro, _, _, rfl, rfl, hro9, Evl.sz_lt (by rw [List.length_map]; omega), ?_⟩
        obtain ⟨cs4, l4, m4, t4, S40⟩ := id S4
        have nor : o ≠ ro := ne_of ho9 hro9 (by intro z; cases z)
        refine ⟨_, _, _, _, us ++ [o], tl ++ [⟨x', y', kd1, (x1 : Int)⟩], rfl, by rw [upd_same, List.map_append]; rfl, by simp [hul], ?_, ?_, ?_, ?_, S9.upd nrs nrc, fun b' o' e' h1 h2 h3 => ?_⟩
        · refine paired_snoc (Paired.mapP pu fun u' tv h => ?_) (by rw [upd_ne nor]; exact ho9)
          rw [upd_ne (ne_of h hro4 (by intro z; cases z))]
          exact kp79 _ _ h (ne_of h S40.ds (by intro z; cases z)) (ne_of h S40.dc (by intro z; cases z))
        · intro tv htv
          rcases List.mem_append.mp htv with z | z
          · exact hok tv z
          · rw [List.mem_singleton] at z
            subst z
            have mx := List.mem_of_getElem? hx
            have my := List.mem_of_getElem? hy
            rcases hor with ⟨rfl, rfl⟩ | ⟨rfl, rfl⟩
            · exact ⟨mx, my, hxy, hkw, by show (1 : Int) ≤ (x1 : Int); omega⟩
            · exact ⟨my, mx, hxy.symm, hkw, by show (1 : Int) ≤ (x1 : Int); omega⟩
        · have e3 : (ys.map (keyBack H1))[i]? = some [Sum.inl (i1 : Int), Sum.inl (j1 : Int), Sum.inr kd1] := by rw [List.getElem?_map, hi]; exact congrArg some ek
          rw [List.take_add_one, e3, List.map_append, List.map_append, hsp]
          have e4 : TieV.spot ⟨x', y', kd1, (x1 : Int)⟩ = spotK nm [Sum.inl (i1 : Int), Sum.inl (j1 : Int), Sum.inr kd1] := by
            rw [spotK_at hx hy]
            show [Sum.inr (minS x' y'), Sum.inr (maxS x' y'), Sum.inr kd1] = _
            rcases hor with ⟨rfl, rfl⟩ | ⟨rfl, rfl⟩
            · rfl
            · rw [(mm_comm hxy).1, (mm_comm hxy).2]
          rw [List.map_singleton, e4]
          rfl
        · have e3 : (ys.map (keyBack H1))[i]? = some [Sum.inl (i1 : Int), Sum.inl (j1 : Int), Sum.inr kd1] := by rw [List.getElem?_map, hi]; exact congrArg some ek
          rw [List.take_add_one, e3, List.map_append]
          refine paired_snoc prw ?_
          show RowOf nm ⟨x', y', kd1, (x1 : Int)⟩ (tieRow ([Sum.inl (i1 : Int), Sum.inl (j1 : Int), Sum.inr kd1], (valV kvs [Sum.inl (i1 : Int), Sum.inl (j1 : Int), Sum.inr kd1]).getD .non))
          rw [hval]
          show RowOf nm ⟨x', y', kd1, (x1 : Int)⟩ ⟨(i1 : Int).toNat, (j1 : Int).toNat, kd1, (x1 : Int)⟩
          rw [Int.toNat_natCast, Int.toNat_natCast]
          rcases hor with ⟨rfl, rfl⟩ | ⟨rfl, rfl⟩
          · exact ⟨i1, j1, hx, hy, by show i1 = _; omega, by show j1 = _; omega, rfl, rfl⟩
          · exact ⟨j1, i1, hy, hx, by show i1 = _; omega, by show j1 = _; omega, rfl, rfl⟩
        · rw [upd_ne h3]
          exact kp79 _ _ (kp4 _ _ e' h1 h2 h3) h1 h2
      · rintro σ H4 ⟨v4, v5, v6, v7, us, tl, rfl, hro4, hul, pu, hok, hsp, prw, S4, kp4⟩
        rw [List.take_of_length_le (by simp)] at hsp prw
        refine ⟨v4, v5, v6, v7, tl, rfl, ⟨us, hro4, pu⟩, hok, ?_, ⟨_, prw, rows_perm ti.nd hkk⟩, by rw [← Paired.length pu]; omega, S4, fun b' o' e' h1 h2 => ?_⟩
        · rw [hsp]
          refine spots_nd W.nn (fun k hk' => ?_) (hkk.nodup_iff.mpr ti.nd)
          obtain ⟨kv, hkv, rfl⟩ := List.mem_map.mp (hkk.subset hk')
          exact ti.key kv hkv
        · exact kp4 _ _ (kp03 _ _ e' h1 h2) h1 h2 (ne_of_none e' hro)
    rintro σ H2 ⟨v4, v5, v6, v7, tl, rfl, hti, hok, hnd, ⟨rw0, prw0, pmw0⟩, hlen, S2, kp2⟩
    have W2 := W.kp kp2
    refine ⟨_, rfl, _, rfl, wd, _, rfl, dg_colours W2.d, a, b, _, _, rfl, SqL.of W2.hn, SqL.of W2.hc, by rw [List.length_map, List.length_map, W.cn], by rw [List.length_map]; exact hnl, fun pl ts H3 hpl0 htl hpl hts s3 => ?_⟩
    refine ⟨_, rfl, fun p dx hp0 hdx0 ne => ?_⟩
    have s4 : Same H3 (upd (upd H3 dx (.own p)) p (.ins C dx [])) := (same_new hdx0).trans (same_new (by rw [upd_ne ne.symm]; exact hp0))
    have hp4 : (upd (upd H3 dx (.own p)) p (.ins C dx [])) p = some (.ins C dx []) := upd_same
    generalize upd (upd H3 dx (.own p)) p (.ins C dx []) = H4 at *
    have s3 : Same H2 H3 := s3
    have s34 := s3.trans s4
    have S4 := S2.same s34
    refine ⟨p, dx, pl, ro, nm, cl, tl, rfl, hp4, ⟨ts, s4 _ _ hpl, by rw [htl, List.length_map], fun i t' ht' => ?_⟩, ?_, W.n1, hnl, W.nn, W.nw, W.cw, hok, hnd, (by omega), fun q dc r wb rs rw' H5 hq0 hdc0 hr0' hwb0 web pr pm srt bt => ⟨rfl, ?_⟩⟩
    · obtain ⟨x, y, hx, hy, he⟩ := hts i t' ht'
      rw [List.getElem?_map] at hx hy
      obtain ⟨x', hx', rfl⟩ := Option.map_eq_some_iff.mp hx
      obtain ⟨y', hy', rfl⟩ := Option.map_eq_some_iff.mp hy
      exact ⟨x', y', hx', hy', s4 _ _ he⟩
    · obtain ⟨us, h1, h2⟩ := hti
      exact ⟨us, s34 _ _ h1, Paired.mapP h2 fun u tv e => s34 _ _ e⟩
    · have hp00 : H p = none := kp2.free S2 (s3.free hp0)
      have hq00 : H q = none := kp2.free S2 (s34.free hq0)
      refine k p q dc r wb rs H5 hp00 hq00 (kp2.free S2 (s34.free hdc0)) (kp2.free S2 (s34.free hr0')) (kp2.free S2 (s34.free hwb0)) web ⟨pm.trans (by rw [rows_uniq W.nn pr prw0]; exact pmw0), srt⟩ ?_ fun b' o' e' h1 h2 => bt _ _ (s34 _ _ (kp2 _ _ e' h1 h2)) (ne_of_none e' hp00)
      obtain ⟨cs, l, m', t', S0⟩ := S4
      exact ⟨cs, l, m', t', ⟨bt _ _ S0.ds (ne_of S0.ds hp4 (by intro z; cases z)), bt _ _ S0.dc (ne_of S0.dc hp4 (by intro z; cases z)), S0.nn, S0.len, S0.l0, S0.m0, S0.m1, S0.t0⟩⟩
end
end Nm
set_option autoImplicit true
set_option maxRecDepth 100000
set_option maxHeartbeats 8000000
/-! copies of a web: mathematics -/
namespace Nm
open PySem L2
def pN (k : Nat) : Str := ("p" : Str) ++ ((toString (k : Int) : String) : Str)
theorem pN_w : ∀ k < 240, isWordB (pN k) = true := by decide +kernel
theorem pN_len : ∀ k < 240, (pN k).length ≤ 100 := by decide +kernel
theorem pN_nd : ((List.range 240).map pN).Nodup := by decide +kernel
theorem pN_inj {a b : Nat} (ha : a < 240) (hb : b < 240) (e : pN a = pN b) : a = b := by
  have h1 : ((List.range 240).map pN)[a]? = some (pN a) := by rw [List.getElem?_map, List.getElem?_range ha]; rfl
  have h2 : ((List.range 240).map pN)[b]? = some (pN a) := by rw [List.getElem?_map, List.getElem?_range hb, e]; rfl
  exact (List.getElem?_inj (List.getElem?_eq_some_iff.mp h1).1 pN_nd).mp (h1.trans h2.symm)
/-- the first c names of copies -/
def nmT (c : Nat) : List Str := (List.range c).map pN
theorem nmT_len (c : Nat) : (nmT c).length = c := by unfold nmT; rw [List.length_map, List.length_range]
theorem nmT_at {c k : Nat} (h : k < c) : (nmT c)[k]? = some (pN k) := by unfold nmT; rw [List.getElem?_map, List.getElem?_range h]; rfl
theorem nmT_nd {c : Nat} (h : c ≤ 240) : (nmT c).Nodup := by
  refine List.Sublist.nodup ?_ pN_nd
  unfold nmT
  exact (List.range_sublist.mpr h).map _
theorem nmT_w {c : Nat} (h : c ≤ 240) : ∀ x ∈ nmT c, isWordB x = true := fun x hx => by
  obtain ⟨k, hk, rfl⟩ := List.mem_map.mp hx
  exact pN_w k (by have := List.mem_range.mp hk; omega)
theorem nmT_step (c : Nat) : nmT (c + 1) = nmT c ++ [pN c] := by unfold nmT; rw [List.range_succ, List.map_append]; rfl
/-- the colour of each copy -/
def clT (m : Nat) (cl : List Str) (c : Nat) : List Str := (List.range c).map fun k => (cl[k / m]?).getD ""
theorem clT_len (m : Nat) (cl : List Str) (c : Nat) : (clT m cl c).length = c := by unfold clT; rw [List.length_map, List.length_range]
theorem clT_at {m : Nat} {cl : List Str} {c k : Nat} (h : k < c) : (clT m cl c)[k]? = some ((cl[k / m]?).getD "") := by unfold clT; rw [List.getElem?_map, List.getElem?_range h]; rfl
theorem dm {m i j : Nat} (h : j < m) : (i * m + j) / m = i ∧ (i * m + j) % m = j := by
  refine ⟨?_, ?_⟩
  · rw [Nat.mul_comm, Nat.mul_add_div (by omega), Nat.div_eq_of_lt h, Nat.add_zero]
  · rw [Nat.mul_comm, Nat.mul_add_mod, Nat.mod_eq_of_lt h]
theorem clT_w {m : Nat} {cl : List Str} {c : Nat} (h : ∀ x ∈ cl, isWordB x = true) (hc : c ≤ cl.length * m) : ∀ x ∈ clT m cl c, isWordB x = true := fun x hx => by
  obtain ⟨k, hk, rfl⟩ := List.mem_map.mp hx
  have hk := List.mem_range.mp hk
  have hkm : k / m < cl.length := Nat.div_lt_of_lt_mul (by rw [Nat.mul_comm]; omega)
  show isWordB ((cl[k / m]?).getD "") = true
  rw [List.getElem?_eq_getElem hkm]
  exact h _ (List.getElem_mem hkm)
/-- the dict that leads the copies down -/
def foldK (m : Nat) (nm : List Str) (c : Nat) : List (Key × V) := (List.range c).map fun k => (Sum.inr (pN k), V.str ((nm[k / m]?).getD ""))
theorem foldK_keys (m : Nat) (nm : List Str) (c : Nat) : (foldK m nm c).map (·.1) = (nmT c).map Sum.inr := by
  unfold foldK nmT
  rw [List.map_map, List.map_map]
  rfl
theorem foldK_step (m : Nat) (nm : List Str) (c : Nat) : foldK m nm (c + 1) = foldK m nm c ++ [(Sum.inr (pN c), V.str ((nm[c / m]?).getD ""))] := by
  unfold foldK
  rw [List.range_succ, List.map_append]
  rfl
theorem foldK_len (m : Nat) (nm : List Str) (c : Nat) : (foldK m nm c).length = c := by unfold foldK; rw [List.length_map, List.length_range]
theorem foldK_nd {m c : Nat} {nm : List Str} (h : c ≤ 240) : ((foldK m nm c).map (·.1)).Nodup := by
  rw [foldK_keys]
  exact List.Pairwise.map _ (fun a b hab e => hab (Sum.inr.inj e)) (nmT_nd h)
theorem foldK_new {m c : Nat} {nm : List Str} (h : c < 240) : valV (foldK m nm c) (Sum.inr (pN c)) = none := by
  refine val_none_of fun hm => ?_
  rw [foldK_keys] at hm
  obtain ⟨x, hx, e⟩ := List.mem_map.mp hm
  cases e
  obtain ⟨k, hk, e⟩ := List.mem_map.mp hx
  have hk := List.mem_range.mp hk
  have := pN_inj (by omega) h e
  omega
/-- the dict of the first copies -/
def fcK (m : Nat) (nm : List Str) (i : Nat) : List (Key × V) := (nm.zipIdx.take i).map fun p => (Sum.inr p.1, V.int ((p.2 * m : Nat) : Int))
theorem fc_step {m : Nat} {nm : List Str} {i : Nat} {x : Str} (h : nm[i]? = some x) : fcK m nm (i + 1) = fcK m nm i ++ [(Sum.inr x, V.int ((i * m : Nat) : Int))] := by
  unfold fcK
  have e : nm.zipIdx[i]? = some (x, i) := by simp [h]
  rw [List.take_add_one, e, List.map_append]
  rfl
theorem fc_keys (m : Nat) (nm : List Str) (i : Nat) : (fcK m nm i).map (·.1) = (nm.take i).map Sum.inr := by
  unfold fcK
  rw [List.map_map]
  have : nm.take i = (nm.zipIdx.take i).map (·.1) := by rw [List.map_take]; simp
  rw [this, List.map_map]
  rfl
theorem fc_new {m : Nat} {nm : List Str} (nd : nm.Nodup) {i : Nat} {x : Str} (h : nm[i]? = some x) : valV (fcK m nm i) (Sum.inr x) = none := by
  refine val_none_of fun hm => ?_
  rw [fc_keys] at hm
  obtain ⟨y, hy, e⟩ := List.mem_map.mp hm
  cases e
  obtain ⟨j, hj⟩ := List.getElem?_of_mem hy
  rw [List.getElem?_take] at hj
  split at hj
  · rename_i hji
    have := (List.getElem?_inj (List.getElem?_eq_some_iff.mp hj).1 nd).mp (hj.trans h.symm)
    omega
  · cases hj
theorem fc_at {m : Nat} {nm : List Str} (nd : nm.Nodup) {i : Nat} {x : Str} (h : nm[i]? = some x) : valV (fcK m nm nm.length) (Sum.inr x) = some (V.int ((i * m : Nat) : Int)) := by
  refine val_of_mem ?_ ?_
  · rw [fc_keys, List.take_length]
    exact List.Pairwise.map _ (fun a b hab e => hab (Sum.inr.inj e)) nd
  · unfold fcK
    rw [List.take_of_length_le (by simp)]
    refine List.mem_map.mpr ⟨(x, i), ?_, rfl⟩
    rw [List.mem_zipIdx_iff_getElem?]
    exact h
/-! ### the ties of the copies -/
/-- where a copy is turned to -/
def toT (m u : Nat) (t : Int) : Nat := (((u : Int) + t) % (m : Int)).toNat
theorem toT_lt {m u : Nat} {t : Int} (h : 1 ≤ m) : toT m u t < m := by
  unfold toT
  have h1 := Int.emod_nonneg ((u : Int) + t) (b := (m : Int)) (by omega)
  have h2 := Int.emod_lt_of_pos ((u : Int) + t) (b := (m : Int)) (by omega)
  omega
theorem toT_int {m u : Nat} {t : Int} (h : 1 ≤ m) : ((toT m u t : Nat) : Int) = ((u : Int) + t) % (m : Int) := by
  unfold toT
  exact Int.toNat_of_nonneg (Int.emod_nonneg _ (by omega))
/-- the k-th tie's row -/
def cRow (m : Nat) (rs : List RowV) (ts : List Int) (k : Nat) : RowV := ⟨((rs[k / m]?).getD ⟨0, 0, "", 0⟩).i * m + k % m, ((rs[k / m]?).getD ⟨0, 0, "", 0⟩).j * m + toT m (k % m) ((ts[k / m]?).getD 0), ((rs[k / m]?).getD ⟨0, 0, "", 0⟩).kd, ((rs[k / m]?).getD ⟨0, 0, "", 0⟩).w⟩
def cTie (m : Nat) (rs : List RowV) (ts : List Int) (k : Nat) : TieV := ⟨pN (cRow m rs ts k).i, pN (cRow m rs ts k).j, (cRow m rs ts k).kd, (cRow m rs ts k).w⟩
def cRows (m : Nat) (rs : List RowV) (ts : List Int) (c : Nat) : List RowV := (List.range c).map (cRow m rs ts)
def cTies (m : Nat) (rs : List RowV) (ts : List Int) (c : Nat) : List TieV := (List.range c).map (cTie m rs ts)
theorem cTies_step (m : Nat) (rs : List RowV) (ts : List Int) (c : Nat) : cTies m rs ts (c + 1) = cTies m rs ts c ++ [cTie m rs ts c] := by unfold cTies; rw [List.range_succ, List.map_append]; rfl
theorem cTies_len (m : Nat) (rs : List RowV) (ts : List Int) (c : Nat) : (cTies m rs ts c).length = c := by unfold cTies; rw [List.length_map, List.length_range]
theorem cRow_at {m i j : Nat} {rs : List RowV} {ts : List Int} {r : RowV} {t : Int} (hj : j < m) (hr : rs[i]? = some r) (ht : ts[i]? = some t) : cRow m rs ts (i * m + j) = ⟨r.i * m + j, r.j * m + toT m j t, r.kd, r.w⟩ := by
  unfold cRow
  rw [(dm hj).1, (dm hj).2, hr, ht]
  rfl
/-- rows that may stand in a web of n places -/
structure RowsFit (n : Nat) (rs : List RowV) : Prop where
  lt : ∀ r ∈ rs, r.i < r.j ∧ r.j < n
  kw : ∀ r ∈ rs, isWordB r.kd = true
  w1 : ∀ r ∈ rs, 1 ≤ r.w
  nd : (rs.map fun r => (r.i, r.j, r.kd)).Nodup
theorem rowsFit_of {n m : Nat} {kvs : List (List Key × V)} {rs : List RowV} (T : Ties n m kvs) (h : RowsOf kvs rs) : RowsFit n rs := by
  have each : ∀ r ∈ rs, ∃ kv ∈ kvs, r = tieRow kv ∧ ∃ (i j : Nat) (kd : Str) (x : Nat), kv = ([Sum.inl (i : Int), Sum.inl (j : Int), Sum.inr kd], V.int (x : Int)) ∧ i < j ∧ j < n ∧ isWordB kd = true ∧ 1 ≤ x := fun r hr => by
    obtain ⟨kv, hm, rfl⟩ := List.mem_map.mp (h.1.mem_iff.mp hr)
    obtain ⟨i, j, kd, e, h1, h2, h3⟩ := T.key kv hm
    obtain ⟨x, ex, h4, _⟩ := T.val kv hm
    exact ⟨kv, hm, rfl, i, j, kd, x, by rw [← e, ← ex], h1, h2, h3, h4⟩
  refine ⟨fun r hr => ?_, fun r hr => ?_, fun r hr => ?_, ?_⟩
  · obtain ⟨kv, _, rfl, i, j, kd, x, rfl, h1, h2, _⟩ := each r hr
    exact ⟨by show (i : Int).toNat < (j : Int).toNat; simpa using h1, by show (j : Int).toNat < n; simpa using h2⟩
  · obtain ⟨kv, _, rfl, i, j, kd, x, rfl, _, _, h3, _⟩ := each r hr
    exact h3
  · obtain ⟨kv, _, rfl, i, j, kd, x, rfl, _, _, _, h4⟩ := each r hr
    show (1 : Int) ≤ (x : Int)
    omega
  · rw [(h.1.map _).nodup_iff, List.map_map]
    have nd := T.nd
    rw [List.Nodup, List.pairwise_map] at nd ⊢
    refine nd.imp_of_mem fun {a b} ha hb hab e => hab ?_
    obtain ⟨i, j, kd, ea, _⟩ := T.key a ha
    obtain ⟨i', j', kd', eb, _⟩ := T.key b hb
    obtain ⟨x, exa, _⟩ := T.val a ha
    obtain ⟨y, exb, _⟩ := T.val b hb
    have ea' : a = ([Sum.inl (i : Int), Sum.inl (j : Int), Sum.inr kd], V.int (x : Int)) := by rw [← ea, ← exa]
    have eb' : b = ([Sum.inl (i' : Int), Sum.inl (j' : Int), Sum.inr kd'], V.int (y : Int)) := by rw [← eb, ← exb]
    rw [ea', eb'] at e
    have e2 : ((i : Int).toNat, (j : Int).toNat, kd) = ((i' : Int).toNat, (j' : Int).toNat, kd') := e
    simp only [Int.toNat_natCast, Prod.mk.injEq] at e2
    rw [ea, eb, e2.1, e2.2.1, e2.2.2]
theorem row_key_inj {r r' : RowV} (e : rowK r.key = rowK r'.key) : r = r' := by
  cases r
  cases r'
  unfold rowK RowV.key at e
  simp only [List.cons.injEq, Sum.inl.injEq, Sum.inr.injEq, and_true] at e
  obtain ⟨e1, e2, e3, e4⟩ := e
  have : _ = _ := Int.ofNat.inj e1
  have : _ = _ := Int.ofNat.inj e2
  subst e3 e4
  simp_all
/-- the same rows in order are the same list -/
theorem rows_one {rs rs' rw : List RowV} (p : rs.Perm rw) (p' : rs'.Perm rw) (s : rs.Pairwise (fun x y => lexK (rowK y.key) (rowK x.key) = false)) (s' : rs'.Pairwise (fun x y => lexK (rowK y.key) (rowK x.key) = false)) : rs = rs' := by
  have h := sorted_one (l := rs.map fun r => rowK r.key) (m := rs'.map fun r => rowK r.key) (List.pairwise_map.mpr s) (List.pairwise_map.mpr s') ((p.trans p'.symm).map _)
  exact (List.map_inj_right fun a b e => row_key_inj e).mp h
end Nm
set_option autoImplicit true
set_option maxRecDepth 100000
set_option maxHeartbeats 8000000
/-! the ties of the copies may stand -/
namespace Nm
open PySem L2
section
variable {N m k : Nat} {rs : List RowV} {ts : List Int}
theorem cRow_fit (F : RowsFit N rs) (hm : 1 ≤ m) (hk : k < rs.length * m) : ∃ r, rs[k / m]? = some r ∧ (cRow m rs ts k).i < (cRow m rs ts k).j ∧ (cRow m rs ts k).j < N * m ∧ (cRow m rs ts k).i / m = r.i ∧ (cRow m rs ts k).j / m = r.j ∧ (cRow m rs ts k).i % m = k % m ∧ (cRow m rs ts k).kd = r.kd ∧ (cRow m rs ts k).w = r.w := by
  have hkm : k / m < rs.length := Nat.div_lt_of_lt_mul (by rw [Nat.mul_comm]; omega)
  have hu : k % m < m := Nat.mod_lt _ (by omega)
  have hv : toT m (k % m) ((ts[k / m]?).getD 0) < m := toT_lt hm
  obtain ⟨r, hr⟩ : ∃ r, rs[k / m]? = some r := ⟨_, List.getElem?_eq_getElem hkm⟩
  obtain ⟨h1, h2⟩ := F.lt r (List.mem_of_getElem? hr)
  have e : cRow m rs ts k = ⟨r.i * m + k % m, r.j * m + toT m (k % m) ((ts[k / m]?).getD 0), r.kd, r.w⟩ := by
    unfold cRow
    rw [hr]
    rfl
  rw [e]
  generalize toT m (k % m) ((ts[k / m]?).getD 0) = v at *
  have a1 : (r.i + 1) * m ≤ r.j * m := Nat.mul_le_mul_right m h1
  have a2 : (r.j + 1) * m ≤ N * m := Nat.mul_le_mul_right m h2
  rw [Nat.add_mul, Nat.one_mul] at a1 a2
  refine ⟨r, hr, ?_, ?_, (dm hu).1, (dm hv).1, (dm hu).2, rfl, rfl⟩
  · show r.i * m + k % m < r.j * m + v
    omega
  · show r.j * m + v < N * m
    omega
theorem cTie_ok (F : RowsFit N rs) (hm : 1 ≤ m) (hN : N * m ≤ 240) (hk : k < rs.length * m) : (cTie m rs ts k).Ok (nmT (N * m)) := by
  obtain ⟨r, hr, h1, h2, _, _, _, h6, h7⟩ := cRow_fit (ts := ts) F hm hk
  have hrm := List.mem_of_getElem? hr
  refine ⟨List.mem_of_getElem? (nmT_at (Nat.lt_trans h1 h2)), List.mem_of_getElem? (nmT_at h2), fun e => ?_, ?_, ?_⟩
  · have := pN_inj (by omega) (by omega) e
    omega
  · show isWordB (cRow m rs ts k).kd = true
    rw [h6]
    exact F.kw r hrm
  · show 1 ≤ (cRow m rs ts k).w
    rw [h7]
    exact F.w1 r hrm
theorem cTies_ok (F : RowsFit N rs) (hm : 1 ≤ m) (hN : N * m ≤ 240) : ∀ t ∈ cTies m rs ts (rs.length * m), t.Ok (nmT (N * m)) := fun t ht => by
  obtain ⟨k, hk, rfl⟩ := List.mem_map.mp ht
  exact cTie_ok F hm hN (List.mem_range.mp hk)
theorem cTies_rows (F : RowsFit N rs) (hm : 1 ≤ m) : Paired (RowOf (nmT (N * m))) (cTies m rs ts (rs.length * m)) (cRows m rs ts (rs.length * m)) := by
  have : ∀ c, c ≤ rs.length * m → Paired (RowOf (nmT (N * m))) (cTies m rs ts c) (cRows m rs ts c) := fun c hc => by
    induction c with
    | zero => exact .nil
    | succ c ih =>
      unfold cTies cRows at *
      rw [List.range_succ, List.map_append, List.map_append]
      refine paired_snoc (ih (by omega)) ?_
      obtain ⟨r, hr, h1, h2, _⟩ := cRow_fit (k := c) (ts := ts) F hm (by omega)
      exact ⟨(cRow m rs ts c).i, (cRow m rs ts c).j, nmT_at (Nat.lt_trans h1 h2), nmT_at h2, (Nat.min_eq_left (Nat.le_of_lt h1)).symm, (Nat.max_eq_right (Nat.le_of_lt h1)).symm, rfl, rfl⟩
  exact this _ (Nat.le_refl _)
def rKey (r : RowV) : List Key := [Sum.inl (r.i : Int), Sum.inl (r.j : Int), Sum.inr r.kd]
theorem cTies_spots (F : RowsFit N rs) (hm : 1 ≤ m) (hN : N * m ≤ 240) : ((cTies m rs ts (rs.length * m)).map TieV.spot).Nodup := by
  have e : (cTies m rs ts (rs.length * m)).map TieV.spot = ((cRows m rs ts (rs.length * m)).map rKey).map (spotK (nmT (N * m))) := by
    unfold cTies cRows
    rw [List.map_map, List.map_map, List.map_map]
    refine List.map_congr_left fun k hk => ?_
    obtain ⟨r, hr, h1, h2, _⟩ := cRow_fit (k := k) (ts := ts) F hm (List.mem_range.mp hk)
    show TieV.spot (cTie m rs ts k) = spotK (nmT (N * m)) (rKey (cRow m rs ts k))
    unfold rKey
    rw [spotK_at (nmT_at (Nat.lt_trans h1 h2)) (nmT_at h2)]
    rfl
  rw [e]
  refine spots_nd (nmT_nd hN) (fun key hkey => ?_) ?_
  · obtain ⟨r', hr', rfl⟩ := List.mem_map.mp hkey
    obtain ⟨k, hk, rfl⟩ := List.mem_map.mp hr'
    obtain ⟨r, hr, h1, h2, _, _, _, h6, _⟩ := cRow_fit (k := k) (ts := ts) F hm (List.mem_range.mp hk)
    refine ⟨_, _, _, rfl, h1, by rw [nmT_len]; exact h2, ?_⟩
    rw [h6]
    exact F.kw r (List.mem_of_getElem? hr)
  · unfold cRows
    rw [List.map_map, List.Nodup, List.pairwise_map]
    refine List.Pairwise.imp_of_mem (fun {a b} ha hb hne e => hne ?_) (List.nodup_range)
    obtain ⟨r, hr, _, _, h3, h4, h5, h6, _⟩ := cRow_fit (k := a) (ts := ts) F hm (List.mem_range.mp ha)
    obtain ⟨r', hr', _, _, g3, g4, g5, g6, _⟩ := cRow_fit (k := b) (ts := ts) F hm (List.mem_range.mp hb)
    have e : rKey (cRow m rs ts a) = rKey (cRow m rs ts b) := e
    unfold rKey at e
    simp only [List.cons.injEq, Sum.inl.injEq, Sum.inr.injEq, and_true] at e
    obtain ⟨e1, e2, e3⟩ := e
    have e1 : (cRow m rs ts a).i = (cRow m rs ts b).i := by omega
    have e2 : (cRow m rs ts a).j = (cRow m rs ts b).j := by omega
    have i1 : r.i = r'.i := by rw [← h3, ← g3, e1]
    have i2 : r.j = r'.j := by rw [← h4, ← g4, e2]
    have i3 : r.kd = r'.kd := by rw [← h6, ← g6, e3]
    have i4 : a % m = b % m := by rw [← h5, ← g5, e1]
    have key : (rs.map fun r => (r.i, r.j, r.kd))[a / m]? = (rs.map fun r => (r.i, r.j, r.kd))[b / m]? := by
      rw [List.getElem?_map, List.getElem?_map, hr, hr']
      show some (r.i, r.j, r.kd) = some (r'.i, r'.j, r'.kd)
      rw [i1, i2, i3]
    have hlt : a / m < (rs.map fun r => (r.i, r.j, r.kd)).length := by
      rw [List.length_map]
      exact (List.getElem?_eq_some_iff.mp hr).1
    have i5 : a / m = b / m := (List.getElem?_inj hlt F.nd).mp key
    have d1 := Nat.div_add_mod a m
    have d2 := Nat.div_add_mod b m
    rw [i5, i4] at d1
    omega
end
end Nm
set_option autoImplicit true
set_option maxRecDepth 100000
set_option maxHeartbeats 4000000
/-! super().__init__(e) in the __init__ of an own exception over ValueError -/
namespace Nm
open PySem PySem.Spec PyProof.Rows L2
section
variable {X : Cx} {pins : List (Addr × Obj)} {σ : L2.St} {H : Hp} {s : Shared} {a C dx u : Addr} {fs : List (Str × V)} {E : Value → Shared → Prop} {A : Around}
/-- super().__init__, bound at u, called: nothing of it is told -/
theorem mw_call {us : List Value} {Q : Value → Shared → Prop} (T : OexC X.K C) (I : Inv X pins σ H s) (hu : s.heap.get? u = some (PySem.W.kxs_mw "ValueError.__init__" a)) (e : H a = some (exo a C (some dx))) (hl : us.length ≤ sizeLine)
    (h : ∀ s', Inv X pins σ H s' → Q .none s') : wpAny (model X.prog X.w) A (call (.ref u) us) Q E s := by
  obtain ⟨nm, q, N, bs, bm, sn, sub, ab, col, dd, k0, k1, k2, k3, k5, hC, hbm⟩ := T.cls
  obtain ⟨t1, ho⟩ := exo_at I.hok e
  have fin : ∀ h', (∀ b o, b ≠ a → s.heap.get? b = some o → h'.get? b = some o) → h'.get? a = some ({ cls := .ref C, dict := some dx, data := .fields #[.ref s.heap.objs.size, .none, .none, .none, .bool false, .none] } : Obj) → Inv X pins σ H { s with heap := h', toks := s.toks } := fun h' k e' => by
    have J := I.write (t' := s.toks) (x := a) (e := a) (o := exo a C (some dx)) (by rw [e]; exact True.intro) (.inl rfl) k ⟨_, e'⟩ (exo_ok e')
    have eu : upd H a (exo a C (some dx)) = H := by
      funext b
      by_cases hb : b = a
      · rw [hb, upd_same, e]
      · rw [upd_ne hb]
    rw [eu] at J
    exact J
  have hCC := I.kIn _ _ hC
  obtain ⟨hp, g, d, t, os⟩ := s
  refine wpAny_call (codeAny_of_tree ?_)
  show wpAny _ A.in1 (callAny (.ref u) ⟨us, []⟩) _ _ _
  simp only [callAny]
  refine wpAny_bind (wpAny_load hu ?_)
  simp only [PySem.W.kxs_mw, show (Value.type "method-wrapper" == Value.type "method" || Value.type "method-wrapper" == Value.type "builtin_function_or_method" || Value.type "method-wrapper" == Value.type "method-wrapper") = true by decide, if_true]
  refine PySem.W.KFB.if_so (by decide) ?_
  refine wpAny_bind (PySem.W.check_bound_init F.excBase_ValueError.toExcCallFacts hCC ho rfl ?_)
  refine wpAny_bind (wpAny_pure (wpAny_pure ?_))
  refine ⟨plainId_quiet F.excBase_ValueError.init.plain _, codeAny_builtin F.excBase_ValueError.initEntry ?_⟩
  exact PySem.W.exc_init_tree (cls := .ref C) (t0 := t1) (dv := some dx) (c2 := .none) (c3 := .none) (b4 := .bool false) ho hl fun h' k e' _ => h _ (fin h' k e')
end
/-- what the written part says of the class at C, its __init__ at f, the code at cda, the cell __class__ at cc -/
structure SupF (P : Program) (K : PySem.W.Frag) (C f cda cc : Addr) (fd : FuncData) (qual : Str) (st : Stmt) (a0 : Str) : Prop where
  oex : OexC K C
  lk : ∃ oc od kV doc pm an ct osl, fd = PySem.W.ksFn "__init__" qual (defArgs st) (defBody st) (defScope st) .none kV doc pm an (.ref cda) ct cc ∧ K.lookup f = some ⟨oc, od, .func fd, osl⟩
  hd : ∃ ar, ((defArgs st).posonlyargs ++ (defArgs st).args).head? = some ar ∧ ar.arg = a0
  code : ∃ ccl cdd vs ccs file tf, K.lookup cda = some ⟨ccl, cdd, .fields vs, ccs⟩ ∧ vs[2]? = some (.str file tf) ∧ ((P.main.file : Str) == file) = true
  recd : PySem.W.codeIn K (.ref cda) qual = true
  cell : ∃ cl cld csl, K.lookup cc = some ⟨cl, cld, .cell (some (.ref C)), csl⟩
  cd : ∃ cd, PySem.W.clsIn K C = some cd
  sub : PySem.W.mroIn K C (.ref C) = some true
  subV : PySem.W.subIn K (.ref C) (.type "ValueError") = some true
  sup : PySem.W.ks_superIn K C C "__init__" = some (some (.builtin "ValueError.__init__"))
  opq : PySem.W.nsIn K cStatics "thirdparty.any" = some none
  top : (P.main.scope.names.lookup ("super" : Str)).isSome = false
section
variable {X : Cx} {pins : List (Addr × Obj)} {σ : L2.St} {H : Hp} {s : Shared} {a C dx f cda cc L : Addr} {fd : FuncData} {qual a0 : Str} {st : Stmt}
/-- super().__init__(e ..), the code known -/
theorem sup_expr {body : List Stmt} {e : Expr} {es : List Expr} {ta : TA} {i : Nat} {p0 p1 p2 pos : Pos} {Q : Value → Shared → Prop} {pl : Sem Bool} (F : SupF X.prog X.K C f cda cc fd qual st a0)
    (hX : X.env = PySem.W.ksEnv qual (defScope st) L f (.ref cda) cc) (hms : X.mg "super" = none)
    (hks : (defScope st).names.lookup ("super" : Str) = some .globalImplicit) (hkc : (defScope st).names.lookup ("__class__" : Str) = some .free) (hN : X.N[i]? = some a0) (hka : (defScope st).names.lookup a0 = some .local) (ha : PA X (e :: es) ta)
    (I : Inv X pins σ H s) (hσ : σ[i]? = some (some (.ref a))) (hH : H a = some (exo a C (some dx)))
    (q : ta σ H fun vs H1 => vs.length ≤ 1000 ∧ H1 a = some (exo a C (some dx)) ∧ ∀ s', Inv X pins σ H1 s' → Q .none s')
    (he : starEach (e :: es) X.env = (false, eval e X.env) :: starEach es X.env := by rfl) (hpl : (backTo pos (starEach es X.env)).any (·.1) = false := by rfl)
    (hc : eval (.Call (.Attribute (.Call (.Name "super" p0) [] [] p1) "__init__" p2) (e :: es) [] pos) X.env = (do
      let ov ← attributeBase (.Call (.Name "super" p0) [] [] p1) "__init__" X.env (eval (.Call (.Name "super" p0) [] [] p1) X.env)
      standAt p2.atName
      let (f, first) ← holding [ov] (getMethod ov "__init__" pl)
      callWith pos f first (backTo pos (starEach (e :: es) X.env)) []) := by rfl) :
    _root_.PySem.wpAt (model X.prog X.w) X.A (.func body X.env) (eval (.Call (.Attribute (.Call (.Name "super" p0) [] [] p1) "__init__" p2) (e :: es) [] pos) X.env) Q X.xe s := by
  have KX := I.kIn
  obtain ⟨oc, od, kV, doc, pm, an, ct, osl, rfl, lk⟩ := F.lk
  obtain ⟨ar, har, hara⟩ := F.hd
  obtain ⟨ccl, cdd, vs, ccs, file, tf, hcode, hvs, hfile⟩ := F.code
  obtain ⟨cl, cld, csl, hcell⟩ := F.cell
  obtain ⟨cd, hcd⟩ := F.cd
  obtain ⟨oD, hD1, hD2⟩ : ∃ oD, s.heap.get? C = some oD ∧ oD.data = .cls cd := by
    unfold PySem.W.clsIn at hcd
    split at hcd
    · rename_i c d cd' sl ho
      cases hcd
      exact ⟨_, KX _ _ ho, rfl⟩
    · cases hcd
  obtain ⟨t1, ho⟩ := exo_at I.hok hH
  obtain ⟨mb, hmb, hmv⟩ := I.mod.blt
  have naC : a ≠ C := fun z => by
    rw [z, hD1] at ho
    cases ho
    cases hD2
  refine PySem.ks_wpAt_MethodCall (pl := pl) ?_ hc
  rw [hX]
  obtain ⟨hp, g, d, t, os⟩ := s
  refine PySem.ks_wpAt_super_base (env := PySem.W.ksEnv qual (defScope st) L f (.ref cda) cc) hks hkc (by decide) rfl (KX _ _ lk) rfl har rfl (KX _ _ hcode) rfl hvs hfile F.top ?_
  have hk : (defScope st).kind = .function := by
    have z := I.ok.kind
    rw [hX] at z
    exact z
  refine PySem.W.ks_loadName_global (env := PySem.W.ksEnv qual (defScope st) L f (.ref cda) cc) hk hks (PySem.Calls.loadGlobal_builtin (env := PySem.W.ksEnv qual (defScope st) L f (.ref cda) cc) (I.mod.glob.keeps I.bk) hms (hmb.keeps I.bk) ((hmv _ (by decide)).trans PyProof.Rows.Boot.«super») ⟨rfl, ?_⟩)
  refine wpAny_loadName_free (env := PySem.W.ksEnv qual (defScope st) L f (.ref cda) cc) hk hkc rfl ⟨_, KX _ _ hcell, rfl⟩ ?_
  obtain ⟨m, hn, hl⟩ := I.loc
  obtain ⟨u0, r0, l0⟩ := hl i a0 (.ref a) hN hσ (by rw [hX]; exact .inl hka)
  obtain rfl : u0 = Value.ref a := r0
  rw [hX] at l0 hn
  have hm0 : m a0 = some (.ref a) := by
    rcases l0 with ⟨_, z⟩ | ⟨z, _⟩
    · exact z
    · have z' : (defScope st).names.lookup a0 = some .cell ∨ (defScope st).names.lookup a0 = some .free := z
      rw [hka] at z'
      rcases z' with z' | z' <;> cases z'
  rw [hara]
  refine wpAny_loadName_local (env := PySem.W.ksEnv qual (defScope st) L f (.ref cda) cc) hk hka hn hm0 ?_
  refine PySem.ks_wpAny_isType_cls hD1 hD2 ⟨rfl, ?_⟩
  refine PySem.ks_wpAny_call_super hD1 hD2 ho rfl (fun c z => by cases z) (PySem.W.looks_mroIn KX F.sub) (fun h' e' k => ?_)
  have I1 : Inv X pins σ H ⟨h', g, d, t, os⟩ := I.kept (t' := t) k
  have KX1 := I1.kIn
  have ho1 := k _ _ ho
  have LT : PySem.W.Looks (model X.prog X.w) h' (typeOf (.ref a)) (.ref C) := fun A Q E s k q => wpAny_typeOf_ref (k _ _ ho1) q
  have hfs := F.sup
  unfold PySem.W.ks_superIn at hfs
  rw [hcd] at hfs
  refine PySem.W.kxs_getMethod PySem.W.kxs_ValueError e' (PySem.W.looks_opaque KX1 F.opq) (l₀ := cd.mro) (fun A Q E s k q => wpAny_bind ((PySem.W.looks_clsIn KX1 hcd) A _ E s k (wpAny_pure q))) rfl KX1 hfs (LT.andThen (PySem.W.looks_subIn KX1 F.subV)) naC (by decide) ?_
  have I2 : Inv X pins σ H ⟨h'.push (PySem.W.kxs_mw "ValueError.__init__" a), g, d, t + 1, os⟩ := I1.kept (t' := t + 1) fun b o z => Heap.get?_push_of_some _ z
  have I3 : Inv X ((h'.objs.size, PySem.W.kxs_mw "ValueError.__init__" a) :: pins) σ H ⟨h'.push (PySem.W.kxs_mw "ValueError.__init__" a), g, d, t + 1, os⟩ := I2.pins_of fun p hp => by
    rcases List.mem_cons.mp hp with z | z
    · subst z
      exact ⟨Heap.get?_push_at rfl rfl, I1.hok.fresh (Nat.le_refl _), Nat.ne_of_gt I1.lt, I1.nofs (Nat.le_refl _), fun v z => by cases z⟩
    · exact I2.pin p (List.mem_append_right _ z)
  show wpAny _ _ (callWith pos (.ref h'.objs.size) [] (backTo pos (starEach (e :: es) (PySem.W.ksEnv qual (defScope st) L f (.ref cda) cc))) []) _ _ _
  rw [← hX]
  have HA : wpAny (model X.prog X.w) X.A (spliced (backTo pos (starEach (e :: es) X.env))) (fun us s1 => PySem.W.KxsAt "ValueError.__init__" h'.objs.size a s1.heap ∧ wpAny (model X.prog X.w) X.A (call (.ref h'.objs.size) us) Q X.xe s1) X.xe ⟨h'.push (PySem.W.kxs_mw "ValueError.__init__" a), g, d, t + 1, os⟩ := by
    refine thn (ha.run pos _ _ σ H _ I3 q) fun us s1 hs1 => ?_
    obtain ⟨vs, H1, I4, r, hl1, hH1, kq⟩ := hs1
    have pu := (I4.pin (h'.objs.size, PySem.W.kxs_mw "ValueError.__init__" a) (List.mem_append_right _ List.mem_cons_self)).1
    exact ⟨pu, mw_call F.oex I4 pu hH1 (by rw [← Paired.length r, sizeLine_eq]; omega) fun s' J => kq s' (J.pins_of fun p hp => J.pin p (List.mem_append_right _ (List.mem_cons_of_mem _ hp)))⟩
  rw [he] at HA ⊢
  refine PySem.W.kxs_callWith (i := "ValueError.__init__") (x := a) (by show (false || (backTo pos (starEach es X.env)).any (·.1)) = false; rw [hpl]; rfl) ?_
  exact PySem.Calls.evalArgs_plain HA
end
/-- the context of such an __init__ -/
def supCx (P : Program) (w : World) (K : PySem.W.Frag) (mg : Str → Option Value) (base : Heap) (N : List Str) (qual : Str) (scope : Scope) (f cda cc : Addr) (A : Around) (outer : List Env) (s : Shared) (H : Hp) (E : XK) : Cx where
  prog := P
  w := w
  K := K
  mg := mg
  base := base
  A := A.deeper (PySem.W.ksEnv qual scope s.heap.objs.size f (.ref cda) cc)
  N := N
  s_0 := s
  H_0 := H
  env := PySem.W.ksEnv qual scope s.heap.objs.size f (.ref cda) cc
  outer := outer
  stack := PySem.W.ksEnv qual scope s.heap.objs.size f (.ref cda) cc :: outer
  ex := []
  fn := fun _ => false
  calm := true
  pn := []
  xe := fun e s' => wpAny (model P w) (A.deeper (PySem.W.ksEnv qual scope s.heap.objs.size f (.ref cda) cc)) (leaving (PySem.W.ksEnv qual scope s.heap.objs.size f (.ref cda) cc) e) (fun _ s'' => CX0 outer H s E e s'') (fun e' s'' => CX0 outer H s E e' s'') s'
/-- what such an __init__'s scope must be -/
structure SupS (p0 p1 : Str) (sc : Scope) : Prop where
  kind : sc.kind = .function
  co : sc.isCoroutine = false
  gen : sc.isGenerator = false
  ne : p0 ≠ p1
  l0 : sc.names.lookup p0 = some .local
  l1 : sc.names.lookup p1 = some .local
  nocell : ∀ x ∈ sc.names, x.2 ≠ .cell
  free : ∀ x ∈ sc.names, x.2 = .free → x.1 = ("__class__" : Str)
  sup : sc.names.lookup ("super" : Str) = some .globalImplicit
  cls : sc.names.lookup ("__class__" : Str) = some .free
section
variable {P : Program} {w : World} {K : PySem.W.Frag} {mg : Str → Option Value} {base : Heap} {A : Around} {outer : List Env} {s : Shared} {H : Hp} {E : XK} {C f cda cc : Addr} {fd : FuncData} {qual p0 p1 : Str} {st : Stmt}
theorem sup_start {h₁ : Heap} {tk : Nat} {x0 x1 : V} {u0 u1 : Value} (S : SupS p0 p1 (defScope st)) (hd : A.handled = none) (e0 : Env0 P w K mg base A outer s H) (hc : ∃ cl cld csl, K.lookup cc = some ⟨cl, cld, .cell (some (.ref C)), csl⟩) (r0 : RelV x0 u0) (r1 : RelV x1 u1)
    (hns : h₁.Ns s.heap.objs.size fun x => [(p0, u0), (p1, u1)].reverse.lookup x) (hk : ∀ b o, s.heap.get? b = some o → h₁.get? b = some o) :
    Inv (supCx P w K mg base [p0, p1] qual (defScope st) f cda cc A outer s H E) [] (start [p0, p1] [x0, x1]) H { s with heap := h₁, toks := tk } := by
  obtain ⟨cl, cld, csl, hcell⟩ := hc
  have hbc := e0.bs _ _ (e0.mod.kin _ _ hcell)
  have noA : ∀ b : Addr, b ∉ (supCx P w K mg base [p0, p1] qual (defScope st) f cda cc A outer s H E).ex := fun b z => absurd (show b ∈ ([] : List Addr) from z) (by simp)
  have cl1 : ∀ {y : Str} {c : Addr}, List.lookup y [(("__class__" : Str), cc)] = some c → y = "__class__" ∧ c = cc := fun {y c} e => by
    have hm := PySem.mem_of_lookup e
    rw [List.mem_singleton] at hm
    cases hm
    exact ⟨rfl, rfl⟩
  refine ⟨⟨e0.mod, S.kind, rfl, rfl, Nat.le_refl _, fun y z c h1 h2 => ?_, fun y hy => ?_, fun y c z _ => (Bool.false_ne_true z).elim, fun _ => hd, Around.frames_deeper e0.frames, .inr ⟨rfl, rfl⟩, fun b z => absurd z (noA b), e0.bs, e0.bsz, fun b _ _ => noA b, fun b z => absurd z (noA b), e0.funs, e0.frf⟩,
    rfl, e0.bare, Un.kept hk, ⟨_, hns, fun i y v h1 h2 h3 => ?_⟩, fun y c h => ?_, e0.hok.fresh (Nat.le_refl _), fun y c h => ?_, fun p hp => absurd (show p ∈ ([] : List (Addr × Obj)) from hp) (by simp), e0.hok.kept hk, rfl⟩
  · exact (cl1 h1).1.trans (cl1 h2).1.symm
  · have hy : (defScope st).names.lookup y = some .cell ∨ (defScope st).names.lookup y = some .free := hy
    rcases hy with hy | hy
    · exact absurd rfl (S.nocell _ (PySem.mem_of_lookup hy))
    · have := S.free _ (PySem.mem_of_lookup hy) rfl
      obtain rfl : y = "__class__" := this
      exact ⟨cc, rfl⟩
  · have h1 : ([p0, p1] : List Str)[i]? = some y := h1
    have h2 : ([some x0, some x1] : List (Option V))[i]? = some (some v) := h2
    have n01 := S.ne
    match i, h1, h2 with
    | 0, h1, h2 =>
      cases h1
      cases h2
      exact ⟨u0, r0, .inl ⟨S.l0, by simp [List.lookup, (show (p0 == p1) = false from by simpa using n01)]⟩⟩
    | 1, h1, h2 =>
      cases h1
      cases h2
      exact ⟨u1, r1, .inl ⟨S.l1, by simp [List.lookup]⟩⟩
    | (n + 2), h1, h2 => simp at h1
  · obtain ⟨_, rfl⟩ := cl1 h
    exact ⟨_, _, hk _ _ hbc.1, rfl⟩
  · obtain ⟨_, rfl⟩ := cl1 h
    exact hbc.2
/-- THE RULE: def __init__(p0, p1): one statement; super().__init__(e ..) -/
theorem sup_def {sp : Sp} {k : Nat} {s1 : Stmt} {e : Expr} {es : List Expr} {q0 q1 q2 q3 q4 : Pos} (F : SupF P K C f cda cc fd qual st p0) (S : SupS p0 p1 (defScope st)) (hms : mg "super" = none)
    (hb : defBody st = [s1, .Expr (.Call (.Attribute (.Call (.Name "super" q0) [] [] q1) "__init__" q2) (e :: es) [] q3) q4]) (len : ∀ vs H Q E, sp vs H Q E → vs.length = 2)
    (hbody : ∀ (A : Around) (outer : List Env) (s : Shared) (H : Hp) (vs : List V) (Q : VK) (E : XK), Room k (A.deeper (PySem.W.ksEnv qual (defScope st) s.heap.objs.size f (.ref cda) cc)) → sp vs H Q E →
      ∃ (a : Addr) (t : TS) (ta : TA), PS (supCx P w K mg base [p0, p1] qual (defScope st) f cda cc A outer s H E) s1 t ∧ PA (supCx P w K mg base [p0, p1] qual (defScope st) f cda cc A outer s H E) (e :: es) ta ∧
        t { nx := fun σ H' => σ[0]? = some (some (.ref a)) ∧ ∃ dx, H' a = some (exo a C (some dx)) ∧ ∀ R : List V → Hp → Prop, (∀ vs H1, vs.length ≤ 1000 → H1 a = some (exo a C (some dx)) → Q .non H1 → R vs H1) → ta σ H' R, rt := fun _ _ => False } (start [p0, p1] vs) H)
    (hsw : ∀ env : Env, swapsWith (.Call (.Attribute (.Call (.Name "super" q0) [] [] q1) "__init__" q2) (e :: es) [] q3) none q4.line env = pure false := by intro env; rfl)
    {pl : Sem Bool} (he : ∀ env : Env, starEach (e :: es) env = (false, eval e env) :: starEach es env := by intro env; rfl) (hpl : ∀ env : Env, (backTo q3 (starEach es env)).any (·.1) = false := by intro env; rfl)
    (hc : ∀ env : Env, eval (.Call (.Attribute (.Call (.Name "super" q0) [] [] q1) "__init__" q2) (e :: es) [] q3) env = (do
      let ov ← attributeBase (.Call (.Name "super" q0) [] [] q1) "__init__" env (eval (.Call (.Name "super" q0) [] [] q1) env)
      standAt q2.atName
      let (f, first) ← holding [ov] (getMethod ov "__init__" pl)
      callWith q3 f first (backTo q3 (starEach (e :: es) env)) []) := by intro env; rfl) : FnOk P w K mg base CX0 (k + 1) f fd [p0, p1] sp := by
  refine ⟨len, fun A outer s H args us vs Q E hr e0 hbd r hsp => ?_⟩
  have F' := F
  obtain ⟨oc, od, kV, doc, pm, an, ct, osl, rfl, lk⟩ := F'.lk
  have KX : K.In s.heap := e0.mod.kin.keeps fun b o e => (e0.bs b o e).1
  have lim : s.heap.NoLimit := e0.mod.nolimit.keeps fun b o e => (e0.bs b o e).1
  have hl2 := len _ _ _ _ hsp
  obtain ⟨a, t, ta, h1, h2, hq⟩ := hbody A outer s H vs Q E (hr.deeper _) hsp
  match vs, us, r, hl2 with
  | [x0, x1], [u0, u1], .cons r0 (.cons r1 .nil), _ =>
    refine PySem.ks_codeAny_call_defAt (binds := [(p0, u0), (p1, u1)]) hr.depth (KX _ _ lk) rfl lim (PySem.W.codeRec_of KX F.recd) rfl hbd S.nocell (fun x hx => ?_) (fun h₁ hns hk₁ => ?_) S.co S.gen S.kind
    · rcases List.mem_cons.mp hx with z | z
      · subst z
        exact S.l0
      · rw [List.mem_singleton] at z
        subst z
        exact S.l1
    · have I := sup_start (qual := qual) (f := f) (cda := cda) (E := E) (tk := s.toks + 2) S hr.hd e0 F.cell r0 r1 hns hk₁
      have hrun := h1.run [] _ _ H _ I hq
      show _root_.PySem.wpAt (model P w) (A.deeper (PySem.W.ksEnv qual (defScope st) s.heap.objs.size f (.ref cda) cc)) (.func (defBody st) (PySem.W.ksEnv qual (defScope st) s.heap.objs.size f (.ref cda) cc)) (execs (defBody st) (PySem.W.ksEnv qual (defScope st) s.heap.objs.size f (.ref cda) cc)) _ _ _
      generalize defBody st = bd at hb ⊢
      rw [show execs bd (PySem.W.ksEnv qual (defScope st) s.heap.objs.size f (.ref cda) cc) = execs [s1, .Expr (.Call (.Attribute (.Call (.Name "super" q0) [] [] q1) "__init__" q2) (e :: es) [] q3) q4] (PySem.W.ksEnv qual (defScope st) s.heap.objs.size f (.ref cda) cc) from by rw [hb]]
      refine PySem.ks_wpAt_execs_cons (PySem.wpAt_of_wpAny (wpAny_mono hrun (fun fl s' hs => ?_) fun e s' hs => hs))
      cases fl with
      | next =>
        obtain ⟨σ', H', J, hσ, dx, hH, hta⟩ := hs
        refine PySem.ks_wpAt_execs_cons (PySem.ks_wpAt_Expr_any (sup_expr (pl := pl) F rfl hms S.sup S.cls (i := 0) rfl S.l0 h2 J hσ hH (hta _ fun vs H1 hl hH1 q => ⟨hl, hH1, fun s2 J2 => ?_⟩) (he _) (hpl _) (hc _)) (hi := J.quiet) (hs := hsw _))
        exact PySem.wpAt_of_wpAny (wpAny_execs_nil ⟨.non, H1, J2.os, J2.bare, J2.base, J2.hok, rfl, q⟩)
      | brk =>
        obtain ⟨_, _, _, z⟩ := hs
        exact False.elim z
      | cont =>
        obtain ⟨_, _, _, z⟩ := hs
        exact False.elim z
      | ret u =>
        obtain ⟨_, _, _, _, _, z⟩ := hs
        exact False.elim z
end
end Nm
set_option autoImplicit true
set_option maxRecDepth 100000
set_option maxHeartbeats 4000000
/-! != of two dicts of lists of texts, the same ones; repr of a bool -/
namespace Nm
open PySem PySem.Spec PyProof.Rows L2
section
variable {X : Cx} {pins : List (Addr × Obj)} {σ : L2.St} {H : Hp} {s : Shared}
theorem strs_hit {A : Around} : ∀ {zs : List Str} {us ws : List Value}, Vals (zs.map V.str) us → Vals (zs.map V.str) ws → us.length = ws.length ∧ ∀ j (h1 : j < us.length) (h2 : j < ws.length), SeqAt.EqAt A s us[j] ws[j] true
  | [], _, _, .nil, .nil => ⟨rfl, fun j h1 => absurd h1 (Nat.not_lt_zero j)⟩
  | z :: zs, _, _, .cons r t, .cons r' t' => by
    obtain ⟨e, k⟩ := strs_hit t t'
    refine ⟨by simp [e], fun j h1 h2 => ?_⟩
    cases j with
    | zero => exact eqAt_same r r' rfl
    | succ j => exact k j (Nat.lt_of_succ_lt_succ h1) (Nat.lt_of_succ_lt_succ h2)
/-- two lists of the same texts -/
theorem lists_hit (I : Inv X pins σ H s) {A : Around} (hu : A.units < cLine) {u v : Addr} {zs : List Str} (hu' : H u = some (.lst (zs.map V.str))) (hv : H v = some (.lst (zs.map V.str))) : SeqAt.EqAt A s (.ref u) (.ref v) true := by
  by_cases e : u = v
  · subst e
    exact SeqAt.EqAt.same _
  obtain ⟨us, r1, p1, _⟩ := I.list (SqL.of hu')
  obtain ⟨ws, r2, p2, _⟩ := I.list (SqL.of hv)
  obtain ⟨sz, items⟩ := strs_hit (s := s) (A := A.in1) r1 r2
  have z := SeqAt.RcAt.lists (A := A) (e := fun _ => true) p1.isList p2.isList (by simpa using sz) hu fun j h1 h2 => by simpa using items j (by simpa using h1) (by simpa using h2)
  rw [show ((List.range us.toArray.size).all fun _ => true) = true from List.all_eq_true.mpr fun _ _ => rfl] at z
  exact SeqAt.EqAt.of_refs e z
/-- each key leads to a list of the same texts -/
def SameLists (H : Hp) (ks ls : List (Key × V)) : Prop := ks.length = ls.length ∧ ∀ p ∈ ks, ∃ (u v : Addr) (zs : List Str), p.2 = V.ref u ∧ valV ls p.1 = some (V.ref v) ∧ H u = some (.lst (zs.map V.str)) ∧ H v = some (.lst (zs.map V.str))
theorem dict_hits (I : Inv X pins σ H s) {A : Around} (hu : A.units < cLine) {ls : List (Key × V)} {vb : List (Key × Value)} (rb : KV ls vb) : ∀ {ks : List (Key × V)} {va : List (Key × Value)}, KV ks va →
    (∀ p ∈ ks, ∃ (u v : Addr) (zs : List Str), p.2 = V.ref u ∧ valV ls p.1 = some (V.ref v) ∧ H u = some (.lst (zs.map V.str)) ∧ H v = some (.lst (zs.map V.str))) → PySem.W.KeqHits A s vb va true := by
  intro ks va ra
  unfold KV at ra
  induction ra with
  | nil => exact fun _ => .nil
  | @cons p q ps qs h t ih =>
    intro hp
    obtain ⟨e1, e2⟩ := h
    obtain ⟨u, v, zs, ep, ev, hu1, hv1⟩ := hp p List.mem_cons_self
    have there : RelO (some (V.ref v)) (valueAt vb p.1) := by rw [← ev]; exact rb.val p.1
    obtain ⟨y, hy, ry⟩ := there.some_of
    obtain ⟨key, z⟩ := q
    obtain rfl : p.1 = key := e1
    rw [ep] at e2
    cases (show z = Value.ref u from e2)
    cases (show y = Value.ref v from ry)
    exact PySem.W.KeqHits.hit (b := true) (e := true) hy (lists_hit I hu hu1 hv1) (ih fun p' m => hp p' (List.mem_cons_of_mem _ m))
def rNeL : R2 := fun x y H Q => ∃ a b ks ls, x = V.ref a ∧ y = V.ref b ∧ H a = some (.dK ks) ∧ H b = some (.dK ls) ∧ SameLists H ks ls ∧ Q (.bl false) H
theorem op_neL (hu : X.A.units + 1 < cLine) : OpR X (compareOp .NotEq) rNeL := by
  intro pins s σ H x y v u Q I rx ry h
  obtain ⟨a, b, ks, ls, rfl, rfl, ha, hb, ⟨len, each⟩, q⟩ := h
  cases (show v = Value.ref a from rx)
  cases (show u = Value.ref b from ry)
  obtain ⟨_, ya, va, ra, da⟩ := (show ObjOk X.prog X.w H s.heap a (.dK ks) from I.hok a _ ha)
  obtain ⟨_, yb, vb, rb, db⟩ := (show ObjOk X.prog X.w H s.heap b (.dK ls) from I.hok b _ hb)
  have same : va.length = vb.length := by rw [← ra.length, ← rb.length]; exact len
  refine PySem.W.keq_ne (knd := mixKind X.prog X.w) (r := true) ya yb da db (by omega) (fun _ => dict_hits I (A := X.A.in1) (show X.A.units + 1 < cLine from hu) rb ra each) ?_
  rw [same]
  exact ⟨.bl false, H, I, by show Value.bool (!(vb.length == vb.length && true)) = Value.bool false; simp, q⟩
/-- repr of a bool -/
theorem call_reprB : CallR X (.builtin "repr") (fun xs H Q => ∃ b : Bool, xs = [.bl b] ∧ Q (.str (if b then "True" else "False")) H) := by
  intro pins s σ H xs us Q I r h
  obtain ⟨b, rfl, q⟩ := h
  cases r with
  | cons r t =>
    cases t
    cases (show _ = Value.bool b from r)
    exact PySem.P.repr_of_bool ⟨.str (if b then "True" else "False"), H, I.tok _, ⟨_, rfl⟩, q⟩
end
end Nm
set_option autoImplicit true
set_option maxRecDepth 100000
set_option maxHeartbeats 4000000
/-! != of two lists of the same texts -/
namespace Nm
open PySem PySem.Spec PyProof.Rows L2
section
variable {X : Cx}
def rNeS (K : PySem.W.Frag) : R2 := fun x y H Q => ∃ (a b : Addr) (zs : List Str), x = V.ref a ∧ y = V.ref b ∧ SqL K H a (zs.map V.str) ∧ SqL K H b (zs.map V.str) ∧ Q (.bl false) H
theorem op_neS (hu : X.A.units + 1 < cLine) : OpR X (compareOp .NotEq) (rNeS X.K) := by
  intro pins s σ H x y v u Q I rx ry h
  obtain ⟨a, b, zs, rfl, rfl, ha, hb, q⟩ := h
  cases (show v = Value.ref a from rx)
  cases (show u = Value.ref b from ry)
  obtain ⟨us, r1, p1, _⟩ := I.list ha
  obtain ⟨ws, r2, p2, _⟩ := I.list hb
  obtain ⟨sz, items⟩ := strs_hit (s := s) (A := X.A.in1) r1 r2
  have z := SeqAt.RcNeAt.lists (A := X.A) (e := fun _ => true) p1.isList p2.isList (by simpa using sz) (by omega) fun j h1 h2 => by simpa using items j (by simpa using h1) (by simpa using h2)
  rw [show ((List.range us.toArray.size).all fun _ => true) = true from List.all_eq_true.mpr fun _ _ => rfl] at z
  exact z X.prog X.w X.xe (EP X pins σ Q) ⟨.bl false, H, I, rfl, q⟩
end
end Nm
set_option autoImplicit true
set_option maxRecDepth 100000
set_option maxHeartbeats 4000000
/-! x != y where the class has an own __eq__ and no own __ne__ -/
namespace Nm
open PySem PySem.Spec PyProof.Rows L2
section
variable {prog : Program} {w : World} {A : Around} {E : Value → Shared → Prop} {s : Shared} {K : PySem.W.Frag} {x y C D f : Addr} {ox oy : Obj} {od od' : Option Obj}
/-- a special method that is built in, of an own class -/
theorem bound_built {M : Model} {B id : String} {name : Str} {args : List Value} {Q : Option Value → Shared → Prop} (X : K.In s.heap) (I : PySem.W.InstAt s.heap x ox C od) (hs : PySem.W.findIn K (.ref C) name = some (some (.builtin id))) (S : Slot B name id)
    (h : wpAny M A (call (.builtin id) (.ref x :: args)) (fun v => Q (some v)) E s) : wpAny M A (callSpecialIfBound? (.ref x) name args) Q E s := by
  simp only [callSpecialIfBound?, bindSpecialIfBound?]
  refine wpAny_holding (wpAny_bind (wpAny_bind (wpAny_bind (I.type.here ((PySem.W.looks_findIn X hs).here ?_)))))
  simp only [S.bind]
  refine wpAny_bind (wpAny_askSetting (wpAny_ite ?_))
  have fin : wpAny M A (call (.builtin id) ([.ref x] ++ args) >>= fun v => pure (some v)) Q E s := wpAny_bind (wpAny_mono h (fun v s' h' => wpAny_pure h') fun _ _ h' => h')
  split
  · exact wpAny_bind (wpAny_pure (wpAny_pure (by exact fin)))
  · exact wpAny_tryCatch (wpAny_bind (wpAny_pure (wpAny_pure (by exact fin))))
theorem obj_sub {X : K.In s.heap} {cd : ClassData} (I : PySem.W.InstAt s.heap x ox C od) (hc : PySem.W.clsIn K C = some cd) (ho : PySem.W.onlyObject cd.mro = true) : PySem.W.Looks (model prog w) s.heap (isInstance (.ref x) (.type "object")) true := by
  have ne : cd.mro.isEmpty = false := by cases q : cd.mro with | nil => rw [q] at ho; cases ho | cons _ _ => rfl
  exact I.type.andThen (PySem.W.looks_mroIn X (by unfold PySem.W.mroIn; rw [hc, Option.bind_some, if_neg (by rw [ne]; decide), PySem.W.only_has ho]))
/-- object.__ne__ where the own __eq__ tells a truth value -/
theorem ne_entry {Q : Fin → Shared → Prop} (hu : A.units < cLine) (X : K.In s.heap) (I : PySem.W.InstAt s.heap x ox C od) (hs : PySem.W.findIn K (.ref C) "__eq__" = some (some (.ref f))) (hf : PySem.W.isFn K (.ref f) = true)
    (h : wpAny (model prog w) A (call (.ref f) [.ref x, .ref y]) (fun v s' => ∃ r : Bool, v = .bool r ∧ Q (.done (.ret (.bool (!r)))) s') E s) : wpAny (model prog w) A (Builtin.«object.__ne__» ⟨[.ref x, .ref y], []⟩) Q E s := by
  have e : wpAny (model prog w) A (callSpecialIfBound? (.ref x) "__eq__" [.ref y]) (fun o s' => ∃ r : Bool, o = some (.bool r) ∧ Q (.done (.ret (.bool (!r)))) s') E s := PySem.W.ifBound_K X I hs hf (wpAny_mono h (fun v s' z => by
    obtain ⟨r, rfl, q⟩ := z
    exact ⟨r, rfl, q⟩) fun _ _ z => z)
  unfold Builtin.«object.__ne__»
  repeat (first | with_reducible refine wpAny_cRoomFor hu ?_ | with_reducible refine wpAny_mono e (fun o s' z => ?_) (fun _ _ z => z) | wp_step)
  obtain ⟨r, rfl, q⟩ := z
  repeat wp_step
  exact q
/-- x != y -/
theorem cmp_neK {L : Addr} {h₀ : Heap} {m : Str → Option Value} {cd : ClassData} {tb : Value} {Q : Value → Shared → Prop} (hu : A.units + 1 < cLine) (Fr0 : PyProof.Rows.Fr h₀ L s.heap m) (X₀ : K.In h₀) (I : PySem.W.InstAt s.heap x ox C od) (hb : PySem.W.Looks (model prog w) s.heap (typeOf (.ref y)) tb) (hn : PySem.W.notFirst K C tb = true)
    (hc : PySem.W.clsIn K C = some cd) (ho : PySem.W.onlyObject cd.mro = true) (hne : PySem.W.findIn K (.ref C) "__ne__" = some (some (.builtin "object.__ne__")))
    (hs : PySem.W.findIn K (.ref C) "__eq__" = some (some (.ref f))) (hf : PySem.W.isFn K (.ref f) = true)
    (h : wpAny (model prog w) A.in1 (call (.ref f) [.ref x, .ref y]) (fun v s' => ∃ r : Bool, v = .bool r ∧ Q (.bool (!r)) s') E s) : wpAny (model prog w) A (richCompare .NotEq (.ref x) (.ref y)) Q E s := by
  have X := X₀.keeps Fr0.keep
  have one : wpAny (model prog w) A (tryCompare (.ref x) "__ne__" (.ref y)) (fun r s' => ∃ v, r = some v ∧ Q v s') E s := by
    unfold tryCompare
    refine wpAny_bind (bound_built X I hne PySem.F.cmp_object.ne (wpAny_call (codeAny_call_builtin PySem.F.cmp_object.ne.plain PySem.F.cmpEntry_ne (@PySem.W.check_slot (model prog w) _ _ s "object.__ne__" "object" "__ne__" (.ref x) [.ref y] [] _ PySem.F.cmpKind_ne PySem.F.cmpSplit_ne (obj_sub (X := X) I hc ho) (PySem.F.cmpArgs_ne _ _) ?_))))
    refine ne_entry (A := A.in1) (by show A.units + 1 < cLine; exact hu) X I hs hf (wpAny_mono h (fun v s' z => ?_) fun _ _ z => z)
    obtain ⟨r, rfl, q⟩ := z
    exact ⟨r, rfl, wpAny_pure ⟨_, rfl, q⟩⟩
  unfold richCompare
  simp only [oneThing_ref, cmpInfo_NotEq]
  refine wpAny_holding (wpAny_bind (wpAny_cRoomFor (Nat.lt_of_succ_lt hu) ?_))
  refine wpAny_bind (I.type.here (wpAny_bind (hb.here ?_)))
  split
  · rename_i q
    have e : PySem.W.subIn K tb (.ref C) = some false := by
      rcases Bool.or_eq_true_iff.mp hn with e | e
      · rw [beq_iff_eq.mp e] at q; simp at q
      · exact beq_iff_eq.mp e
    refine wpAny_bind ((PySem.W.looks_subIn X e).here ?_)
    simp only [Bool.false_eq_true, if_false]
    refine wpAny_bind (wpAny_mono one (fun r s' z => ?_) fun _ _ e => e)
    obtain ⟨v, rfl, hq⟩ := z
    exact wpAny_pure hq
  · refine wpAny_bind (wpAny_pure ?_)
    simp only [Bool.false_eq_true, if_false]
    refine wpAny_bind (wpAny_mono one (fun r s' z => ?_) fun _ _ e => e)
    obtain ⟨v, rfl, hq⟩ := z
    exact wpAny_pure hq
end
section
variable {X : Cx} {n : Nat}
/-- the facts of such a class -/
structure NeC (K : PySem.W.Frag) (C f : Addr) : Prop where
  cd : ∃ cd, PySem.W.clsIn K C = some cd ∧ PySem.W.onlyObject cd.mro = true
  ne : PySem.W.findIn K (.ref C) "__ne__" = some (some (.builtin "object.__ne__"))
  eq : PySem.W.findIn K (.ref C) "__eq__" = some (some (.ref f))
  fn : PySem.W.isFn K (.ref f) = true
def rNeOwn (C : Addr) (sp : Sp) (E : XK) : R2 := fun x y H Q => ∃ (a b dx dy : Addr) (fs gs : List (Str × V)), x = .ref a ∧ y = .ref b ∧ H a = some (.ins C dx fs) ∧ H b = some (.ins C dy gs) ∧ sp [.ref a, .ref b] H (fun v H' => ∃ r : Bool, v = .bl r ∧ Q (.bl (!r)) H') E
theorem op_neOwn {CX : CXT} {C f : Addr} {fd : FuncData} {ps : List Str} {sp : Sp} {E : XK} (F : FnOk X.prog X.w X.K X.mg X.base CX n f fd ps sp) (T : NeC X.K C f) (hb : Binds X.K fd ps []) (hx : Passes CX X E) (hr : Room (n + 1) X.A) : OpR X (compareOp .NotEq) (rNeOwn C sp E) := by
  intro pins s σ H x y v u Q I rx ry h
  obtain ⟨a, b, dx, dy, fs, gs, rfl, rfl, ha, hb', hsp⟩ := h
  cases rx
  cases ry
  obtain ⟨mA, J, _⟩ := ins_get I.hok ha
  obtain ⟨mB, J', _⟩ := ins_get I.hok hb'
  obtain ⟨od, J, _⟩ := J.look
  obtain ⟨od', J', _⟩ := J'.look
  obtain ⟨m, hF⟩ := I.fr
  obtain ⟨cd, hc, ho⟩ := T.cd
  show wpAny (model X.prog X.w) X.A (richCompare .NotEq (.ref a) (.ref b)) (EP X pins σ Q) X.xe s
  refine cmp_neK (tb := .ref C) (by have := hr.units; omega) hF I.ok.mod.kin J J'.type (by simp [PySem.W.notFirst]) hc ho T.ne T.eq T.fn ?_
  have e0 : Env0 X.prog X.w X.K X.mg X.base X.A.in1 X.stack s H := by
    have e := I.env0
    exact ⟨e.frames, e.mod, e.bs, e.bsz, e.funs, e.frf, e.hok, e.bare⟩
  have hl := F.len _ _ _ _ hsp
  have r2 : Vals [V.ref a, V.ref b] [Value.ref a, Value.ref b] := .cons rfl (.cons rfl .nil)
  refine wpAny_call (codeAny_mono (F.run X.A.in1 X.stack s H ⟨[.ref a, .ref b], []⟩ [.ref a, .ref b] [.ref a, .ref b] _ E hr.in1 e0 (by
    have := hb s [.ref a, .ref b] I.kIn (by simpa using hl)
    simpa using this) r2 hsp) fun r s' hq => ?_)
  cases r with
  | error e => exact hx pins σ H s e s' I hq
  | ok fl =>
    cases fl with
    | ret w =>
      obtain ⟨z, H', I', rz, r, ez, q⟩ := I.after hq
      subst ez
      cases rz
      exact ⟨r, rfl, .bl (!r), H', I', rfl, q⟩
    | next => exact False.elim hq
    | brk => exact False.elim hq
    | cont => exact False.elim hq
end
end Nm
set_option autoImplicit true
set_option maxRecDepth 100000
set_option maxHeartbeats 4000000
/-! == of two webs that are alike -/
namespace Nm
open PySem PySem.Spec PyProof.Rows L2
structure TxtQW (K : PySem.W.Frag) (mg : Str → Option Value) (C : Addr) : Prop extends TxtW K mg C where
  mgC : mg "Web" = some (.ref C)
  ins : C8.InsC K C
theorem col_flat {nm cl : List Str} (h : nm.length ≤ cl.length) (nd : nm.Nodup) : ∀ p ∈ colK nm cl, valV (colK nm cl) p.1 = some p.2 ∧ flatB p.2 = true := fun p hp => by
  refine ⟨val_of_mem (colK_nd h nd) hp, ?_⟩
  obtain ⟨⟨x, y⟩, _, rfl⟩ := List.mem_map.mp hp
  rfl
/-- two lists of the same ties -/
theorem ties_same {K : PySem.W.Frag} {H : Hp} {r r' : Addr} {nm : List Str} {rs : List RowV} (h : OrdAt H r nm rs) (h' : OrdAt H r' nm rs) : DList (DTup K DFlat) (.ref r) (.ref r') H := by
  obtain ⟨ts, h1, h2⟩ := h
  obtain ⟨us, g1, g2⟩ := h'
  refine ⟨r, r', _, _, rfl, rfl, h1, g1, by rw [List.length_map, List.length_map, Paired.length h2, Paired.length g2], fun i x y hx hy => ?_⟩
  rw [List.getElem?_map] at hx hy
  obtain ⟨t, ht, rfl⟩ := Option.map_eq_some_iff.mp hx
  obtain ⟨u, hu, rfl⟩ := Option.map_eq_some_iff.mp hy
  obtain ⟨a, ha, x1, y1, e1, e2, z⟩ := paired_get h2 ht
  obtain ⟨b, hb, x2, y2, f1, f2, z'⟩ := paired_get g2 hu
  rw [ha] at hb
  cases hb
  rw [e1] at f1
  rw [e2] at f2
  cases f1
  cases f2
  refine ⟨t, u, _, _, rfl, rfl, SqT.of z, SqT.of z', rfl, fun j v w hv hw => ?_⟩
  rw [hv] at hw
  cases hw
  have hm := List.mem_of_getElem? hv
  have hf : flatV v = true := by
    simp only [List.mem_cons, List.not_mem_nil, or_false] at hm
    rcases hm with rfl | rfl | rfl | rfl <;> rfl
  refine ⟨hf, hf, ?_⟩
  simp only [List.mem_cons, List.not_mem_nil, or_false] at hm
  rcases hm with rfl | rfl | rfl | rfl <;> simp [eqV]
section
variable {P : Program} {w : World} {K : PySem.W.Frag} {mg : Str → Option Value} {base : Heap}
def spEqW (C : Addr) : Sp := fun vs H Q _ => ∃ (p q dc r wd p' q' dc' r' wd' : Addr) (nm cl : List Str) (rs : List RowV), vs = [.ref p, .ref p'] ∧ WebX C H p q dc r wd nm cl rs ∧ WebX C H p' q' dc' r' wd' nm cl rs ∧ nm.Nodup ∧ nm.length ≤ cl.length ∧ ∀ H', Same H H' → Q (.bl true) H'
theorem scEq : FnScope ["self", "other"] ["self", "other"] (defScope sWebEq) := ⟨rfl, rfl, rfl, by decide +kernel, rfl, by decide +kernel, by decide +kernel⟩
theorem ok_eqW {f C : Addr} {fd : FuncData} (F : Fun K "__eq__" "Web.__eq__" sWebEq f fd) (T : TxtQW K mg C) : FnOk P w K mg base CX0 3 f fd ["self", "other"] (spEqW C) := by
  refine F.ok scEq (fun vs H Q E h => ?_) (fun cdv A outer s H vs Q E hr h => ?_)
  · obtain ⟨_, _, _, _, _, _, _, _, _, _, _, _, _, rfl, _⟩ := h
    rfl
  · obtain ⟨p, q, dc, r, wd, p', q', dc', r', wd', nm, cl, rs, rfl, W, W', nd, hc, k⟩ := h
    obtain ⟨dx, hp⟩ := W.hp
    obtain ⟨dx', hp'⟩ := W'.hp
    have hu := hu_of hr
    refine ⟨_, pss_cons (ps_if (pt_not (pt_val (pe_callB (C8.call_isC T.ins) (by rfl) T.isinstance (by decide +kernel) (pa_cons (pv 1) (pa_cons (pe_glob (v := V.ref C) (by rfl) T.mgC rfl) pa_nil))))) (pss_one (ps_ret pe_bl)) pss_nil)
      (pss_cons (ps_if (PW.pt (pw_or (pt_cmpR (op_neS hu) (pe_fld (pv 0) rfl) (pe_fld (pv 1) rfl) (nomark _)) (pw_or1 (pt_cmpR (op_ne_dictA (Nat.lt_of_succ_lt hu)) (pe_fld (pv 0) rfl) (pe_fld (pv 1) rfl) (nomark _))))) (pss_one (ps_ret pe_bl)) pss_nil)
      (pss_one (ps_ret (pe_cmpR (op_eqG (rcG_list (mon_tup mon_flat) (eqG_tup mon_flat eqG_flat)) hr) (pe_fld (pv 0) rfl) (pe_fld (pv 1) rfl) (nomark _))))), ?_⟩
    refine ⟨_, rfl, p', dx', _, rfl, hp', _, rfl, iteF ?_⟩
    refine ⟨_, rfl, p, C, dx, _, _, rfl, hp, T.cl, T.nNa, rfl, _, rfl, p', C, dx', _, _, rfl, hp', T.cl, T.nNa, rfl, q, q', nm, rfl, rfl, SqL.of W.hq, SqL.of W'.hq, _, rfl, iteF ?_⟩
    refine ⟨_, rfl, p, C, dx, _, _, rfl, hp, T.cl, T.nCo, rfl, _, rfl, p', C, dx', _, _, rfl, hp', T.cl, T.nCo, rfl, dc, dc', _, _, rfl, rfl, W.hdc, W'.hdc, rfl, col_flat hc nd, _, rfl, iteF ?_⟩
    exact ⟨_, rfl, p, C, dx, _, _, rfl, hp, T.cl, T.nTi, rfl, _, rfl, p', C, dx', _, _, rfl, hp', T.cl, T.nTi, rfl, ties_same W.hr W'.hr, fun H' e => k H' e⟩
end
end Nm
set_option autoImplicit true
set_option maxRecDepth 100000
set_option maxHeartbeats 4000000
/-! for i, x in enumerate(a tuple) -/
namespace Nm
open PySem PySem.Spec PyProof.Rows L2
open PySem.AutoSeq1 (wpAny_loadPart')
/-- the call of the type -/
theorem en_new (l : Addr) (xs : Array Value) (n : Nat) (dd : Option Addr) (sl : Array (Option Value)) :
    Meets (Builtin.«enumerate.__new__» ⟨[.type "enumerate", .ref l], []⟩) (fun _ R s => s.heap.get? l = some { cls := .type "tuple", dict := dd, data := .seq xs n, slots := sl } ∧
      R (.ok (.ret (.ref (s.heap.push { cls := .type "tuple_iterator", data := .fields #[.ref l, .int 0 0] }).objs.size)))
        { s with heap := (s.heap.push { cls := .type "tuple_iterator", data := .fields #[.ref l, .int 0 0] }).push { cls := .type "enumerate", data := .fields #[.none, .bool false, .ref s.heap.objs.size, rawInt 0, .none, .none] } }) :=
  .of_wp fun prog w A R s h => by
    obtain ⟨hp, g, d, tk, os⟩ := s; obtain ⟨ht0, h⟩ := h
    have hsub := sub_enumerate
    have hT : Heap.IsTuple (Shared.heap ⟨hp, g, d, tk, os⟩) l xs := ⟨_, ht0, rfl, n, rfl⟩
    wp_walk using wpAny_loadPart' ht0
    refine wpAny_stack_any fun st => wpAny_pure ?_
    split
    · rename_i c _ _ _ _ _
      cases (c == Value.type "enumerate")
      · wp_walk using wpAny_loadPart' ht0, wpAny_pyIter_tuple hT
        exact ⟨_, rfl, h⟩
      · wp_walk using wpAny_loadPart' ht0, wpAny_pyIter_tuple hT
        exact ⟨_, rfl, h⟩
    · wp_walk using wpAny_loadPart' ht0, wpAny_pyIter_tuple hT
      exact ⟨_, rfl, h⟩
section
variable {prog : Program} {w : World} {A : Around} {E : Value → Shared → Prop} {s : Shared}
theorem en_call {l : Addr} {xs : Array Value} {Q : Value → Shared → Prop} (hT : s.heap.IsTuple l xs)
    (h : ∀ h', IsEnum h' (s.heap.objs.size + 1) s.heap.objs.size 0 .none → h'.IsTupleIter s.heap.objs.size l 0 → h'.objs.size = s.heap.objs.size + 2 →
      (∀ b o, s.heap.get? b = some o → h'.get? b = some o) → Q (.ref (s.heap.objs.size + 1)) { s with heap := h' }) : wpAny (model prog w) A (call (.type "enumerate") [.ref l]) Q E s := by
  obtain ⟨⟨c, dd, dt, sl⟩, hl, hc, n, hd⟩ := hT
  replace hc : c = .type "tuple" := hc
  replace hd : dt = .seq xs n := hd
  subst hc hd
  refine callType_new F.called_enumerate (by decide) (F.typeCall_enumerate_1 _) (F.newCall_enumerate_1 _) (fun obj => F.args_object_init_2 obj _) F.entry_enumerate_new (en_new l xs n dd sl) ⟨hl, ?_⟩
  have hz : (s.heap.push { cls := .type "tuple_iterator", data := .fields #[.ref l, .int 0 0] }).objs.size = s.heap.objs.size + 1 := Heap.size_push ..
  show _ ∧ _
  rw [hz]
  have he : IsEnum ((s.heap.push { cls := .type "tuple_iterator", data := .fields #[.ref l, .int 0 0] }).push
      { cls := .type "enumerate", data := .fields #[.none, .bool false, .ref s.heap.objs.size, rawInt 0, .none, .none] }) (s.heap.objs.size + 1) s.heap.objs.size 0 .none := by
    have := Heap.get?_push_size (s.heap.push { cls := .type "tuple_iterator", data := .fields #[.ref l, .int 0 0] })
      (o := { cls := .type "enumerate", data := .fields #[.none, .bool false, .ref s.heap.objs.size, rawInt 0, .none, .none] }) rfl
    rw [hz] at this; exact this
  exact ⟨⟨_, he, rfl⟩, h _ he ⟨_, Heap.get?_push_of_some _ (Heap.get?_push_size _ rfl), rfl, rfl⟩ (by rw [Heap.size_push, hz]) fun b o x => Heap.get?_push_of_some _ (Heap.get?_push_of_some _ x)⟩
/-- one turn -/
theorem en_next {e it l : Addr} {i : Nat} {xs : Array Value} {x old : Value} {Q : Value → Shared → Prop} (he : IsEnum s.heap e it i old) (hit : s.heap.IsTupleIter it l i) (hl : s.heap.IsTuple l xs) (hx : xs[i]? = some x) (hne : e ≠ it)
    (hQ : ∀ h', IsEnumOut h' e it ((i : Int) + 1) x s.heap.objs.size → h'.IsTupleIter it l (i + 1) → h'.get? s.heap.objs.size = some { cls := .type "tuple", data := .seq #[.int i s.toks, x] } → h'.objs.size = s.heap.objs.size + 1 →
      (∀ b o, b ≠ e → b ≠ it → s.heap.get? b = some o → h'.get? b = some o) → Q (.ref s.heap.objs.size) { s with heap := h', toks := s.toks + 1 }) :
    wpAny (model prog w) A (Builtin.«enumerate.__next__» ⟨[.ref e], []⟩) (fun fin s' => ∃ v, fin = .done (.ret v) ∧ Q v s') E s := by
  obtain ⟨hp, g, d, tk, os⟩ := s
  show wpAny _ _ (field (.ref e) 2 >>= _) _ _ _
  refine wpAny_bind (wpAny_field he rfl (x := .ref it) rfl (wpAny_bind (RZ.nextOf_tuple_item hit hl hx fun h₁ hit₁ hs₁ => ?_)))
  replace hs₁ : Heap.SameBut it hp h₁ := hs₁
  have he₁ : IsEnum h₁ e it i old := (hs₁.2 e hne).trans he
  show wpAny _ _ (field (.ref e) 3 >>= _) _ _ ⟨h₁, g, d, tk, os⟩
  refine wpAny_bind (wpAny_field he₁ rfl (x := rawInt i) rfl ?_)
  show wpAny _ _ (field (.ref e) 4 >>= _) _ _ ⟨h₁, g, d, tk, os⟩
  refine wpAny_bind (wpAny_field he₁ rfl (x := .none) rfl ?_)
  show wpAny _ _ (mkInt i >>= _) _ _ ⟨h₁, g, d, tk, os⟩
  refine wpAny_bind (wpAny_mkInt ?_)
  show wpAny _ _ (setField (.ref e) 3 (rawInt ((i : Int) + 1)) >>= _) _ _ ⟨h₁, g, d, tk + 1, os⟩
  refine wpAny_bind (wpAny_setField_rec he₁ (by simp) fun h₂ he₂ hs₂ => ?_)
  replace hs₂ : Heap.SameBut e h₁ h₂ := hs₂
  replace he₂ : IsEnum h₂ e it ((i : Int) + 1) old := he₂
  show wpAny _ _ (setField (.ref e) 4 .none >>= _) _ _ ⟨h₂, g, d, tk + 1, os⟩
  refine wpAny_bind (wpAny_setField_rec he₂ (by simp) fun h₃ he₃ hs₃ => ?_)
  replace hs₃ : Heap.SameBut e h₂ h₃ := hs₃
  replace he₃ : IsEnum h₃ e it ((i : Int) + 1) old := he₃
  show wpAny _ _ (newTuple [.int i tk, x] >>= _) _ _ ⟨h₃, g, d, tk + 1, os⟩
  refine wpAny_bind (wpAny_newTuple ?_)
  have he₄ : IsEnum (h₃.push { cls := .type "tuple", data := .seq #[.int i tk, x] }) e it ((i : Int) + 1) old := Heap.get?_push_of_some _ he₃
  generalize hh₄ : h₃.push { cls := .type "tuple", data := .seq #[.int i tk, x] } = h₄ at he₄
  have hsz : h₃.objs.size = hp.objs.size := by rw [hs₃.1, hs₂.1, hs₁.1]
  have hel : e < hp.objs.size := Heap.lt_size he
  have ht₄ : h₄.get? hp.objs.size = some { cls := .type "tuple", data := .seq #[.int i tk, x] } := by rw [← hh₄, ← hsz]; exact Heap.get?_push_size _ rfl
  have hz₄ : h₄.objs.size = hp.objs.size + 1 := by rw [← hh₄, Heap.size_push, hsz]
  have hk₄ : ∀ b o, b ≠ e → b ≠ it → hp.get? b = some o → h₄.get? b = some o := fun b o hbe hbi hb => by
    rw [← hh₄]; exact Heap.get?_push_of_some _ (hs₃.extBut b o hbe (hs₂.extBut b o hbe (hs₁.extBut b o hbi hb)))
  have hit₄ : h₄.IsTupleIter it l (i + 1) := by
    rw [← hh₄]; obtain ⟨o, ho, r⟩ := (hit₁.extBut hs₂.extBut (Ne.symm hne)).extBut hs₃.extBut (Ne.symm hne); exact ⟨o, Heap.get?_push_of_some _ ho, r⟩
  show wpAny _ _ (Builtin.SmallTypes.ownedTupleIsFree (.ref e) >>= _) _ _ ⟨h₄, g, d, tk + 1, os⟩
  rw [hsz]
  clear hh₄ he₃ hs₃ he₂ hs₂ he₁ hs₁ hit₁ hsz h₃ h₂ h₁
  refine wpAny_bind ?_
  unfold Builtin.SmallTypes.ownedTupleIsFree
  refine wpAny_bind (wpAny_field he₄ rfl (x := .none) rfl (wpAny_pure ?_))
  simp only [if_true]
  refine wpAny_bind (wpAny_rule ?_)
  refine wpAny_bind (wpAny_field he₄ rfl (x := old) rfl ?_)
  refine wpAny_bind (wpAny_setField_rec he₄ (by simp) fun h₅ he₅ hs₅ => ?_)
  replace hs₅ : Heap.SameBut e h₄ h₅ := hs₅
  replace he₅ : IsEnum h₅ e it ((i : Int) + 1) x := he₅
  show wpAny _ _ (Builtin.SmallTypes.ownedTupleHandOut (.ref e) (.ref hp.objs.size) >>= _) _ _ ⟨h₅, g, d, tk + 1, os⟩
  refine wpAny_bind ?_
  unfold Builtin.SmallTypes.ownedTupleHandOut
  refine wpAny_bind (wpAny_setField_rec he₅ (by simp) fun h₆ he₆ hs₆ => ?_)
  replace hs₆ : Heap.SameBut e h₅ h₆ := hs₆
  replace he₆ : IsEnumOut h₆ e it ((i : Int) + 1) x hp.objs.size := he₆
  refine wpAny_setField_rec he₆ (by simp) fun h₇ he₇ hs₇ => ?_
  replace hs₇ : Heap.SameBut e h₆ h₇ := hs₇
  replace he₇ : IsEnumOut h₇ e it ((i : Int) + 1) x hp.objs.size := he₇
  refine wpAny_bind (wpAny_letGo (wpAny_pure ⟨_, rfl, hQ h₇ he₇ ?_ ?_ ?_ ?_⟩))
  · exact ((hit₄.extBut hs₅.extBut (Ne.symm hne)).extBut hs₆.extBut (Ne.symm hne)).extBut hs₇.extBut (Ne.symm hne)
  · exact hs₇.extBut _ _ (Nat.ne_of_gt hel) (hs₆.extBut _ _ (Nat.ne_of_gt hel) (hs₅.extBut _ _ (Nat.ne_of_gt hel) ht₄))
  · rw [hs₇.1, hs₆.1, hs₅.1, hz₄]
  · exact fun b o hbe hbi hb => hs₇.extBut b o hbe (hs₆.extBut b o hbe (hs₅.extBut b o hbe (hk₄ b o hbe hbi hb)))
theorem en_item {e it l : Addr} {i : Nat} {xs : Array Value} {x old : Value} {Q : Option Value → Shared → Prop} (he : IsEnum s.heap e it i old) (hit : s.heap.IsTupleIter it l i) (hl : s.heap.IsTuple l xs) (hx : xs[i]? = some x) (hne : e ≠ it)
    (hQ : ∀ h', IsEnumOut h' e it ((i : Int) + 1) x s.heap.objs.size → h'.IsTupleIter it l (i + 1) → h'.get? s.heap.objs.size = some { cls := .type "tuple", data := .seq #[.int i s.toks, x] } → h'.objs.size = s.heap.objs.size + 1 →
      (∀ b o, b ≠ e → b ≠ it → s.heap.get? b = some o → h'.get? b = some o) → Q (some (.ref s.heap.objs.size)) { s with heap := h', toks := s.toks + 1 }) : wpAny (model prog w) A (pyNext (.ref e)) Q E s := by
  have hT : s.TypeIs (.ref e) "enumerate" := ⟨_, he, rfl⟩
  unfold pyNext
  exact wpAny_bind (wpAny_attempt (wpAny_callSpecial?_slot (name := Str.ofString "__next__") hT F.slot_enumerate_next (wpAny_call_entry F.slot_enumerate_next hT F.entry_enumerate_next
    (en_next he hit hl hx hne fun h' a b c d k => wpAny_pure (hQ h' a b c d k)) (F.args_enumerate_next_1 _))))
theorem en_end {e it l : Addr} {i : Nat} {xs : Array Value} {old : Value} {Q : Option Value → Shared → Prop} (hh : A.handled = none) (he : IsEnum s.heap e it i old) (hit : s.heap.IsTupleIter it l i) (hl : s.heap.IsTuple l xs) (hx : xs[i]? = none)
    (hQ : ∀ h', Heap.ExtBut it s.heap h' → Q none { s with heap := h' }) : wpAny (model prog w) A (pyNext (.ref e)) Q E s := by
  have hT : s.TypeIs (.ref e) "enumerate" := ⟨_, he, rfl⟩
  unfold pyNext
  refine wpAny_bind (wpAny_attempt (wpAny_callSpecial?_slot (name := Str.ofString "__next__") hT F.slot_enumerate_next (wpAny_call_entry F.slot_enumerate_next hT F.entry_enumerate_next ?_ (F.args_enumerate_next_1 _))))
  show wpAny _ _ (field (.ref e) 2 >>= _) _ _ _
  refine wpAny_bind (wpAny_field he rfl (x := .ref it) rfl (wpAny_bind (RZ.nextOf_tuple_end hh hit hl hx fun h' x he' hx' => ?_)))
  obtain ⟨o, ho, hc⟩ := hx'
  exact wpAny_bind (wpAny_isInstance (T := "StopIteration") (b := true) ⟨o, ho, hc⟩ isSubtype_stop (wpAny_pure (hQ _ he')))
end
/-- the tuple at a, each item in a new pair with its number -/
def ItT (K : PySem.W.Frag) (a : Addr) : It :=
  ⟨fun i H => ∃ (xs : List V) (x : V), SqT K H a xs ∧ xs[i]? = some x, fun i H v H' => ∃ T x, v = .ref T ∧ H T = none ∧ H' = upd H T (.tup [.int (i : Nat), x]) ∧ ∀ xs, SqT K H a xs → xs[i]? = some x, fun i H => ∃ xs : List V, SqT K H a xs ∧ xs.length ≤ i⟩
theorem turn_enT {P : Program} {w : World} {K : PySem.W.Frag} {elts : List Expr} {kk : Nat} {tpos : Pos} (a e it : Addr) :
    Turn P w K (.Tuple elts kk tpos) (ItT K a) [e, it] e (fun i h => (∃ old, IsEnum h e it ((i : Nat) : Int) old) ∧ h.IsTupleIter it a i ∧ e ≠ it) where
  mem := by simp
  obj := fun i h st b hb => by
    obtain ⟨⟨old, he⟩, ⟨o, ho, hc, hd⟩, _⟩ := st
    have e' : b = e ∨ b = it := by simpa using hb
    rcases e' with z | z
    · rw [z]; exact ⟨_, he, fun v q => nomatch q⟩
    · rw [z]; exact ⟨o, ho, fun v q => by rw [hd] at q; cases q⟩
  keep := fun i h h' st k => by
    obtain ⟨⟨old, he⟩, ⟨o, ho, r⟩, hne⟩ := st
    exact ⟨⟨old, k e (by simp) _ he⟩, ⟨o, k it (by simp) o ho, r⟩, hne⟩
  item := by
    intro X hP hw hK hc i pins s σ H E I hf st hg
    subst hP hw hK
    obtain ⟨⟨old, he⟩, hit, hne⟩ := st
    obtain ⟨xs, x, hq, hx⟩ := hg
    obtain ⟨its, rv, p, hz⟩ := I.tuple hq
    obtain ⟨u, hu, ru⟩ := rv.get hx
    have hel : e < s.heap.objs.size := Heap.lt_size he
    have hil : it < s.heap.objs.size := by obtain ⟨_, q, _⟩ := hit; exact Heap.lt_size q
    refine en_item (l := a) (xs := its.toArray) he hit p (x := u) (by simpa using hu) hne fun h' ho hit' hT hsz hk => ?_
    refine ⟨_, rfl, wpAny_letOwnedTupleGo_enum (s := { s with heap := h', toks := s.toks + 1 }) ho fun h'' he' sb => ?_⟩
    have hT2 : h''.get? s.heap.objs.size = some { cls := .type "tuple", data := .seq #[.int i s.toks, u] } := (sb.2 _ (Nat.ne_of_gt hel)).trans hT
    have new : ObjOk X.prog X.w (upd H s.heap.objs.size (.tup [.int (i : Nat), x])) h'' s.heap.objs.size (.tup [.int (i : Nat), x]) :=
      ⟨by show 2 ≤ sizeLine; decide, [.int i s.toks, u], .cons ⟨_, rfl⟩ (.cons ru .nil), ⟨_, hT2, rfl, _, rfl⟩⟩
    have I1 : Inv X pins σ (upd H s.heap.objs.size (.tup [.int (i : Nat), x])) { s with heap := h'', toks := s.toks + 1 } :=
      I.turnedNew (ch := [e, it]) (fun b ob hb q => (sb.2 b (fun z => hb (by simp [z]))).trans (hk b ob (fun z => hb (by simp [z])) (fun z => hb (by simp [z])) q)) hf (Nat.le_refl _) new
    have hit'' : h''.IsTupleIter it a (i + 1) := by
      obtain ⟨o, ho2, r⟩ := hit'
      exact ⟨o, (sb.2 it (Ne.symm hne)).trans ho2, r⟩
    refine ⟨.ref s.heap.objs.size, _, I1, rfl, ⟨_, x, rfl, I.hok.fresh (Nat.le_refl _), rfl, fun ys hy => by rw [I.tuple_inj hy hq]; exact hx⟩, ⟨⟨u, ?_⟩, hit'', hne⟩, fun b hb => ?_⟩
    · have e1 : ((i + 1 : Nat) : Int) = (i : Int) + 1 := by omega
      rw [e1]; exact he'
    · have hb' : b < s.heap.objs.size := by
        have e' : b = e ∨ b = it := by simpa using hb
        rcases e' with z | z <;> rw [z] <;> assumption
      rw [upd_ne (Nat.ne_of_lt hb')]
      exact (hf b hb).1
  done := by
    intro X hP hw hK hc i pins s σ H E I hf st hg
    subst hP hw hK
    obtain ⟨⟨old, he⟩, hit, hne⟩ := st
    obtain ⟨xs, hq, hx⟩ := hg
    obtain ⟨its, rv, p, hz⟩ := I.tuple hq
    obtain ⟨f0, f1, f2, f3, f4, f5⟩ := hf it (by simp)
    have hl := rv.length
    exact en_end (l := a) (xs := its.toArray) (I.ok.hd hc) he hit p (by simp; omega) fun h' eb => ⟨rfl, I.turned (t' := s.toks) (fun b o hb q => eb b o hb q) f0 f1 f3 f4 f5⟩
  self := fun A i s Q E st h => let ⟨⟨_, he⟩, _⟩ := st; wpAny_pyIter_enum he h
/-- enumerate(xs), xs a list or a tuple -/
def iEnumA (K : PySem.W.Frag) (ta : TA) : TI := fun σ H R => ta σ H fun vs H1 => ∃ a xs, vs = [.ref a] ∧ ((SqL K H1 a xs ∧ R (Ite K a) H1) ∨ (SqT K H1 a xs ∧ R (ItT K a) H1))
theorem pi_enumA {X : Cx} {e : Expr} {ta : TA} {p pos tpos : Pos} {elts : List Expr} {kk : Nat} (hg : Gl X "enumerate") (hm : X.mg "enumerate" = none) (ha : PA X [e] ta) (hs : starEach [e] X.env = [(false, eval e X.env)] := by rfl) :
    PI X (.Tuple elts kk tpos) (.Call (.Name "enumerate" p) [e] [] pos) (iEnumA X.K ta) := by
  refine ⟨fun pins s σ H R I h => ?_⟩
  refine Call_ (ld_blt I hg hm boot_enumerate (PyProof.Rows.callWith_type1 (thn (ha.run pos pins s σ H _ I h) fun us s1 ⟨vs, H1, I1, r1, q1⟩ => ?_) hs rfl))
  obtain ⟨a, xs, ex, q⟩ := q1
  subst ex
  obtain ⟨u, rfl, ru⟩ := vals1 r1
  obtain rfl : u = Value.ref a := ru
  have bnd : ∀ b ∈ [s1.heap.objs.size + 1, s1.heap.objs.size], s1.heap.objs.size ≤ b := fun b hb => by
    have e' : b = s1.heap.objs.size + 1 ∨ b = s1.heap.objs.size := by simpa using hb
    omega
  rcases q with ⟨hq, q⟩ | ⟨hq, q⟩
  · obtain ⟨its, rv, p', hz⟩ := I1.list hq
    refine call_enumerate_list p'.isList fun h' he hit hsz hk => wpAny_pyIter_enum he ?_
    have I2 : Inv X pins σ H1 { s1 with heap := h' } := I1.kept (t' := s1.toks) hk
    exact ⟨s1.heap.objs.size + 1, [s1.heap.objs.size + 1, s1.heap.objs.size], _, _, H1, rfl, I2, turn_enum a (s1.heap.objs.size + 1) s1.heap.objs.size, ⟨⟨.none, he⟩, hit, Nat.succ_ne_self _⟩, fun b hb => I1.fpOk (bnd b hb) (I1.hok.fresh (bnd b hb)), q⟩
  · obtain ⟨its, rv, p', hz⟩ := I1.tuple hq
    refine en_call (l := a) (xs := its.toArray) p' fun h' he hit hsz hk => wpAny_pyIter_enum he ?_
    have I2 : Inv X pins σ H1 { s1 with heap := h' } := I1.kept (t' := s1.toks) hk
    exact ⟨s1.heap.objs.size + 1, [s1.heap.objs.size + 1, s1.heap.objs.size], _, _, H1, rfl, I2, turn_enT a (s1.heap.objs.size + 1) s1.heap.objs.size, ⟨⟨.none, he⟩, hit, Nat.succ_ne_self _⟩, fun b hb => I1.fpOk (bnd b hb) (I1.hok.fresh (bnd b hb)), q⟩
theorem walk_enT {K : PySem.W.Frag} {a : Addr} {xs : List V} : Walk (ItT K a) xs.length (fun H => SqT K H a xs) (YPair (fun i => some (.int (i : Nat))) (fun i => xs[i]?)) := by
  refine ⟨fun i _ hi q => ⟨xs, xs[i], q, by simp [hi]⟩, fun _ q => ⟨xs, q, Nat.le_refl _⟩, fun i H v H' _ q y => ?_⟩
  obtain ⟨T, x, h1, h2, h3, h4⟩ := y
  exact ⟨T, .int (i : Nat), x, h1, h2, h3, rfl, h4 xs q⟩
end Nm
set_option autoImplicit true
set_option maxRecDepth 100000
set_option maxHeartbeats 4000000
/-! own __len__; the fields of an exception that is being made; defs that let exceptions out; kept; BadNumber.__init__ -/
namespace Nm
open PySem PySem.Spec PyProof.Rows L2
section
variable {X : Cx}
/-- o.f, o an exception that is being made -/
def tExoF (K : PySem.W.Frag) (f : Str) (te : TE) : TE := fun σ H Q => te σ H fun x H1 => ∃ (a C dx : Addr) (fs : List (Str × V)) (v : V), x = .ref a ∧ XfC K C ∧ PySem.W.findIn K (.ref C) f = some none ∧ H1 a = some (exo a C (some dx)) ∧ H1 dx = some (exd dx fs) ∧ fs.lookup f = some v ∧ Q v H1
theorem pe_exoF {e : Expr} {te : TE} {f : Str} {pos : Pos} (he : PE X e te) (hb : attributeBase e f X.env (eval e X.env) = eval e X.env := by rfl) : PE X (.Attribute e f pos) (tExoF X.K f te) := by
  refine ⟨fun pins s σ H Q I h => ?_⟩
  refine attr_of hb (thn (he.run pins s σ H _ I h) fun u s1 hh => ?_)
  obtain ⟨x, H1, I1, rx, a, C, dx, fs, v, ex, T, hno, ha, hd, hl, q⟩ := hh
  subst ex
  obtain rfl : u = Value.ref a := rx
  obtain ⟨t1, ho⟩ := exo_at I1.hok ha
  obtain ⟨mA, hns, hr⟩ := exd_at I1.hok hd
  obtain ⟨od, hod, hlk⟩ := lookIn_ns hns
  obtain ⟨w', hw, rw'⟩ := RelO.some_of (v := v) (o := mA f) (by rw [← hl]; exact hr f)
  have J : PySem.W.InstAt s1.heap a _ C (some od) := ⟨ho, rfl, rfl, hod⟩
  exact HandSPX.exc_get I1.kIn J T.ga T.gg T.exC (PySem.W.findObj_own T.hdC hno rfl (by rw [hlk, hw])) (handed_of rw') ⟨v, H1, I1.tok _, rw', q⟩
/-- a body that is never reached -/
theorem pss_no {b : List Stmt} : PSs X b (fun _ _ _ => False) := ⟨fun _ _ _ _ _ _ h => h.elim⟩
end
section
variable {P : Program} {w : World} {K : PySem.W.Frag} {mg : Str → Option Value} {base : Heap}
/-- a def that may let exceptions out -/
theorem okX {x qual : Str} {st : Stmt} {f : Addr} {fd : FuncData} {N ps : List Str} {k : Nat} {sp : Sp} (F : Fun K x qual st f fd) (S : FnScope N ps (defScope st)) (len : ∀ vs H Q E, sp vs H Q E → vs.length = ps.length)
    (hbody : ∀ (cdv : Value) (A : Around) (outer : List Env) (s : Shared) (H : Hp) (vs : List V) (Q : VK) (E : XK), Room k (A.deeper (envOfC qual (defScope st) s.heap.objs.size f cdv)) → sp vs H Q E →
      ∃ t, PSs (cxOf (L2.CX P w) P w K mg base N qual (defScope st) f cdv A outer s H E) (defBody st) t ∧ t { nx := fun _ H' => Q .non H', rt := Q } (start N vs) H) : FnOk P w K mg base (L2.CX P w) (k + 1) f fd ps sp := by
  obtain ⟨oc, od, kV, doc, pm, an, cdv, ct, osl, rfl, lk, hcd⟩ := F.ex
  exact fn_of lk hcd S len fun A outer s H vs Q E hr hsp => hbody cdv A outer s H vs Q E hr hsp
/-! ### kept, of a number or a text -/
structure TxtKe (mg : Str → Option Value) : Prop where
  isinstance : mg "isinstance" = none
  list : mg "list" = none
  tuple : mg "tuple" = none
  dict : mg "dict" = none

def spKept : Sp := fun vs H Q _ => ∃ x : V, vs = [x] ∧ ((∃ i, x = .int i) ∨ ∃ z, x = .str z) ∧ Q x H
abbrev nKe : List Str := ["value", "part", "key"]
theorem scKe : FnScope ["value"] ["value"] (defScope sKept) := ⟨rfl, rfl, rfl, by decide +kernel, rfl, by decide +kernel, by decide +kernel⟩
theorem ok_kept {f : Addr} {fd : FuncData} (F : Fun K "kept" "kept" sKept f fd) (T : TxtKe mg) : FnOk P w K mg base CX0 1 f fd ["value"] spKept := by
  refine F.ok scKe (fun vs H Q E h => ?_) (fun cdv A outer s H vs Q E hr h => ?_)
  · obtain ⟨_, rfl, _⟩ := h
    rfl
  · obtain ⟨x, rfl, hx, k⟩ := h
    refine ⟨_, pss_cons (ps_if (pt_val (pe_callB call_isi (by rfl) T.isinstance (by decide +kernel) (pa_cons (pv 0) (pa_cons (pe_bltn (v := .ty "list") (by rfl) T.list (by decide +kernel) rfl) pa_nil)))) pss_no pss_nil)
      (pss_cons (ps_if (pt_val (pe_callB call_isi (by rfl) T.isinstance (by decide +kernel) (pa_cons (pv 0) (pa_cons (pe_bltn (v := .ty "tuple") (by rfl) T.tuple (by decide +kernel) rfl) pa_nil)))) pss_no pss_nil)
      (pss_cons (ps_if (pt_val (pe_callB call_isi (by rfl) T.isinstance (by decide +kernel) (pa_cons (pv 0) (pa_cons (pe_bltn (v := .ty "dict") (by rfl) T.dict (by decide +kernel) rfl) pa_nil)))) pss_no pss_nil)
      (pss_one (ps_ret (pv 0))))), ?_⟩
    rcases hx with ⟨i, rfl⟩ | ⟨z, rfl⟩
    · refine ⟨_, rfl, _, _, _, _, false, rfl, ClsV.ty "list", TyX.base (TyOf.int i), kit_ty (by decide +kernel), _, rfl, iteF ?_⟩
      refine ⟨_, rfl, _, _, _, _, false, rfl, ClsV.ty "tuple", TyX.base (TyOf.int i), kit_ty (by decide +kernel), _, rfl, iteF ?_⟩
      refine ⟨_, rfl, _, _, _, _, false, rfl, ClsV.ty "dict", TyX.base (TyOf.int i), kit_ty (by decide +kernel), _, rfl, iteF ?_⟩
      exact ⟨_, rfl, k⟩
    · refine ⟨_, rfl, _, _, _, _, false, rfl, ClsV.ty "list", TyX.base (TyOf.str z), kit_ty (by decide +kernel), _, rfl, iteF ?_⟩
      refine ⟨_, rfl, _, _, _, _, false, rfl, ClsV.ty "tuple", TyX.base (TyOf.str z), kit_ty (by decide +kernel), _, rfl, iteF ?_⟩
      refine ⟨_, rfl, _, _, _, _, false, rfl, ClsV.ty "dict", TyX.base (TyOf.str z), kit_ty (by decide +kernel), _, rfl, iteF ?_⟩
      exact ⟨_, rfl, k⟩
end
section
variable {P : Program} {w : World} {K : PySem.W.Frag} {mg : Str → Option Value} {base : Heap}
/-! ### BadNumber.__init__ -/
def spBadI (C : Addr) : Sp := fun vs H Q _ => ∃ (a : Addr) (n : Nat), vs = [.ref a, .int (n : Int)] ∧ n ≤ 100000 ∧ H a = some (exo a C none) ∧ ∀ d : Addr, H d = none → d ≠ a → Q .non (upd (upd H d (exd d [("number", .int (n : Int))])) a (exo a C (some d)))
theorem ssBad : SupS "self" "number" (defScope sBadNumberInit) := ⟨rfl, rfl, rfl, by decide, rfl, rfl, by decide +kernel, by decide +kernel, rfl, rfl⟩
theorem num_text {n : Nat} (h : n ≤ 100000) : ((toString (n : Int) : String) : Str).length ≤ 10 := by
  have e := PySem.int_text_length_le10 (a := (n : Int)) (k := 9) (by decide) (by rw [Int.natAbs_natCast]; omega)
  rw [PySem.ofString_length]
  exact e
theorem num_log {n : Nat} (h : n ≤ 100000) : ((n : Int)).natAbs.log2 < 1920 := by
  rw [Int.natAbs_natCast]
  by_cases z : n = 0
  · subst z
    decide
  · exact (Nat.log2_lt z).mpr (Nat.lt_of_le_of_lt h (by decide +kernel))
theorem ok_badI {C f cda cc : Addr} {fd : FuncData} (F : SupF P K C f cda cc fd "BadNumber.__init__" sBadNumberInit "self") (X0 : XfC K C) (nN : PySem.W.findIn K (.ref C) "number" = some none) (hms : mg "super" = none)
    (Gk : Def P w K mg base "kept" ["value"] 1 spKept) : FnOk P w K mg base CX0 2 f fd ["self", "number"] (spBadI C) := by
  obtain ⟨fk, fdk, Gk, mk, kk, bk⟩ := Gk.ex
  refine sup_def (k := 1) F ssBad hms rfl (fun vs H Q E h => ?_) (fun A outer s H vs Q E hr h => ?_)
  · obtain ⟨_, _, rfl, _⟩ := h
    rfl
  · obtain ⟨a, n, rfl, hn, ha, k⟩ := h
    refine ⟨a, _, _, ps_ost (pv 0) (pe_call Gk hr (by rfl) mk kk bk .nil pass0 (pa_cons (pv 1) pa_nil)), pa_cons (pe_joined (PJ.cons pe_str (PJ.cons (pe_fmtR (pe_exoF (pv 0))) PJ.nil))) pa_nil, ?_⟩
    refine ⟨_, rfl, _, rfl, .inl ⟨_, rfl⟩, _, rfl, a, C, rfl, F.oex, nN, .inl ⟨ha, fun d hd hda => ⟨rfl, d, upd_same, fun R hR => ?_⟩⟩⟩
    have hd2 : (upd (upd H d (exd d [("number", .int (n : Int))])) a (exo a C (some d))) d = some (exd d [("number", .int (n : Int))]) := by
      rw [upd_ne hda]
      exact upd_same
    refine ⟨_, rfl, (by decide +kernel), _, rfl, a, C, d, _, _, rfl, X0, nN, upd_same, hd2, rfl, .inr ⟨(n : Int), rfl, num_log hn, _, rfl, ?_, ?_⟩⟩
    · have := num_text hn
      rw [strLen_append, strLen_append, sizeLine_eq]
      have e1 : Str.empty.length = 0 := rfl
      have e2 : ("a wrong number, length or place in a list: " : Str).length = 43 := by decide +kernel
      omega
    · exact hR _ _ (by show (1 : Nat) ≤ 1000; decide) upd_same (k d hd hda)
end
section
variable {P : Program} {w : World} {K : PySem.W.Frag} {mg : Str → Option Value} {base : Heap}
/-! ### is_number of anything -/
inductive NumX (H : Hp) : V → Prop where
  | int (i : Int) : NumX H (.int i)
  | bl (b : Bool) : NumX H (.bl b)
  | non : NumX H .non
  | str (z : Str) : NumX H (.str z)
  | lst {a : Addr} {ys : List V} (e : H a = some (.lst ys)) : NumX H (.ref a)
  | tup {a : Addr} {ys : List V} (e : H a = some (.tup ys)) : NumX H (.ref a)
theorem NumX.ext {H H' : Hp} {x : V} (h : NumX H x) (s : Same H H') : NumX H' x := by
  cases h with
  | int i => exact .int i
  | bl b => exact .bl b
  | non => exact .non
  | str z => exact .str z
  | lst e => exact .lst (s _ _ e)
  | tup e => exact .tup (s _ _ e)
def isIntV : V → Bool
  | .int _ => true
  | _ => false
def spInt : Sp := fun vs H Q _ => ∃ x : V, vs = [x] ∧ NumX H x ∧ Q (.bl (isIntV x)) H
theorem ok_int {f : Addr} {fd : FuncData} (F : Fun K "is_integer" "is_integer" sIsInteger f fd) (T : TxtG mg) : FnOk P w K mg base CX0 1 f fd ["value"] spInt := by
  refine F.ok scInteger (fun vs H Q E h => ?_) (fun cdv A outer s H vs Q E hr h => ?_)
  · obtain ⟨_, rfl, _⟩ := h
    rfl
  · obtain ⟨x, rfl, hx, k⟩ := h
    refine ⟨_, pss_one (ps_ret (pe_and (pe_callB call_isi (by rfl) T.isinstance (by decide +kernel) (pa_cons (pv 0) (pa_cons (pe_bltn (v := .ty "int") (by rfl) T.int (by decide +kernel) rfl) pa_nil)))
      (pe_one (pe_not (pe_callB call_isi (by rfl) T.isinstance (by decide +kernel) (pa_cons (pv 0) (pa_cons (pe_bltn (v := .ty "bool") (by rfl) T.bool (by decide +kernel) rfl) pa_nil))))))), ?_⟩
    cases hx with
    | int i =>
      refine ⟨_, rfl, _, _, _, _, true, rfl, ClsV.ty "int", TyX.base (TyOf.int i), kit_ty (by decide +kernel), _, rfl, iteT ?_⟩
      exact ⟨_, rfl, _, _, _, _, false, rfl, ClsV.ty "bool", TyX.base (TyOf.int i), kit_ty (by decide +kernel), _, rfl, k⟩
    | bl b =>
      refine ⟨_, rfl, _, _, _, _, true, rfl, ClsV.ty "int", TyX.base (TyOf.bl b), kit_ty (by decide +kernel), _, rfl, iteT ?_⟩
      exact ⟨_, rfl, _, _, _, _, true, rfl, ClsV.ty "bool", TyX.base (TyOf.bl b), kit_ty (by decide +kernel), _, rfl, k⟩
    | non => exact ⟨_, rfl, _, _, _, _, false, rfl, ClsV.ty "int", TyX.base TyOf.non, kit_ty (by decide +kernel), _, rfl, iteF k⟩
    | str z => exact ⟨_, rfl, _, _, _, _, false, rfl, ClsV.ty "int", TyX.base (TyOf.str z), kit_ty (by decide +kernel), _, rfl, iteF k⟩
    | lst e => exact ⟨_, rfl, _, _, _, _, false, rfl, ClsV.ty "int", TyX.base (TyOf.lst e), kit_ty (by decide +kernel), _, rfl, iteF k⟩
    | tup e => exact ⟨_, rfl, _, _, _, _, false, rfl, ClsV.ty "int", TyX.base (TyOf.tup e), kit_ty (by decide +kernel), _, rfl, iteF k⟩
end
section
variable {P : Program} {w : World} {K : PySem.W.Frag} {mg : Str → Option Value} {base : Heap}
structure TxtBad (P : Program) (w : World) (K : PySem.W.Frag) (mg : Str → Option Value) (base : Heap) (CB : Addr) : Prop where
  mB : mg "BadNumber" = some (.ref CB)
  oex : OexC K CB
  xf : XfC K CB
  nNu : PySem.W.findIn K (.ref CB) "number" = some none
  ini : ∃ f fd, PySem.W.findIn K (.ref CB) "__init__" = some (some (.ref f)) ∧ PySem.W.typeIn K (.ref f) = some (.type "function") ∧ FnOk P w K mg base CX0 2 f fd ["self", "number"] (spBadI CB) ∧ Binds K fd ["self", "number"] []
/-- what the making of the exception leaves -/
theorem made_bad {H1 : Hp} {a d CB : Addr} {fs : List (Str × V)} (h1 : H1 a = none) (h2 : upd H1 a (exo a CB none) d = none) (h3 : d ≠ a) {H2 : Hp} (e : H2 = upd (upd (upd H1 a (exo a CB none)) d (exd d fs)) a (exo a CB (some d))) : H1 d = none ∧ Same H1 (upd (del H2 a) d (.xd fs)) := by
  have hd : H1 d = none := by
    rw [upd_ne h3] at h2
    exact h2
  refine ⟨hd, fun b o hb => ?_⟩
  have n1 : b ≠ a := ne_of_none hb h1
  have n2 : b ≠ d := ne_of_none hb hd
  rw [upd_ne n2, del_ne n1, e, upd_ne n1, upd_ne n2, upd_ne n1]
  exact hb
theorem raise_bad {CB : Addr} {H H4 : Hp} {a : Addr} {n : Nat} {E : XK} (hn : n ≤ 100000) (ha : H4 a = none) (s : Same H H4) (ke : ∀ (d : Addr) (H' : Hp), H d = none → H' d = some (.xd [("number", .int (n : Int))]) → Same H H' → E (.ref CB) (some d) H') :
    spBadI CB (V.ref a :: ([V.int (n : Int)] ++ [])) (upd H4 a (exo a CB none)) (fun v H2 => v = .non ∧ ∃ (d : Addr) (fs : List (Str × V)), H2 a = some (exo a CB (some d)) ∧ H2 d = some (exd d fs) ∧ H4 d = none ∧ E (.ref CB) (some d) (upd (del H2 a) d (.xd fs))) (fun _ _ _ => False) := by
  refine ⟨a, n, rfl, hn, upd_same, fun d hd hda => ?_⟩
  obtain ⟨h1, h2⟩ := made_bad (fs := [("number", .int (n : Int))]) ha hd hda rfl
  exact ⟨rfl, d, _, upd_same, by rw [upd_ne hda]; exact upd_same, h1, ke d _ (s.free h1) upd_same fun b o e => h2 _ _ (s _ _ e)⟩
end
section
variable {X : Cx}
/-- C(), C an own class of exceptions without an own __init__ -/
theorem pmk_bare {C : Addr} {bmB : List Value} {B newId initId : String} {x : Str} {p pos : Pos} (F : ExcBaseFacts B newId initId bmB) (q : PySem.W.excIn X.K C bmB newId = true) (gC : X.mg x = some (.ref C))
    (kC : PySem.W.keepIn X.K (.ref C) = true) (r : Raises X (.ref C)) (hg : Gl X x) (hdb : (x == ("__debug__" : Str)) = false := by decide) : PMk X (.Call (.Name x p) [] [] pos) (fun _ H Q => Q (.ref C) none H) := by
  intro pins s σ H Q I h
  obtain ⟨bm, N, nm, qn, bs, hdct, sn, sub, ab, col, dd, k0, k1, k2, k3, k5, mN, hC, hN, hni, T⟩ := exc_obj I.kIn q
  refine wpAny_Call_Name_kw (ld_glob I hg gC (PySem.W.callWith_K0 I.kIn kC ?_) hdb)
  exact wpAny_call_exc_subT F T hC hN hni (fun h' e hm => mk_of I hm r h (I.hok.gone hm.new)) (Nat.zero_le _)
end
end Nm
set_option autoImplicit true
set_option maxRecDepth 100000
set_option maxHeartbeats 4000000
/-! dict(zip(a list, a list or a tuple)), of one length -/
namespace Nm
open PySem PySem.Spec PyProof.Rows L2
/-- at i an iterator over the list or tuple at l, k turns on -/
def It2 (h : Heap) (i l : Addr) (k : Nat) (ys : Array Value) : Prop := (h.IsListIter i l k ∧ h.IsList l ys) ∨ (h.IsTupleIter i l k ∧ h.IsTuple l ys)
theorem It2.there {h : Heap} {i l : Addr} {k : Nat} {ys : Array Value} (x : It2 h i l k ys) : (∃ o, h.get? i = some o) ∧ ∃ o, h.get? l = some o := by
  rcases x with ⟨⟨o, e, _⟩, ⟨u, f, _⟩⟩ | ⟨⟨o, e, _⟩, ⟨u, f, _⟩⟩ <;> exact ⟨⟨o, e⟩, ⟨u, f⟩⟩
theorem It2.goes {h h' : Heap} {i l : Addr} {k : Nat} {ys : Array Value} (x : It2 h i l k ys) (a : ∀ o, h.get? i = some o → h'.get? i = some o) (b : ∀ o, h.get? l = some o → h'.get? l = some o) : It2 h' i l k ys := by
  rcases x with ⟨⟨o, e, r⟩, ⟨u, f, q⟩⟩ | ⟨⟨o, e, r⟩, ⟨u, f, q⟩⟩
  · exact .inl ⟨⟨o, a o e, r⟩, ⟨u, b u f, q⟩⟩
  · exact .inr ⟨⟨o, a o e, r⟩, ⟨u, b u f, q⟩⟩
section
variable {P : Program} {w : World} {A : Around} {E : Value → Shared → Prop} {s : Shared} {z TI TO T i1 i2 l1 l2 : Addr} {xs ys : Array Value}
theorem it2_next {k : Nat} {y : Value} {Q : Value → Shared → Prop} (x : It2 s.heap i2 l2 k ys) (n : l2 ≠ i2) (hy : ys[k]? = some y) (hQ : ∀ h', It2 h' i2 l2 (k + 1) ys → Heap.SameBut i2 s.heap h' → Q y { s with heap := h' }) :
    wpAny (model P w) A (Builtin.SmallTypes.nextOf (.ref i2)) Q E s := by
  rcases x with ⟨a, b⟩ | ⟨a, b⟩
  · exact wpAny_nextOf_list_item a b hy fun h' c sb => hQ h' (.inl ⟨c, b.extBut sb.extBut n⟩) sb
  · exact RZ.nextOf_tuple_item a b hy fun h' c sb => hQ h' (.inr ⟨c, b.extBut sb.extBut n⟩) sb
/-- the first turn: the zip's own pair is handed out -/
theorem zm_first {k : Nat} {x y a b : Value} {Q : Value → Shared → Prop} (D : ZipApart z TI TO i1 i2 l1 l2) (hz : IsZip s.heap z TI TO .none) (hTI : IsPair s.heap TI (.ref i1) (.ref i2)) (hTO : IsPair s.heap TO a b)
    (g1 : s.heap.IsListIter i1 l1 k) (g2 : It2 s.heap i2 l2 k ys) (gl : s.heap.IsList l1 xs) (hx : xs[k]? = some x) (hy : ys[k]? = some y)
    (hQ : ∀ h', IsZip h' z TI TO (rawInt s.heap.objs.size) → IsPair h' TO x y → h'.IsListIter i1 l1 (k + 1) → It2 h' i2 l2 (k + 1) ys → IsPair h' s.heap.objs.size x y → h'.objs.size = s.heap.objs.size + 1 →
      (∀ c o, c ≠ z → c ≠ TO → c ≠ i1 → c ≠ i2 → s.heap.get? c = some o → h'.get? c = some o) → Q (.ref s.heap.objs.size) { s with heap := h' }) :
    wpAny (model P w) A (Builtin.«zip.__next__» ⟨[.ref z], []⟩) (fun fin s' => ∃ v, fin = .done (.ret v) ∧ Q v s') E s := by
  show wpAny _ _ (field (.ref z) 2 >>= _) _ _ _
  refine wpAny_bind (wpAny_field hz rfl (x := .bool false) rfl ?_)
  show wpAny _ _ (field (.ref z) 3 >>= _) _ _ _
  refine wpAny_bind (wpAny_field hz rfl (x := .ref TI) rfl (wpAny_bind (wpAny_seqItems hTI rfl ?_)))
  show wpAny _ _ (Builtin.SmallTypes.ownedTupleIsFree (.ref z) >>= _) _ _ _
  refine wpAny_bind ?_
  unfold Builtin.SmallTypes.ownedTupleIsFree
  refine wpAny_bind (wpAny_field hz rfl (x := .none) rfl (wpAny_pure ?_))
  simp only [if_true]
  refine wpAny_bind (wpAny_rule (wpAny_bind (wpAny_field hz rfl (x := .ref TO) rfl (wpAny_bind (wpAny_setField_rec hz (by simp) fun ha za sa => ?_)))))
  replace za : IsZip ha z TI TO .ellipsis := za
  refine wpAny_bind ?_
  simp only [List.zipIdx_cons, List.zipIdx_nil, List.forIn_cons, List.forIn_nil]
  refine wpAny_bind (wpAny_bind (wpAny_onRaise ?_))
  show wpAny _ _ (Builtin.SmallTypes.nextOf (.ref i1) >>= _) _ _ _
  refine wpAny_bind (wpAny_nextOf_list_item (g1.extBut sa.extBut D.i1z) (gl.extBut sa.extBut D.l1z) hx fun hb gb sb => wpAny_pure ?_)
  have tb : IsPair hb TO a b := sb.extBut _ _ D.TOi1 (sa.extBut _ _ D.TOz hTO)
  refine wpAny_bind (wpAny_seqItems tb rfl (wpAny_bind (wpAny_updateSeq_pair tb fun hc tc sc => ?_)))
  replace tc : IsPair hc TO x b := tc
  refine wpAny_bind (wpAny_letGo (wpAny_pure ?_))
  refine wpAny_bind (wpAny_bind (wpAny_onRaise ?_))
  show wpAny _ _ (Builtin.SmallTypes.nextOf (.ref i2) >>= _) _ _ _
  have g2c : It2 hc i2 l2 k ys := g2.goes (fun o e => sc.extBut _ _ D.TOi2.symm (sb.extBut _ _ D.i12.symm (sa.extBut _ _ D.i2z e))) fun o e => sc.extBut _ _ D.l2TO (sb.extBut _ _ D.l2i1 (sa.extBut _ _ D.l2z e))
  refine wpAny_bind (it2_next (s := { s with heap := hc }) g2c D.l2i2 hy fun hd gd sd => wpAny_pure ?_)
  have td : IsPair hd TO x b := sd.extBut _ _ D.TOi2 tc
  refine wpAny_bind (wpAny_seqItems td rfl (wpAny_bind (wpAny_updateSeq_pair td fun he te se => ?_)))
  replace te : IsPair he TO x y := te
  refine wpAny_bind (wpAny_letGo (wpAny_pure (wpAny_pure ?_)))
  refine wpAny_bind (wpAny_seqItems te rfl (wpAny_bind (wpAny_newTuple ?_)))
  have size : he.objs.size = s.heap.objs.size := by rw [se.1, sd.1, sc.1, sb.1, sa.1]
  have ze : IsZip he z TI TO .ellipsis := se.extBut _ _ D.TOz.symm (sd.extBut _ _ D.i2z.symm (sc.extBut _ _ D.TOz.symm (sb.extBut _ _ D.i1z.symm za)))
  have ke : ∀ c o, c ≠ z → c ≠ TO → c ≠ i1 → c ≠ i2 → s.heap.get? c = some o → he.get? c = some o := fun c o n1 n2 n3 n4 e => se.extBut _ _ n2 (sd.extBut _ _ n4 (sc.extBut _ _ n2 (sb.extBut _ _ n3 (sa.extBut _ _ n1 e))))
  have ge : he.IsListIter i1 l1 (k + 1) := ((gb.extBut sc.extBut D.TOi1.symm).extBut sd.extBut D.i12).extBut se.extBut D.TOi1.symm
  have g2e : It2 he i2 l2 (k + 1) ys := gd.goes (fun o e => se.extBut _ _ D.TOi2.symm e) fun o e => se.extBut _ _ D.l2TO e
  have zlt : z < he.objs.size := Heap.lt_size ze
  show wpAny _ _ (Builtin.SmallTypes.ownedTupleHandOut (.ref z) (.ref he.objs.size) >>= _) _ _ _
  refine wpAny_bind ?_
  unfold Builtin.SmallTypes.ownedTupleHandOut
  have zf : IsZip (he.push { cls := .type "tuple", data := .seq #[x, y] }) z TI TO .ellipsis := Heap.get?_push_of_some _ ze
  refine wpAny_bind (wpAny_setField_rec zf (by simp) fun hg zg sg => ?_)
  replace zg : IsZip hg z TI TO (rawInt he.objs.size) := zg
  refine wpAny_setField_rec zg (by simp) fun hi zi si => ?_
  replace zi : IsZip hi z TI TO (rawInt he.objs.size) := zi
  have up : ∀ c o, c ≠ z → he.get? c = some o → hi.get? c = some o := fun c o n e => si.extBut _ _ n (sg.extBut _ _ n (Heap.get?_push_of_some _ e))
  have Ti : IsPair hi he.objs.size x y := si.extBut _ _ (Nat.ne_of_gt zlt) (sg.extBut _ _ (Nat.ne_of_gt zlt) (Heap.get?_push_size _ rfl))
  have sz : hi.objs.size = he.objs.size + 1 := by rw [si.1, sg.1, Heap.size_push]
  rw [size] at zi Ti sz
  refine wpAny_pure ⟨_, rfl, ?_⟩
  show Q (.ref he.objs.size) _
  rw [size]
  exact hQ hi zi (up _ _ D.TOz te) (ge.at fun o e => up _ o D.i1z e) (g2e.goes (fun o e => up _ o D.i2z e) fun o e => up _ o D.l2z e) Ti sz fun c o n1 n2 n3 n4 e => up c o n1 (ke c o n1 n2 n3 n4 e)
/-- a later turn, the pair held elsewhere: a new one -/
theorem zm_later {k : Nat} {f : Bool} {oT : Obj} {x y : Value} {Q : Value → Shared → Prop} (D : ZipApart z TI TO i1 i2 l1 l2) (hz : IsZipHeld s.heap z TI TO T f) (hT : s.heap.get? T = some oT) (hTI : IsPair s.heap TI (.ref i1) (.ref i2))
    (g1 : s.heap.IsListIter i1 l1 k) (g2 : It2 s.heap i2 l2 k ys) (gl : s.heap.IsList l1 xs) (hx : xs[k]? = some x) (hy : ys[k]? = some y)
    (hQ : ∀ h', IsZipHeld h' z TI TO T true → h'.IsListIter i1 l1 (k + 1) → It2 h' i2 l2 (k + 1) ys → IsPair h' s.heap.objs.size x y → (∀ c o, c ≠ z → c ≠ i1 → c ≠ i2 → s.heap.get? c = some o → h'.get? c = some o) → Q (.ref s.heap.objs.size) { s with heap := h' }) :
    wpAny (model P w) A (Builtin.«zip.__next__» ⟨[.ref z], []⟩) (fun fin s' => ∃ v, fin = .done (.ret v) ∧ Q v s') E s := by
  show wpAny _ _ (field (.ref z) 2 >>= _) _ _ _
  refine wpAny_bind (wpAny_field hz rfl (x := .bool false) rfl ?_)
  show wpAny _ _ (field (.ref z) 3 >>= _) _ _ _
  refine wpAny_bind (wpAny_field hz rfl (x := .ref TI) rfl (wpAny_bind (wpAny_seqItems hTI rfl ?_)))
  show wpAny _ _ (Builtin.SmallTypes.ownedTupleIsFree (.ref z) >>= _) _ _ _
  refine wpAny_bind (wpAny_tupleHeld_zip hz hT fun ha za sa => ?_)
  simp only [Bool.false_eq_true, if_false]
  refine wpAny_bind ?_
  rw [← Array.forIn_toList]
  simp only [List.forIn_cons, List.forIn_nil]
  refine wpAny_bind (wpAny_bind (wpAny_holding ?_))
  show wpAny _ _ (Builtin.SmallTypes.nextOf (.ref i1) >>= _) _ _ _
  refine wpAny_bind (wpAny_nextOf_list_item (s := { s with heap := ha }) (g1.extBut sa.extBut D.i1z) (gl.extBut sa.extBut D.l1z) hx fun hb gb sb => wpAny_pure (wpAny_pure ?_))
  refine wpAny_bind (wpAny_bind (wpAny_holding ?_))
  show wpAny _ _ (Builtin.SmallTypes.nextOf (.ref i2) >>= _) _ _ _
  have g2b : It2 hb i2 l2 k ys := g2.goes (fun o e => sb.extBut _ _ D.i12.symm (sa.extBut _ _ D.i2z e)) fun o e => sb.extBut _ _ D.l2i1 (sa.extBut _ _ D.l2z e)
  refine wpAny_bind (it2_next (s := { s with heap := hb }) g2b D.l2i2 hy fun hc gc sc => wpAny_pure (wpAny_pure (wpAny_pure ?_)))
  show wpAny _ _ (newTuple [x, y] >>= _) _ _ _
  refine wpAny_bind (wpAny_newTuple ?_)
  have size : hc.objs.size = s.heap.objs.size := by rw [sc.1, sb.1, sa.1]
  have zc : IsZipHeld hc z TI TO T true := sc.extBut _ _ D.i2z.symm (sb.extBut _ _ D.i1z.symm za)
  have kc : ∀ c o, c ≠ z → c ≠ i1 → c ≠ i2 → s.heap.get? c = some o → hc.get? c = some o := fun c o n1 n2 n3 e => sc.extBut _ _ n3 (sb.extBut _ _ n2 (sa.extBut _ _ n1 e))
  have gc1 : hc.IsListIter i1 l1 (k + 1) := gb.extBut sc.extBut D.i12
  refine wpAny_pure ⟨_, rfl, ?_⟩
  show Q (.ref hc.objs.size) _
  have np : IsPair (hc.push { cls := .type "tuple", data := .seq #[x, y] }) hc.objs.size x y := Heap.get?_push_size _ rfl
  rw [size] at np ⊢
  exact hQ _ (Heap.get?_push_of_some _ zc) (gc1.at fun o e => Heap.get?_push_of_some _ e) (gc.goes (fun o e => Heap.get?_push_of_some _ e) fun o e => Heap.get?_push_of_some _ e) np fun c o n1 n2 n3 e => Heap.get?_push_of_some _ (kc c o n1 n2 n3 e)
/-- the end: the list has no more -/
theorem zm_end {k : Nat} {f : Bool} {oT : Obj} {Q : PySem.Fin → Shared → Prop} (hh : A.handled = none) (D : ZipApart z TI TO i1 i2 l1 l2) (hz : IsZipHeld s.heap z TI TO T f) (hT : s.heap.get? T = some oT) (hTI : IsPair s.heap TI (.ref i1) (.ref i2))
    (g1 : s.heap.IsListIter i1 l1 k) (gl : s.heap.IsList l1 xs) (hx : xs[k]? = none)
    (hE : ∀ h' e, (∀ c o, c ≠ z → c ≠ i1 → c ≠ i2 → s.heap.get? c = some o → h'.get? c = some o) → (∃ o, h'.get? e = some o ∧ o.cls = .type "StopIteration") → E (.ref e) { s with heap := h' }) :
    wpAny (model P w) A (Builtin.«zip.__next__» ⟨[.ref z], []⟩) Q E s := by
  show wpAny _ _ (field (.ref z) 2 >>= _) _ _ _
  refine wpAny_bind (wpAny_field hz rfl (x := .bool false) rfl ?_)
  show wpAny _ _ (field (.ref z) 3 >>= _) _ _ _
  refine wpAny_bind (wpAny_field hz rfl (x := .ref TI) rfl (wpAny_bind (wpAny_seqItems hTI rfl ?_)))
  show wpAny _ _ (Builtin.SmallTypes.ownedTupleIsFree (.ref z) >>= _) _ _ _
  refine wpAny_bind (wpAny_tupleHeld_zip hz hT fun ha za sa => ?_)
  simp only [Bool.false_eq_true, if_false]
  refine wpAny_bind ?_
  rw [← Array.forIn_toList]
  simp only [List.forIn_cons, List.forIn_nil]
  refine wpAny_bind (wpAny_bind (wpAny_holding ?_))
  show wpAny _ _ (Builtin.SmallTypes.nextOf (.ref i1) >>= _) _ _ _
  refine wpAny_bind (wpAny_nextOf_list_end (s := { s with heap := ha }) hh (g1.extBut sa.extBut D.i1z) (gl.extBut sa.extBut D.l1z) hx fun hb e sb st => ?_)
  exact hE hb e (fun c o n1 n2 _ q => sb _ _ n2 (sa.extBut _ _ n1 q)) st
/-- the five objects of zip(a list, a tuple) -/
def zmHeap (h : Heap) (l1 l2 : Addr) : Heap := ((((h.push { cls := .type "list_iterator", data := .fields #[.ref l1, .int 0 0] }).push { cls := .type "tuple_iterator", data := .fields #[.ref l2, .int 0 0] }).push
  { cls := .type "tuple", data := .seq #[.ref h.objs.size, .ref (h.objs.size + 1)] }).push { cls := .type "tuple", data := .seq #[.none, .none] }).push { cls := .type "zip", data := .fields #[.none, .bool false, .bool false, .ref (h.objs.size + 2), .ref (h.objs.size + 3)] }
theorem zm_new (l1 l2 : Addr) (xs ys : Array Value) :
    Meets (Builtin.«zip.__new__» ⟨[.type "zip", .ref l1, .ref l2], []⟩) (fun _ R s => s.heap.IsList l1 xs ∧ s.heap.IsTuple l2 ys ∧ R (.ok (.ret (.ref (s.heap.objs.size + 4)))) { s with heap := zmHeap s.heap l1 l2 }) :=
  .of_wp fun prog w A R s h => by
    obtain ⟨hp, g, d, tk, os⟩ := s
    obtain ⟨a1, a2, h⟩ := h
    have b1 : Heap.IsList (Shared.heap ⟨hp, g, d, tk, os⟩) l1 xs := a1
    have b2 : Heap.IsTuple (Shared.heap ⟨hp.push { cls := .type "list_iterator", data := .fields #[.ref l1, .int 0 0] }, g, d, tk, os⟩) l2 ys := Heap.IsTuple.push a2 _
    have hsub := sub_zip
    unfold zmHeap at h
    wp_walk using wpAny_pyIter_list b1, wpAny_pyIter_tuple b2
    refine ⟨_, rfl, ?_⟩
    simp only [Heap.size_push, Nat.add_assoc, Nat.reduceAdd]
    exact h
theorem zm_call {Q : Value → Shared → Prop} (gl : s.heap.IsList l1 xs) (g2 : s.heap.IsList l2 ys ∨ s.heap.IsTuple l2 ys)
    (h : ∀ h', IsZip h' (s.heap.objs.size + 4) (s.heap.objs.size + 2) (s.heap.objs.size + 3) .none → IsPair h' (s.heap.objs.size + 2) (.ref s.heap.objs.size) (.ref (s.heap.objs.size + 1)) → IsPair h' (s.heap.objs.size + 3) .none .none →
      h'.IsListIter s.heap.objs.size l1 0 → It2 h' (s.heap.objs.size + 1) l2 0 ys → h'.objs.size = s.heap.objs.size + 5 → (∀ c o, s.heap.get? c = some o → h'.get? c = some o) → Q (.ref (s.heap.objs.size + 4)) { s with heap := h' }) :
    wpAny (model P w) A (call (.type "zip") [.ref l1, .ref l2]) Q E s := by
  rcases g2 with g2 | g2
  · exact call_zip_2 gl g2 fun h' a b c d e f k => h h' a b c d (.inl ⟨e, g2.at fun o q => k _ o q⟩) f k
  · refine callType_new F.called_zip (by decide) (F.typeCall_zip_2 _ _) (F.newCall_zip_2 _ _) (fun obj => F.args_object_init_3 obj _ _) F.entry_zip_new (zm_new l1 l2 xs ys) ⟨gl, g2, ?_⟩
    have up : ∀ c o, s.heap.get? c = some o → (zmHeap s.heap l1 l2).get? c = some o := fun c o q => by
      unfold zmHeap
      exact Heap.get?_push_of_some _ (Heap.get?_push_of_some _ (Heap.get?_push_of_some _ (Heap.get?_push_of_some _ (Heap.get?_push_of_some _ q))))
    have p0 : (zmHeap s.heap l1 l2).get? s.heap.objs.size = some { cls := .type "list_iterator", data := .fields #[.ref l1, .int 0 0] } := by
      unfold zmHeap
      exact Heap.get?_push_of_some _ (Heap.get?_push_of_some _ (Heap.get?_push_of_some _ (Heap.get?_push_of_some _ (Heap.get?_push_size _ rfl))))
    have p1 : (zmHeap s.heap l1 l2).get? (s.heap.objs.size + 1) = some { cls := .type "tuple_iterator", data := .fields #[.ref l2, .int 0 0] } := by
      unfold zmHeap
      exact Heap.get?_push_of_some _ (Heap.get?_push_of_some _ (Heap.get?_push_of_some _ (Heap.get?_push_at (by simp only [Heap.size_push]) rfl)))
    have p2 : (zmHeap s.heap l1 l2).get? (s.heap.objs.size + 2) = some { cls := .type "tuple", data := .seq #[.ref s.heap.objs.size, .ref (s.heap.objs.size + 1)] } := by
      unfold zmHeap
      exact Heap.get?_push_of_some _ (Heap.get?_push_of_some _ (Heap.get?_push_at (by simp only [Heap.size_push]) rfl))
    have p3 : (zmHeap s.heap l1 l2).get? (s.heap.objs.size + 3) = some { cls := .type "tuple", data := .seq #[.none, .none] } := by
      unfold zmHeap
      exact Heap.get?_push_of_some _ (Heap.get?_push_at (by simp only [Heap.size_push]) rfl)
    have p4 : (zmHeap s.heap l1 l2).get? (s.heap.objs.size + 4) = some { cls := .type "zip", data := .fields #[.none, .bool false, .bool false, .ref (s.heap.objs.size + 2), .ref (s.heap.objs.size + 3)] } := by
      unfold zmHeap
      exact Heap.get?_push_at (by simp only [Heap.size_push]) rfl
    exact ⟨⟨_, p4, rfl⟩, h _ p4 p2 p3 ⟨_, p0, rfl, rfl⟩ (.inr ⟨⟨_, p1, rfl, rfl⟩, g2.at fun o q => up _ o q⟩) (by unfold zmHeap; simp only [Heap.size_push]) up⟩
/-- such a zip as dict's argument -/
theorem zm_arg (D : ZipApart z TI TO i1 i2 l1 l2) (same : xs.size = ys.size) (pos : 0 < xs.size) :
    PairArg P w "zip" z [z, TI, TO, i1, i2, l1, l2] [z, TO, i1, i2] xs.size (fun i k v => xs[i]? = some k ∧ ys[i]? = some v)
      (fun h => IsZip h z TI TO .none ∧ IsPair h TI (.ref i1) (.ref i2) ∧ (∃ a b, IsPair h TO a b) ∧ h.IsListIter i1 l1 0 ∧ It2 h i2 l2 0 ys ∧ h.IsList l1 xs) where
  type := fun s ok => ⟨_, ok.1, rfl⟩
  notDict := by decide
  keep := fun h h' ok up => by
    obtain ⟨a1, a2, ⟨a, b, a3⟩, a4, a5, a6⟩ := ok
    exact ⟨up _ _ a1, up _ _ a2, ⟨a, b, up _ _ a3⟩, a4.at fun o e => up _ o e, a5.goes (fun o e => up _ o e) fun o e => up _ o e, a6.at fun o e => up _ o e⟩
  there := fun h ok b hb => by
    obtain ⟨a1, a2, ⟨a, c, a3⟩, ⟨o1, a4, _⟩, a5, ⟨o3, a6, _⟩⟩ := ok
    obtain ⟨⟨o2, q2⟩, ⟨o4, q4⟩⟩ := a5.there
    simp only [List.mem_cons, List.not_mem_nil, or_false] at hb
    rcases hb with rfl | rfl | rfl | rfl | rfl | rfl | rfl
    · exact ⟨_, a1⟩
    · exact ⟨_, a2⟩
    · exact ⟨_, a3⟩
    · exact ⟨_, a4⟩
    · exact ⟨_, q2⟩
    · exact ⟨_, a6⟩
    · exact ⟨_, q4⟩
  sub := fun b hb => by
    simp only [List.mem_cons, List.not_mem_nil, or_false] at hb ⊢
    rcases hb with rfl | rfl | rfl | rfl <;> simp
  noKeys := fun A s Q E hA ok h => getAttrOr_miss_zip ok.1 rfl rfl rfl zip_no_keys (by decide +kernel) hA h
  iter := fun A s d Q E hA ok hd hdf h => by
    obtain ⟨a1, a2, ⟨a, b, a3⟩, a4, a5, a6⟩ := ok
    simp only [List.mem_cons, List.not_mem_nil, or_false, not_or] at hdf
    obtain ⟨dz, dTI, dTO, di1, di2, dl1, dl2⟩ := hdf
    refine wpAny_pyIter_zip a1 (h z [z, TO, i1, i2] (fun i h => IsPair h TI (.ref i1) (.ref i2) ∧ h.IsListIter i1 l1 i ∧ It2 h i2 l2 i ys ∧ h.IsList l1 xs ∧
      ((i = 0 ∧ IsZip h z TI TO .none ∧ ∃ a b, IsPair h TO a b) ∨ ∃ T f oT, IsZipHeld h z TI TO T f ∧ h.get? T = some oT ∧ T ≠ z ∧ T ≠ i1 ∧ T ≠ i2 ∧ T ≠ d)) s.heap s.toks ?_ ⟨a2, a4, a5, a6, .inl ⟨rfl, a1, a, b, a3⟩⟩ (fun _ _ e => e) fun b hb => .inl hb)
    exact {
      off := fun hm => by
        simp only [List.mem_cons, List.not_mem_nil, or_false] at hm
        rcases hm with e | e | e | e
        · exact dz e
        · exact dTO e
        · exact di1 e
        · exact di2 e
      frame := fun i h₁ h₂ st hk => by
        obtain ⟨b1, b2, b3, b4, b5⟩ := st
        refine ⟨hk _ _ (Ne.symm dTI) b1, b2.at fun o e => hk _ o (Ne.symm di1) e, b3.goes (fun o e => hk _ o (Ne.symm di2) e) fun o e => hk _ o (Ne.symm dl2) e, b4.at fun o e => hk _ o (Ne.symm dl1) e, ?_⟩
        rcases b5 with ⟨e0, c1, a, b, c2⟩ | ⟨T, f, oT, c1, c2, r1, r2, r3, r4⟩
        · exact .inl ⟨e0, hk _ _ (Ne.symm dz) c1, a, b, hk _ _ (Ne.symm dTO) c2⟩
        · exact .inr ⟨T, f, oT, hk _ _ (Ne.symm dz) c1, hk _ _ r4 c2, r1, r2, r3, r4⟩
      item := fun i s₁ Q₁ E₁ hi st hds hQ => by
        obtain ⟨b1, b2, b3, b4, b5⟩ := st
        have ex := Array.getElem?_eq_getElem hi
        have ey := Array.getElem?_eq_getElem (show i < ys.size by omega)
        have lt : ∀ {c o}, s₁.heap.get? c = some o → s₁.heap.objs.size ≠ c := fun e => Nat.ne_of_gt (Heap.lt_size e)
        have n1 : s₁.heap.objs.size ≠ i1 := let ⟨_, e, _⟩ := b2; lt e
        have n2 : s₁.heap.objs.size ≠ i2 := let ⟨⟨_, e⟩, _⟩ := b3.there; lt e
        rcases b5 with ⟨e0, c1, a, b, c2⟩ | ⟨T, f, oT, c1, c2, r1, r2, r3, r4⟩
        · have hTy : s₁.TypeIs (.ref z) "zip" := ⟨_, c1, rfl⟩
          unfold pyNext
          refine wpAny_bind (wpAny_attempt (wpAny_callSpecial?_slot (name := Str.ofString "__next__") hTy F.slot_zip_next (wpAny_call_entry F.slot_zip_next hTy F.entry_zip_next
            (zm_first D c1 b1 c2 b2 b3 b4 ex ey fun h' q1 q2 q3 q4 q5 q6 hk => wpAny_pure ?_) (F.args_zip_next_1 _))))
          exact hQ s₁.heap.objs.size _ _ h' s₁.toks ⟨ex, ey⟩ (.inl ⟨_, q5, rfl, _, rfl⟩)
            ⟨hk _ _ D.TIz D.TITO D.TIi1 D.TIi2 b1, q3, q4, b4.at fun o e => hk _ o D.l1z D.l1TO D.l1i1 D.l1i2 e, .inr ⟨s₁.heap.objs.size, false, _, q1, q5, lt c1, n1, n2, Nat.ne_of_gt hds⟩⟩
            fun c o hc e => hk c o (fun x => hc (by simp [x])) (fun x => hc (by simp [x])) (fun x => hc (by simp [x])) (fun x => hc (by simp [x])) e
        · have hTy : s₁.TypeIs (.ref z) "zip" := ⟨_, c1, rfl⟩
          unfold pyNext
          refine wpAny_bind (wpAny_attempt (wpAny_callSpecial?_slot (name := Str.ofString "__next__") hTy F.slot_zip_next (wpAny_call_entry F.slot_zip_next hTy F.entry_zip_next
            (zm_later D c1 c2 b1 b2 b3 b4 ex ey fun h' q1 q3 q4 q5 hk => wpAny_pure ?_) (F.args_zip_next_1 _))))
          exact hQ s₁.heap.objs.size _ _ h' s₁.toks ⟨ex, ey⟩ (.inl ⟨_, q5, rfl, _, rfl⟩)
            ⟨hk _ _ D.TIz D.TIi1 D.TIi2 b1, q3, q4, b4.at fun o e => hk _ o D.l1z D.l1i1 D.l1i2 e, .inr ⟨T, true, oT, q1, hk _ _ r1 r2 r3 c2, r1, r2, r3, r4⟩⟩
            fun c o hc e => hk c o (fun x => hc (by simp [x])) (fun x => hc (by simp [x])) (fun x => hc (by simp [x])) e
      done := fun s₁ Q₁ E₁ st hQ => by
        obtain ⟨b1, b2, b3, b4, b5⟩ := st
        rcases b5 with ⟨e0, _⟩ | ⟨T, f, oT, c1, c2, r1, r2, r3, r4⟩
        · omega
        · have hTy : s₁.TypeIs (.ref z) "zip" := ⟨_, c1, rfl⟩
          unfold pyNext
          refine wpAny_bind (wpAny_attempt (wpAny_callSpecial?_slot (name := Str.ofString "__next__") hTy F.slot_zip_next (wpAny_call_entry F.slot_zip_next hTy F.entry_zip_next
            (zm_end hA D c1 c2 b1 b2 b4 (Array.getElem?_eq_none (Nat.le_refl _)) fun h' e hk he => ?_) (F.args_zip_next_1 _))))
          obtain ⟨o, ho, hc⟩ := he
          exact wpAny_bind (wpAny_isInstance (T := "StopIteration") (b := true) ⟨o, ho, hc⟩ isSubtype_stop (wpAny_pure (hQ h' s₁.toks fun c o hc e => hk c o (fun x => hc (by simp [x])) (fun x => hc (by simp [x])) (fun x => hc (by simp [x])) e))) }
end
/-- dict(zip(xs, ys)), xs a list of texts or ints of which none comes twice, ys a list or a tuple as long -/
def tDictZip (K : PySem.W.Frag) (t : TA) : TE := fun σ H Q => t σ H fun vs H1 => ∃ (a b : Addr) (ks : List Key) (ys : List V), vs = [.ref a, .ref b] ∧ SqL K H1 a (ks.map kV) ∧ (SqL K H1 b ys ∨ SqT K H1 b ys) ∧ ks.length = ys.length ∧ ks ≠ [] ∧
  ∀ p : Addr, H1 p = none → Q (.ref p) (upd H1 p (.dK (mergeK [] (ks.zip ys))))
section
variable {X : Cx}
theorem zip_kv : ∀ {ks : List Key} {ys : List V} {us vs : List Value}, Vals (ks.map kV) us → Vals ys vs → KV (ks.zip ys) (ks.zip vs)
  | [], _, _, _, _, _ => by
    rw [List.zip_nil_left, List.zip_nil_left]
    exact .nil
  | k :: ks, [], _, _, _, .nil => by
    rw [List.zip_nil_right, List.zip_nil_right]
    exact .nil
  | k :: ks, y :: ys, us, v :: vs, r1, .cons q r2 => by
    rw [List.map_cons] at r1
    cases r1 with
    | cons r r1 => exact .cons ⟨rfl, q⟩ (zip_kv r1 r2)
theorem pe_dictZip {e e2 : Expr} {t : TA} {p p2 q pos : Pos} (hc : X.calm = true) (g1 : Gl X "dict") (m1 : X.mg "dict" = none) (g2 : Gl X "zip") (m2 : X.mg "zip" = none) (ha : PA X [e, e2] t)
    (n1 : starEach [e, e2] X.env = (false, eval e X.env) :: starEach [e2] X.env := by rfl) (n2 : (backTo q (starEach [e2] X.env)).any (·.1) = false := by rfl)
    (n3 : starEach [.Call (.Name "zip" p2) [e, e2] [] q] X.env = (false, eval (.Call (.Name "zip" p2) [e, e2] [] q) X.env) :: starEach [] X.env := by rfl) :
    PE X (.Call (.Name "dict" p) [.Call (.Name "zip" p2) [e, e2] [] q] [] pos) (tDictZip X.K t) := by
  refine ⟨fun pins s σ H Q I h => ?_⟩
  refine Call_ (ld_blt I g1 m1 (show bootBuiltins "dict" = some (.type "dict") by decide +kernel) (PyProof.Rows.callWith_type1 (PyProof.Rows.args_cons ?_ n3) n3 rfl))
  refine Call_ (ld_blt I g2 m2 PyProof.Rows.boot_zip (PyProof.Rows.callWith_type1 (thn (ha.run q pins s σ H _ I h) fun us s1 ⟨vs, H1, I1, r1, q1⟩ => ?_) n1 n2))
  obtain ⟨a, b, ks, ys, rfl, hqx, hqy, same, hne, k⟩ := q1
  obtain ⟨u, v, rfl, ru, rv⟩ := vals2 r1
  obtain rfl : u = Value.ref a := ru
  obtain rfl : v = Value.ref b := rv
  obtain ⟨its, rx, px, zx⟩ := I1.list hqx
  have two : ∃ its2 : List Value, Vals ys its2 ∧ (s1.heap.IsList b its2.toArray ∨ s1.heap.IsTuple b its2.toArray) ∧ b < s1.heap.objs.size := by
    rcases hqy with z | z
    · obtain ⟨its2, r, p2', _⟩ := I1.list z
      exact ⟨its2, r, .inl p2'.isList, p2'.lt⟩
    · obtain ⟨its2, r, p2', _⟩ := I1.tuple z
      exact ⟨its2, r, .inr p2', p2'.lt⟩
  obtain ⟨its2, ry, py, hb⟩ := two
  have e1 := rx.length
  have e2' := ry.length
  rw [List.length_map] at e1 zx
  have kpos : 0 < ks.length := List.length_pos_iff.mpr hne
  refine zm_call (l1 := a) (l2 := b) (xs := its.toArray) (ys := its2.toArray) px.isList py fun h1 z1 z2 z3 z4 z5 z6 kp => PyProof.Rows.args_nil ?_
  have D := PySem.W.ktu_apart s1.heap.objs.size a b px.lt hb
  have arg := zm_arg (P := X.prog) (w := X.w) (xs := its.toArray) (ys := its2.toArray) D (by simp only [List.size_toArray]; omega) (by simp only [List.size_toArray]; omega)
  have kv := zip_kv rx ry
  refine _root_.PySem.call_dict_pairs (s := { s1 with heap := h1 }) (knd := mixKind X.prog X.w) (kvs := ks.zip its2) arg (I1.ok.hd hc) ⟨z1, z2, ⟨_, _, z3⟩, z4, z5, px.isList.at fun o q => kp _ o q⟩ ⟨?_, fun i key v hr => ?_⟩ (by simp only [List.size_toArray]; omega) fun h' tk hd' hk => ?_
  · simp only [List.length_zip, List.size_toArray]
    omega
  · obtain ⟨hr1, hr2⟩ := hr
    have hi : i < its.length := by
      have := (Array.getElem?_eq_some_iff.mp hr1).1
      simpa using this
    obtain ⟨kk, hkk⟩ : ∃ kk, ks[i]? = some kk := ⟨_, List.getElem?_eq_getElem (by omega)⟩
    obtain ⟨w', hw', rw'⟩ := rx.get (show (ks.map kV)[i]? = some (kV kk) by rw [List.getElem?_map, hkk]; rfl)
    have : w' = key := by
      have z : its.toArray[i]? = its[i]? := by simp
      rw [z, hw'] at hr1
      exact Option.some.inj hr1
    subst this
    refine ⟨kk, ?_, kV_is rw'⟩
    rw [List.getElem?_zip_eq_some]
    exact ⟨hkk, by simpa using hr2⟩
  · have big : s1.heap.objs.size ≤ h1.objs.size := by omega
    have keep : ∀ b o, s1.heap.get? b = some o → h'.get? b = some o := fun b o e => hk b o (fun hm => by
      have lt : b < s1.heap.objs.size := Heap.lt_size e
      simp only [List.mem_cons, List.not_mem_nil, or_false] at hm
      rcases hm with z | z | z | z <;> rw [z] at lt
      · exact absurd lt (Nat.not_lt.mpr (Nat.le_add_right _ _))
      · exact absurd lt (Nat.not_lt.mpr (Nat.le_add_right _ _))
      · exact absurd lt (Nat.lt_irrefl _)
      · exact absurd lt (Nat.not_lt.mpr (Nat.le_add_right _ _))) (kp b o e)
    have hm : (h1.objs.size == sysModules) = false := beq_eq_false_iff_ne.mpr (Nat.ne_of_gt (Nat.lt_of_lt_of_le I1.big big))
    have hlen : (mergeK [] (ks.zip ys)).length ≤ sizeLine := by
      refine Nat.le_trans (length_mergeK (ks.zip ys) []) ?_
      rw [List.length_nil, Nat.zero_add, List.length_zip]
      omega
    exact ⟨.ref h1.objs.size, upd H1 h1.objs.size (.dK (mergeK [] (ks.zip ys))), I1.laid (t' := tk) keep big (show ObjOk X.prog X.w _ _ _ (.dK (mergeK [] (ks.zip ys))) from ⟨hlen, hm, merged [] (ks.zip its2), KV.merge kv .nil, hd'⟩), rfl, k _ (I1.hok.fresh big)⟩
end
end Nm
set_option autoImplicit true
set_option maxRecDepth 100000
set_option maxHeartbeats 4000000
/-! zip of two, each a list or a tuple, in a for or a comprehension -/
namespace Nm
open PySem PySem.Spec PyProof.Rows L2 RZ
section
variable {P : Program} {w : World} {A : Around} {E : Value → Shared → Prop} {s : Shared} {z TI TO T i1 i2 l1 l2 : Addr} {xs ys : Array Value}
/-- the first turn: the zip's own pair is handed out -/
theorem zz_first {k : Nat} {x y a b : Value} {Q : Value → Shared → Prop} (D : ZipApart z TI TO i1 i2 l1 l2) (hz : IsZip s.heap z TI TO .none) (hTI : IsPair s.heap TI (.ref i1) (.ref i2)) (hTO : IsPair s.heap TO a b)
    (g1 : It2 s.heap i1 l1 k xs) (g2 : It2 s.heap i2 l2 k ys) (hx : xs[k]? = some x) (hy : ys[k]? = some y)
    (hQ : ∀ h', IsZip h' z TI TO (rawInt s.heap.objs.size) → IsPair h' TO x y → It2 h' i1 l1 (k + 1) xs → It2 h' i2 l2 (k + 1) ys → IsPair h' s.heap.objs.size x y → h'.objs.size = s.heap.objs.size + 1 →
      (∀ c o, c ≠ z → c ≠ TO → c ≠ i1 → c ≠ i2 → s.heap.get? c = some o → h'.get? c = some o) → Q (.ref s.heap.objs.size) { s with heap := h' }) :
    wpAny (model P w) A (Builtin.«zip.__next__» ⟨[.ref z], []⟩) (fun fin s' => ∃ v, fin = .done (.ret v) ∧ Q v s') E s := by
  show wpAny _ _ (field (.ref z) 2 >>= _) _ _ _
  refine wpAny_bind (wpAny_field hz rfl (x := .bool false) rfl ?_)
  show wpAny _ _ (field (.ref z) 3 >>= _) _ _ _
  refine wpAny_bind (wpAny_field hz rfl (x := .ref TI) rfl (wpAny_bind (wpAny_seqItems hTI rfl ?_)))
  show wpAny _ _ (Builtin.SmallTypes.ownedTupleIsFree (.ref z) >>= _) _ _ _
  refine wpAny_bind ?_
  unfold Builtin.SmallTypes.ownedTupleIsFree
  refine wpAny_bind (wpAny_field hz rfl (x := .none) rfl (wpAny_pure ?_))
  simp only [if_true]
  refine wpAny_bind (wpAny_rule (wpAny_bind (wpAny_field hz rfl (x := .ref TO) rfl (wpAny_bind (wpAny_setField_rec hz (by simp) fun ha za sa => ?_)))))
  replace za : IsZip ha z TI TO .ellipsis := za
  refine wpAny_bind ?_
  simp only [List.zipIdx_cons, List.zipIdx_nil, List.forIn_cons, List.forIn_nil]
  refine wpAny_bind (wpAny_bind (wpAny_onRaise ?_))
  show wpAny _ _ (Builtin.SmallTypes.nextOf (.ref i1) >>= _) _ _ _
  have g1a : It2 ha i1 l1 k xs := g1.goes (fun o e => sa.extBut _ _ D.i1z e) fun o e => sa.extBut _ _ D.l1z e
  refine wpAny_bind (it2_next (s := { s with heap := ha }) g1a D.l1i1 hx fun hb gb sb => wpAny_pure ?_)
  have tb : IsPair hb TO a b := sb.extBut _ _ D.TOi1 (sa.extBut _ _ D.TOz hTO)
  refine wpAny_bind (wpAny_seqItems tb rfl (wpAny_bind (wpAny_updateSeq_pair tb fun hc tc sc => ?_)))
  replace tc : IsPair hc TO x b := tc
  refine wpAny_bind (wpAny_letGo (wpAny_pure ?_))
  refine wpAny_bind (wpAny_bind (wpAny_onRaise ?_))
  show wpAny _ _ (Builtin.SmallTypes.nextOf (.ref i2) >>= _) _ _ _
  have g2c : It2 hc i2 l2 k ys := g2.goes (fun o e => sc.extBut _ _ D.TOi2.symm (sb.extBut _ _ D.i12.symm (sa.extBut _ _ D.i2z e))) fun o e => sc.extBut _ _ D.l2TO (sb.extBut _ _ D.l2i1 (sa.extBut _ _ D.l2z e))
  refine wpAny_bind (it2_next (s := { s with heap := hc }) g2c D.l2i2 hy fun hd gd sd => wpAny_pure ?_)
  have td : IsPair hd TO x b := sd.extBut _ _ D.TOi2 tc
  refine wpAny_bind (wpAny_seqItems td rfl (wpAny_bind (wpAny_updateSeq_pair td fun he te se => ?_)))
  replace te : IsPair he TO x y := te
  refine wpAny_bind (wpAny_letGo (wpAny_pure (wpAny_pure ?_)))
  refine wpAny_bind (wpAny_seqItems te rfl (wpAny_bind (wpAny_newTuple ?_)))
  have size : he.objs.size = s.heap.objs.size := by rw [se.1, sd.1, sc.1, sb.1, sa.1]
  have ze : IsZip he z TI TO .ellipsis := se.extBut _ _ D.TOz.symm (sd.extBut _ _ D.i2z.symm (sc.extBut _ _ D.TOz.symm (sb.extBut _ _ D.i1z.symm za)))
  have ke : ∀ c o, c ≠ z → c ≠ TO → c ≠ i1 → c ≠ i2 → s.heap.get? c = some o → he.get? c = some o := fun c o n1 n2 n3 n4 e => se.extBut _ _ n2 (sd.extBut _ _ n4 (sc.extBut _ _ n2 (sb.extBut _ _ n3 (sa.extBut _ _ n1 e))))
  have ge : It2 he i1 l1 (k + 1) xs := gb.goes (fun o e => se.extBut _ _ D.TOi1.symm (sd.extBut _ _ D.i12 (sc.extBut _ _ D.TOi1.symm e))) fun o e => se.extBut _ _ D.l1TO (sd.extBut _ _ D.l1i2 (sc.extBut _ _ D.l1TO e))
  have g2e : It2 he i2 l2 (k + 1) ys := gd.goes (fun o e => se.extBut _ _ D.TOi2.symm e) fun o e => se.extBut _ _ D.l2TO e
  have zlt : z < he.objs.size := Heap.lt_size ze
  show wpAny _ _ (Builtin.SmallTypes.ownedTupleHandOut (.ref z) (.ref he.objs.size) >>= _) _ _ _
  refine wpAny_bind ?_
  unfold Builtin.SmallTypes.ownedTupleHandOut
  have zf : IsZip (he.push { cls := .type "tuple", data := .seq #[x, y] }) z TI TO .ellipsis := Heap.get?_push_of_some _ ze
  refine wpAny_bind (wpAny_setField_rec zf (by simp) fun hg zg sg => ?_)
  replace zg : IsZip hg z TI TO (rawInt he.objs.size) := zg
  refine wpAny_setField_rec zg (by simp) fun hi zi si => ?_
  replace zi : IsZip hi z TI TO (rawInt he.objs.size) := zi
  have up : ∀ c o, c ≠ z → he.get? c = some o → hi.get? c = some o := fun c o n e => si.extBut _ _ n (sg.extBut _ _ n (Heap.get?_push_of_some _ e))
  have Ti : IsPair hi he.objs.size x y := si.extBut _ _ (Nat.ne_of_gt zlt) (sg.extBut _ _ (Nat.ne_of_gt zlt) (Heap.get?_push_size _ rfl))
  have sz : hi.objs.size = he.objs.size + 1 := by rw [si.1, sg.1, Heap.size_push]
  rw [size] at zi Ti sz
  refine wpAny_pure ⟨_, rfl, ?_⟩
  show Q (.ref he.objs.size) _
  rw [size]
  exact hQ hi zi (up _ _ D.TOz te) (ge.goes (fun o e => up _ o D.i1z e) fun o e => up _ o D.l1z e) (g2e.goes (fun o e => up _ o D.i2z e) fun o e => up _ o D.l2z e) Ti sz fun c o n1 n2 n3 n4 e => up c o n1 (ke c o n1 n2 n3 n4 e)
/-- the five objects of zip(a tuple, a list) -/
def znHeap (h : Heap) (l1 l2 : Addr) : Heap := ((((h.push { cls := .type "tuple_iterator", data := .fields #[.ref l1, .int 0 0] }).push { cls := .type "list_iterator", data := .fields #[.ref l2, .int 0 0] }).push
  { cls := .type "tuple", data := .seq #[.ref h.objs.size, .ref (h.objs.size + 1)] }).push { cls := .type "tuple", data := .seq #[.none, .none] }).push { cls := .type "zip", data := .fields #[.none, .bool false, .bool false, .ref (h.objs.size + 2), .ref (h.objs.size + 3)] }
theorem zn_new (l1 l2 : Addr) (xs ys : Array Value) :
    Meets (Builtin.«zip.__new__» ⟨[.type "zip", .ref l1, .ref l2], []⟩) (fun _ R s => s.heap.IsTuple l1 xs ∧ s.heap.IsList l2 ys ∧ R (.ok (.ret (.ref (s.heap.objs.size + 4)))) { s with heap := znHeap s.heap l1 l2 }) :=
  .of_wp fun prog w A R s h => by
    obtain ⟨hp, g, d, tk, os⟩ := s
    obtain ⟨a1, a2, h⟩ := h
    have b1 : Heap.IsTuple (Shared.heap ⟨hp, g, d, tk, os⟩) l1 xs := a1
    have b2 : Heap.IsList (Shared.heap ⟨hp.push { cls := .type "tuple_iterator", data := .fields #[.ref l1, .int 0 0] }, g, d, tk, os⟩) l2 ys := Heap.IsList.push a2 _
    have hsub := sub_zip
    unfold znHeap at h
    wp_walk using wpAny_pyIter_tuple b1, wpAny_pyIter_list b2
    refine ⟨_, rfl, ?_⟩
    simp only [Heap.size_push, Nat.add_assoc, Nat.reduceAdd]
    exact h
theorem zn_call {Q : Value → Shared → Prop} (g1 : s.heap.IsTuple l1 xs) (g2 : s.heap.IsList l2 ys)
    (h : ∀ h', IsZip h' (s.heap.objs.size + 4) (s.heap.objs.size + 2) (s.heap.objs.size + 3) .none → IsPair h' (s.heap.objs.size + 2) (.ref s.heap.objs.size) (.ref (s.heap.objs.size + 1)) → IsPair h' (s.heap.objs.size + 3) .none .none →
      It2 h' s.heap.objs.size l1 0 xs → It2 h' (s.heap.objs.size + 1) l2 0 ys → h'.objs.size = s.heap.objs.size + 5 → (∀ c o, s.heap.get? c = some o → h'.get? c = some o) → Q (.ref (s.heap.objs.size + 4)) { s with heap := h' }) :
    wpAny (model P w) A (call (.type "zip") [.ref l1, .ref l2]) Q E s := by
  refine callType_new F.called_zip (by decide) (F.typeCall_zip_2 _ _) (F.newCall_zip_2 _ _) (fun obj => F.args_object_init_3 obj _ _) F.entry_zip_new (zn_new l1 l2 xs ys) ⟨g1, g2, ?_⟩
  have up : ∀ c o, s.heap.get? c = some o → (znHeap s.heap l1 l2).get? c = some o := fun c o q => by
    unfold znHeap
    exact Heap.get?_push_of_some _ (Heap.get?_push_of_some _ (Heap.get?_push_of_some _ (Heap.get?_push_of_some _ (Heap.get?_push_of_some _ q))))
  have p0 : (znHeap s.heap l1 l2).get? s.heap.objs.size = some { cls := .type "tuple_iterator", data := .fields #[.ref l1, .int 0 0] } := by
    unfold znHeap
    exact Heap.get?_push_of_some _ (Heap.get?_push_of_some _ (Heap.get?_push_of_some _ (Heap.get?_push_of_some _ (Heap.get?_push_size _ rfl))))
  have p1 : (znHeap s.heap l1 l2).get? (s.heap.objs.size + 1) = some { cls := .type "list_iterator", data := .fields #[.ref l2, .int 0 0] } := by
    unfold znHeap
    exact Heap.get?_push_of_some _ (Heap.get?_push_of_some _ (Heap.get?_push_of_some _ (Heap.get?_push_at (by simp only [Heap.size_push]) rfl)))
  have p2 : (znHeap s.heap l1 l2).get? (s.heap.objs.size + 2) = some { cls := .type "tuple", data := .seq #[.ref s.heap.objs.size, .ref (s.heap.objs.size + 1)] } := by
    unfold znHeap
    exact Heap.get?_push_of_some _ (Heap.get?_push_of_some _ (Heap.get?_push_at (by simp only [Heap.size_push]) rfl))
  have p3 : (znHeap s.heap l1 l2).get? (s.heap.objs.size + 3) = some { cls := .type "tuple", data := .seq #[.none, .none] } := by
    unfold znHeap
    exact Heap.get?_push_of_some _ (Heap.get?_push_at (by simp only [Heap.size_push]) rfl)
  have p4 : (znHeap s.heap l1 l2).get? (s.heap.objs.size + 4) = some { cls := .type "zip", data := .fields #[.none, .bool false, .bool false, .ref (s.heap.objs.size + 2), .ref (s.heap.objs.size + 3)] } := by
    unfold znHeap
    exact Heap.get?_push_at (by simp only [Heap.size_push]) rfl
  exact ⟨⟨_, p4, rfl⟩, h _ p4 p2 p3 (.inr ⟨⟨_, p0, rfl, rfl⟩, g1.at fun o q => up _ o q⟩) (.inl ⟨⟨_, p1, rfl, rfl⟩, g2.at fun o q => up _ o q⟩) (by unfold znHeap; simp only [Heap.size_push]) up⟩
end
end Nm
set_option autoImplicit true
set_option maxRecDepth 100000
set_option maxHeartbeats 4000000
/-! zip of two, each a list or a tuple: as a rule -/
namespace Nm
open PySem PySem.Spec PyProof.Rows L2 RZ
section
variable {prog : Program} {w : World} {A : Around} {E : Value → Shared → Prop} {s : Shared} {z TI TO i1 i2 l1 l2 : Addr} {xs ys : Array Value}
theorem it2_end {k : Nat} {i l : Addr} {Q : Value → Shared → Prop} (hh : A.handled = none) (x : It2 s.heap i l k ys) (hy : ys[k]? = none) (hE : ∀ h' e, Heap.ExtBut i s.heap h' → (∃ o, h'.get? e = some o ∧ o.cls = .type "StopIteration") → E (.ref e) { s with heap := h' }) :
    wpAny (model prog w) A (Builtin.SmallTypes.nextOf (.ref i)) Q E s := by
  rcases x with ⟨a, b⟩ | ⟨a, b⟩
  · exact wpAny_nextOf_list_end hh a b hy hE
  · exact RZ.nextOf_tuple_end hh a b hy hE
theorem zz_end0 {k : Nat} {a b : Value} {Q : PySem.Fin → Shared → Prop} (hh : A.handled = none) (D : ZipApart z TI TO i1 i2 l1 l2) (hz : IsZip s.heap z TI TO .none) (hTI : IsPair s.heap TI (.ref i1) (.ref i2)) (hTO : IsPair s.heap TO a b)
    (g1 : It2 s.heap i1 l1 k xs) (hx : xs[k]? = none)
    (hE : ∀ h' e, (∀ c o, c ≠ z → c ≠ TO → c ≠ i1 → c ≠ i2 → s.heap.get? c = some o → h'.get? c = some o) → (∃ o, h'.get? e = some o ∧ o.cls = .type "StopIteration") → E (.ref e) { s with heap := h' }) :
    wpAny (model prog w) A (Builtin.«zip.__next__» ⟨[.ref z], []⟩) Q E s := by
  show wpAny _ _ (field (.ref z) 2 >>= _) _ _ _
  refine wpAny_bind (wpAny_field hz rfl (x := .bool false) rfl ?_)
  show wpAny _ _ (field (.ref z) 3 >>= _) _ _ _
  refine wpAny_bind (wpAny_field hz rfl (x := .ref TI) rfl ?_)
  refine wpAny_bind (wpAny_seqItems hTI rfl ?_)
  show wpAny _ _ (Builtin.SmallTypes.ownedTupleIsFree (.ref z) >>= _) _ _ _
  refine wpAny_bind ?_
  unfold Builtin.SmallTypes.ownedTupleIsFree
  refine wpAny_bind (wpAny_field hz rfl (x := .none) rfl (wpAny_pure ?_))
  simp only [if_true]
  refine wpAny_bind (wpAny_rule ?_)
  refine wpAny_bind (wpAny_field hz rfl (x := .ref TO) rfl ?_)
  refine wpAny_bind (wpAny_setField_rec hz (by simp) fun h₁ hz₁ hs₁ => ?_)
  replace hz₁ : IsZip h₁ z TI TO .ellipsis := hz₁
  refine wpAny_bind ?_
  simp only [List.zipIdx_cons, List.zipIdx_nil, List.forIn_cons, List.forIn_nil]
  refine wpAny_bind (wpAny_bind (wpAny_onRaise ?_))
  show wpAny _ _ (Builtin.SmallTypes.nextOf (.ref i1) >>= _) _ _ _
  refine wpAny_bind (it2_end (s := { s with heap := h₁ }) hh (g1.goes (fun o e => hs₁.extBut _ _ D.i1z e) fun o e => hs₁.extBut _ _ D.l1z e) hx fun h₂ e hs₂ he => ?_)
  obtain ⟨oe, hoe, hce⟩ := he
  have hz₂ : IsZip h₂ z TI TO .ellipsis := hs₂ _ _ D.i1z.symm hz₁
  have hez : e ≠ z := fun x => by subst x; rw [hz₂] at hoe; cases hoe; simp at hce
  exact wpAny_setField_rec hz₂ (by simp) fun h₃ _ hs₃ => hE h₃ e (fun c o c1 _ c3 _ x => hs₃.extBut _ _ c1 (hs₂ _ _ c3 (hs₁.extBut _ _ c1 x))) ⟨oe, hs₃.extBut _ _ hez hoe, hce⟩
theorem pyNext_zz_item {k : Nat} {x y a b : Value} {Q : Option Value → Shared → Prop} (D : ZipApart z TI TO i1 i2 l1 l2)
    (hz : IsZip s.heap z TI TO .none) (hTI : IsPair s.heap TI (.ref i1) (.ref i2)) (hTO : IsPair s.heap TO a b)
    (h1 : It2 s.heap i1 l1 k xs) (h2 : It2 s.heap i2 l2 k ys) (hx : xs[k]? = some x) (hy : ys[k]? = some y)
    (hQ : ∀ h', IsZip h' z TI TO (rawInt s.heap.objs.size) → IsPair h' TO x y → It2 h' i1 l1 (k + 1) xs → It2 h' i2 l2 (k + 1) ys → IsPair h' s.heap.objs.size x y → h'.objs.size = s.heap.objs.size + 1 →
      (∀ c o, c ≠ z → c ≠ TO → c ≠ i1 → c ≠ i2 → s.heap.get? c = some o → h'.get? c = some o) → Q (some (.ref s.heap.objs.size)) { s with heap := h' }) :
    wpAny (model prog w) A (pyNext (.ref z)) Q E s := by
  have hT : s.TypeIs (.ref z) "zip" := ⟨_, hz, rfl⟩
  unfold pyNext
  exact wpAny_bind (wpAny_attempt (wpAny_callSpecial?_slot (name := Str.ofString "__next__") hT F.slot_zip_next
    (wpAny_call_entry F.slot_zip_next hT F.entry_zip_next
      (zz_first D hz hTI hTO h1 h2 hx hy fun h' a1 a2 a3 a4 a5 a6 a7 => wpAny_pure (hQ h' a1 a2 a3 a4 a5 a6 a7)) (F.args_zip_next_1 _))))
theorem pyNext_zz_end {k : Nat} {a b : Value} {Q : Option Value → Shared → Prop} (hh : A.handled = none) (D : ZipApart z TI TO i1 i2 l1 l2)
    (hz : IsZip s.heap z TI TO .none) (hTI : IsPair s.heap TI (.ref i1) (.ref i2)) (hTO : IsPair s.heap TO a b)
    (h1 : It2 s.heap i1 l1 k xs) (hend : xs[k]? = none)
    (hQ : ∀ h', (∀ c o, c ≠ z → c ≠ TO → c ≠ i1 → c ≠ i2 → s.heap.get? c = some o → h'.get? c = some o) → Q none { s with heap := h' }) : wpAny (model prog w) A (pyNext (.ref z)) Q E s := by
  have hT : s.TypeIs (.ref z) "zip" := ⟨_, hz, rfl⟩
  unfold pyNext
  refine wpAny_bind (wpAny_attempt (wpAny_callSpecial?_slot (name := Str.ofString "__next__") hT F.slot_zip_next
    (wpAny_call_entry F.slot_zip_next hT F.entry_zip_next (zz_end0 hh D hz hTI hTO h1 hend fun h' e hk he => ?_) (F.args_zip_next_1 _))))
  obtain ⟨o, ho, hc⟩ := he
  refine wpAny_bind (wpAny_isInstance (T := "StopIteration") (b := true) ⟨o, ho, hc⟩ isSubtype_stop ?_)
  exact wpAny_pure (hQ _ hk)
theorem zz_call {Q : Value → Shared → Prop} (g1 : s.heap.IsList l1 xs ∨ s.heap.IsTuple l1 xs) (g2 : s.heap.IsList l2 ys ∨ s.heap.IsTuple l2 ys)
    (h : ∀ h', IsZip h' (s.heap.objs.size + 4) (s.heap.objs.size + 2) (s.heap.objs.size + 3) .none → IsPair h' (s.heap.objs.size + 2) (.ref s.heap.objs.size) (.ref (s.heap.objs.size + 1)) → IsPair h' (s.heap.objs.size + 3) .none .none →
      It2 h' s.heap.objs.size l1 0 xs → It2 h' (s.heap.objs.size + 1) l2 0 ys → h'.objs.size = s.heap.objs.size + 5 → (∀ c o, s.heap.get? c = some o → h'.get? c = some o) → Q (.ref (s.heap.objs.size + 4)) { s with heap := h' }) :
    wpAny (model prog w) A (call (.type "zip") [.ref l1, .ref l2]) Q E s := by
  rcases g1 with g1 | g1
  · exact zm_call g1 g2 fun h' a b c d e f k => h h' a b c (.inl ⟨d, g1.at fun o q => k _ o q⟩) e f k
  · rcases g2 with g2 | g2
    · exact zn_call g1 g2 h
    · exact RZ.call_zipT g1 g2 fun h' a b c d e f k => h h' a b c (.inr ⟨d, g1.at fun o q => k _ o q⟩) (.inr ⟨e, g2.at fun o q => k _ o q⟩) f k
end
/-- a list (k) or a tuple of these -/
def SqB (k : Bool) (K : PySem.W.Frag) (H : Hp) (a : Addr) (xs : List V) : Prop := match k with
  | true => SqL K H a xs
  | false => SqT K H a xs
def IterB (k : Bool) (h : Heap) (i a : Addr) (n : Nat) : Prop := match k with
  | true => h.IsListIter i a n
  | false => h.IsTupleIter i a n
def SeqB (k : Bool) (h : Heap) (l : Addr) (xs : Array Value) : Prop := match k with
  | true => h.IsList l xs
  | false => h.IsTuple l xs
theorem sqB_at {X : Cx} {pins : List (Addr × Obj)} {σ : L2.St} {H : Hp} {s : Shared} {a : Addr} {xs : List V} {k : Bool} (I : Inv X pins σ H s) (h : SqB k X.K H a xs) : ∃ its, Vals xs its ∧ SeqB k s.heap a its.toArray := by
  cases k with
  | true =>
    obtain ⟨its, rv, p, _⟩ := I.list h
    exact ⟨its, rv, p.isList⟩
  | false =>
    obtain ⟨its, rv, p, _⟩ := I.tuple h
    exact ⟨its, rv, p⟩
theorem sqB_inj {X : Cx} {pins : List (Addr × Obj)} {σ : L2.St} {H : Hp} {s : Shared} {a : Addr} {xs ys : List V} {k : Bool} (I : Inv X pins σ H s) (h : SqB k X.K H a xs) (h' : SqB k X.K H a ys) : xs = ys := by
  cases k with
  | true => exact I.list_inj h h'
  | false => exact I.tuple_inj h h'
theorem seqB_or {k : Bool} {h : Heap} {l : Addr} {xs : Array Value} (p : SeqB k h l xs) : h.IsList l xs ∨ h.IsTuple l xs := by
  cases k with
  | true => exact .inl p
  | false => exact .inr p
theorem seqB_lt {k : Bool} {h : Heap} {l : Addr} {xs : Array Value} (p : SeqB k h l xs) : l < h.objs.size := by
  cases k with
  | true =>
    obtain ⟨o, e, _⟩ := p
    exact Heap.lt_size e
  | false =>
    obtain ⟨o, e, _⟩ := p
    exact Heap.lt_size e
theorem seqB_keep {k : Bool} {h h' : Heap} {l : Addr} {xs : Array Value} (p : SeqB k h l xs) (e : ∀ o, h.get? l = some o → h'.get? l = some o) : SeqB k h' l xs := by
  cases k with
  | true => exact Heap.IsList.at p e
  | false => exact Heap.IsTuple.at p e
theorem it2_mk {k : Bool} {h : Heap} {i l : Addr} {n : Nat} {xs : Array Value} (x : IterB k h i l n) (p : SeqB k h l xs) : It2 h i l n xs := by
  cases k with
  | true => exact .inl ⟨x, p⟩
  | false => exact .inr ⟨x, p⟩
theorem it2_back {k : Bool} {h : Heap} {i l : Addr} {n : Nat} {xs ys : Array Value} (x : It2 h i l n xs) (p : SeqB k h l ys) : IterB k h i l n := by
  rcases x with ⟨a, b⟩ | ⟨a, b⟩
  · cases k with
    | true => exact a
    | false =>
      obtain ⟨o, e, r, _⟩ := b
      obtain ⟨o', e', r', _⟩ := p
      rw [e] at e'
      cases e'
      rw [r] at r'
      simp at r'
  · cases k with
    | false => exact a
    | true =>
      obtain ⟨o, e, r, _⟩ := b
      obtain ⟨o', e', r', _⟩ := p
      rw [e] at e'
      cases e'
      rw [r] at r'
      simp at r'
theorem iterB_rec {k : Bool} {h : Heap} {i l : Addr} {n : Nat} (x : IterB k h i l n) : ∃ o, h.get? i = some o ∧ ∀ v, o.data ≠ .cell v := by
  cases k with
  | true =>
    obtain ⟨o, e, _, d⟩ := x
    exact ⟨o, e, fun v q => by rw [d] at q; cases q⟩
  | false =>
    obtain ⟨o, e, _, d⟩ := x
    exact ⟨o, e, fun v q => by rw [d] at q; cases q⟩
theorem iterB_at {k : Bool} {h h' : Heap} {i l : Addr} {n : Nat} (x : IterB k h i l n) (e : ∀ o, h.get? i = some o → h'.get? i = some o) : IterB k h' i l n := by
  cases k with
  | true => exact Heap.IsListIter.at x e
  | false => exact Heap.IsTupleIter.at x e
/-- both as they stand at each turn, the items in new pairs -/
def ItzB (k1 k2 : Bool) (K : PySem.W.Frag) (a b : Addr) : It :=
  ⟨fun i H => ∃ (xs ys : List V) (x y : V), SqB k1 K H a xs ∧ SqB k2 K H b ys ∧ xs[i]? = some x ∧ ys[i]? = some y,
    fun i H v H' => ∃ T x y, v = .ref T ∧ H T = none ∧ H' = upd H T (.tup [x, y]) ∧ (∀ xs, SqB k1 K H a xs → xs[i]? = some x) ∧ ∀ ys, SqB k2 K H b ys → ys[i]? = some y,
    fun i H => ∃ xs : List V, SqB k1 K H a xs ∧ xs.length ≤ i⟩
theorem turn_zz {P : Program} {w : World} {K : PySem.W.Frag} {elts : List Expr} {kk : Nat} {tpos : Pos} {k1 k2 : Bool} {a b z TI TO i1 i2 : Addr} (D : ZipApart z TI TO i1 i2 a b) :
    Turn P w K (.Tuple elts kk tpos) (ItzB k1 k2 K a b) [z, TI, TO, i1, i2] z (fun i h => IsZip h z TI TO .none ∧ IsPair h TI (.ref i1) (.ref i2) ∧ (∃ x y, IsPair h TO x y) ∧ IterB k1 h i1 a i ∧ IterB k2 h i2 b i) where
  mem := by simp
  obj := fun i h st c hc => by
    obtain ⟨hz, hTI, ⟨x, y, hTO⟩, h1, h2⟩ := st
    obtain ⟨o1, e1, d1⟩ := iterB_rec h1
    obtain ⟨o2, e2, d2⟩ := iterB_rec h2
    have e' : c = z ∨ c = TI ∨ c = TO ∨ c = i1 ∨ c = i2 := by simpa using hc
    rcases e' with q | q | q | q | q
    · rw [q]; exact ⟨_, hz, fun v q => nomatch q⟩
    · rw [q]; exact ⟨_, hTI, fun v q => nomatch q⟩
    · rw [q]; exact ⟨_, hTO, fun v q => nomatch q⟩
    · rw [q]; exact ⟨o1, e1, d1⟩
    · rw [q]; exact ⟨o2, e2, d2⟩
  keep := fun i h h' st k => by
    obtain ⟨hz, hTI, ⟨x, y, hTO⟩, h1, h2⟩ := st
    exact ⟨k z (by simp) _ hz, k TI (by simp) _ hTI, ⟨x, y, k TO (by simp) _ hTO⟩, iterB_at h1 fun o q => k i1 (by simp) o q, iterB_at h2 fun o q => k i2 (by simp) o q⟩
  item := by
    intro X hP hw hK hc i pins s σ H E I hf st hg
    subst hP hw hK
    obtain ⟨hz, hTI, ⟨x0, y0, hTO⟩, h1, h2⟩ := st
    obtain ⟨xs, ys, x, y, hqx, hqy, hx, hy⟩ := hg
    obtain ⟨its, rv, p⟩ := sqB_at I hqx
    obtain ⟨its2, rv2, p2⟩ := sqB_at I hqy
    obtain ⟨u, hu, ru⟩ := rv.get hx
    obtain ⟨u2, hu2, ru2⟩ := rv2.get hy
    have hzl : z < s.heap.objs.size := Heap.lt_size hz
    refine pyNext_zz_item D hz hTI hTO (it2_mk h1 p) (it2_mk h2 p2) (x := u) (y := u2) (by simpa using hu) (by simpa using hu2) fun h' z' TO' h1' h2' hT hsz hk => ?_
    refine ⟨_, rfl, wpAny_letOwnedTupleGo_zip (s := { s with heap := h' }) z' fun h'' z'' sb => ?_⟩
    have hT2 : h''.get? s.heap.objs.size = some { cls := .type "tuple", data := .seq #[u, u2] } := (sb.2 _ (Nat.ne_of_gt hzl)).trans hT
    have new : ObjOk X.prog X.w (upd H s.heap.objs.size (.tup [x, y])) h'' s.heap.objs.size (.tup [x, y]) :=
      ⟨by show 2 ≤ sizeLine; decide, [u, u2], .cons ru (.cons ru2 .nil), ⟨_, hT2, rfl, _, rfl⟩⟩
    have I1 : Inv X pins σ (upd H s.heap.objs.size (.tup [x, y])) { s with heap := h'' } :=
      I.turnedNew (t' := s.toks) (ch := [z, TI, TO, i1, i2]) (fun c o hb q => (sb.2 c (fun q' => hb (by simp [q']))).trans (hk c o (fun q' => hb (by simp [q'])) (fun q' => hb (by simp [q'])) (fun q' => hb (by simp [q'])) (fun q' => hb (by simp [q'])) q)) hf (Nat.le_refl _) new
    refine ⟨.ref s.heap.objs.size, _, I1, rfl, ⟨_, x, y, rfl, I.hok.fresh (Nat.le_refl _), rfl, fun l hl => by rw [sqB_inj I hl hqx]; exact hx, fun l hl => by rw [sqB_inj I hl hqy]; exact hy⟩, ⟨z'', ?_, ⟨u, u2, ?_⟩, ?_, ?_⟩, fun c hcm => ?_⟩
    · exact (sb.2 _ D.TIz).trans (hk _ _ D.TIz D.TITO D.TIi1 D.TIi2 hTI)
    · exact (sb.2 _ D.TOz).trans TO'
    · exact iterB_at (it2_back h1' (seqB_keep p fun o q => hk _ o D.l1z D.l1TO D.l1i1 D.l1i2 q)) fun o q => (sb.2 _ D.i1z).trans q
    · exact iterB_at (it2_back h2' (seqB_keep p2 fun o q => hk _ o D.l2z D.l2TO D.l2i1 D.l2i2 q)) fun o q => (sb.2 _ D.i2z).trans q
    · have hlt : c < s.heap.objs.size := by
        have e' : c = z ∨ c = TI ∨ c = TO ∨ c = i1 ∨ c = i2 := by simpa using hcm
        rcases e' with q | q | q | q | q
        · rw [q]; exact hzl
        · rw [q]; exact Heap.lt_size hTI
        · rw [q]; exact Heap.lt_size hTO
        · rw [q]; obtain ⟨_, e1, _⟩ := iterB_rec h1; exact Heap.lt_size e1
        · rw [q]; obtain ⟨_, e2, _⟩ := iterB_rec h2; exact Heap.lt_size e2
      rw [upd_ne (Nat.ne_of_lt hlt)]
      exact (hf c hcm).1
  done := by
    intro X hP hw hK hc i pins s σ H E I hf st hg
    subst hP hw hK
    obtain ⟨hz, hTI, ⟨x0, y0, hTO⟩, h1, h2⟩ := st
    obtain ⟨xs, hqx, hend⟩ := hg
    obtain ⟨its, rv, p⟩ := sqB_at I hqx
    have l1 := rv.length
    exact pyNext_zz_end (I.ok.hd hc) D hz hTI hTO (it2_mk h1 p) (by simp; omega) fun h' hk => ⟨rfl, I.turnedL (t' := s.toks) (ch := [z, TI, TO, i1, i2]) (fun c o hb q =>
      hk c o (fun q' => hb (by simp [q'])) (fun q' => hb (by simp [q'])) (fun q' => hb (by simp [q'])) (fun q' => hb (by simp [q'])) q) hf⟩
  self := fun A i s Q E st h => wpAny_pyIter_zip st.1 h
def iZz (K : PySem.W.Frag) (ta : TA) : TI := fun σ H R => ta σ H fun vs H1 => ∃ (k1 k2 : Bool) (a b : Addr) (xs ys : List V), vs = [.ref a, .ref b] ∧ SqB k1 K H1 a xs ∧ SqB k2 K H1 b ys ∧ R (ItzB k1 k2 K a b) H1
theorem pi_zz {X : Cx} {e e2 : Expr} {ta : TA} {p pos tpos : Pos} {elts : List Expr} {kk : Nat} (hg : Gl X "zip") (hm : X.mg "zip" = none) (ha : PA X [e, e2] ta)
    (hs : starEach [e, e2] X.env = (false, eval e X.env) :: starEach [e2] X.env := by rfl) (hpl : (backTo pos (starEach [e2] X.env)).any (·.1) = false := by rfl) :
    PI X (.Tuple elts kk tpos) (.Call (.Name "zip" p) [e, e2] [] pos) (iZz X.K ta) := by
  refine ⟨fun pins s σ H R I h => ?_⟩
  refine Call_ (ld_blt I hg hm PyProof.Rows.boot_zip (PyProof.Rows.callWith_type1 (thn (ha.run pos pins s σ H _ I h) fun us s1 ⟨vs, H1, I1, r1, q1⟩ => ?_) hs hpl))
  obtain ⟨k1, k2, a, b, xs, ys, ex, hqx, hqy, q⟩ := q1
  subst ex
  cases r1 with
  | cons r rr =>
    cases rr with
    | cons r' rr =>
      cases rr
      cases r
      cases r'
      have fresh5 : ∀ c, c ∈ [s1.heap.objs.size + 4, s1.heap.objs.size + 2, s1.heap.objs.size + 3, s1.heap.objs.size, s1.heap.objs.size + 1] → FpOk X pins H1 c := fun c hcm => by
        have e' : c = s1.heap.objs.size + 4 ∨ c = s1.heap.objs.size + 2 ∨ c = s1.heap.objs.size + 3 ∨ c = s1.heap.objs.size ∨ c = s1.heap.objs.size + 1 := by simpa using hcm
        have hle : s1.heap.objs.size ≤ c := by
          rcases e' with z | z | z | z | z
          · rw [z]; exact Nat.le_add_right _ _
          · rw [z]; exact Nat.le_add_right _ _
          · rw [z]; exact Nat.le_add_right _ _
          · rw [z]; exact Nat.le_refl _
          · rw [z]; exact Nat.le_add_right _ _
        exact I1.fpOk hle (I1.hok.fresh hle)
      obtain ⟨its, rv, p1⟩ := sqB_at I1 hqx
      obtain ⟨its2, rv2, p2⟩ := sqB_at I1 hqy
      refine zz_call (ys := its2.toArray) (seqB_or p1) (seqB_or p2) fun h' hz hTI hTO h1 h2 hsz hk => wpAny_pyIter_zip hz ?_
      have I2 : Inv X pins σ H1 { s1 with heap := h' } := I1.kept (t' := s1.toks) hk
      exact ⟨s1.heap.objs.size + 4, [s1.heap.objs.size + 4, s1.heap.objs.size + 2, s1.heap.objs.size + 3, s1.heap.objs.size, s1.heap.objs.size + 1], _, _, H1, rfl, I2, turn_zz (PySem.W.ktu_apart s1.heap.objs.size a b (seqB_lt p1) (seqB_lt p2)), ⟨hz, hTI, ⟨_, _, hTO⟩, it2_back h1 (seqB_keep p1 fun o q => hk _ o q), it2_back h2 (seqB_keep p2 fun o q => hk _ o q)⟩, fresh5, q⟩
theorem walk_zz {k1 k2 : Bool} {K : PySem.W.Frag} {a b : Addr} {xs ys : List V} (hn : xs.length ≤ ys.length) : Walk (ItzB k1 k2 K a b) xs.length (fun H => SqB k1 K H a xs ∧ SqB k2 K H b ys) (YPair (fun i => xs[i]?) (fun i => ys[i]?)) := by
  refine ⟨fun i _ hi q => ?_, fun _ q => ⟨xs, q.1, Nat.le_refl _⟩, fun i H v H' _ q y => ?_⟩
  · exact ⟨xs, ys, xs[i], ys[i]'(by omega), q.1, q.2, List.getElem?_eq_getElem hi, List.getElem?_eq_getElem (by omega)⟩
  · obtain ⟨T, x, y, h1, h2, h3, h4, h5⟩ := y
    exact ⟨T, x, y, h1, h2, h3, h4 xs q.1, h5 ys q.2⟩
end Nm
set_option autoImplicit true
set_option maxRecDepth 100000
set_option maxHeartbeats 4000000
/-! {k: v for .. in .. for .. in ..}, no tests: the machine's turns -/
namespace Nm
open PySem PySem.Spec PyProof.Rows L2
abbrev DC2 (kx vx t0 i0 t1 i1 : Expr) (scope : Scope) (pos : Pos) : Expr := .DictComp kx vx [⟨t0, i0, [], 0⟩, ⟨t1, i1, [], 0⟩] scope pos
section
variable {kx vx t0 i0 t1 i1 : Expr} {scope : Scope} {pos : Pos} {it acc : Value} {D : Addr} {env : Env}
theorem turn_outer : compTurn (DC2 kx vx t0 i0 t1 i1 scope pos) 0 it acc env = (standAt i0.pos >>= fun _ => pyNext it >>= fun r => match r with
    | none => pure (.done .next)
    | some item => letOwnedTupleGo t0 it item >>= fun _ => assign t0 env item >>= fun _ => (eval i1 env >>= fun src => standAt i1.pos >>= fun _ => foldedSetIterable i1 env src >>= fun src => holding [src] (pyIter src) >>= fun it1 =>
        runOwn (.compStart (DC2 kx vx t0 i0 t1 i1 scope pos) 1 it1 acc env) env >>= fun _ => again (.compLoop (DC2 kx vx t0 i0 t1 i1 scope pos) 0 it acc env))) := by rfl
theorem turn_inner : compTurn (DC2 kx vx t0 i0 t1 i1 scope pos) 1 it (.ref D) env = (standAt i1.pos >>= fun _ => pyNext it >>= fun r => match r with
    | none => pure (.done .next)
    | some item => letOwnedTupleGo t1 it item >>= fun _ => assign t1 env item >>= fun _ => ((eval kx env >>= fun kv => holding [kv] (eval vx env) >>= fun vv => standAt { kx.pos with endLine := vx.pos.endLine, endCol := vx.pos.endCol } >>= fun _ =>
        holding [kv, vv] (dictSet D kv vv)) >>= fun _ => again (.compLoop (DC2 kx vx t0 i0 t1 i1 scope pos) 1 it (.ref D) env))) := by rfl
variable {prog : Program} {w : World} {A : Around} {R : Result → Shared → Prop} {s : Shared}
/-- what is raised in a block is noted there -/
abbrev Nt (prog : Program) (w : World) (A : Around) (env : Env) (R : Result → Shared → Prop) : Value → Shared → Prop := notedBy (model prog w) A env fun x s' => R (.error x) s'
theorem loop_outer (plain : ∀ x, foldedSetIterable i1 env x = pure x) (I : Nat → Shared → Prop)
    (go : ∀ n s, I n s → wpAny (model prog w) A (pyNext it) (fun r sa => match r with
      | none => R (.ok .next) sa
      | some item => wpAny (model prog w) A (letOwnedTupleGo t0 it item) (fun _ sb => wpAny (model prog w) A (assign t0 env item) (fun _ sc => wpAny (model prog w) A (eval i1 env) (fun src sd => wpAny (model prog w) A (pyIter src) (fun it1 se =>
          codeAny (model prog w) A (.compStart (DC2 kx vx t0 i0 t1 i1 scope pos) 1 it1 acc env) (fun r s' => match r with
            | .ok _ => ∃ m, m < n ∧ I m s'
            | .error _ => False) se) (Nt prog w A env R) sd) (Nt prog w A env R) sc) (Nt prog w A env R) sb) (Nt prog w A env R) sa) (Nt prog w A env R) s)
    (n : Nat) (h : I n s) : codeAny (model prog w) A (.compLoop (DC2 kx vx t0 i0 t1 i1 scope pos) 0 it acc env) R s := by
  refine codeAny_loop rfl I (fun n s hI => ?_) n h
  show wpAny _ A ((compTurn (DC2 kx vx t0 i0 t1 i1 scope pos) 0 it acc env).onRaise (fun x => do noteFrame x env; theTreesLotGoes x)) _ _ s
  rw [turn_outer]
  refine wpAny_noted (wpAny_bind (wpAny_standAt (wpAny_bind (wpAny_mono (go n s hI) (fun r sa ha => ?_) fun _ _ z => z))))
  cases r with
  | none => exact wpAny_pure ha
  | some item =>
    refine wpAny_bind (wpAny_mono ha (fun _ sb hb => wpAny_bind (wpAny_mono hb (fun _ sc hc => wpAny_bind (wpAny_mono hc (fun src sd hd => ?_) fun _ _ z => z)) fun _ _ z => z)) fun _ _ z => z)
    refine wpAny_bind (wpAny_standAt (wpAny_bind (wpAny_of_eq (plain src) (wpAny_bind (wpAny_holding (wpAny_mono hd (fun it1 se he => wpAny_bind (wpAny_runOwn ?_)) fun _ _ z => z))))))
    rw [Around.mark_none]
    refine codeAny_mono he fun r s' hr => ?_
    cases r with
    | error e => exact hr.elim
    | ok f => exact wpAny_pure ⟨rfl, hr⟩
theorem loop_inner (I : Nat → Shared → Prop)
    (go : ∀ n s, I n s → wpAny (model prog w) A (pyNext it) (fun r sa => match r with
      | none => R (.ok .next) sa
      | some item => wpAny (model prog w) A (letOwnedTupleGo t1 it item) (fun _ sb => wpAny (model prog w) A (assign t1 env item) (fun _ sc => wpAny (model prog w) A (eval kx env) (fun kv sd => wpAny (model prog w) A (eval vx env) (fun vv se =>
          wpAny (model prog w) A (dictSet D kv vv) (fun _ sf => ∃ m, m < n ∧ I m sf) (Nt prog w A env R) se) (Nt prog w A env R) sd) (Nt prog w A env R) sc) (Nt prog w A env R) sb) (Nt prog w A env R) sa) (Nt prog w A env R) s)
    (n : Nat) (h : I n s) : codeAny (model prog w) A (.compLoop (DC2 kx vx t0 i0 t1 i1 scope pos) 1 it (.ref D) env) R s := by
  refine codeAny_loop rfl I (fun n s hI => ?_) n h
  show wpAny _ A ((compTurn (DC2 kx vx t0 i0 t1 i1 scope pos) 1 it (.ref D) env).onRaise (fun x => do noteFrame x env; theTreesLotGoes x)) _ _ s
  rw [turn_inner]
  refine wpAny_noted (wpAny_bind (wpAny_standAt (wpAny_bind (wpAny_mono (go n s hI) (fun r sa ha => ?_) fun _ _ z => z))))
  cases r with
  | none => exact wpAny_pure ha
  | some item =>
    refine wpAny_bind (wpAny_mono ha (fun _ sb hb => wpAny_bind (wpAny_mono hb (fun _ sc hc => ?_) fun _ _ z => z)) fun _ _ z => z)
    exact wpAny_bind (wpAny_bind (wpAny_mono hc (fun kv sd hd => wpAny_bind (wpAny_holding (wpAny_mono hd (fun vv se he => wpAny_bind (wpAny_standAt (wpAny_holding (wpAny_mono he (fun _ sf hf => wpAny_pure ⟨rfl, hf⟩) fun _ _ z => z)))) fun _ _ z => z))) fun _ _ z => z))
/-- the inner walk's start -/
theorem start_inner (h0 : codeAny (model prog w) A (.compLoop (DC2 kx vx t0 i0 t1 i1 scope pos) 1 it acc env) R s)
    (h : wpAny (model prog w) A (pyIter it) (fun it' s' => codeAny (model prog w) A (.compLoop (DC2 kx vx t0 i0 t1 i1 scope pos) 1 it' acc env) R s') (Nt prog w A env R) s) :
    codeAny (model prog w) A (.compStart (DC2 kx vx t0 i0 t1 i1 scope pos) 1 it acc env) R s := by
  refine codeAny_of_tree ?_
  show wpAny _ _ ((compStart (DC2 kx vx t0 i0 t1 i1 scope pos) 1 it acc env).onRaise (fun x => do noteFrame x env; standAt theWindowsPlace)) _ _ s
  refine wpAny_notedAt ?_
  unfold compStart
  show wpAny _ _ (ask >>= _) _ _ s
  refine wpAny_bind (wpAny_askSetting (wpAny_ite ?_))
  split
  · first
      | exact wpAny_bind (wpAny_pure (wpAny_pure ⟨rfl, h0⟩))
      | exact wpAny_pure ⟨rfl, h0⟩
  · refine wpAny_bind (wpAny_rule ?_)
    show wpAny _ _ (standAt i1.pos >>= _) _ _ s
    exact wpAny_bind (wpAny_standAt (wpAny_bind (wpAny_mono h (fun it' s' z => wpAny_pure ⟨rfl, z⟩) fun _ _ z => z)))
end
end Nm
set_option autoImplicit true
set_option maxRecDepth 100000
set_option maxHeartbeats 8000000
/-! {k: v for .. in .. for .. in ..}, no tests: the rule -/
namespace Nm
open PySem PySem.Spec PyProof.Rows L2
/-- the walk of the first source; within each turn the walk of the second -/
def tDc2 (wi : TI) (g : TG) (wi1 : TI) (g1 : TG) (tk tv : TE) (vs vs1 : List Nat) : TE := fun σ H Q => wi σ H fun J Ha => ∀ D, Ha D = none → ∃ W : Nat → Nat → Hp → Prop, (∃ m, W 0 m (upd Ha D (.dK []))) ∧ ∀ i m H, W i m H →
  (J.stop i H ∧ Q (.ref D) H) ∨ (J.go i H ∧ ∃ Nx : Hp → Prop, (∀ H', Nx H' → ∃ m', m' < m ∧ W (i + 1) m' H') ∧ ∀ x H', J.yld i H x H' → g x (wipe σ vs) H' fun σ2 Hb => wipe σ2 vs = wipe σ vs ∧
    wi1 σ2 Hb fun J1 Hc => ∃ V : Nat → Nat → Hp → Prop, (∃ m, V 0 m Hc) ∧ ∀ j k H, V j k H →
      (J1.stop j H ∧ Nx H) ∨ (J1.go j H ∧ ∃ Ny : Hp → Prop, (∀ H', Ny H' → ∃ k', k' < k ∧ V (j + 1) k' H') ∧ ∀ x H', J1.yld j H x H' → g1 x (wipe σ2 vs1) H' fun σ3 Hd => wipe σ3 vs1 = wipe σ2 vs1 ∧
        tk σ3 Hd fun y He => tv σ3 He fun z Hf => ∃ kvs key, y = kV key ∧ Hf D = some (.dK kvs) ∧ kvs.length < sizeLine ∧ Ny (upd Hf D (.dK (putK kvs key z)))))
/-- what holds in any block of this comprehension -/
abbrev AllB (X : Cx) (scope : Scope) (q : Cx → Prop) : Prop := ∀ (s : Shared) (H : Hp) (C : Addr) (cl : List (Str × Addr)) (fp : List Addr), q (X.blk s H scope (compEnvC scope cl C X.env) fp)
section
variable {X : Cx}
theorem dc2_run {pins : List (Addr × Obj)} {s : Shared} {σ : L2.St} {H : Hp} {Q : VK} {kx vx t0 i0 t1 i1 : Expr} {scope : Scope} {own : List (Str × Nat)} {vs1 : List Nat} {pos pos' : Pos} {wi wi1 : TI} {g g1 : TG} {tk tv : TE} {use : Option (Value → Sem Unit)} {Qf : Value → Shared → Prop}
    (calm : X.calm = true) (nd : X.N.Nodup) (I : Inv X pins σ H s) (w0 : PI X t0 i0 wi) (blk : BlkOk X.N X.env.scope scope own) (sub : ∀ i ∈ vs1, i ∈ own.map (·.2)) (b0 : AllB X scope fun Y => PG Y t0 g) (w1 : AllB X scope fun Y => PI Y t1 i1 wi1) (b1 : AllB X scope fun Y => PG Y t1 g1)
    (bk : AllB X scope fun Y => PE Y kx tk) (bv : AllB X scope fun Y => PE Y vx tv) (p0 : ∀ x, foldedSetIterable i0 X.env x = pure x) (p1 : ∀ env x, foldedSetIterable i1 env x = pure x) (hyp : tDc2 wi g wi1 g1 tk tv (own.map (·.2)) vs1 σ H Q)
    (back : ∀ D C s' m H', Inv X pins σ H' s' → Q (.ref D) H' → s'.heap.Ns C m → FpOk X pins H' C → compPost (model X.prog X.w) X.A X.xe use Qf (.ref D) C (.ok .next) s') :
    wpAny (model X.prog X.w) X.A (comprehension (DC2 kx vx t0 i0 t1 i1 scope pos) scope X.env pos' newDict false (eval i0 X.env) use) Qf X.xe s := by
  have free_ : ∀ y ∈ scope.names, y.2 = .free → ∃ c, X.env.cells.lookup y.1 = some c := fun y hy e => (blk.free y hy e).elim (fun z => I.ok.has _ (.inl z)) fun z => I.ok.has _ (.inr z)
  refine wpAny_comprehension_free (use := use) rfl p0 (closure_ok free_) blk.kind (fun y hy e => by rw [blk.uniq y hy, e]) (thn (w0.run pins s σ H _ I hyp) fun _ _ hx => thn hx fun _ sa ha => ?_)
  obtain ⟨it, fp, tn, J, Ha, rfl, Ia, T, sta, fa, q⟩ := ha
  refine wpAny_newObj_type (newEnv_comp ?_)
  generalize eD : sa.heap.objs.size = D
  obtain ⟨W, ⟨m0, wz⟩, turn⟩ := q D (Ia.hok.fresh (Nat.le_of_eq eD))
  -- the dict that is made
  generalize eb : ({ sa with heap := sa.heap.push { cls := .type "dict", data := .dict #[] } } : Shared) = sb
  have hpb : sb.heap = sa.heap.push { cls := .type "dict", data := .dict #[] } := by rw [← eb]
  have Ib : Inv X pins σ (upd Ha D (.dK [])) sb := by
    rw [← eb]
    refine Ia.laid (t' := sa.toks) (fun b o e => Heap.get?_push_of_some _ e) (Nat.le_of_eq eD) ?_
    rw [← eD]
    exact dk_empty sa.heap Ia.big
  have fb : ∀ b ∈ fp, FpOk X pins (upd Ha D (.dK [])) b ∧ b < sb.heap.objs.size := fun b hb => by
    obtain ⟨o, e, _⟩ := T.obj _ _ sta b hb
    have lt := Heap.lt_size e
    refine ⟨⟨?_, (fa b hb).2⟩, by rw [hpb, Heap.size_push]; exact Nat.lt_succ_of_lt lt⟩
    rw [upd_ne (by rw [← eD]; exact Nat.ne_of_lt lt)]
    exact (fa b hb).1
  have stb : tn 0 sb.heap := T.keep _ _ _ sta fun b _ o e => by rw [hpb]; exact Heap.get?_push_of_some _ e
  have Ic := block_start Ib blk nd fb
  generalize hL : sb.heap.objs.size = L at Ic
  have pb0 := b0 sb (upd Ha D (.dK [])) L (cellsFrom (L + 1) scope.names (cloFrom X.env.cells scope.names [])) fp
  have pw1 := w1 sb (upd Ha D (.dK [])) L (cellsFrom (L + 1) scope.names (cloFrom X.env.cells scope.names [])) fp
  have pb1 := b1 sb (upd Ha D (.dK [])) L (cellsFrom (L + 1) scope.names (cloFrom X.env.cells scope.names [])) fp
  have pbk := bk sb (upd Ha D (.dK [])) L (cellsFrom (L + 1) scope.names (cloFrom X.env.cells scope.names [])) fp
  have pbv := bv sb (upd Ha D (.dK [])) L (cellsFrom (L + 1) scope.names (cloFrom X.env.cells scope.names [])) fp
  show codeAny _ _ (.compStart (DC2 kx vx t0 i0 t1 i1 scope pos) 0 (.ref it) (.ref D) (compEnvC scope (cellsFrom (L + 1) scope.names (cloFrom X.env.cells scope.names [])) L X.env)) (compPost (model X.prog X.w) X.A X.xe use Qf (.ref D) L) { sb with heap := pushCells (sb.heap.push { cls := .type "dict", data := .dict #[] }) scope.names }
  generalize hce : compEnvC scope (cellsFrom (L + 1) scope.names (cloFrom X.env.cells scope.names [])) L X.env = ce at Ic pb0 pw1 pb1 pbk pbv ⊢
  have ceL : ce.locals = L := by subst hce; rfl
  generalize upd Ha D (.dK []) = Hb at *
  generalize hsc : ({ sb with heap := pushCells (sb.heap.push { cls := .type "dict", data := .dict #[] }) scope.names } : Shared) = sc at Ic ⊢
  have stc : tn 0 sc.heap := T.keep _ _ _ stb fun b _ o e => by rw [← hsc]; exact pushCells_keeps _ _ _ _ (Heap.get?_push_of_some _ e)
  have clean : ∀ {σ' : L2.St} {H' : Hp} {s' : Shared}, Inv (X.blk sb Hb scope ce fp) [] σ' H' s' → (∀ b ∈ fp, H' b = none) → ∀ b ∈ fp, FpOk (X.blk sb Hb scope ce fp) [] H' b := fun {σ' H' s'} J' hn b hb =>
    ⟨hn b hb, (J'.ok.exf b hb).1, J'.ok.exfs b hb, .inl hb, fun x c e => (J'.ok.exf b hb).2 x c e, fun p hp => absurd (show p ∈ ([] : List (Addr × Obj)) ++ [] from hp) (by simp)⟩
  have go : codeAny (model X.prog X.w) X.A (.compLoop (DC2 kx vx t0 i0 t1 i1 scope pos) 0 (.ref it) (.ref D) ce) (compPost (model X.prog X.w) X.A X.xe use Qf (.ref D) L) sc := by
    refine loop_outer (p1 ce) (fun n s' => ∃ i H', Inv (X.blk sb Hb scope ce fp) [] (wipe σ (own.map (·.2))) H' s' ∧ tn i s'.heap ∧ (∀ b ∈ fp, H' b = none) ∧ W i n H') ?_ m0 ⟨0, Hb, Ic, stc, fun b hb => (fb b hb).1.1, wz⟩
    rintro n sd ⟨i, Hd, Id, std, nofp, wd⟩
    rcases turn i n Hd wd with ⟨stop, qq⟩ | ⟨more, Nx, hNx, step⟩
    · refine thnF (T.done (X.blk sb Hb scope ce fp) rfl rfl rfl calm i [] sd _ Hd (fun _ _ => False) Id (clean Id nofp) std stop) fun r se ⟨hr, Ie⟩ => ?_
      subst hr
      have If : Inv X pins σ Hd se := Ib.call' (ch := fp) Ie.os Ie.base Ie.hok Ie.bare fun b hb => ⟨(fb b hb).1.2.2.2.1, (fb b hb).1.2.1, (fb b hb).1.2.2.2.2.1, (fb b hb).1.2.2.2.2.2⟩
      have nL : Hd L = none := by
        have z : Hd ce.locals = none := Ie.free
        rwa [ceL] at z
      obtain ⟨m, hn, _⟩ := Ie.loc
      have hn : se.heap.Ns ce.locals m := hn
      rw [ceL] at hn
      exact back D L se m Hd If qq hn (Ib.fpOk (Nat.le_of_eq hL) nL)
    · refine thnF (T.item (X.blk sb Hb scope ce fp) rfl rfl rfl calm i [] sd _ Hd (fun _ _ => False) Id (clean Id nofp) std more) fun r se ⟨u, hr, he⟩ => ?_
      subst hr
      refine thnF he fun _ sf ⟨x, Hf, If, rf, yf, stf, nof⟩ => ?_
      refine thnF (pb0.run _ sf _ Hf x u _ (If.pinned (clean If nof) (T.obj _ _ stf)) rf (step x Hf yf)) fun _ sg ⟨σg, Hg, Ig, hwg, qg⟩ => ?_
      -- what a turn leaves
      have done_ : ∀ {σ9 : L2.St} {s' : Shared} {H' : Hp}, Inv (X.blk sb Hb scope ce fp) ([] ++ pinsAt fp sf.heap) σ9 H' s' → (wipe σ (own.map (·.2))).length = σ9.length → (∀ (j : Nat) v, (wipe σ (own.map (·.2)))[j]? = some (some v) → σ9[j]? = some (some v)) → Nx H' →
          ∃ m, m < n ∧ ∃ i H', Inv (X.blk sb Hb scope ce fp) [] (wipe σ (own.map (·.2))) H' s' ∧ tn i s'.heap ∧ (∀ b ∈ fp, H' b = none) ∧ W i m H' := fun {σ9 s' H'} J' len kept nx => by
        obtain ⟨m', hm, w'⟩ := hNx H' nx
        have stays : ∀ b ∈ fp, ∀ o, sf.heap.get? b = some o → s'.heap.get? b = some o ∧ H' b = none := fun b hb o e =>
          have z := J'.pin (b, o) (List.mem_append_right _ (List.mem_append_right _ (mem_pinsAt hb e)))
          ⟨z.1, z.2.1⟩
        refine ⟨m', hm, i + 1, H', (J'.unpinned (pins := [])).weak len kept, T.keep _ _ _ stf fun b hb o e => (stays b hb o e).1, fun b hb => ?_, w'⟩
        obtain ⟨o, e, _⟩ := T.obj _ _ stf b hb
        exact (stays b hb o e).2
      have leng : (wipe σ (own.map (·.2))).length = σg.length := by rw [← hwg, wipe_length]
      have keptg : ∀ (j : Nat) v, (wipe σ (own.map (·.2)))[j]? = some (some v) → (wipe σg vs1)[j]? = some (some v) := fun j v e => by
        rw [← hwg] at e
        obtain ⟨e1, e2⟩ := wipe_some e
        rwa [wipe_out fun z => e2 (sub j z)]
      refine thnF (pw1.run _ sg σg Hg _ Ig qg) fun _ sh hx => thnF hx fun _ si hi => ?_
      obtain ⟨it1, fp1, tn1, J1, Hi, rfl, Ii, T1, sti, fi, V, ⟨m1, vz⟩, turn1⟩ := hi
      have clean1 : ∀ {H' : Hp}, (∀ b ∈ fp1, H' b = none) → ∀ b ∈ fp1, FpOk (X.blk sb Hb scope ce fp) ([] ++ pinsAt fp sf.heap) H' b := fun hn b hb => ⟨hn b hb, (fi b hb).2⟩
      have go1 : codeAny (model X.prog X.w) X.A (.compLoop (DC2 kx vx t0 i0 t1 i1 scope pos) 1 (.ref it1) (.ref D) ce)
          (fun r s' => match r with
            | .ok _ => ∃ m, m < n ∧ ∃ i H', Inv (X.blk sb Hb scope ce fp) [] (wipe σ (own.map (·.2))) H' s' ∧ tn i s'.heap ∧ (∀ b ∈ fp, H' b = none) ∧ W i m H'
            | .error _ => False) si := by
        refine loop_inner (fun k s' => ∃ j H', Inv (X.blk sb Hb scope ce fp) ([] ++ pinsAt fp sf.heap) (wipe σg vs1) H' s' ∧ tn1 j s'.heap ∧ (∀ b ∈ fp1, H' b = none) ∧ V j k H') ?_ m1 ⟨0, Hi, Ii.weak (wipe_length _ _) (fun j v e => (wipe_some e).1), sti, fun b hb => (fi b hb).1, vz⟩
        rintro k sj ⟨j, Hj, Ij, stj, noj, vj⟩
        rcases turn1 j k Hj vj with ⟨stop1, nx1⟩ | ⟨more1, Ny, hNy, step1⟩
        · refine thnF (T1.done (X.blk sb Hb scope ce fp) rfl rfl rfl calm j _ sj (wipe σg vs1) Hj (fun _ _ => False) Ij (clean1 noj) stj stop1) fun r sk ⟨hr, Ik⟩ => ?_
          subst hr
          exact done_ Ik (leng.trans (wipe_length σg vs1).symm) keptg nx1
        · refine thnF (T1.item (X.blk sb Hb scope ce fp) rfl rfl rfl calm j _ sj (wipe σg vs1) Hj (fun _ _ => False) Ij (clean1 noj) stj more1) fun r sk ⟨u1, hr, hk⟩ => ?_
          subst hr
          refine thnF hk fun _ sl ⟨x1, Hl, Il, rl, yl, stl, nol⟩ => ?_
          refine thnF (pb1.run _ sl (wipe σg vs1) Hl x1 u1 _ (Il.pinned (clean1 nol) (T1.obj _ _ stl)) rl (step1 x1 Hl yl)) fun _ sm ⟨σm, Hm, Im, hwm, qm⟩ => ?_
          refine thnF (pbk.run _ sm σm Hm _ Im qm) fun _ sn ⟨yk, Hn, In, rn, qn⟩ => ?_
          refine thnF (pbv.run _ sn σm Hn _ In qn) fun _ so ⟨yv, Ho, Io, ro, kvs, key, ek, hD, hz, nx⟩ => ?_
          subst ek
          refine d_dictSet (X := X.blk sb Hb scope ce fp) Io hD hz rn ro fun sp Ip => ?_
          obtain ⟨k', hk', v'⟩ := hNy _ nx
          have stays : ∀ b ∈ fp1, ∀ o, sl.heap.get? b = some o → sp.heap.get? b = some o ∧ _ := fun b hb o e =>
            have z := Ip.pin (b, o) (List.mem_append_right _ (List.mem_append_right _ (mem_pinsAt hb e)))
            ⟨z.1, z.2.1⟩
          refine ⟨k', hk', j + 1, _, Ip.unpinned.weak (by rw [← hwm, wipe_length]) (fun j v e => by rw [← hwm] at e; exact (wipe_some e).1), T1.keep _ _ _ stl fun b hb o e => (stays b hb o e).1, fun b hb => ?_, v'⟩
          obtain ⟨o, e, _⟩ := T1.obj _ _ stl b hb
          exact (stays b hb o e).2
      exact start_inner go1 (T1.self X.A 0 _ _ _ sti go1)
  exact codeAny_compStart_dict go (T.self X.A 0 _ _ _ stc go)
/-- as a value -/
theorem pe_dc2 {kx vx t0 i0 t1 i1 : Expr} {scope : Scope} {own : List (Str × Nat)} {vs1 : List Nat} {pos : Pos} {wi wi1 : TI} {g g1 : TG} {tk tv : TE}
    (calm : X.calm = true) (nd : X.N.Nodup) (w0 : PI X t0 i0 wi) (blk : BlkOk X.N X.env.scope scope own) (sub : ∀ i ∈ vs1, i ∈ own.map (·.2)) (b0 : AllB X scope fun Y => PG Y t0 g) (w1 : AllB X scope fun Y => PI Y t1 i1 wi1) (b1 : AllB X scope fun Y => PG Y t1 g1)
    (bk : AllB X scope fun Y => PE Y kx tk) (bv : AllB X scope fun Y => PE Y vx tv) (p0 : ∀ x, foldedSetIterable i0 X.env x = pure x := by intro _; rfl) (p1 : ∀ env x, foldedSetIterable i1 env x = pure x := by intro _ _; rfl) :
    PE X (DC2 kx vx t0 i0 t1 i1 scope pos) (tDc2 wi g wi1 g1 tk tv (own.map (·.2)) vs1) := by
  refine ⟨fun pins s σ H Q I hyp => ?_⟩
  unfold DC2
  rw [arm_eval_DictComp]
  refine dc2_run calm nd I w0 blk sub b0 w1 b1 bk bv p0 p1 hyp fun D C s' m H' I' q hn f => ⟨m, hn, fun h'' sb => ?_⟩
  obtain ⟨f0, f1, f2, f3, f4, f5⟩ := f
  exact ⟨.ref D, H', I'.turned (t' := s'.toks) (fun b o hb e => (sb.2 b hb).trans e) f0 f1 f3 f4 f5, rfl, q⟩
/-- name = .., the name a local -/
theorem ps_setDc2 {n : Nat} {z : Str} {zp spos : Pos} {kx vx t0 i0 t1 i1 : Expr} {scope : Scope} {own : List (Str × Nat)} {vs1 : List Nat} {pos : Pos} {wi wi1 : TI} {g g1 : TG} {tk tv : TE}
    (calm : X.calm = true) (nd : X.N.Nodup) (at_ : X.N[n]? = some z) (loc : X.env.scope.names.lookup z = some .local) (sw : swapsWith (DC2 kx vx t0 i0 t1 i1 scope pos) (some (.Name z zp)) spos.line X.env = pure true) (w0 : PI X t0 i0 wi) (blk : BlkOk X.N X.env.scope scope own) (sub : ∀ i ∈ vs1, i ∈ own.map (·.2))
    (b0 : AllB X scope fun Y => PG Y t0 g) (w1 : AllB X scope fun Y => PI Y t1 i1 wi1) (b1 : AllB X scope fun Y => PG Y t1 g1) (bk : AllB X scope fun Y => PE Y kx tk) (bv : AllB X scope fun Y => PE Y vx tv)
    (p0 : ∀ x, foldedSetIterable i0 X.env x = pure x := by intro _; rfl) (p1 : ∀ env x, foldedSetIterable i1 env x = pure x := by intro _ _; rfl) :
    PS X (.Assign [.Name z zp] (DC2 kx vx t0 i0 t1 i1 scope pos) spos) (tAsg (tDc2 wi g wi1 g1 tk tv (own.map (·.2)) vs1) (gName n)) := by
  refine ⟨fun pins s σ H D I hyp => ?_⟩
  rw [exec_Assign_Name_used _ _ _ _ sw]
  refine wpAny_bind (wpAny_standAt (wpAny_bind ?_))
  show wpAny _ X.A (do let _ ← comprehension (DC2 kx vx t0 i0 t1 i1 scope pos) scope X.env (firstIterPos [⟨t0, i0, [], 0⟩, ⟨t1, i1, [], 0⟩] pos) newDict false (eval i0 X.env) (some (assign (.Name z zp) X.env))) _ _ s
  have hyp' : tDc2 wi g wi1 g1 tk tv (own.map (·.2)) vs1 σ H (fun x H1 => gName n x σ H1 D.nx) := hyp
  have core := dc2_run (pos := pos) (pos' := firstIterPos [⟨t0, i0, [], 0⟩, ⟨t1, i1, [], 0⟩] pos) (use := some (assign (.Name z zp) X.env)) (Qf := fun _ s' => SP X pins D .next s') calm nd I w0 blk sub b0 w1 b1 bk bv p0 p1 hyp' fun L C s' m H' I' q hn f => ?_
  · exact wpAny_bind (thn core fun _ s' hq => wpAny_pure (wpAny_pure hq))
  show wpAny _ _ (assign (.Name z zp) X.env (.ref L)) _ _ _
  refine wpAny_assign_Name (store_ok2 (v := V.ref L) I' nd at_ (.inl loc) rfl (fun s2 I2 ⟨a, sb, ha⟩ => ?_) (.inr loc))
  have ⟨f0, f1, f2, f3, f4, f5⟩ := f
  have haC : C ≠ a := ha.elim (fun e => e ▸ f1) (fun e w => f4 z a e w.symm)
  exact ⟨m, hn.sameBut sb haC, fun h3 sb3 => ⟨_, H', I2.turned (t' := s2.toks) (fun b o hb e => (sb3.2 b hb).trans e) f0 f1 f3 f4 f5, q⟩⟩
end
end Nm
set_option autoImplicit true
/-! x -> 5 x + 1 goes the whole round of every power of two -/
namespace Nm
open L2
def seq5 : Nat → Nat
  | 0 => 0
  | n + 1 => 5 * seq5 n + 1
theorem seq5_pow : ∀ n, 4 * seq5 n + 1 = 5 ^ n
  | 0 => rfl
  | n + 1 => by
    have h := seq5_pow n
    rw [Nat.pow_succ, ← h]
    show 4 * (5 * seq5 n + 1) + 1 = _
    omega
theorem seq5_add (a : Nat) : ∀ b, seq5 (a + b) = 5 ^ b * seq5 a + seq5 b
  | 0 => by
    show seq5 a = 1 * seq5 a + 0
    omega
  | b + 1 => by
    show 5 * seq5 (a + b) + 1 = 5 ^ (b + 1) * seq5 a + (5 * seq5 b + 1)
    rw [seq5_add a b, Nat.pow_succ, Nat.mul_add, Nat.mul_comm (5 ^ b) 5, Nat.mul_assoc]
    omega
/-- at 2^k it is 2^k times an odd number -/
theorem seq5_two : ∀ k, ∃ c, seq5 (2 ^ k) = 2 ^ k * (2 * c + 1)
  | 0 => ⟨0, rfl⟩
  | k + 1 => by
    obtain ⟨c, h⟩ := seq5_two k
    have e : 2 ^ (k + 1) = 2 ^ k + 2 ^ k := by rw [Nat.pow_succ]; omega
    refine ⟨2 * seq5 (2 ^ k) * c + seq5 (2 ^ k) + c, ?_⟩
    have h2 : seq5 (2 ^ (k + 1)) = (5 ^ (2 ^ k) + 1) * seq5 (2 ^ k) := by
      rw [e, seq5_add, Nat.add_mul, Nat.one_mul]
    rw [h2, ← seq5_pow]
    have h3 : (4 * seq5 (2 ^ k) + 1 + 1) * seq5 (2 ^ k) = 2 * ((2 * seq5 (2 ^ k) + 1) * (2 ^ k * (2 * c + 1))) := by
      conv => lhs; rhs; rw [h]
      have : 4 * seq5 (2 ^ k) + 1 + 1 = 2 * (2 * seq5 (2 ^ k) + 1) := by omega
      rw [this, Nat.mul_assoc]
    rw [h3, Nat.pow_succ, Nat.mul_left_comm (2 * seq5 (2 ^ k) + 1), Nat.mul_comm (2 ^ k) 2, Nat.mul_assoc]
    congr 1
    congr 1
    generalize seq5 (2 ^ k) = z
    rw [Nat.mul_add, Nat.add_mul, Nat.mul_one, Nat.one_mul, Nat.mul_add, Nat.mul_add]
    have : 2 * z * (2 * c) = 2 * (2 * z * c) := by rw [Nat.mul_left_comm]
    omega
theorem seq5_odd (b : Nat) : ∃ d, 5 ^ b = 2 * d + 1 := ⟨2 * seq5 b, by rw [← seq5_pow]; omega⟩
theorem odd_mul (d c : Nat) : (2 * d + 1) * (2 * c + 1) = 2 * (2 * d * c + d + c) + 1 := by
  rw [Nat.add_mul, Nat.mul_add, Nat.mul_one, Nat.one_mul, Nat.mul_add, Nat.mul_add]
  have : 2 * d * (2 * c) = 2 * (2 * d * c) := by rw [Nat.mul_left_comm]
  omega
/-- every number below 2^k is met within the round -/
theorem seq5_all : ∀ k j, j < 2 ^ k → ∃ b, b < 2 ^ k ∧ seq5 b % 2 ^ k = j
  | 0, j, h => ⟨0, Nat.one_pos, by
    have : j = 0 := by
      have : (2 : Nat) ^ 0 = 1 := rfl
      omega
    rw [this]
    rfl⟩
  | k + 1, j, h => by
    have e : 2 ^ (k + 1) = 2 * 2 ^ k := by rw [Nat.pow_succ, Nat.mul_comm]
    have hp : 0 < 2 ^ k := Nat.pow_pos (by decide)
    obtain ⟨b, hb, hbj⟩ := seq5_all k (j % 2 ^ k) (Nat.mod_lt _ hp)
    rw [e] at h ⊢
    by_cases c : seq5 b % (2 * 2 ^ k) = j
    · exact ⟨b, by omega, c⟩
    · refine ⟨2 ^ k + b, by omega, ?_⟩
      obtain ⟨c1, h1⟩ := seq5_two k
      obtain ⟨d, h2⟩ := seq5_odd b
      rw [seq5_add, h1, h2, Nat.mul_left_comm, odd_mul]
      generalize 2 * d * c1 + d + c1 = q
      generalize 2 ^ k = D at *
      have h3 : D * (2 * q + 1) + seq5 b = (D + seq5 b) + 2 * D * q := by
        rw [Nat.mul_add, Nat.mul_one, Nat.mul_assoc, Nat.mul_left_comm]
        omega
      rw [h3, Nat.add_mul_mod_self_left]
      have h4 : seq5 b % (2 * D) % D = j % D := by rw [Nat.mod_mul_left_mod]; exact hbj
      have h5 : seq5 b % (2 * D) < 2 * D := Nat.mod_lt _ (by omega)
      have h6 : (D + seq5 b) % (2 * D) = (D + seq5 b % (2 * D)) % (2 * D) := by rw [Nat.add_mod_mod]
      rw [h6]
      generalize seq5 b % (2 * D) = r at *
      have split : ∀ x, x < 2 * D → x % D = if x < D then x else x - D := fun x hx => by
        split
        · exact Nat.mod_eq_of_lt (by assumption)
        · rw [Nat.mod_eq_sub_mod (by omega)]
          exact Nat.mod_eq_of_lt (by omega)
      rw [split r h5, split j h] at h4
      by_cases r1 : r < D
      · rw [if_pos r1] at h4
        split at h4
        · exact absurd h4 c
        · rw [Nat.mod_eq_of_lt (by omega)]
          omega
      · rw [if_neg r1] at h4
        split at h4
        · rw [Nat.mod_eq_sub_mod (by omega), Nat.mod_eq_of_lt (by omega)]
          omega
        · omega
theorem lcg_seq (m : Nat) : ∀ b, lcgN m b = seq5 b % (m + 1)
  | 0 => by
    show 0 = 0 % (m + 1)
    rw [Nat.zero_mod]
  | b + 1 => by
    show (lcgN m b * 5 + 1) % (m + 1) = (5 * seq5 b + 1) % (m + 1)
    rw [lcg_seq m b, Nat.mul_comm 5, Nat.add_mod, Nat.mod_mul_mod, ← Nat.add_mod]
/-- a mask: one less than a power of two -/
def Pow2 (m : Nat) : Prop := ∃ k, m + 1 = 2 ^ k
theorem lcg_full {m j : Nat} (hm : Pow2 m) (hj : j ≤ m) : ∃ b, b ≤ m ∧ lcgN m b = j := by
  obtain ⟨k, hk⟩ := hm
  obtain ⟨b, h1, h2⟩ := seq5_all k j (by omega)
  exact ⟨b, by omega, by rw [lcg_seq, hk]; exact h2⟩
theorem lcg_back {m : Nat} (hm : Pow2 m) : lcgN m (m + 1) = 0 := by
  obtain ⟨k, hk⟩ := hm
  obtain ⟨c, h⟩ := seq5_two k
  rw [lcg_seq, hk, h]
  exact Nat.mul_mod_right _ _
end Nm
set_option autoImplicit true
/-! the way of a search through a table of any size -/
namespace Nm
open PySem L2
theorem lcg_turn {m : Nat} (pw : Pow2 m) (n : Nat) : lcgN m (m + 1 + n) = lcgN m n := by
  have z := lcg_back pw
  rw [lcg_seq] at z
  rw [lcg_seq, lcg_seq, seq5_add, Nat.add_mod, Nat.mul_mod, z, Nat.mul_zero, Nat.zero_mod, Nat.zero_add, Nat.mod_mod]
/-- from every slot to every slot -/
theorem lcg_from {m a b : Nat} (pw : Pow2 m) (ha : a ≤ m) (hb : b ≤ m) : ∃ n, n ≤ m ∧ lcgI m a n = b := by
  obtain ⟨u, hu, rfl⟩ := lcg_full pw ha
  obtain ⟨v, hv, rfl⟩ := lcg_full pw hb
  by_cases c : u ≤ v
  · refine ⟨v - u, by omega, ?_⟩
    rw [lcgN_add, show u + (v - u) = v by omega]
  · refine ⟨m + 1 + v - u, by omega, ?_⟩
    rw [lcgN_add, show u + (m + 1 + v - u) = m + 1 + v by omega, lcg_turn pw]
theorem way_meets {m j : Nat} (pw : Pow2 m) (h : Int) (hj : j ≤ m) : ∃ n, n < 10 * SetTable.turns m ∧ way m h n = j := by
  obtain ⟨r, hr, er⟩ := lcg_from pw (runI_le m (SetTable.bits h) 12) hj
  obtain ⟨n, hn, en⟩ := run_nth m (SetTable.bits h) (12 + r)
  refine ⟨n, ?_, ?_⟩
  · unfold SetTable.turns
    omega
  · show (nth m _ n).j = j
    rw [en, ← er, ← runI_tail (bits_lt h)]
    rfl
theorem way_in (m : Nat) (h : Int) (n : Nat) : way m h n ≤ m := by
  have b0 : SetTable.bits h % (m + 1) < m + 1 := Nat.mod_lt _ (Nat.succ_pos _)
  obtain ⟨r1, r2, _⟩ := runEnd_bd (Nat.le_of_lt_succ b0)
  have := nth_in (m := m) n (runAt m (SetTable.bits h % (m + 1)) (SetTable.bits h)) (by unfold runAt; simp only; omega)
  exact Nat.le_trans (Nat.le_add_right _ _) this
/-- a table in which each hash leads to its slot, its mask any -/
structure Tab (t : SetTable) (hs : List Int) : Prop where
  up : Ris t.place.toList
  clean : t.dummies = #[]
  many : t.place.size = hs.length
  pow : Pow2 t.mask
  low : ∀ j ∈ t.place.toList, j ≤ t.mask
  led : ∀ (i : Nat) (h : Int) (j : Nat), hs[i]? = some h → t.place.toList[i]? = some j → ∃ n, way t.mask h n = j ∧ ∀ n' < n, way t.mask h n' ∈ t.place.toList
/-- where the search for a hash ends: the first free slot of its way -/
theorem Tab.free {t : SetTable} {hs : List Int} (T : Tab t hs) (room : hs.length ≤ t.mask) (h : Int) : ∃ N, N < 10 * SetTable.turns t.mask ∧ way t.mask h N ∉ t.place.toList ∧ ∀ n < N, way t.mask h n ∈ t.place.toList := by
  obtain ⟨j, lt, out⟩ := st_missing t.place.toList (t.mask + 1) (by rw [Array.length_toList, T.many]; omega)
  obtain ⟨n, hn, e⟩ := way_meets T.pow h (Nat.le_of_lt_succ lt)
  obtain ⟨N, a, b, c⟩ := st_least (p := fun n => way t.mask h n ∉ t.place.toList) n (e ▸ out)
  exact ⟨N, by omega, b, fun n' hn' => Classical.not_not.mp (c n' hn')⟩
/-- a hash that stands in the table is met ahead of it -/
theorem Tab.ahead {t : SetTable} {hs : List Int} (T : Tab t hs) {h : Int} {N i j : Nat} (out : way t.mask h N ∉ t.place.toList) (hi : hs[i]? = some h) (hj : t.place.toList[i]? = some j) : ∃ n < N, way t.mask h n = j := by
  obtain ⟨n, e, before⟩ := T.led i h j hi hj
  refine ⟨n, Nat.lt_of_not_le fun le => ?_, e⟩
  rcases Nat.lt_or_eq_of_le le with lt | eq
  · exact out (before N lt)
  · subst eq
    exact out (e ▸ List.mem_of_getElem? hj)
/-- one more put at the first free slot of its way -/
theorem Tab.more {t : SetTable} {hs : List Int} (T : Tab t hs) {h : Int} {N : Nat} (out : way t.mask h N ∉ t.place.toList) (bef : ∀ n < N, way t.mask h n ∈ t.place.toList) :
    SetTable.below t.place (way t.mask h N) ≤ hs.length ∧ Tab (t.put (way t.mask h N)).1 (hs.take (SetTable.below t.place (way t.mask h N)) ++ h :: hs.drop (SetTable.below t.place (way t.mask h N))) ∧ (t.put (way t.mask h N)).1.fill = hs.length + 1 := by
  generalize hw : way t.mask h N = j at *
  have hjm : j ≤ t.mask := hw ▸ way_in t.mask h N
  obtain ⟨cut, _, _⟩ := below_cut T.up j
  have in1 : SetTable.below t.place j ≤ hs.length := T.many ▸ cut
  have in2 : SetTable.below t.place j ≤ t.place.toList.length := by rw [Array.length_toList]; exact cut
  have fresh : t.place[SetTable.below t.place j]? ≠ some j := fun e => out (List.mem_of_getElem? (i := SetTable.below t.place j) (by rw [Array.getElem?_toList]; exact e))
  have pp := put_place t j
  have keep : ∀ {x : Nat}, x ∈ t.place.toList → x ∈ (t.put j).1.place.toList := fun hx => pp ▸ mem_ins.2 (.inr hx)
  have sz : (t.put j).1.place.size = hs.length + 1 := by
    rw [← Array.length_toList, pp, len_ins _ in2, Array.length_toList, T.many]
  refine ⟨in1, ⟨ris_insert T.up fresh, put_dm T.clean j, by rw [len_ins _ in1, sz], T.pow, fun x hx => ?_, fun i h' j' a b => ?_⟩, ?_⟩
  · rw [pp] at hx
    rcases mem_ins.1 hx with rfl | z
    · exact hjm
    · exact T.low x z
  · rw [tins_get hs in1] at a
    rw [pp, tins_get _ in2] at b
    have old : ∀ i', hs[i']? = some h' → t.place.toList[i']? = some j' → ∃ n, way t.mask h' n = j' ∧ ∀ n' < n, way t.mask h' n' ∈ (t.put j).1.place.toList := fun i' u v => by
      obtain ⟨n, e, z⟩ := T.led i' h' j' u v
      exact ⟨n, e, fun n' lt => keep (z n' lt)⟩
    rcases Nat.lt_trichotomy i (SetTable.below t.place j) with c | c | c
    · rw [if_pos c] at a b
      exact old i a b
    · rw [if_neg (by omega), if_pos c] at a b
      cases a
      cases b
      exact ⟨N, hw, fun n' lt => keep (bef n' lt)⟩
    · rw [if_neg (by omega), if_neg (by omega)] at a b
      exact old (i - 1) a b
  · show (t.put j).1.place.size + (t.put j).1.dummies.size = _
    rw [sz, put_dm T.clean j]
    rfl
end Nm
set_option autoImplicit true
/-! laying a table anew, its mask any -/
namespace Nm
open PySem L2
/-- the first free slot on the way of a hash is the one that the laying takes -/
theorem lay_free {m : Nat} (pw : Pow2 m) (ow : Array (Option Nat)) (h : Int) {j : Nat} (hj : j ≤ m) (fr : oAt ow j = none) :
    ∃ N, SetTable.layClean.free m ow (SetTable.turns m) (SetTable.bits h % (m + 1)) (SetTable.bits h) = some (way m h N) ∧ oAt ow (way m h N) = none ∧ ∀ n < N, oAt ow (way m h n) ≠ none := by
  obtain ⟨r, hr, er⟩ := lcg_from pw (runI_le m (SetTable.bits h) 12) hj
  have at_ : way m h (off m (SetTable.bits h % (m + 1)) (SetTable.bits h) (12 + r)) = j := by
    show (nth m _ _).j = j
    rw [nth_off, itL_run, ← er, ← runI_tail (bits_lt h)]
    rfl
  obtain ⟨N, le, emp, occ⟩ := st_least (p := fun n => oAt ow (way m h n) = none) _ (show oAt ow (way m h (off m (SetTable.bits h % (m + 1)) (SetTable.bits h) (12 + r))) = none by rw [at_]; exact fr)
  refine ⟨N, free_spec m ow _ (12 + r) _ _ N ?_ le (fun n lt => ?_) ?_, emp, occ⟩
  · unfold SetTable.turns
    omega
  · cases z : oAt ow (way m h n) with
    | none => exact absurd z (occ n lt)
    | some _ => rfl
  · exact congrArg Option.isNone emp
/-- one hash more -/
theorem own_more {m : Nat} (pw : Pow2 m) {hs : List Int} {ow : Array (Option Nat)} (O : Own m hs ow) (room : hs.length ≤ m) (h : Int) :
    ∃ j, SetTable.layClean.free m ow (SetTable.turns m) (SetTable.bits h % (m + 1)) (SetTable.bits h) = some j ∧ Own m (hs ++ [h]) (ow.setIfInBounds j (some hs.length)) := by
  obtain ⟨ps, pl, pin⟩ := O.ps
  obtain ⟨f, flt, fout⟩ := st_missing ps (m + 1) (by omega)
  have ffree : oAt ow f = none := Classical.byContradiction fun z => fout (pin f (by omega) z)
  obtain ⟨N, got, emp, occ⟩ := lay_free pw ow h (Nat.le_of_lt_succ flt) ffree
  generalize hw : way m h N = j at *
  have jm : j ≤ m := hw ▸ way_in m h N
  have new : oAt (ow.setIfInBounds j (some hs.length)) j = some hs.length := oAt_set_self _ (by rw [O.sz]; omega)
  have still : ∀ i, oAt ow i ≠ none → oAt (ow.setIfInBounds j (some hs.length)) i ≠ none := fun i hi => by
    by_cases c : i = j
    · subst c
      rw [new]
      exact Option.some_ne_none _
    · rw [oAt_set_ne _ c]
      exact hi
  refine ⟨j, got, ⟨by rw [Array.size_setIfInBounds, O.sz], fun i k hi e => ?_, fun k hk => ?_, j :: ps, by simp [pl], fun i hi e => ?_⟩⟩
  · by_cases c : i = j
    · subst c
      rw [new] at e
      cases e
      exact ⟨h, N, by simp, hw, fun n lt => still _ (occ n lt)⟩
    · rw [oAt_set_ne _ c] at e
      obtain ⟨h', n', a, b, d⟩ := O.at_ i k hi e
      refine ⟨h', n', ?_, b, fun n lt => still _ (d n lt)⟩
      rw [List.getElem?_append_left (List.getElem?_eq_some_iff.mp a).1, a]
  · rw [List.length_append, List.length_singleton] at hk
    rcases Nat.lt_or_eq_of_le (Nat.le_of_lt_succ hk) with lt | rfl
    · obtain ⟨i, hi, e⟩ := O.all k lt
      refine ⟨i, hi, ?_⟩
      rw [oAt_set_ne _ (fun z => by subst z; rw [emp] at e; cases e), e]
    · exact ⟨j, jm, new⟩
  · by_cases c : i = j
    · exact c ▸ List.mem_cons_self
    · rw [oAt_set_ne _ c] at e
      exact List.mem_cons_of_mem _ (pin i hi e)
theorem own_all {m : Nat} (pw : Pow2 m) : ∀ (todo hs : List Int) (ow : Array (Option Nat)), Own m hs ow → hs.length + todo.length ≤ m →
    ∃ ow', todo.foldl (stepF m) (some (ow, hs.length)) = some (ow', hs.length + todo.length) ∧ Own m (hs ++ todo) ow'
  | [], hs, ow, O, _ => ⟨ow, rfl, by rw [List.append_nil]; exact O⟩
  | h :: todo, hs, ow, O, room => by
    rw [List.length_cons] at room
    obtain ⟨j, got, O'⟩ := own_more pw O (by omega) h
    obtain ⟨ow', a, b⟩ := own_all pw todo (hs ++ [h]) _ O' (by rw [List.length_append, List.length_singleton]; omega)
    rw [List.length_append, List.length_singleton] at a
    refine ⟨ow', ?_, by rw [List.append_assoc] at b; exact b⟩
    rw [List.foldl_cons, stepF_some got, a, List.length_cons]
    congr 2
    omega
/-- the table laid anew: the entries in another order, each hash led to its slot -/
theorem lay_new (t : SetTable) {hs : Array Int} {want M : Nat} (hM : SetTable.sizeAbove want - 1 = M) (pw : Pow2 M) (room : hs.size ≤ M) :
    ∃ t' ord, t.relaid hs want = some (t', ord) ∧ ord.toList.Perm (List.range hs.size) ∧ Tab t' (ord.toList.map fun i => hs.getD i 0) ∧ t'.mask = M ∧ t'.led = t.led ∧ t'.plain = t.plain := by
  obtain ⟨ow, a, O⟩ := own_all pw hs.toList [] _ (Own.init M) (by rw [Array.length_toList]; show 0 + hs.size ≤ M; omega)
  rw [List.nil_append] at O
  have lay : SetTable.layClean M hs = some ow := by
    rw [layClean_eq]
    exact congrArg (Option.map Prod.fst) a
  have at_ : ∀ {j k : Nat}, (j, k) ∈ liveOf M ow ↔ j ≤ M ∧ oAt ow j = some k := mem_live O.sz
  obtain ⟨up, low⟩ := ris_live (fun j => ow.getD j none) (List.range (M + 1)) (show Ris (List.range (M + 1)) from List.pairwise_lt_range)
  change Ris ((liveOf M ow).map (·.1)) at up
  have all : ∀ k < hs.size, k ∈ (liveOf M ow).map (·.2) := fun k lt => by
    obtain ⟨j, u, v⟩ := O.all k (by rw [Array.length_toList]; exact lt)
    exact List.mem_map.mpr ⟨(j, k), at_.2 ⟨u, v⟩, rfl⟩
  have count : (liveOf M ow).length = hs.size := by
    obtain ⟨ps, pl, pin⟩ := O.ps
    have le : ((liveOf M ow).map (·.1)).length ≤ ps.length := nat_nodup_len _ ps (up.imp fun lt => Nat.ne_of_lt lt) fun x hx => by
      obtain ⟨⟨y, k⟩, hq, rfl⟩ := List.mem_map.mp hx
      obtain ⟨u, v⟩ := at_.1 hq
      exact pin y u (by rw [v]; exact Option.some_ne_none _)
    have ge := nat_nodup_len (List.range hs.size) ((liveOf M ow).map (·.2)) List.nodup_range fun k hk => all k (List.mem_range.mp hk)
    rw [List.length_map, pl] at le
    have hz : hs.toList.length = hs.size := rfl
    rw [List.length_map, List.length_range] at ge
    omega
  refine ⟨tabOf t M ow, ((liveOf M ow).map (·.2)).toArray, by rw [relaid_eq, hM, lay]; rfl, perm_range _ _ (by rw [List.toList_toArray, List.length_map, count]) (fun k lt => by rw [List.toList_toArray]; exact all k lt), ?_, rfl, rfl, rfl⟩
  refine ⟨up, rfl, ?_, pw, fun x hx => ?_, fun i h j u v => ?_⟩
  · show ((liveOf M ow).map (·.1)).toArray.size = _
    simp
  · obtain ⟨⟨y, k⟩, hq, rfl⟩ := List.mem_map.mp (show x ∈ (liveOf M ow).map (·.1) from hx)
    exact (at_.1 hq).1
  · change ((liveOf M ow).map (·.1))[i]? = some j at v
    rw [List.toList_toArray, List.map_map, List.getElem?_map] at u
    rw [List.getElem?_map] at v
    obtain ⟨⟨y, k⟩, hq, rfl⟩ := Option.map_eq_some_iff.mp v
    rw [hq] at u
    have eh : hs.getD k 0 = h := Option.some.inj u
    obtain ⟨b1, b2⟩ := at_.1 (List.mem_of_getElem? hq)
    obtain ⟨h0, N, c1, c2, c3⟩ := O.at_ y k b1 b2
    have e0 : hs.getD k 0 = h0 := by
      rw [Array.getElem?_toList] at c1
      rw [Array.getD_eq_getD_getElem?, c1]
      rfl
    rw [e0] at eh
    subst eh
    refine ⟨N, c2, fun n lt => ?_⟩
    cases z : oAt ow (way M h0 n) with
    | none => exact absurd z (c3 n lt)
    | some k2 => exact List.mem_map.mpr ⟨(way M h0 n, k2), at_.2 ⟨way_in M h0 n, z⟩, rfl⟩
end Nm
set_option autoImplicit true
set_option maxRecDepth 100000
set_option maxHeartbeats 4000000
/-! sets of tuples of keys (ints, texts): what is asked of the tuples, and the search -/
namespace Nm
open PySem PySem.Spec PyProof.Rows L2
abbrev kh (P : Program) (w : World) (k : List Key) : Int := tupleKeyHash (mixKind P w) k
abbrev IsK (P : Program) (w : World) (h : Heap) (k : List Key) (a : Addr) : Prop := IsTupleKey (mixKind P w) h k a
section
variable {P : Program} {w : World} {A : Around} {E : Value → Shared → Prop} {s : Shared}
theorem told_items {k : List Key} {us : List Value} (T : PySem.ItemsAre (mixKind P w) k us) : ∀ u ∈ us, ∃ y : Key, keyIs y u = true := by
  induction T with
  | nil => exact fun u m => (List.not_mem_nil m).elim
  | @cons y u ks us e _ ih =>
    intro z m
    rcases List.mem_cons.mp m with rfl | m
    · exact ⟨y, e⟩
    · exact ih z m
theorem no_class {y : Key} {u : Value} (n : Nat) (e : keyIs y u = true) : ofAClassStatement n u = pure false := by
  rcases keyIs_shape e with ⟨i, t, rfl, rfl⟩ | ⟨x, t, rfl, rfl⟩ <;> cases n <;> rfl
theorem some_hash {y : Key} {u : Value} (n : Nat) (e : keyIs y u = true) : ∃ b, hashByValue n u = pure b := by
  rcases keyIs_shape e with ⟨i, t, rfl, rfl⟩ | ⟨x, t, rfl, rfl⟩
  · exact ⟨true, by cases n <;> rfl⟩
  · exact ⟨false, by cases n <;> rfl⟩
theorem class_of {k : List Key} {b : Addr} {Q : Bool → Shared → Prop} (T : IsK P w s.heap k b) (q : Q false s) : wpAny (model P w) A (ofAClassStatement 8 (.ref b)) Q E s := by
  have ty := T.typeIs
  obtain ⟨ob, its, cnt, hob, _, dat, itk⟩ := T
  unfold ofAClassStatement
  refine wpAny_bind (wpAny_typeOf ty ?_)
  dsimp only
  have yes : (("tuple" : String) == "tuple") = true := by decide
  simp only [yes, if_true, Bool.not_true, Bool.false_eq_true, if_false]
  try refine wpAny_bind (wpAny_pure ?_)
  try simp only [Bool.not_true, Bool.false_eq_true, if_false]
  show wpAny _ _ (seqItems? (.ref b) >>= _) _ _ s
  refine wpAny_bind (wpAny_seqItems hob dat ?_)
  dsimp only
  refine wpAny_bind ?_
  show wpAny _ _ (forIn its _ _) _ _ s
  rw [← Array.forIn_toList]
  refine wpAny_forIn_list _ (fun left acc st => acc.1 = none ∧ st = s ∧ ∀ u ∈ left, ∃ y : Key, keyIs y u = true) _ ?_ ?_ _ _ ⟨rfl, rfl, told_items itk⟩
  · rintro u left acc st ⟨na, rfl, every⟩
    obtain ⟨y, e⟩ := every u List.mem_cons_self
    rw [no_class _ e]
    refine wpAny_bind (wpAny_pure ?_)
    simp only [Bool.false_eq_true, if_false]
    exact wpAny_pure ⟨rfl, rfl, fun z m => every z (List.mem_cons_of_mem _ m)⟩
  · rintro ⟨c1, c2⟩ st ⟨na, rfl, _⟩
    simp only at na
    subst na
    exact wpAny_pure q
theorem hash_of {k : List Key} {b : Addr} {Q : Bool → Shared → Prop} (T : IsK P w s.heap k b) (q : ∀ r, Q r s) : wpAny (model P w) A (hashByValue 8 (.ref b)) Q E s := by
  have ty := T.typeIs
  obtain ⟨ob, its, cnt, hob, _, dat, itk⟩ := T
  unfold hashByValue
  refine wpAny_bind (wpAny_specialOf ty F.slot_tuple_hash.lookup ?_)
  show wpAny _ _ (seqItems? (.ref b) >>= _) _ _ s
  refine wpAny_bind (wpAny_seqItems hob dat ?_)
  refine wpAny_bind ?_
  show wpAny _ _ (forIn its _ _) _ _ s
  rw [← Array.forIn_toList]
  refine wpAny_forIn_list _ (fun left acc st => acc.1 = none ∧ st = s ∧ ∀ u ∈ left, ∃ y : Key, keyIs y u = true) _ ?_ ?_ _ _ ⟨rfl, rfl, told_items itk⟩
  · rintro u left acc st ⟨na, rfl, every⟩
    obtain ⟨y, e⟩ := every u List.mem_cons_self
    obtain ⟨r, er⟩ := some_hash 7 e
    rw [er]
    refine wpAny_bind (wpAny_pure ?_)
    cases r with
    | true =>
      simp only [Bool.not_true, Bool.false_eq_true, if_false]
      exact wpAny_pure ⟨rfl, rfl, fun z m => every z (List.mem_cons_of_mem _ m)⟩
    | false =>
      simp only [Bool.not_false, if_true]
      exact wpAny_pure (wpAny_pure (q false))
  · rintro ⟨c1, c2⟩ st ⟨na, rfl, _⟩
    simp only at na
    subst na
    exact wpAny_pure (q true)
/-- a search among such tuples cannot be seen -/
theorem seen_of {k : List Key} {b : Addr} {Q : Bool → Shared → Prop} (T : IsK P w s.heap k b) {us : List Value} (hu : ∀ u ∈ us, ∃ j c, u = Value.ref c ∧ IsK P w s.heap j c) (q : Q false s) :
    wpAny (model P w) A (searchCouldBeSeen (.ref b) us) Q E s := by
  unfold searchCouldBeSeen
  refine wpAny_bind ?_
  refine wpAny_forIn_list _ (fun left acc st => acc.1 = none ∧ st = s ∧ ∀ u ∈ left, ∃ j c, u = Value.ref c ∧ IsK P w s.heap j c) _ ?_ ?_ _ _ ⟨rfl, rfl, hu⟩
  · rintro u left acc st ⟨na, rfl, every⟩
    obtain ⟨j, c, rfl, Tc⟩ := every u List.mem_cons_self
    have after : ∀ u ∈ left, ∃ j c, u = Value.ref c ∧ IsK P w st.heap j c := fun z m => every z (List.mem_cons_of_mem _ m)
    dsimp only
    by_cases very : (b == c || (carriedByValue (.ref b) && carriedByValue (.ref c))) = true
    · exact wp_if_pos very (wpAny_pure ⟨rfl, rfl, after⟩)
    · refine wp_if_neg very (wpAny_bind (wpAny_eqIsQuiet_tuple T ?_))
      simp only [Bool.not_true, Bool.false_eq_true, if_false]
      refine wpAny_bind (wpAny_eqIsQuiet_tuple Tc ?_)
      simp only [Bool.not_true, Bool.false_eq_true, if_false]
      refine wpAny_bind (class_of T ?_)
      simp only [Bool.false_eq_true, if_false]
      refine wpAny_bind (class_of Tc ?_)
      simp only [Bool.false_eq_true, if_false]
      exact wpAny_pure ⟨rfl, rfl, after⟩
  · rintro ⟨c1, c2⟩ st ⟨na, rfl, _⟩
    simp only at na
    subst na
    exact wpAny_pure q
/-! ### the table of such a set -/
def MaskIn (m : Nat) : Prop := m = 7 ∨ m = 31 ∨ m = 127 ∨ m = 511 ∨ m = 2047 ∨ m = 8191
theorem MaskIn.pow {m : Nat} (h : MaskIn m) : Pow2 m := by
  rcases h with rfl | rfl | rfl | rfl | rfl | rfl
  · exact ⟨3, rfl⟩
  · exact ⟨5, rfl⟩
  · exact ⟨7, rfl⟩
  · exact ⟨9, rfl⟩
  · exact ⟨11, rfl⟩
  · exact ⟨13, rfl⟩
theorem MaskIn.odd {m : Nat} (h : MaskIn m) : m % 2 = 1 := by
  rcases h with rfl | rfl | rfl | rfl | rfl | rfl <;> rfl
theorem MaskIn.le {m : Nat} (h : MaskIn m) : m ≤ 8191 := by
  rcases h with rfl | rfl | rfl | rfl | rfl | rfl <;> decide
def rowsK (P : Program) (w : World) (L : List (Addr × List Key)) : List (Int × Value) := L.map fun e => (kh P w e.2, Value.ref e.1)
theorem rowsK_len (L : List (Addr × List Key)) : (rowsK P w L).length = L.length := List.length_map ..
structure KSet (P : Program) (w : World) (h : Heap) (a : Addr) (L : List (Addr × List Key)) (es : Array (Int × Value)) (ep : Nat) (t : SetTable) : Prop where
  here : ∃ o, h.get? a = some o ∧ o.ExactSet ∧ o.data = .set es ep t
  rows : es.toList = rowsK P w L
  tab : Tab t (L.map fun e => kh P w e.2)
  nd : (L.map (·.2)).Nodup
  tups : ∀ e ∈ L, IsK P w h e.2 e.1
  mask : MaskIn t.mask
  room : L.length * 5 < t.mask * 3
variable {a : Addr} {L : List (Addr × List Key)} {es : Array (Int × Value)} {ep : Nat} {t : SetTable}
theorem KSet.size (R : KSet P w s.heap a L es ep t) : es.size = L.length := by
  rw [← Array.length_toList, R.rows, rowsK_len]
theorem KSet.places (R : KSet P w s.heap a L es ep t) : t.place.toList.length = L.length := by
  rw [Array.length_toList, R.tab.many, List.length_map]
theorem KSet.fits (R : KSet P w s.heap a L es ep t) : t.fits es.size = true := by
  have p := R.places
  have z := R.size
  have r := R.room
  rw [Array.length_toList] at p
  unfold SetTable.fits SetTable.fill
  rw [R.tab.clean]
  simp
  omega
theorem KSet.entry (R : KSet P w s.heap a L es ep t) {i : Nat} {e : Addr × List Key} (h : L[i]? = some e) : es[i]? = some (kh P w e.2, Value.ref e.1) := by
  rw [← Array.getElem?_toList, R.rows]
  show (L.map _)[i]? = _
  rw [List.getElem?_map, h]
  rfl
theorem KSet.hashAt (R : KSet P w s.heap a L es ep t) {i : Nat} {e : Addr × List Key} (h : L[i]? = some e) : (es[i]?.map (·.1)).getD 0 = kh P w e.2 := by
  rw [R.entry h]
  rfl
theorem KSet.whole (R : KSet P w s.heap a L es ep t) : ¬ t.gaveWay = true := by
  unfold SetTable.gaveWay
  rw [R.mask.odd]
  decide
/-- where the walk stands behind c steps -/
abbrev stand (m : Nat) (h : Int) (c : Nat) : SetTable.Probe := nth m (runAt m (SetTable.bits h % (m + 1)) (SetTable.bits h)) c
theorem stand_dummy (m : Nat) (h : Int) : ∀ c, (stand m h c).dummy = none
  | 0 => rfl
  | c + 1 => by
    show (nth m _ (c + 1)).dummy = none
    rw [nth_succ]
    have ih := stand_dummy m h c
    unfold adv
    split <;> exact ih
theorem stand_on (m : Nat) (h : Int) (c q : Nat) : nth m (stand m h c) q = stand m h (c + q) := (nth_add m c _ q).symm
end
end Nm
set_option autoImplicit true
set_option maxRecDepth 100000
set_option maxHeartbeats 4000000
/-! the search for a tuple in a set of tuples of keys, to add it or to ask for it -/
namespace Nm
open PySem PySem.Spec PyProof.Rows L2
section
variable {P : Program} {w : World} {A : Around} {E : Value → Shared → Prop} {s : Shared}
variable {a : Addr} {L : List (Addr × List Key)} {es : Array (Int × Value)} {ep : Nat} {t : SetTable}
theorem look_from (R : KSet P w s.heap a L es ep t) {x : Addr} {k : List Key} (T : IsK P w s.heap k x) (hu : A.units < cLine) (ad : Bool) {N : Nat} (lim : N < 10 * SetTable.turns t.mask)
    (out : way t.mask (kh P w k) N ∉ t.place.toList) (bef : ∀ c < N, way t.mask (kh P w k) c ∈ t.place.toList) {Q : SetFound → Shared → Prop}
    (qin : k ∈ L.map (·.2) → ∀ r : Option Nat, (ad = false → r.isSome = true) → Q (.there r) s) (qout : k ∉ L.map (·.2) → Q (.free (way t.mask (kh P w k) N) false) s) :
    ∀ (f c : Nat) (fr : Option SetTable.Probe), fr.getD (t.probeStart (kh P w k)) = stand t.mask (kh P w k) c → c ≤ N → N - c < f →
      (∀ (i : Nat) e, L[i]? = some e → e.2 = k → ∃ d, c ≤ d ∧ d < N ∧ t.place.toList[i]? = some (way t.mask (kh P w k) d)) →
      wpAny (model P w) A (setSearchFrom a (.ref x) (kh P w k) ad f fr) Q E s
  | 0, c, fr, _, _, few, _ => absurd few (Nat.not_lt_zero _)
  | f + 1, c, fr, at_, le, few, ahead => by
    obtain ⟨o, ho, ex, dat⟩ := R.here
    rw [setSearchFrom_succ]
    refine wpAny_bind (wpAny_setState_of ho dat R.fits ?_)
    dsimp only
    refine wp_if_neg R.whole ?_
    try refine wpAny_bind (wpAny_pure ?_)
    have wj : ∀ q, (nth t.mask (stand t.mask (kh P w k) c) q).j = way t.mask (kh P w k) (c + q) := fun q => congrArg SetTable.Probe.j (stand_on t.mask (kh P w k) c q)
    have told := go_spec t R.tab.up R.tab.clean (fun i => (es[i]?.map (·.1)).getD 0) (kh P w k) (10 * SetTable.turns t.mask) (N - c) (stand t.mask (kh P w k) c) (stand_dummy t.mask (kh P w k) c) (by omega)
      (fun q hq => by rw [wj]; exact bef (c + q) (by omega)) (by rw [wj, show c + (N - c) = N by omega]; exact out)
    rcases told with ⟨q, i, hq, hi, hh, first, pr⟩ | ⟨none_, pr⟩
    · -- one of the same hash
      have pr2 : t.probe (fun i => (es[i]?.map (·.1)).getD 0) (kh P w k) (fr.getD (t.probeStart (kh P w k))) = some (.candidate (way t.mask (kh P w k) (c + q)) i (stand t.mask (kh P w k) (c + (q + 1)))) := by
        rw [at_, ← wj, ← stand_on]
        exact pr
      rw [pr2]
      dsimp only
      rw [wj] at hi
      have lt : i < L.length := by
        rw [← R.places]
        exact (List.getElem?_eq_some_iff.mp hi).1
      obtain ⟨e, he⟩ : ∃ e, L[i]? = some e := ⟨_, List.getElem?_eq_getElem lt⟩
      have hm : e ∈ L := List.mem_of_getElem? he
      have Te := R.tups e hm
      have go_on : wpAny (model P w) A (searchRest a (.ref x) (kh P w k) ad f es t (way t.mask (kh P w k) (c + q)) i (stand t.mask (kh P w k) (c + (q + 1)))) Q E s := by
        unfold searchRest
        rw [R.entry he]
        dsimp only
        refine wpAny_bind (wpAny_holding (wpAny_eqBool_tuple hu Te T ?_))
        refine wpAny_bind (wpAny_setState_of ho dat R.fits ?_)
        dsimp only
        have sl : t.slot (way t.mask (kh P w k) (c + q)) = .live i := slot_live R.tab.up hi
        by_cases same : e.2 = k
        · have inn : k ∈ L.map (·.2) := List.mem_map.mpr ⟨e, hm, same⟩
          cases ad with
          | true =>
            refine wp_if_pos (by simp [same]) ?_
            exact wpAny_pure (qin inn none fun z => nomatch z)
          | false =>
            refine wp_if_neg (by simp) ?_
            try refine wpAny_bind (wpAny_pure ?_)
            rw [sameMem]
            dsimp only
            simp only [if_true, sl, R.entry he]
            refine wpAny_bind (wpAny_isSame_ref_self (wpAny_bind (wpAny_pure ?_)))
            simp only [if_true]
            refine wp_if_pos (by simp [same]) ?_
            exact wpAny_pure (qin inn (some i) fun _ => rfl)
        · refine wp_if_neg (by simp [same]) ?_
          try refine wpAny_bind (wpAny_pure ?_)
          rw [sameMem]
          dsimp only
          simp only [if_true, sl, R.entry he]
          refine wpAny_bind (wpAny_isSame_ref_self (wpAny_bind (wpAny_pure ?_)))
          simp only [if_true]
          refine wp_if_neg (by simp [same]) ?_
          refine look_from R T hu ad lim out bef qin qout f (c + (q + 1)) _ rfl (by omega) (by omega) fun i0 e0 h0 k0 => ?_
          obtain ⟨d, d1, d2, d3⟩ := ahead i0 e0 h0 k0
          refine ⟨d, ?_, d2, d3⟩
          rcases Nat.lt_or_ge (c + q) d with gt | le'
          · omega
          exfalso
          rcases Nat.lt_or_eq_of_le le' with lt' | eq'
          · refine first (d - c) i0 (by omega) (by rw [wj, show c + (d - c) = d by omega]; exact d3) ?_
            exact (R.hashAt h0).trans (congrArg (kh P w) k0)
          · rw [eq'] at d3
            have s0 := slot_live R.tab.up d3
            rw [sl] at s0
            injection s0 with s0
            subst s0
            rw [he] at h0
            cases h0
            exact same k0
      by_cases led : t.led = true
      · refine wp_if_neg (by simp [led]) ?_
        try refine wpAny_bind (wpAny_pure ?_)
        exact go_on
      · refine wp_if_pos (by simp [led]) ?_
        refine wpAny_bind (seen_of T (fun u m => ?_) ?_)
        · obtain ⟨r, hr, er⟩ := List.mem_map.mp m
          have m2 : r ∈ es.toList := by
            have := (show r ∈ es ∧ r.1 = kh P w k by simpa using hr).1
            simpa using this
          rw [R.rows] at m2
          obtain ⟨e2, hm2, ee⟩ := List.mem_map.mp m2
          exact ⟨e2.2, e2.1, by rw [← er, ← ee], R.tups e2 hm2⟩
        · refine wp_if_neg (by decide) ?_
          try refine wpAny_bind (wpAny_pure ?_)
          exact go_on
    · -- the free slot
      have pr2 : t.probe (fun i => (es[i]?.map (·.1)).getD 0) (kh P w k) (fr.getD (t.probeStart (kh P w k))) = some (.empty (way t.mask (kh P w k) N) none) := by
        have ew : way t.mask (kh P w k) N = (nth t.mask (stand t.mask (kh P w k) c) (N - c)).j := by rw [wj, show c + (N - c) = N by omega]
        rw [at_, ew]
        exact pr
      rw [pr2]
      dsimp only
      refine wpAny_pure (qout fun m => ?_)
      obtain ⟨e0, m0, k0⟩ := List.mem_map.mp m
      obtain ⟨i0, h0⟩ := List.getElem?_of_mem m0
      obtain ⟨d, d1, d2, d3⟩ := ahead i0 e0 h0 k0
      refine none_ (d - c) i0 (by omega) (by rw [wj, show c + (d - c) = d by omega]; exact d3) ?_
      exact (R.hashAt h0).trans (congrArg (kh P w) k0)
/-- the search from its beginning -/
theorem look (R : KSet P w s.heap a L es ep t) {x : Addr} {k : List Key} (T : IsK P w s.heap k x) (hu : A.units < cLine) (ad : Bool) {Q : SetFound → Shared → Prop}
    (qin : k ∈ L.map (·.2) → ∀ r : Option Nat, (ad = false → r.isSome = true) → Q (.there r) s)
    (qout : ∀ N, k ∉ L.map (·.2) → way t.mask (kh P w k) N ∉ t.place.toList → (∀ c < N, way t.mask (kh P w k) c ∈ t.place.toList) → Q (.free (way t.mask (kh P w k) N) false) s) :
    wpAny (model P w) A (setSearch a (.ref x) (kh P w k) ad) Q E s := by
  have room := R.room
  obtain ⟨N, lim, out, bef⟩ := R.tab.free (by rw [List.length_map]; omega) (kh P w k)
  have big : N < 100000 := by
    have := R.mask.le
    unfold SetTable.turns at lim
    omega
  unfold setSearch
  refine look_from R T hu ad lim out bef qin (fun n => qout N n out bef) 100000 0 none rfl (Nat.zero_le _) (by omega) fun i e he ek => ?_
  have lt : i < t.place.toList.length := by
    rw [R.places]
    exact (List.getElem?_eq_some_iff.mp he).1
  have hj := List.getElem?_eq_getElem lt
  obtain ⟨d, d1, d2⟩ := R.tab.ahead out (i := i) (by rw [List.getElem?_map, he, ← ek]; rfl) hj
  exact ⟨d, Nat.zero_le _, d1, by rw [hj, d2]⟩
/-- x in such a set -/
theorem find_in (R : KSet P w s.heap a L es ep t) {x : Addr} {k : List Key} (T : IsK P w s.heap k x) (hu : A.units < cLine) {Q : Option Nat → Shared → Prop}
    (q : ∀ r : Option Nat, (r.isSome = true ↔ k ∈ L.map (·.2)) → Q r s) : wpAny (model P w) A (setFind a (.ref x) (kh P w k)) Q E s := by
  obtain ⟨o, ho, ex, dat⟩ := R.here
  unfold setFind setFindIn
  refine wpAny_bind (wpAny_setState_of ho dat R.fits ?_)
  dsimp only
  refine wp_if_neg (by simp [byScan, Value.scannable]) ?_
  try refine wpAny_bind (wpAny_pure ?_)
  refine wpAny_bind (look R T hu false (fun inn r hr => ?_) fun N n _ _ => ?_)
  · dsimp only
    exact wpAny_pure (q r ⟨fun _ => inn, fun _ => hr rfl⟩)
  · dsimp only
    exact wpAny_pure (q none ⟨fun z => (nomatch z), fun z => absurd z n⟩)
end
end Nm
set_option autoImplicit true
set_option maxRecDepth 100000
set_option maxHeartbeats 4000000
/-! a tuple put into a set of tuples of keys -/
namespace Nm
open PySem PySem.Spec PyProof.Rows L2
theorem new_mask : SetTable.sizeAbove (SetTable.grown 5) = 32 ∧ SetTable.sizeAbove (SetTable.grown 19) = 128 ∧ SetTable.sizeAbove (SetTable.grown 77) = 512 ∧ SetTable.sizeAbove (SetTable.grown 307) = 2048 ∧ SetTable.sizeAbove (SetTable.grown 1229) = 8192 := by decide +kernel
/-- how a table grows -/
theorem grows {m n : Nat} (h : MaskIn m) (few : n * 5 < m * 3) (full : (n + 1) * 5 ≥ m * 3) (le : n + 1 ≤ 4900) :
    ∃ M, SetTable.sizeAbove (SetTable.grown (n + 1)) - 1 = M ∧ MaskIn M ∧ SetTable.sizeAbove (SetTable.grown (n + 1)) ≤ 8192 ∧ (n + 1) * 5 < M * 3 := by
  obtain ⟨a1, a2, a3, a4, a5⟩ := new_mask
  rcases h with rfl | rfl | rfl | rfl | rfl | rfl
  · obtain rfl : n = 4 := by omega
    exact ⟨31, by rw [a1], .inr (.inl rfl), by rw [a1]; decide, by decide⟩
  · obtain rfl : n = 18 := by omega
    exact ⟨127, by rw [a2], .inr (.inr (.inl rfl)), by rw [a2]; decide, by decide⟩
  · obtain rfl : n = 76 := by omega
    exact ⟨511, by rw [a3], .inr (.inr (.inr (.inl rfl))), by rw [a3]; decide, by decide⟩
  · obtain rfl : n = 306 := by omega
    exact ⟨2047, by rw [a4], .inr (.inr (.inr (.inr (.inl rfl)))), by rw [a4]; decide, by decide⟩
  · obtain rfl : n = 1228 := by omega
    exact ⟨8191, by rw [a5], .inr (.inr (.inr (.inr (.inr rfl)))), by rw [a5]; decide, by decide⟩
  · omega
section
variable {P : Program} {w : World} {A : Around} {E : Value → Shared → Prop} {s : Shared}
theorem isK_but {h h' : Heap} {k : List Key} {a b : Addr} {o : Obj} {es : Array (Int × Value)} {ep : Nat} {t : SetTable} (T : IsK P w h k b) (ho : h.get? a = some o) (dat : o.data = .set es ep t) (sb : Heap.SameBut a h h') : IsK P w h' k b := by
  obtain ⟨u, its, cnt, hu, cl, ud, itk⟩ := T
  refine ⟨u, its, cnt, (sb.2 b fun e => ?_).trans hu, cl, ud, itk⟩
  subst e
  rw [ho] at hu
  cases hu
  rw [dat] at ud
  cases ud
theorem rowsK_put (L : List (Addr × List Key)) (i : Nat) (x : Addr) (k : List Key) : rowsK P w (L.take i ++ (x, k) :: L.drop i) = (rowsK P w L).take i ++ (kh P w k, Value.ref x) :: (rowsK P w L).drop i := by
  unfold rowsK
  rw [List.map_append, List.map_cons, List.map_take, List.map_drop]
/-- the rows in another order -/
theorem rowsK_order {L : List (Addr × List Key)} {es : Array (Int × Value)} {ord : Array Nat} (hr : es.toList = rowsK P w L) (pm : ord.toList.Perm (List.range L.length)) :
    ∃ L', (ord.filterMap (es[·]?)).toList = rowsK P w L' ∧ L'.Perm L ∧ (L'.map fun e => kh P w e.2) = ord.toList.map fun i => (es.map (·.1)).getD i 0 := by
  have sz : es.size = L.length := by rw [← Array.length_toList, hr, rowsK_len]
  have row : ∀ (i : Nat) e, L[i]? = some e → es[i]? = some (kh P w e.2, Value.ref e.1) := fun i e h => by
    rw [← Array.getElem?_toList, hr]
    show (L.map _)[i]? = _
    rw [List.getElem?_map, h]
    rfl
  have walk : ∀ js : List Nat, (∀ j ∈ js, j < L.length) → ∃ L', js.filterMap (fun i => es[i]?) = rowsK P w L' ∧ js.filterMap (fun i => L[i]?) = L' ∧ (L'.map fun e => kh P w e.2) = js.map fun i => (es.map (·.1)).getD i 0 := by
    intro js
    induction js with
    | nil => exact fun _ => ⟨[], rfl, rfl, rfl⟩
    | cons j js ih =>
      intro below
      obtain ⟨L', b1, b2, b3⟩ := ih fun i m => below i (List.mem_cons_of_mem _ m)
      obtain ⟨e, he⟩ : ∃ e, L[j]? = some e := ⟨_, List.getElem?_eq_getElem (below j List.mem_cons_self)⟩
      refine ⟨e :: L', by rw [List.filterMap_cons_some (row j e he), b1]; rfl, by rw [List.filterMap_cons_some he, b2], ?_⟩
      rw [List.map_cons, List.map_cons, b3]
      congr 1
      rw [Array.getD_eq_getD_getElem?, Array.getElem?_map, row j e he]
      rfl
  obtain ⟨L', b1, b2, b3⟩ := walk ord.toList fun j m => List.mem_range.mp (pm.mem_iff.mp m)
  refine ⟨L', by simpa using b1, ?_, b3⟩
  have all : ∀ n, n ≤ L.length → (List.range n).filterMap (fun i => L[i]?) = L.take n := by
    intro n
    induction n with
    | zero => exact fun _ => rfl
    | succ n ih =>
      intro le
      rw [List.range_succ, List.filterMap_append, ih (by omega), List.take_add_one, List.filterMap_cons_some (List.getElem?_eq_getElem le), List.getElem?_eq_getElem le]
      rfl
  rw [← b2]
  refine (pm.filterMap _).trans ?_
  rw [all _ (Nat.le_refl _), List.take_length]
variable {a : Addr} {L : List (Addr × List Key)} {es : Array (Int × Value)} {ep : Nat} {t : SetTable}
/-- the table laid anew -/
theorem laid_new {o : Obj} (ho : s.heap.get? a = some o) (ex : o.ExactSet) (dat : o.data = .set es ep t) (rows : es.toList = rowsK P w L) (tab : Tab t (L.map fun e => kh P w e.2)) (le : L.length ≤ t.mask) (nd : (L.map (·.2)).Nodup)
    (tups : ∀ e ∈ L, IsK P w s.heap e.2 e.1) {want M : Nat} (hM : SetTable.sizeAbove want - 1 = M) (mk : MaskIn M) (lim : SetTable.sizeAbove want ≤ 8192) (room : L.length * 5 < M * 3) {Q : Unit → Shared → Prop}
    (q : ∀ h' L' es' ep' t', Heap.SameBut a s.heap h' → KSet P w h' a L' es' ep' t' → L'.Perm L → Q () { s with heap := h' }) : wpAny (model P w) A (setRelay a want) Q E s := by
  have sz : es.size = L.length := by rw [← Array.length_toList, rows, rowsK_len]
  have pl := tab.many
  rw [List.length_map] at pl
  have fits : t.fits es.size = true := by
    unfold SetTable.fits SetTable.fill
    rw [tab.clean]
    simp
    omega
  obtain ⟨t', ord, e, pm, T, em, _, _⟩ := lay_new t (hs := es.map (·.1)) (want := want) hM mk.pow (by rw [Array.size_map, sz]; omega)
  rw [Array.size_map, sz] at pm
  obtain ⟨L', r1, r2, r3⟩ := rowsK_order (P := P) (w := w) rows pm
  rw [← r3] at T
  have sz' : (ord.filterMap (es[·]?)).size = es.size := by rw [← Array.length_toList, r1, rowsK_len, r2.length_eq, sz]
  rw [setRelay_eq]
  refine wpAny_bind (wpAny_setState_of ho dat fits ?_)
  dsimp only
  refine wp_if_neg (by rw [sizeLine_eq]; omega) ?_
  try refine wpAny_bind (wpAny_pure ?_)
  rw [e]
  dsimp only
  refine wpAny_bind ?_
  refine wp_if_neg (by rw [sz']; simp) ?_
  try refine wpAny_bind (wpAny_pure ?_)
  refine wpAny_pure ?_
  dsimp only
  have few : L.length < 4920 := by
    have := mk.le
    omega
  refine wpAny_storeSet_of ho dat ?_ (by rw [sz', sz, sizeLine_eq]; omega)
  have sb : Heap.SameBut a s.heap (s.heap.update a (Obj.putSet (ord.filterMap (es[·]?)) t')) := Heap.SameBut.update ..
  refine q _ L' (ord.filterMap (es[·]?)) (ep + 1) t' sb ⟨⟨_, store_at ho dat, ⟨ex.1, ex.2.1, ex.2.2⟩, rfl⟩, r1, T, (r2.map (·.2)).nodup_iff.mpr nd, fun u m => isK_but (tups u (r2.mem_iff.mp m)) ho dat sb, by rw [em]; exact mk, by rw [r2.length_eq, em]; exact room⟩ r2
/-- adding -/
theorem put_in (R : KSet P w s.heap a L es ep t) {x : Addr} {k : List Key} (T : IsK P w s.heap k x) (hu : A.units < cLine) (few : L.length + 1 ≤ 4900) {Q : Bool → Shared → Prop}
    (q : ∀ b h' L' es' ep' t', Heap.SameBut a s.heap h' → KSet P w h' a L' es' ep' t' → (k ∈ L.map (·.2) → L' = L) → (k ∉ L.map (·.2) → L'.Perm ((x, k) :: L)) → Q b { s with heap := h' }) :
    wpAny (model P w) A (setAddHashed a (.ref x) (kh P w k)) Q E s := by
  obtain ⟨o, ho, ex, dat⟩ := R.here
  have sz := R.size
  have room := R.room
  unfold setAddHashed
  refine wpAny_holding ?_
  rw [show (100000 : Nat) = 99999 + 1 from rfl, setAddHashedIn_succ]
  refine wpAny_bind (wpAny_setState_of ho dat R.fits ?_)
  dsimp only
  refine wp_if_neg (by simp [byScan, Value.scannable]) ?_
  try refine wpAny_bind (wpAny_pure ?_)
  refine wpAny_bind (look R T hu true (fun inn r _ => ?_) fun N nin out bef => ?_)
  · dsimp only
    exact wpAny_pure (q false s.heap L es ep t (Heap.SameBut.refl a s.heap) R (fun _ => rfl) fun z => absurd inn z)
  · dsimp only
    refine wpAny_bind (wpAny_setState_of ho dat R.fits ?_)
    dsimp only
    obtain ⟨c1, c2, c3⟩ := R.tab.more out bef
    have em : (t.put (way t.mask (kh P w k) N)).1.mask = t.mask := rfl
    generalize hpt : t.put (way t.mask (kh P w k) N) = pt at c2 c3 em ⊢
    have ep2 : pt.2 = SetTable.below t.place (way t.mask (kh P w k) N) := by rw [← hpt]; rfl
    obtain ⟨t1, pos⟩ := pt
    dsimp only at c2 c3 em ep2 ⊢
    subst ep2
    generalize hpos : SetTable.below t.place (way t.mask (kh P w k) N) = pos at *
    have rows1 : (SetTable.insertAt es pos (kh P w k, Value.ref x)).toList = rowsK P w (L.take pos ++ (x, k) :: L.drop pos) := by
      rw [SetTable.toList_insertAt, rowsK_put, R.rows]
    have pm : (L.take pos ++ (x, k) :: L.drop pos).Perm ((x, k) :: L) := by
      have z := List.perm_middle (a := (x, k)) (l₁ := L.take pos) (l₂ := L.drop pos)
      rw [List.take_append_drop] at z
      exact z
    have len : (L.take pos ++ (x, k) :: L.drop pos).length = L.length + 1 := pm.length_eq
    have hs : (L.take pos ++ (x, k) :: L.drop pos).map (fun e => kh P w e.2) = (L.map fun e => kh P w e.2).take pos ++ kh P w k :: (L.map fun e => kh P w e.2).drop pos := by
      rw [List.map_append, List.map_cons, List.map_take, List.map_drop]
    rw [← hs] at c2
    have nd1 : ((L.take pos ++ (x, k) :: L.drop pos).map (·.2)).Nodup := (pm.map (·.2)).nodup_iff.mpr (List.nodup_cons.mpr ⟨nin, R.nd⟩)
    have sz1 : (SetTable.insertAt es pos (kh P w k, Value.ref x)).size = L.length + 1 := by rw [← Array.length_toList, rows1, rowsK_len, len]
    generalize SetTable.insertAt es pos (kh P w k, Value.ref x) = es1 at rows1 sz1 ⊢
    generalize L.take pos ++ (x, k) :: L.drop pos = L1 at pm len c2 nd1 rows1
    -- the rest, however the field stands
    have rest : ∀ t2 : SetTable, Tab t2 (L1.map fun e => kh P w e.2) → t2.mask = t.mask → t2.fill = L.length + 1 →
        wpAny (model P w) A (do
            storeSet a es1 t2
            if !false && t2.tooFull then setRelay a (SetTable.grown (es.size + 1))
            return true) Q E s := fun t2 T2 m2 f2 => by
      refine wpAny_bind (wpAny_storeSet_of ho dat ?_ (by rw [sz1, sizeLine_eq]; omega))
      have sb : Heap.SameBut a s.heap (s.heap.update a (Obj.putSet es1 t2)) := Heap.SameBut.update ..
      have ho1 := store_at (es' := es1) (t' := t2) ho dat
      generalize s.heap.update a (Obj.putSet es1 t2) = h1 at sb ho1 ⊢
      have tups1 : ∀ e ∈ L1, IsK P w h1 e.2 e.1 := fun e m => by
        rcases List.mem_cons.mp (pm.mem_iff.mp m) with rfl | m
        · exact isK_but T ho dat sb
        · exact isK_but (R.tups e m) ho dat sb
      by_cases full : t2.tooFull = true
      · have hf := full
        unfold SetTable.tooFull at hf
        rw [decide_eq_true_eq, f2, m2] at hf
        obtain ⟨M, g1, g2, g3, g4⟩ := grows R.mask room hf few
        first
          | (refine wpAny_bind ?_; refine wp_if_pos (by simp [full]) ?_)
          | (refine wp_if_pos (by simp [full]) ?_; refine wpAny_bind ?_)
        rw [sz]
        refine laid_new (s := { s with heap := h1 }) ho1 ⟨ex.1, ex.2.1, ex.2.2⟩ rfl rows1 T2 (by rw [len, m2]; have := R.mask.le; rcases R.mask with e | e | e | e | e | e <;> omega) nd1 tups1 g1 g2 g3 (by rw [len]; exact g4) ?_
        intro h2 L2 es2 ep2 t3 sb2 R2 pm2
        exact wpAny_pure (q true h2 L2 es2 ep2 t3 (sb.trans sb2) R2 (fun z => absurd z nin) fun _ => pm2.trans pm)
      · first
          | refine wp_if_neg (by simp [full]) ?_
          | (refine wpAny_bind ?_; refine wp_if_neg (by simp [full]) ?_; refine wpAny_pure ?_)
        have hf := full
        unfold SetTable.tooFull at hf
        rw [decide_eq_true_eq, f2, m2] at hf
        exact wpAny_pure (q true h1 L1 es1 (ep + 1) t2 sb ⟨⟨_, ho1, ⟨ex.1, ex.2.1, ex.2.2⟩, rfl⟩, rows1, T2, nd1, tups1, by rw [m2]; exact R.mask, by rw [len, m2]; omega⟩ (fun z => absurd z nin) fun _ => pm)
    by_cases pl : t1.plain = true
    · first
        | (refine wpAny_bind ?_; refine wp_if_pos pl ?_)
        | (refine wp_if_pos pl ?_; refine wpAny_bind ?_)
      refine hash_of T fun r => ?_
      cases r with
      | true =>
        simp only [if_true]
        exact rest t1 c2 em (by rw [c3, List.length_map])
      | false =>
        simp only [Bool.false_eq_true, if_false]
        exact rest { t1 with plain := false } ⟨c2.up, c2.clean, c2.many, c2.pow, c2.low, c2.led⟩ em (by show t1.fill = _; rw [c3, List.length_map])
    · first
        | (refine wpAny_bind ?_; refine wp_if_neg pl ?_; refine wpAny_pure ?_)
        | (refine wp_if_neg pl ?_; refine wpAny_bind (wpAny_pure ?_))
        | (refine wp_if_neg pl ?_)
      simp only [if_true]
      exact rest t1 c2 em (by rw [c3, List.length_map])
end
end Nm
set_option autoImplicit true
set_option maxRecDepth 100000
set_option maxHeartbeats 4000000
/-! sets of tuples of keys as objects: set(), x in them, .add(x) -/
namespace Nm
open PySem PySem.Spec PyProof.Rows L2
/-- such a set, the tuples left out -/
structure KBare (P : Program) (w : World) (h : Heap) (a : Addr) (L : List (Addr × List Key)) : Prop where
  ex : ∃ (es : Array (Int × Value)) (ep : Nat) (t : SetTable), (∃ o, h.get? a = some o ∧ o.ExactSet ∧ o.data = .set es ep t) ∧ es.toList = rowsK P w L ∧ Tab t (L.map fun e => kh P w e.2) ∧ (L.map (·.2)).Nodup ∧ MaskIn t.mask ∧ L.length * 5 < t.mask * 3
theorem KSet.bare {P : Program} {w : World} {h : Heap} {a : Addr} {L : List (Addr × List Key)} {es : Array (Int × Value)} {ep : Nat} {t : SetTable} (R : KSet P w h a L es ep t) : KBare P w h a L := ⟨es, ep, t, R.here, R.rows, R.tab, R.nd, R.mask, R.room⟩
theorem KBare.set {P : Program} {w : World} {h : Heap} {a : Addr} {L : List (Addr × List Key)} (R : KBare P w h a L) (T : ∀ e ∈ L, IsK P w h e.2 e.1) : ∃ es ep t, KSet P w h a L es ep t := by
  obtain ⟨es, ep, t, c1, c2, c3, c4, c5, c6⟩ := R
  exact ⟨es, ep, t, c1, c2, c3, c4, T, c5, c6⟩
def KSetO (P : Program) (w : World) (a : Addr) (L : List (Addr × List Key)) : HO := .ext fun h => KBare P w h a L
theorem kset_obj {P : Program} {w : World} {H : Hp} {h : Heap} {a : Addr} {L : List (Addr × List Key)} (R : KBare P w h a L) : ObjOk P w H h a (KSetO P w a L) := by
  refine ⟨R, ?_, fun h1 h2 p k => ?_⟩
  · obtain ⟨_, _, _, ⟨o, ho, _⟩, _⟩ := R
    exact ⟨o, ho⟩
  · obtain ⟨es, ep, t, ⟨o, ho, r⟩, q⟩ := (show KBare P w h1 a L from p)
    exact ⟨es, ep, t, ⟨o, k o ho, r⟩, q⟩
theorem kbare_typeIs {P : Program} {w : World} {s : Shared} {a : Addr} {L : List (Addr × List Key)} (R : KBare P w s.heap a L) : s.TypeIs (.ref a) "set" := by
  obtain ⟨_, _, _, ⟨o, ho, ex, _⟩, _⟩ := R
  exact ⟨o, ho, ex.1⟩
theorem kbare_noDict {P : Program} {w : World} {h : Heap} {a : Addr} {L : List (Addr × List Key)} (R : KBare P w h a L) : ∀ b, Value.ref a = .ref b → ∃ u, h.get? b = some u ∧ u.dict = none := by
  obtain ⟨_, _, _, ⟨o, ho, ex, _⟩, _⟩ := R
  intro b e
  cases e
  exact ⟨o, ho, ex.2.1⟩
/-- the tuples of such a set stand -/
def KIn (H : Hp) (L : List (Addr × List Key)) : Prop := ∀ e ∈ L, H e.1 = some (.tup (e.2.map kV))
section
variable {X : Cx} {pins : List (Addr × Obj)} {σ : L2.St} {H : Hp} {s : Shared}
theorem kset_get {a : Addr} {L : List (Addr × List Key)} (I : Inv X pins σ H s) (ha : H a = some (KSetO X.prog X.w a L)) : KBare X.prog X.w s.heap a L := (I.hok a _ ha).1
theorem key_is {u : Addr} {k : List Key} (I : Inv X pins σ H s) (hu : H u = some (.tup (k.map kV))) : IsK X.prog X.w s.heap k u := key_of I.hok hu
/-- set() -/
def rSetKT (P : Program) (w : World) : List V → Hp → VK → Prop := fun xs H Q => xs = [] ∧ ∀ p, H p = none → Q (.ref p) (upd H p (KSetO P w p []))
theorem cr_setKT : CallR X (.type "set") (rSetKT X.prog X.w) := by
  intro pins s σ H xs us Q I r h
  obtain ⟨rfl, q⟩ := h
  cases r
  refine setR_new fun _ => ?_
  refine ⟨.ref _, upd H s.heap.objs.size (KSetO X.prog X.w s.heap.objs.size []), I.laid (t' := s.toks) (fun b u e => Heap.get?_push_of_some _ e) (Nat.le_refl _) (kset_obj ?_), rfl, q _ (I.hok.fresh (Nat.le_refl _))⟩
  refine ⟨#[], 0, .fresh 0 0 (!X.w.params.followText "set-order"), ⟨_, Heap.get?_push_size _ rfl, ⟨rfl, rfl, rfl⟩, rfl⟩, rfl, ⟨List.Pairwise.nil, rfl, rfl, ⟨3, rfl⟩, fun x m => ?_, fun i h j e => ?_⟩, List.nodup_nil, .inl rfl, by show 0 * 5 < 7 * 3; decide⟩
  · cases m
  · simp at e
/-- u in a -/
def rInKT (P : Program) (w : World) : V → V → Hp → VK → Prop := fun x y H Q => ∃ (u a : Addr) (k : List Key) (L : List (Addr × List Key)), x = .ref u ∧ y = .ref a ∧ H u = some (.tup (k.map kV)) ∧ H a = some (KSetO P w a L) ∧ KIn H L ∧ ∀ b : Bool, (b = true ↔ k ∈ L.map (·.2)) → Q (.bl b) H
theorem or_inKT (room : X.A.units + 1 < cLine) : OpR X (compareOp .In) (rInKT X.prog X.w) := by
  intro pins s σ H x y v u' Q I rx ry h
  obtain ⟨u, a, k, L, rfl, rfl, hu, ha, kin, q⟩ := h
  cases rx
  cases ry
  have R0 := kset_get I ha
  have ty := kbare_typeIs R0
  obtain ⟨es, ep, t, R⟩ := R0.set fun e m => key_is I (kin e m)
  have T := key_is I hu
  show wpAny _ _ (do return Value.bool (← contains (.ref a) (.ref u))) _ _ s
  refine wpAny_bind ?_
  unfold contains
  try with_reducible refine wpAny_holding ?_
  refine wpAny_bind (wpAny_specialOf ty F.slot_set_contains.lookup ?_)
  refine wp_if_neg (by rw [beq_builtin_none]; exact Bool.false_ne_true) ?_
  refine wpAny_bind (wpAny_callSpecialUnlessNone?_slot (name := Str.ofString "__contains__") ty F.slot_set_contains (wpAny_call_entry F.slot_set_contains ty entry_set_contains ?_ (F.args_set_contains_2 _ _)))
  unfold Builtin.«frozenset.__contains__» Builtin.Frozenset.oneOther
  simp only [List.isEmpty_nil, bind_assoc]
  unfold Builtin.Frozenset.addrOf Builtin.Frozenset.withSetAsKey setContains
  refine wpAny_bind (wpAny_pure ?_)
  try dsimp only
  refine wpAny_bind (wpAny_pure ?_)
  try dsimp only
  refine wpAny_bind (wpAny_tryCatch (wpAny_holding (wpAny_bind (wpAny_pyHash_tuple room T ?_))))
  refine wpAny_bind (find_in (s := { s with toks := s.toks + (k.length + 1) }) R T room fun r hr => wpAny_pure ?_)
  show wpAny _ _ (ret (Value.bool r.isSome)) _ _ _
  exact wpAny_pure ⟨_, rfl, wpAny_truthy_bool (wpAny_pure ⟨.bl r.isSome, H, I.tok _, rfl, q _ hr⟩)⟩
/-- a.add(u), u not in a -/
def rAddKT (P : Program) (w : World) : V → List V → Hp → VK → Prop := fun x xs H Q => ∃ (a u : Addr) (k : List Key) (L : List (Addr × List Key)), x = .ref a ∧ xs = [.ref u] ∧ H u = some (.tup (k.map kV)) ∧ H a = some (KSetO P w a L) ∧ KIn H L ∧ k ∉ L.map (·.2) ∧ L.length + 1 ≤ 4900 ∧
  ∀ L', L'.Perm ((u, k) :: L) → Q .non (upd H a (KSetO P w a L'))
theorem mt_addKT (room : X.A.units + 1 < cLine) : MtR X "set.add" (rAddKT X.prog X.w) := by
  intro pins s σ H x xs v us Q I rx rxs h
  obtain ⟨a, u, k, L, rfl, rfl, hu, ha, kin, nin, few, q⟩ := h
  cases rx
  rw [Vals.ref1 rxs]
  have R0 := kset_get I ha
  obtain ⟨es, ep, t, R⟩ := R0.set fun e m => key_is I (kin e m)
  have T := key_is I hu
  refine wpAny_call_entry F.slot_set_add (kbare_typeIs R0) F.entry_set_add ?_ (F.args_set_add_2 _ _)
  unfold Builtin.«set.add» Builtin.Frozenset.oneOther
  simp only [List.isEmpty_nil, bind_assoc]
  unfold Builtin.Frozenset.addrOf setAdd
  refine wpAny_bind (wpAny_pure ?_)
  try dsimp only
  refine wpAny_bind (wpAny_pure ?_)
  try dsimp only
  refine wpAny_bind (wpAny_holding (wpAny_bind (wpAny_pyHash_tuple room T ?_)))
  refine put_in (s := { s with toks := s.toks + (k.length + 1) }) R T room few fun b h' L' es' ep' t' sb R' _ out => ?_
  show wpAny _ _ (ret Value.none) _ _ _
  refine wpAny_pure ⟨_, rfl, .non, upd H a (KSetO X.prog X.w a L'), I.write (e := a) (t' := s.toks + (k.length + 1)) (by rw [ha]; trivial) (.inl rfl) (fun b u hb hu => (sb.2 b hb).trans hu) ?_ (kset_obj R'.bare), rfl, q L' (out nin)⟩
  obtain ⟨o, ho, _⟩ := R'.here
  exact ⟨o, ho⟩
def tAddKT (P : Program) (w : World) (to : TE) (t : TA) : TE := fun σ H Q => to σ H fun x H1 => (∃ a L, x = V.ref a ∧ H1 a = some (KSetO P w a L)) ∧ t σ H1 fun xs H2 => rAddKT P w x xs H2 Q
variable {o e : Expr} {es : List Expr} {to : TE} {t : TA} {apos cpos : Pos}
theorem pe_addKT (room : X.A.units + 1 < cLine) (ho : PE X o to) (ha : PA X (e :: es) t)
    (b1 : attributeBase o "add" X.env (eval o X.env) = eval o X.env := by rfl)
    (b2 : ((backTo cpos (starEach (e :: es) X.env)).all (fun x => !x.1) && (backToKw cpos (keywordEach [] X.env)).all (fun x => x.1.isSome) && decide ((e :: es).length + ([] : List Keyword).length + (if ([] : List Keyword).isEmpty then 0 else 1) < 30)) = true := by rfl)
    (b3 : (apos.endLine == cpos.line) = true := by rfl) (b4 : starEach (e :: es) X.env = (false, eval e X.env) :: starEach es X.env := by rfl) (b5 : (backTo cpos (starEach es X.env)).any (·.1) = false := by rfl) :
    PE X (.Call (.Attribute o "add" apos) (e :: es) [] cpos) (tAddKT X.prog X.w to t) := by
  refine ⟨fun pins s σ H Q I h => wpAny_Call_method_late b1 b2 b3 rfl (thn (ho.run pins s σ H _ I h) fun v s1 ⟨x, H1, I1, r1, ty, q1⟩ => ?_)⟩
  obtain ⟨a, L, rfl, hka⟩ := ty
  have R := kset_get I1 hka
  cases r1
  refine ⟨"set", "set.add", F.plainAttrs_set, F.slot_set_add, F.type_set_add, kbare_typeIs R, kbare_noDict R, ?_⟩
  have run := ha.run cpos pins s1 σ H1 _ I1 q1
  rw [b4] at run ⊢
  refine Calls.callWith_builtin (by show (false || (backTo cpos (starEach es X.env)).any (·.1)) = false; rw [b5] <;> rfl) (Calls.evalArgs_plain (thn run fun us s2 ⟨vs, H2, I2, r2, q2⟩ => ?_))
  exact mt_addKT room pins s2 σ H2 (.ref a) vs (.ref a) us Q I2 rfl r2 q2
end
end Nm
set_option autoImplicit true
set_option maxRecDepth 100000
set_option maxHeartbeats 4000000
namespace Nm
open PySem L2
theorem KIn.same {H H' : Hp} {L : List (Addr × List Key)} (h : KIn H L) (s : Same H H') : KIn H' L := fun e m => s _ _ (h e m)
section
variable {P : Program} {w : World} {K : PySem.W.Frag} {mg : Str → Option Value} {base : Heap}
/-! ### need_ties -/
abbrev nNT : List Str := ["ties", "names", "spots", "at", "tie", "spot"]
theorem scNT : FnScope nNT ["ties", "names"] (defScope sNeedTies) := ⟨rfl, rfl, rfl, by decide +kernel, rfl, by decide +kernel, by decide +kernel⟩
theorem ok_needT {f : Addr} {fd : FuncData} (F : Fun K "need_ties" "need_ties" sNeedTies f fd) (T : TxtH mg) (Gs : Def P w K mg base "tie_spot" ["tie", "names"] 3 spSpot) : FnOk P w K mg base CX0 4 f fd ["ties", "names"] spNeedT := by
  obtain ⟨fs, fds, Gs, ms, ks, bs⟩ := Gs.ex
  refine F.ok scNT (fun vs H Q E h => ?_) (fun cdv A outer s H vs Q E hr h => ?_)
  · obtain ⟨_, _, _, _, _, rfl, _⟩ := h
    rfl
  · obtain ⟨p, d, tl, nm, kvs, rfl, ⟨ts, hp, pr⟩, hd, hk, hok, hnd, htl, k⟩ := h
    have hu := hu_of hr
    refine ⟨_, pss_cons (ps_set (i := 2) scNT.nd rfl (Or.inl rfl) (pe_callTy0 cr_setKT (by rfl) T.set (by decide +kernel)))
      (pss_one (ps_for PassesOwn.never rfl (pi_enum (by rfl) T.enumerate (pa_cons (pv 0) pa_nil)) (pg_tup rfl (pgs_cons (pg_name (i := 3) scNT.nd rfl (.inl rfl)) (pgs_cons (pg_name (i := 4) scNT.nd rfl (.inl rfl)) pgs_nil)))
        (pss_cons (ps_set (i := 5) scNT.nd rfl (Or.inl rfl) (pe_call Gs hr (by rfl) ms ks bs .nil pass0 (pa_cons (pv 4) (pa_cons (pv 1) pa_nil))))
        (pss_cons (ps_if (PW.pt (pw_or (pt_cmp (pc_isN (pv 5))) (pw_or1 (pt_cmpR (or_inKT hu) (pv 5) (pv 2) (by rfl))))) (pss_one ps_never) pss_nil)
        (pss_one (ps_expr (pe_addKT hu (pv 2) (pa_cons (pv 5) pa_nil)))))))), ?_⟩
    refine ⟨rfl, fun sp hsp => ?_⟩
    have s1 := same_new (o := KSetO P w sp []) hsp
    have hsp1 : (upd H sp (KSetO P w sp [])) sp = some (KSetO P w sp []) := upd_same
    refine ⟨_, rfl, p, _, rfl, SqL.of (s1 _ _ hp), ?_⟩
    refine for_it (walk_enum (xs := ts.map V.ref)) (fun i σ H2 => ∃ v3 v4 v5 L, σ = [some (.ref p), some (.ref d), some (.ref sp), v3, v4, v5] ∧ H2 sp = some (KSetO P w sp L) ∧ KIn H2 L ∧ (∀ e ∈ L, e.2 ∈ (tl.map TieV.spot).take i) ∧ L.length = i ∧ Same H H2)
      ⟨none, none, none, [], rfl, hsp1, (fun e m => (List.not_mem_nil m).elim), (fun e m => (List.not_mem_nil m).elim), rfl, s1⟩ (fun i σ H2 _ ⟨_, _, _, _, _, _, _, _, _, h⟩ => SqL.of (h _ _ hp)) ?_ ?_
    · rintro i x σ H2 H3 hi ⟨v3, v4, v5, L, rfl, hsp2, kin, hL, hlen, s2⟩ ⟨tp, x1, y1, rfl, htp, rfl, e1, e2⟩
      rw [List.length_map] at hi
      have e2 : (ts.map V.ref)[i]? = some y1 := e2
      rw [List.getElem?_map] at e2
      obtain ⟨t, ht, rfl⟩ := Option.map_eq_some_iff.mp e2
      cases e1
      obtain ⟨tv, htv, htt⟩ := paired_get pr ht
      have s3 : Same H2 (upd H2 tp (.tup [V.int (i : Nat), V.ref t])) := same_new htp
      have htp3 : (upd H2 tp (.tup [V.int (i : Nat), V.ref t])) tp = some (.tup [V.int (i : Nat), V.ref t]) := upd_same
      generalize upd H2 tp (.tup [V.int (i : Nat), V.ref t]) = H3 at *
      refine ⟨tp, _, rfl, SqT.of htp3, rfl, _, _, rfl, _, _, rfl, rfl, ?_⟩
      refine ⟨_, rfl, _, rfl, t, d, tv, nm, kvs, rfl, s3 _ _ (s2 _ _ htt), s3 _ _ (s2 _ _ hd), hk, hok tv (List.mem_of_getElem? htv), fun r H4 hr0 hr4 s4 => ?_⟩
      have s34 := s3.trans s4
      have hsp4 := s34 _ _ hsp2
      have kin4 := kin.same s34
      have nin : tv.spot ∉ L.map (·.2) := fun m => by
        obtain ⟨e, he, ee⟩ := List.mem_map.mp m
        have h1 := hL e he
        rw [ee] at h1
        obtain ⟨j, hj⟩ := List.getElem?_of_mem h1
        rw [List.getElem?_take] at hj
        split at hj
        · rename_i lt
          have h2 : (tl.map TieV.spot)[i]? = some tv.spot := by rw [List.getElem?_map, htv]; rfl
          have := (List.getElem?_inj (List.getElem?_eq_some_iff.mp hj).1 hnd).mp (hj.trans h2.symm)
          omega
        · cases hj
      have hn : decide (V.ref r = V.non) = false := decide_eq_false (fun z => by cases z)
      refine ⟨_, rfl, _, rfl, ?_⟩
      rw [hn]
      refine iteF ?_
      refine ⟨_, rfl, _, rfl, r, sp, tv.spot, L, rfl, rfl, hr4, hsp4, kin4, fun b hb => ⟨_, rfl, ?_⟩⟩
      have hb0 : b = false := by
        cases b with
        | false => rfl
        | true => exact absurd (hb.mp rfl) nin
      subst hb0
      refine iteF ?_
      have hil : i < tl.length := (List.getElem?_eq_some_iff.mp htv).1
      refine ⟨_, rfl, ⟨sp, L, rfl, hsp4⟩, _, rfl, sp, r, tv.spot, L, rfl, rfl, hr4, hsp4, kin4, nin, by omega, fun L' pm => ?_⟩
      have nsp : H sp = none := hsp
      refine ⟨_, _, _, L', rfl, upd_same, fun e m => ?_, fun e m => ?_, by rw [pm.length_eq, List.length_cons, hlen], fun b o e => ?_⟩
      · have he : H4 e.1 = some (.tup (e.2.map kV)) := by
          rcases List.mem_cons.mp (pm.mem_iff.mp m) with rfl | m
          · exact hr4
          · exact kin4 e m
        rw [upd_ne (ne_of he hsp4 (by intro z; cases z))]
        exact he
      · rw [List.take_add_one, show (tl.map TieV.spot)[i]? = some tv.spot by rw [List.getElem?_map, htv]; rfl]
        rcases List.mem_cons.mp (pm.mem_iff.mp m) with rfl | m
        · exact List.mem_append_right _ (by simp)
        · exact List.mem_append_left _ (hL e m)
      · rw [upd_ne (ne_of_none e hsp)]
        exact s34 _ _ (s2 b o e)
    · rintro σ H2 ⟨v3, v4, v5, L, rfl, hsp2, kin, hL, hlen, s2⟩
      exact k H2 s2
end
end Nm
set_option autoImplicit true
set_option maxRecDepth 100000
set_option maxHeartbeats 8000000
/-! walks, frames -/
namespace Nm
open PySem PySem.Spec PyProof.Rows L2
/-- any walk, as a loop's wish -/
theorem walkW {J : It} {n : Nat} {G : Hp → Prop} {Y : Nat → Hp → V → Hp → Prop} (w : Walk J n G Y) {H0 : Hp} {Qd : Hp → Prop} {B : V → Hp → (Hp → Prop) → Prop} (Pv : Nat → Hp → Prop) (h0 : Pv 0 H0) (hG : ∀ i H, i ≤ n → Pv i H → G H)
    (hs : ∀ i x H H', i < n → Pv i H → Y i H x H' → B x H' (Pv (i + 1))) (hd : ∀ H, Pv n H → Qd H) :
    ∃ W : Nat → Nat → Hp → Prop, (∃ m, W 0 m H0) ∧ ∀ i m H, W i m H → (J.stop i H ∧ Qd H) ∨ (J.go i H ∧ ∃ Nx : Hp → Prop, (∀ H', Nx H' → ∃ m', m' < m ∧ W (i + 1) m' H') ∧ ∀ x H', J.yld i H x H' → B x H' Nx) := by
  refine ⟨fun i m H => m + i = n ∧ Pv i H, ⟨n, by omega, h0⟩, fun i m H ⟨e, p⟩ => ?_⟩
  have q := hG i H (by omega) p
  cases m with
  | zero =>
    obtain rfl : i = n := by omega
    exact .inl ⟨w.stops H q, hd H p⟩
  | succ m => exact .inr ⟨w.goes i H (by omega) q, Pv (i + 1), fun H' p' => ⟨m, by omega, by omega, p'⟩, fun x H' y => hs i x H H' (by omega) p (w.yields i H x H' (by omega) q y)⟩
theorem same_off {H H' : Hp} {D : Addr} {o : HO} (s : Same H H') (h : H D = none) : Same H (upd H' D o) := fun b u e => by
  rw [upd_ne (ne_of_none e h)]
  exact s _ _ e
end Nm
set_option autoImplicit false
set_option maxRecDepth 100000
set_option maxHeartbeats 4000000
/-! sets of texts: a text put in, there already or not -/
namespace Nm
open PySem PySem.Spec PyProof.Rows L2 PySem.Froz
/-- the text of a row -/
def txOf (e : Int × Value) : Str := match e.2 with | .str x _ => x | _ => ""
/-- a payload that holds these texts and can be walked -/
structure TextsIn (P : Program) (w : World) (D : SD) (l : List Str) : Prop where
  ok : TxOk P w D l
  rise : Ris D.2.2.place.toList
  led : w.params.followText "set-order" = true ∨ D.2.2.led = true
  tx : (D.1.toList.map txOf).Perm l
  nd : l.Nodup
/-- the set of these texts stands at a -/
def SetT (P : Program) (w : World) (h : Heap) (a : Addr) (l : List Str) : Prop := ∃ D : SD, h.get? a = some (sObj "set" D) ∧ TextsIn P w D l
section
variable {P : Program} {w : World}
theorem SetT.at {h h' : Heap} {a : Addr} {l : List Str} (R : SetT P w h a l) (k : ∀ o, h.get? a = some o → h'.get? a = some o) : SetT P w h' a l := by
  obtain ⟨D, e, t⟩ := R
  exact ⟨D, k _ e, t⟩
theorem setT_new {h : Heap} : SetT P w (h.push { cls := .type "set", dict := none, data := .set #[] 0 (.fresh 0 0 (!w.params.followText "set-order")) }) h.objs.size [] := by
  refine ⟨(#[], 0, .fresh 0 0 (!w.params.followText "set-order")), Heap.get?_push_size _ rfl, TxOk.nil (by rfl), List.Pairwise.nil, ?_, List.Perm.refl _, List.nodup_nil⟩
  show _ ∨ (!w.params.followText "set-order") = true
  cases w.params.followText "set-order"
  · exact .inr rfl
  · exact .inl rfl
theorem tail_keeps (ep : Nat) (es1 : Array (Int × Value)) (t2 : SetTable) (b : Bool) (rise : Ris t2.place.toList) : Ris (tailTx ep es1 t2 b).2.2.place.toList ∧ (tailTx ep es1 t2 b).2.2.led = t2.led ∧ (tailTx ep es1 t2 b).1.toList.Perm es1.toList := by
  unfold tailTx
  split
  · exact ⟨relayAll_ris t2 es1 _, relayAll_led t2 es1 _, relayAll_perm t2 es1 _⟩
  · exact ⟨rise, rfl, List.Perm.refl _⟩
/-- a new text, put in -/
theorem TextsIn.add {D : SD} {l : List Str} (T : TextsIn P w D l) {k : Str} (hk : k ∉ l) (u : Tok) : TextsIn P w (addTx (hashStr w k) (.str k u) D) (k :: l) := by
  have ok := add_ok (k := k) u T.ok
  obtain ⟨es, ep, t⟩ := D
  have rise := layNew_ris t es (hashStr w k) (.str k u) T.rise
  have led := layNew_led t es (hashStr w k) (.str k u)
  have pm := layNew_perm t es (hashStr w k) (.str k u)
  have tx := T.tx
  have ld := T.led
  have all : Ris (addTx (hashStr w k) (.str k u) (es, ep, t)).2.2.place.toList ∧ (addTx (hashStr w k) (.str k u) (es, ep, t)).2.2.led = t.led ∧ (addTx (hashStr w k) (.str k u) (es, ep, t)).1.toList.Perm (es.push (hashStr w k, .str k u)).toList := by
    unfold addTx
    generalize layNew t es (hashStr w k) (.str k u) = Z at rise led pm
    obtain ⟨es1, t1, b, g⟩ := Z
    dsimp only at rise led pm ⊢
    by_cases c : t1.plain = true
    · rw [if_pos c]
      obtain ⟨a1, a2, a3⟩ := tail_keeps ep es1 { t1 with plain := false } b rise
      exact ⟨a1, a2.trans led, a3.trans pm⟩
    · rw [if_neg c]
      obtain ⟨a1, a2, a3⟩ := tail_keeps ep es1 t1 b rise
      exact ⟨a1, a2.trans led, a3.trans pm⟩
  obtain ⟨a1, a2, a3⟩ := all
  refine ⟨ok, a1, ld.imp id fun z => a2.trans z, ?_, List.nodup_cons.mpr ⟨hk, T.nd⟩⟩
  rw [Array.toList_push] at a3
  refine (a3.map txOf).trans ?_
  rw [List.map_append]
  exact (List.perm_append_comm).trans (List.Perm.cons k tx)
variable {A : Around} {E : Value → Shared → Prop} {s : Shared}
/-- a text, put in -/
theorem SetT.put {a : Addr} {l : List Str} {k : Str} {u : Tok} {Q : Bool → Shared → Prop} (R : SetT P w s.heap a l) (few : l.length + 1 < scanBound)
    (h : ∀ (b : Bool) (h' : Heap), Heap.SameBut a s.heap h' → SetT P w h' a (if k ∈ l then l else k :: l) → Q b { s with heap := h' }) : wpAny (model P w) A (setAddHashed a (.str k u) (hashStr w k)) Q E s := by
  obtain ⟨D, ho, T⟩ := R
  by_cases hk : k ∈ l
  case neg =>
    refine add_x ho T.ok hk few (h true _ (Heap.SameBut.update _ a _) ?_)
    rw [if_neg hk]
    exact ⟨_, get_upd _ ho rfl, T.add hk u⟩
  rw [if_pos hk] at h
  have q := fun b => h b s.heap (Heap.SameBut.refl a s.heap) ⟨D, ho, T⟩
  obtain ⟨es, ep, t⟩ := D
  have el : ElemsOf (strKind P w) es.toList := T.ok.el
  have sz : es.size < scanBound := by
    have e : es.size = l.length := T.ok.sz
    omega
  have dat : (sObj "set" (es, ep, t)).data = .set es ep t := rfl
  unfold setAddHashed setAddHashedIn
  refine wpAny_holding (wpAny_bind (wpAny_setState_of ho dat T.ok.fit ?_))
  dsimp only
  rw [byScan_of (knd := strKind P w) rfl sz el]
  simp only [↓reduceIte]
  unfold setAddByScan
  refine wpAny_bind (wpAny_bind (wpAny_rule (wpAny_bind (wpAny_setScan_of (knd := strKind P w) (k := k) (is_str k u) ho dat T.ok.fit el ?_))))
  obtain ⟨j, hj⟩ : ∃ j, List.findIdx? (fun e => (strKind P w).is k e.2) es.toList = some j := by
    obtain ⟨e, he, hi⟩ := (T.ok.mem k).mp hk
    cases hf : List.findIdx? (fun e => (strKind P w).is k e.2) es.toList with
    | some j => exact ⟨j, rfl⟩
    | none =>
      have c := List.findIdx?_eq_none_iff.mp hf e he
      rw [hi] at c
      cases c
  rw [hj]
  dsimp only
  exact wpAny_pure (wpAny_pure (q false))
end
end Nm
set_option autoImplicit false
set_option maxRecDepth 100000
set_option maxHeartbeats 4000000
/-! sorted of a set of texts -/
namespace Nm
open PySem PySem.Spec PyProof.Rows L2 PySem.Froz
/-- values that are these texts -/
def AreT (us : List Value) (zs : List Str) : Prop := Vals (zs.map V.str) us
section
variable {P : Program} {w : World}
theorem rows_txt {D : SD} {l : List Str} (T : TextsIn P w D l) : ∀ e ∈ D.1.toList, ∃ u, e.2 = Value.str (txOf e) u := fun e he => by
  obtain ⟨⟨k, hk, _⟩, _⟩ := T.ok.el e he
  obtain ⟨t, ht⟩ := Value.isStrOf_shape hk
  refine ⟨t, ?_⟩
  unfold txOf
  rw [ht]
/-- the values, in whatever sequence, are the texts in some sequence -/
theorem strs_of : ∀ us : List Value, (∀ v ∈ us, ∃ x u, v = Value.str x u) → ∃ zs, StrsAre us zs ∧ zs = us.map fun v => match v with | .str x _ => x | _ => ""
  | [], _ => ⟨[], .nil, rfl⟩
  | v :: us, h => by
    obtain ⟨x, u, rfl⟩ := h v List.mem_cons_self
    obtain ⟨zs, h1, h2⟩ := strs_of us fun y hy => h y (List.mem_cons_of_mem _ hy)
    exact ⟨x :: zs, .cons x u h1, by rw [h2]; rfl⟩
variable {A : Around} {E : Value → Shared → Prop} {s : Shared}
theorem SetT.sorted {a : Addr} {l : List Str} {Q : Value → Shared → Prop} (R : SetT P w s.heap a l) (free : A.handled = none) (few : l.length < 4000)
    (told : ∀ (s2 : Shared) (p : Addr) (out : Array Value) (c : Nat) (zs : List Str), (∀ b o, s.heap.get? b = some o → s2.heap.get? b = some o) → s2.gens = s.gens → s2.os = s.os → s.heap.objs.size ≤ p → s2.heap.get? p = some (seqObj "list" out c) → StrsAre out.toList zs → zs.Perm l → sortedS zs = true → Q (.ref p) s2) :
    wpAny (model P w) A (call (.builtin "sorted") [.ref a]) Q E s := by
  obtain ⟨D, get, T⟩ := R
  obtain ⟨es, ep, t⟩ := D
  have size : es.size = l.length := T.ok.sz
  refine Calls.call_function_entry kind_sorted plain_sorted entry_sorted (args_sorted1 _) ?_
  unfold Builtin.«sorted»
  refine wpAny_bind (m := checkCount "sorted" 1 1 _) (wpAny_pure (wpAny_bind ?_))
  refine collect_set (A := A.in1) free ⟨_, get, rfl, rfl⟩ T.ok.fit (by rw [size]; exact Nat.lt_trans few (by decide)) T.rise T.led fun s1 us kept more gens os pm => ?_
  have len : us.length = l.length := by rw [pm.length_eq, List.length_map, Array.length_toList, size]
  have each : ∀ v ∈ us, ∃ x u, v = Value.str x u := fun v hv => by
    obtain ⟨e, he, rfl⟩ := List.mem_map.mp (pm.mem_iff.mp hv)
    obtain ⟨u, hu⟩ := rows_txt T e he
    exact ⟨_, u, hu⟩
  obtain ⟨zs, are, ez⟩ := strs_of us each
  have pz : zs.Perm l := by
    rw [ez]
    refine (pm.map _).trans ?_
    rw [List.map_map]
    exact T.tx
  refine wpAny_bind (wpAny_newList ?_ (by rw [len, sizeLine_eq]; omega))
  have here : (s1.heap.push (seqObj "list" us.toArray 0)).get? s1.heap.objs.size = some (seqObj "list" us.toArray 0) := Heap.get?_push_size _ rfl
  refine wpAny_bind (wpAny_holding (wpAny_call_entry slot_list_sort ⟨_, here, rfl⟩ entry_list_sort ?_ (args_list_sort _)))
  refine list_sort_treeKAny strKind_oneLt here are.keysOf (fun v₁ v₂ rest e => keyKind_strs (by rw [← e]; exact are)) (by rw [len, sizeLine_eq]; omega) fun st hp hs => ?_
  obtain ⟨zs2, a1, a2, a3⟩ := sorted_out_str are hp hs
  obtain ⟨c, there⟩ := sortedHeap_at (vs := us) (out := (arrOf st).map (·.2)) here
  refine ⟨_, rfl, wpAny_pure ⟨_, rfl, told _ s1.heap.objs.size _ c zs2 (fun b o e => ?_) gens os more there a1 (a2.trans pz) a3⟩⟩
  have e1 := kept b o e
  have lt := Heap.lt_size e1
  show (sortedHeap (s1.heap.push (seqObj "list" us.toArray 0)) s1.heap.objs.size us _).get? b = some o
  rw [sortedHeap_old (Nat.ne_of_lt lt) (by rw [size_push']; exact Nat.lt_succ_of_lt lt)]
  exact Heap.get?_push_of_some _ e1
end
end Nm
set_option autoImplicit true
set_option maxRecDepth 100000
set_option maxHeartbeats 4000000
/-! set(a list of texts); sorted of it -/
namespace Nm
open PySem PySem.Spec PyProof.Rows L2 PySem.Froz
section
variable {P : Program} {w : World} {A : Around} {E : Value → Shared → Prop} {s : Shared}
/-- the texts of a list, each once -/
def dedT (zs : List Str) : List Str := zs.foldl (fun l k => if k ∈ l then l else k :: l) []
theorem dedT_next {zs : List Str} {i : Nat} {k : Str} (h : zs[i]? = some k) : dedT (zs.take (i + 1)) = if k ∈ dedT (zs.take i) then dedT (zs.take i) else k :: dedT (zs.take i) := by
  unfold dedT
  rw [List.take_add_one, h, Option.toList_some, List.foldl_append]
  rfl
theorem dedT_len (zs : List Str) : ∀ i, i ≤ zs.length → (dedT (zs.take i)).length ≤ i
  | 0, _ => by simp [dedT]
  | i + 1, h => by
    obtain ⟨k, hk⟩ : ∃ k, zs[i]? = some k := ⟨_, List.getElem?_eq_getElem h⟩
    have ih := dedT_len zs i (by omega)
    rw [dedT_next hk]
    split
    · omega
    · rw [List.length_cons]
      omega
theorem dedT_mem (zs : List Str) (x : Str) : ∀ i, i ≤ zs.length → (x ∈ dedT (zs.take i) ↔ x ∈ zs.take i)
  | 0, _ => by simp [dedT]
  | i + 1, h => by
    obtain ⟨k, hk⟩ : ∃ k, zs[i]? = some k := ⟨_, List.getElem?_eq_getElem h⟩
    have ih := dedT_mem zs x i (by omega)
    rw [dedT_next hk, List.take_add_one, hk, Option.toList_some, List.mem_append, List.mem_singleton, ← ih]
    split
    · rename_i hm
      exact ⟨.inl, fun z => z.elim id fun e => by rw [e]; exact hm⟩
    · rw [List.mem_cons]
      exact Or.comm
theorem strs_get {us : List Value} {zs : List Str} (h : StrsAre us zs) : ∀ {i : Nat} {v : Value}, us[i]? = some v → ∃ k tk, zs[i]? = some k ∧ v = Value.str k tk := by
  induction h with
  | nil =>
    intro i v e
    simp at e
  | cons x t r ih =>
    intro i v e
    match i, e with
    | 0, e =>
      obtain rfl : Value.str x t = v := Option.some.inj e
      exact ⟨x, t, rfl, rfl⟩
    | i + 1, e => exact ih (by simpa using e)
theorem strs_vals : ∀ {zs : List Str} {us : List Value}, Vals (zs.map V.str) us → StrsAre us zs
  | [], _, h => by
    cases h
    exact .nil
  | z :: zs, _, h => by
    cases h with
    | cons r t =>
      obtain ⟨k, rfl⟩ := r
      exact .cons z k (strs_vals t)
/-- the loop that fills it -/
theorem st_loop {I : Addr} {fp wr : List Addr} {G : Array GenState → Array GenState → Prop} {n : Nat} {Pv : Nat → Value → Prop} {St : Nat → Shared → Prop} {R : Result → Shared → Prop} (W : WalksS P w A.in1 I fp wr G n Pv St) (S : Addr) (off : S ∉ fp) (zs : List Str) (hn : n = zs.length) (few : zs.length < 4000)
    (hval : ∀ i v, Pv i v → ∃ k tk, zs[i]? = some k ∧ v = Value.str k tk) (h0 : Heap) (new : h0.get? S = none) (newW : ∀ b ∈ wr, h0.get? b = none) :
    ∀ (k i : Nat) (s : Shared), n - i = k → i ≤ n → St i s → (∀ b o, h0.get? b = some o → s.heap.get? b = some o) → SetT P w s.heap S (dedT (zs.take i)) →
      (∀ s', Moved (S :: wr) G s s' → SetT P w s'.heap S (dedT (zs.take n)) → (∀ b o, h0.get? b = some o → s'.heap.get? b = some o) → R (.ok (.ret .none)) s') →
      codeAny (model P w) A (.builtin "set.update.loop" ⟨[.ref S, .ref I], []⟩) R s := by
  have offW : S ∉ wr := fun z => off (W.sub _ z)
  have up : ∀ b ∈ wr, b ∈ S :: wr := fun b z => List.mem_cons_of_mem _ z
  have kept : ∀ {s s' : Shared}, Moved wr G s s' → (∀ b o, h0.get? b = some o → s.heap.get? b = some o) → ∀ b o, h0.get? b = some o → s'.heap.get? b = some o := fun mv k b o e =>
    mv.heap b o (fun z => by rw [newW b z] at e; cases e) (k b o e)
  intro k
  induction k with
  | zero =>
    intro i s d hi st k0 hS hR
    obtain rfl : i = n := by omega
    refine codeAny_builtin F.entry_set_update_loop ?_
    rw [Around.under_plainId F.plain_set_update_loop _]
    show wpAny _ A.in1 (pyNext (.ref I) >>= _) _ _ s
    refine wpAny_bind (W.done s _ _ st fun s' mv => ?_)
    show wpAny _ A.in1 (ret Value.none) _ _ s'
    exact wpAny_pure (hR s' (mv.mono up) (hS.at fun o e => mv.heap S o offW e) (kept mv k0))
  | succ k ih =>
    intro i s d hi st k0 hS hR
    have lt : i < n := by omega
    refine codeAny_builtin F.entry_set_update_loop ?_
    rw [Around.under_plainId F.plain_set_update_loop _]
    show wpAny _ A.in1 (pyNext (.ref I) >>= _) _ _ s
    refine wpAny_bind (W.item i s _ _ lt st fun v s' hP st' mv => ?_)
    obtain ⟨x, tk, hx, rfl⟩ := hval i v hP
    have k1 := kept mv k0
    have hS' : SetT P w s'.heap S (dedT (zs.take i)) := hS.at fun o e => mv.heap S o offW e
    show wpAny _ A.in1 (holding [Value.str x tk] (setAdd S (.str x tk)) >>= _) _ _ s'
    refine wpAny_bind (wpAny_holding ?_)
    unfold setAdd
    refine wpAny_holding (wpAny_bind ((strKind P w).pyHash (is_str x tk) ?_))
    refine SetT.put (s := { s' with toks := s'.toks + 1 }) hS' (by have := dedT_len zs i (by omega); unfold scanBound; omega) fun bb h' sb r => ?_
    have r' : SetT P w h' S (dedT (zs.take (i + 1))) := by
      rw [dedT_next hx]
      exact r
    have k2 : ∀ b o, h0.get? b = some o → h'.get? b = some o := fun b o e => (sb.2 b (fun z => by rw [z, new] at e; cases e)).trans (k1 b o e)
    refine wpAny_pure ⟨plainId_quiet F.plain_set_update_loop _, ih (i + 1) _ (by omega) lt (W.frame _ s' _ _ st' (Nat.le_add_right _ _) fun b hb o e => ?_) k2 r' fun s'' mv2 hS2 k3 => ?_⟩
    · exact (sb.2 b (fun z : b = S => off (by rw [← z]; exact hb))).trans e
    · refine hR s'' (Moved.trans W.gtrans ((mv.mono up).then_heap (Nat.le_add_right _ _) fun b o hb e => ?_) mv2) hS2 k3
      exact (sb.2 b (fun z : b = S => hb (by rw [z]; exact List.mem_cons_self))).trans e
/-- the empty set as it is made -/
abbrev set0 (w : World) : Obj := { cls := .type "set", dict := none, data := .set #[] 0 (.fresh 0 0 (!w.params.followText "set-order")) }
theorem st_call {l : Addr} {items : Array Value} {zs : List Str} {Q : Value → Shared → Prop} (hh : A.handled = none) (hl : s.heap.IsList l items) (hit : StrsAre items.toList zs) (few : zs.length < 4000)
    (h : ∀ (h' : Heap) (tk : Nat), SetT P w h' s.heap.objs.size (dedT zs) → (∀ b o, s.heap.get? b = some o → h'.get? b = some o) → Q (.ref s.heap.objs.size) { s with heap := h', toks := tk }) :
    wpAny (model P w) A (call (.type "set") [.ref l]) Q E s := by
  have size : items.size = zs.length := by
    have q := hit.length
    rw [Array.length_toList] at q
    exact q
  obtain ⟨c, tl, hmro⟩ := F.called_set.mro
  have hmade := F.called_set.made
  have hsub := F.called_set.sub
  refine wpAny_call (codeAny_of_tree ?_)
  show wpAny _ _ (callAny (.type "set") _) _ _ _
  refine wpAny_pure ⟨Code.quiet_builtin _ (by decide +kernel), codeAny_builtin F.entry_type_call ?_⟩
  rw [Around.under_plain (weight_type_call_type "set" [.ref l] []) rfl]
  have h1 := F.called_set.notType
  have h2 := F.called_set.canCreate
  have hct := F.typeCall_set_1 (.ref l)
  repeat (any_goals (first | assumption | wp_step))
  refine codeAny_mono (code_set_led1 (.ref l) (E := E) (Q₁ := fun obj s₁ => obj = .ref s.heap.objs.size ∧ s₁ = { s with heap := s.heap.push (set0 w) }) ⟨rfl, rfl⟩) fun r s₁ hr => ?_
  cases r with
  | error e => exact hr
  | ok fl =>
    cases fl with
    | ret obj =>
      obtain ⟨rfl, rfl⟩ := hr
      have hS : (s.heap.push (set0 w)).get? s.heap.objs.size = some (set0 w) := Heap.get?_push_size _ rfl
      have hT : Shared.TypeIs { s with heap := s.heap.push (set0 w) } (.ref s.heap.objs.size) "set" := ⟨_, hS, rfl⟩
      have hli := F.called_set.init.lookup
      have hbi := F.called_set.init.bind (.ref s.heap.objs.size)
      repeat (any_goals (first | assumption | wp_step))
      refine codeAny_mono (codeAny_call_builtin (R := wants (fun r s₂ => r = .none ∧ ∃ h' tk, s₂ = { s with heap := h', toks := tk } ∧ SetT P w h' s.heap.objs.size (dedT zs) ∧ (∀ b o, s.heap.get? b = some o → h'.get? b = some o)) E)
        F.called_set.init.plain F.entry_set_init (check_set_init_1 hT ?_)) fun r₂ s₂ hr₂ => ?_
      · obtain ⟨⟨oc, od, odat, osl⟩, hol, hcl, nl, hdl⟩ := hl
        simp only at hcl hdl
        subst hcl hdl
        have hol' : (s.heap.push (set0 w)).get? l = some { cls := .type "list", dict := od, data := .seq items nl, slots := osl } := Heap.get?_push_of_some _ hol
        have hsls := F.sub_list_set
        have hslf := F.sub_list_frozenset
        have hne : (Value.type "list" == Value.type "dict") = false := by decide
        have hl1 : (s.heap.push (set0 w)).IsList l items := ⟨_, hol', rfl, nl, rfl⟩
        unfold Builtin.«set.__init__» noKeywords Builtin.Frozenset.updateFrom
        generalize hPI : pyIter = PI
        wp_walk
        subst hPI
        refine wpAny_pyIter_list hl1 (wpAny_bind (wpAny_runValue ?_))
        have hlS : l < s.heap.objs.size := Heap.lt_size hol
        have hh3 : A.in1.in1.in1.handled = none := by simp [hh]
        have hneI : l ≠ (s.heap.push (set0 w)).objs.size := by
          rw [Heap.size_push]
          exact Nat.ne_of_lt (Nat.lt_succ_of_lt hlS)
        have off : s.heap.objs.size ∉ [(s.heap.push (set0 w)).objs.size, l] := by
          rw [Heap.size_push]
          simp only [List.mem_cons, List.not_mem_nil, or_false, not_or]
          exact ⟨Nat.ne_of_lt (Nat.lt_succ_self _), Nat.ne_of_gt hlS⟩
        have fresh : ∀ b, s.heap.objs.size ≤ b → s.heap.get? b = none := fun b hb => Heap.get?_none_of_le hb
        refine st_loop ((Walks.list hh3 _ l hneI items).toS) s.heap.objs.size off zs size few (fun i v hv => ?_) s.heap (fresh _ (Nat.le_refl _)) (fun b hb => fresh b (by
            rw [List.mem_singleton.mp hb, Heap.size_push]
            exact Nat.le_succ _)) (items.size - 0) 0 _ (by omega) (Nat.zero_le _)
          ⟨⟨_, Heap.get?_push_size _ rfl, rfl, rfl⟩, (hl1.push _)⟩ (fun b o e => Heap.get?_push_of_some _ (Heap.get?_push_of_some _ e)) ?start ?fin
        · have hv' : items[i]? = some v := hv
          exact strs_get hit (by rw [Array.getElem?_toList]; exact hv')
        case start => exact SetT.at setT_new fun o e => Heap.get?_push_of_some _ e
        case fin =>
          intro s' mv hS' kp
          obtain ⟨h', g2, d', tk', os'⟩ := s'
          have eg : g2 = s.gens := mv.gens
          have ed : d' = s.drawn := mv.drawn
          have eo : os' = s.os := mv.os
          subst eg ed eo
          show wpAny _ _ _ _ _ _
          refine wpAny_pure ?_
          show wpAny _ _ (ret Value.none) _ _ _
          rw [size, List.take_length] at hS'
          exact wpAny_pure ⟨rfl, h', tk', rfl, hS', kp⟩
      · cases r₂ with
        | error e => exact hr₂
        | ok fl₂ =>
          cases fl₂ with
          | ret r =>
            obtain ⟨rfl, h', tk, rfl, hS', hk'⟩ := hr₂
            repeat (any_goals (first | assumption | wp_step))
            exact h _ _ hS' hk'
          | _ => exact hr₂.elim
    | _ => exact hr.elim
end
/-- such a set, tracked -/
def SetTO (P : Program) (w : World) (a : Addr) (l : List Str) : HO := .ext fun h => SetT P w h a l
theorem setTO_ok {H : Hp} {h : Heap} {a : Addr} {l : List Str} (R : SetT P w h a l) : ObjOk P w H h a (SetTO P w a l) :=
  ⟨R, let ⟨_, e, _⟩ := R; ⟨_, e⟩, fun _ _ p k => SetT.at p k⟩
section
variable {X : Cx} {pins : List (Addr × Obj)} {σ : L2.St} {H : Hp} {s : Shared}
theorem setTO_get {a : Addr} {l : List Str} (I : Inv X pins σ H s) (ha : H a = some (SetTO X.prog X.w a l)) : SetT X.prog X.w s.heap a l := (I.hok a _ ha).1
/-- set(xs), xs a list of texts -/
def rSetT (P : Program) (w : World) (K : PySem.W.Frag) : List V → Hp → VK → Prop := fun xs H Q => ∃ (l : Addr) (zs : List Str), xs = [.ref l] ∧ SqL K H l (zs.map V.str) ∧ zs.length < 4000 ∧ ∀ a : Addr, H a = none → Q (.ref a) (upd H a (SetTO P w a (dedT zs)))
theorem cr_setT (calm : X.calm = true) : CallR X (.type "set") (rSetT X.prog X.w X.K) := by
  intro pins s σ H xs us Q I r h
  obtain ⟨l, zs, rfl, hl, hf, q⟩ := h
  rw [Vals.ref1 r]
  obtain ⟨its, rv, pl, hz⟩ := I.list hl
  refine st_call (P := X.prog) (w := X.w) (I.ok.hd calm) pl.isList (by simpa using strs_vals rv) hf fun h' tk R k => ?_
  exact ⟨.ref s.heap.objs.size, _, I.laid (t' := tk) k (Nat.le_refl _) (setTO_ok R), rfl, q _ (I.hok.fresh (Nat.le_refl _))⟩
/-- sorted(xs), xs a set of texts -/
def rSortT (P : Program) (w : World) : List V → Hp → VK → Prop := fun xs H Q => ∃ (a : Addr) (l : List Str), xs = [.ref a] ∧ H a = some (SetTO P w a l) ∧ l.length < 4000 ∧ ∀ (zs : List Str) (p : Addr), zs.Perm l → sortedS zs = true → H p = none → Q (.ref p) (upd H p (.lst (zs.map V.str)))
theorem vals_strs : ∀ {us : List Value} {zs : List Str}, StrsAre us zs → Vals (zs.map V.str) us
  | _, _, .nil => .nil
  | _, _, .cons x t r => .cons ⟨t, rfl⟩ (vals_strs r)
theorem cr_sortT (calm : X.calm = true) : CallR X (.builtin "sorted") (rSortT X.prog X.w) := by
  intro pins s σ H xs us Q I r h
  obtain ⟨a, l, rfl, ha, few, q⟩ := h
  rw [Vals.ref1 r]
  refine SetT.sorted (setTO_get I ha) (I.ok.hd calm) few fun s2 p out c zs kept gens os new here are pm so => ?_
  have size : (zs.map V.str).length ≤ sizeLine := by rw [List.length_map, pm.length_eq, sizeLine_eq]; omega
  have free : H p = none := I.hok.fresh new
  have J : Inv X pins σ (upd H p (.lst (zs.map V.str))) { s with heap := s2.heap, gens := s2.gens, drawn := s2.drawn, toks := s2.toks } :=
    I.call (ch := []) (Un.laid kept new free) (I.hok.laid kept new ⟨size, out.toList, c, vals_strs are, here⟩) (by rw [gens]; exact I.bare) (fun _ z => nomatch z)
  have e : s2 = { s with heap := s2.heap, gens := s2.gens, drawn := s2.drawn, toks := s2.toks } := by
    obtain ⟨_, _, _, _, _⟩ := s2
    obtain ⟨_, _, _, _, _⟩ := s
    cases os
    rfl
  rw [e]
  exact ⟨.ref p, _, J, rfl, q zs p pm so free⟩
end
end Nm
set_option autoImplicit false
set_option maxRecDepth 100000
set_option maxHeartbeats 8000000
/-! {x for .. in .. if ..}, texts: the rule -/
namespace Nm
open PySem PySem.Spec PyProof.Rows L2 PySem.Froz
section
variable {X : Cx}
/-- a text is put in -/
theorem st_add {pins : List (Addr × Obj)} {s : Shared} {σ : L2.St} {H : Hp} {E : Value → Shared → Prop} {D : Addr} {l : List Str} {k : Str} {u : Value} {Q : Value → Shared → Prop} (I : Inv X pins σ H s) (hD : H D = some (SetTO X.prog X.w D l)) (few : l.length < 4000) (ru : RelV (.str k) u)
    (h : ∀ s', Inv X pins σ (upd H D (SetTO X.prog X.w D (if k ∈ l then l else k :: l))) s' → Q .none s') : wpAny (model X.prog X.w) X.A (call (.builtin "set.add") [.ref D, u]) Q E s := by
  obtain ⟨t, rfl⟩ := ru
  have R := setTO_get I hD
  have ty : s.TypeIs (.ref D) "set" := by
    obtain ⟨_, e, _⟩ := R
    exact ⟨_, e, rfl⟩
  refine wpAny_call_entry PySem.F.slot_set_add ty PySem.F.entry_set_add ?_ (PySem.F.args_set_add_2 _ _)
  unfold Builtin.«set.add» Builtin.Frozenset.oneOther
  simp only [List.isEmpty_nil, bind_assoc]
  unfold Builtin.Frozenset.addrOf setAdd
  refine wpAny_bind (wpAny_pure ?_)
  try dsimp only
  refine wpAny_bind (wpAny_pure ?_)
  try dsimp only
  refine wpAny_bind (wpAny_holding (wpAny_bind ((strKind X.prog X.w).pyHash (is_str k t) ?_)))
  refine SetT.put (s := { s with toks := s.toks + 1 }) R (by unfold scanBound; omega) fun b h' sb R' => ?_
  show wpAny _ _ (ret Value.none) _ _ _
  refine wpAny_pure ⟨_, rfl, h _ (I.write (e := D) (t' := s.toks + 1) (by rw [hD]; trivial) (.inl rfl) (fun b o hb ho => (sb.2 b hb).trans ho) ?_ (setTO_ok R'))⟩
  obtain ⟨_, e, _⟩ := R'
  exact ⟨_, e⟩
/-- the walk of the source; D the new set -/
def tSc (P : Program) (w : World) (wi : TI) (g : TG) (tt : TT) (te : TE) (vs : List Nat) : TE := fun σ H Q => wi σ H fun J Ha => ∀ D, Ha D = none → ∃ W : Nat → Nat → Hp → Prop, (∃ m, W 0 m (upd Ha D (SetTO P w D []))) ∧ ∀ i m H, W i m H →
  (J.stop i H ∧ Q (.ref D) H) ∨ (J.go i H ∧ ∃ Nx : Hp → Prop, (∀ H', Nx H' → ∃ m', m' < m ∧ W (i + 1) m' H') ∧ ∀ x H', J.yld i H x H' → g x (wipe σ vs) H' fun σ2 Hb => wipe σ2 vs = wipe σ vs ∧ tt σ2 Hb fun b Hc =>
    if b = true then te σ2 Hc fun y Hd => ∃ (k : Str) (l : List Str), y = .str k ∧ Hd D = some (SetTO P w D l) ∧ l.length < 4000 ∧ Nx (upd Hd D (SetTO P w D (if k ∈ l then l else k :: l))) else Nx Hc)
theorem sc_run {pins : List (Addr × Obj)} {s : Shared} {σ : L2.St} {H : Hp} {Q : VK} {elt t0 i0 : Expr} {ifs : List Expr} {scope : Scope} {own : List (Str × Nat)} {pos pos' : Pos} {wi : TI} {g : TG} {tt : TT} {te : TE} {use : Option (Value → Sem Unit)} {Qf : Value → Shared → Prop}
    (calm : X.calm = true) (nd : X.N.Nodup) (I : Inv X pins σ H s) (w0 : PI X t0 i0 wi) (blk : BlkOk X.N X.env.scope scope own) (b0 : AllB X scope fun Y => PG Y t0 g) (bt : AllB X scope fun Y => PTs Y ifs tt) (be : AllB X scope fun Y => PE Y elt te) (p0 : ∀ x, foldedSetIterable i0 X.env x = pure x)
    (hyp : tSc X.prog X.w wi g tt te (own.map (·.2)) σ H Q)
    (back : ∀ D C s' m H', Inv X pins σ H' s' → Q (.ref D) H' → s'.heap.Ns C m → FpOk X pins H' C → compPost (model X.prog X.w) X.A X.xe use Qf (.ref D) C (.ok .next) s') :
    wpAny (model X.prog X.w) X.A (comprehension (.SetComp elt [⟨t0, i0, ifs, 0⟩] scope pos) scope X.env pos' (newSet (.type "set")) false (eval i0 X.env) use) Qf X.xe s := by
  have free_ : ∀ y ∈ scope.names, y.2 = .free → ∃ c, X.env.cells.lookup y.1 = some c := fun y hy e => (blk.free y hy e).elim (fun z => I.ok.has _ (.inl z)) fun z => I.ok.has _ (.inr z)
  refine wpAny_comprehension_free (use := use) rfl p0 (closure_ok free_) blk.kind (fun y hy e => by rw [blk.uniq y hy, e]) (thn (w0.run pins s σ H _ I hyp) fun _ _ hx => thn hx fun _ sa ha => ?_)
  obtain ⟨it, fp, tn, J, Ha, rfl, Ia, T, sta, fa, q⟩ := ha
  refine wpAny_newSet_raw fun led hled => newEnv_comp ?_
  subst hled
  generalize eD : sa.heap.objs.size = D
  obtain ⟨W, ⟨m0, wz⟩, turn⟩ := q D (Ia.hok.fresh (Nat.le_of_eq eD))
  -- the set that is made
  generalize hn0 : ({ cls := .type "set", dict := none, data := .set #[] 0 (.fresh 0 0 (!(X.w.params.followText "set-order"))) } : Obj) = new0
  generalize eb : ({ sa with heap := sa.heap.push new0 } : Shared) = sb
  have hpb : sb.heap = sa.heap.push new0 := by rw [← eb]
  have Ib : Inv X pins σ (upd Ha D (SetTO X.prog X.w D [])) sb := by
    rw [← eb]
    refine Ia.laid (t' := sa.toks) (fun b o e => Heap.get?_push_of_some _ e) (Nat.le_of_eq eD) ?_
    rw [← eD, ← hn0]
    exact setTO_ok setT_new
  have fb : ∀ b ∈ fp, FpOk X pins (upd Ha D (SetTO X.prog X.w D [])) b ∧ b < sb.heap.objs.size := fun b hb => by
    obtain ⟨o, e, _⟩ := T.obj _ _ sta b hb
    have lt := Heap.lt_size e
    refine ⟨⟨?_, (fa b hb).2⟩, by rw [hpb, Heap.size_push]; exact Nat.lt_succ_of_lt lt⟩
    rw [upd_ne (by rw [← eD]; exact Nat.ne_of_lt lt)]
    exact (fa b hb).1
  have stb : tn 0 sb.heap := T.keep _ _ _ sta fun b _ o e => by rw [hpb]; exact Heap.get?_push_of_some _ e
  have Ic := block_start Ib blk nd fb
  generalize hL : sb.heap.objs.size = L at Ic
  have pb0 := b0 sb (upd Ha D (SetTO X.prog X.w D [])) L (cellsFrom (L + 1) scope.names (cloFrom X.env.cells scope.names [])) fp
  have pbt := bt sb (upd Ha D (SetTO X.prog X.w D [])) L (cellsFrom (L + 1) scope.names (cloFrom X.env.cells scope.names [])) fp
  have pbe := be sb (upd Ha D (SetTO X.prog X.w D [])) L (cellsFrom (L + 1) scope.names (cloFrom X.env.cells scope.names [])) fp
  show codeAny _ _ (.compStart (.SetComp elt [⟨t0, i0, ifs, 0⟩] scope pos) 0 (.ref it) (.ref D) (compEnvC scope (cellsFrom (L + 1) scope.names (cloFrom X.env.cells scope.names [])) L X.env)) (compPost (model X.prog X.w) X.A X.xe use Qf (.ref D) L) { sb with heap := pushCells (sb.heap.push { cls := .type "dict", data := .dict #[] }) scope.names }
  generalize hce : compEnvC scope (cellsFrom (L + 1) scope.names (cloFrom X.env.cells scope.names [])) L X.env = ce at Ic pb0 pbt pbe ⊢
  have ceL : ce.locals = L := by subst hce; rfl
  generalize upd Ha D (SetTO X.prog X.w D []) = Hb at *
  generalize hsc : ({ sb with heap := pushCells (sb.heap.push { cls := .type "dict", data := .dict #[] }) scope.names } : Shared) = sc at Ic ⊢
  have stc : tn 0 sc.heap := T.keep _ _ _ stb fun b _ o e => by rw [← hsc]; exact pushCells_keeps _ _ _ _ (Heap.get?_push_of_some _ e)
  have clean : ∀ {σ' : L2.St} {H' : Hp} {s' : Shared}, Inv (X.blk sb Hb scope ce fp) [] σ' H' s' → (∀ b ∈ fp, H' b = none) → ∀ b ∈ fp, FpOk (X.blk sb Hb scope ce fp) [] H' b := fun {σ' H' s'} J' hn b hb =>
    ⟨hn b hb, (J'.ok.exf b hb).1, J'.ok.exfs b hb, .inl hb, fun x c e => (J'.ok.exf b hb).2 x c e, fun p hp => absurd (show p ∈ ([] : List (Addr × Obj)) ++ [] from hp) (by simp)⟩
  have go : codeAny (model X.prog X.w) X.A (.compLoop (.SetComp elt [⟨t0, i0, ifs, 0⟩] scope pos) 0 (.ref it) (.ref D) ce) (compPost (model X.prog X.w) X.A X.xe use Qf (.ref D) L) sc := by
    refine compLoop_set_any (fun n s' => ∃ i H', Inv (X.blk sb Hb scope ce fp) [] (wipe σ (own.map (·.2))) H' s' ∧ tn i s'.heap ∧ (∀ b ∈ fp, H' b = none) ∧ W i n H') ?_ m0 ⟨0, Hb, Ic, stc, fun b hb => (fb b hb).1.1, wz⟩
    rintro n sd ⟨i, Hd, Id, std, nofp, wd⟩
    rcases turn i n Hd wd with ⟨stop, qq⟩ | ⟨more, Nx, hNx, step⟩
    · refine thnF (T.done (X.blk sb Hb scope ce fp) rfl rfl rfl calm i [] sd _ Hd (fun _ _ => False) Id (clean Id nofp) std stop) fun r se ⟨hr, Ie⟩ => ?_
      subst hr
      have If : Inv X pins σ Hd se := Ib.call' (ch := fp) Ie.os Ie.base Ie.hok Ie.bare fun b hb => ⟨(fb b hb).1.2.2.2.1, (fb b hb).1.2.1, (fb b hb).1.2.2.2.2.1, (fb b hb).1.2.2.2.2.2⟩
      have nL : Hd L = none := by
        have z : Hd ce.locals = none := Ie.free
        rwa [ceL] at z
      obtain ⟨m, hn, _⟩ := Ie.loc
      have hn : se.heap.Ns ce.locals m := hn
      rw [ceL] at hn
      exact back D L se m Hd If qq hn (Ib.fpOk (Nat.le_of_eq hL) nL)
    · refine thnF (T.item (X.blk sb Hb scope ce fp) rfl rfl rfl calm i [] sd _ Hd (fun _ _ => False) Id (clean Id nofp) std more) fun r se ⟨u, hr, he⟩ => ?_
      subst hr
      refine thnF he fun _ sf ⟨x, Hf, If, rf, yf, stf, nof⟩ => ?_
      refine thnF (pb0.run _ sf _ Hf x u _ (If.pinned (clean If nof) (T.obj _ _ stf)) rf (step x Hf yf)) fun _ sg ⟨σg, Hg, Ig, hwg, qg⟩ => ?_
      refine thnF (pbt.run _ sg σg Hg _ Ig qg) fun b sh ⟨Hh, Ih, qh⟩ => ?_
      -- what a turn leaves
      have done_ : ∀ {s' : Shared} {H' : Hp}, Inv (X.blk sb Hb scope ce fp) ([] ++ pinsAt fp sf.heap) σg H' s' → Nx H' → ∃ m, m < n ∧ ∃ i H', Inv (X.blk sb Hb scope ce fp) [] (wipe σ (own.map (·.2))) H' s' ∧ tn i s'.heap ∧ (∀ b ∈ fp, H' b = none) ∧ W i m H' := fun {s' H'} J' nx => by
        obtain ⟨m', hm, w'⟩ := hNx H' nx
        have stays : ∀ b ∈ fp, ∀ o, sf.heap.get? b = some o → s'.heap.get? b = some o ∧ H' b = none := fun b hb o e =>
          have z := J'.pin (b, o) (List.mem_append_right _ (List.mem_append_right _ (mem_pinsAt hb e)))
          ⟨z.1, z.2.1⟩
        refine ⟨m', hm, i + 1, H', (J'.unpinned (pins := [])).weak (by rw [← hwg, wipe_length]) (fun j v e => by rw [← hwg] at e; exact (wipe_some e).1), T.keep _ _ _ stf fun b hb o e => (stays b hb o e).1, fun b hb => ?_, w'⟩
        obtain ⟨o, e, _⟩ := T.obj _ _ stf b hb
        exact (stays b hb o e).2
      cases b with
      | false =>
        simp only [Bool.false_eq_true, if_false] at qh ⊢
        exact done_ Ih qh
      | true =>
        simp only [if_true] at qh ⊢
        refine thnF (pbe.run _ sh σg Hh _ Ih qh) fun z si ⟨y, Hi, Ii, ri, k, l, ek, hD, few, nx⟩ => ?_
        subst ek
        exact st_add (X := X.blk sb Hb scope ce fp) Ii hD few ri fun sj Ij => done_ Ij nx
  exact codeAny_compStart_set go (T.self X.A 0 _ _ _ stc go)
/-- as a value -/
theorem pe_sc {elt t0 i0 : Expr} {ifs : List Expr} {scope : Scope} {own : List (Str × Nat)} {pos : Pos} {wi : TI} {g : TG} {tt : TT} {te : TE}
    (calm : X.calm = true) (nd : X.N.Nodup) (w0 : PI X t0 i0 wi) (blk : BlkOk X.N X.env.scope scope own) (b0 : AllB X scope fun Y => PG Y t0 g) (bt : AllB X scope fun Y => PTs Y ifs tt) (be : AllB X scope fun Y => PE Y elt te) (p0 : ∀ x, foldedSetIterable i0 X.env x = pure x := by intro _; rfl) :
    PE X (.SetComp elt [⟨t0, i0, ifs, 0⟩] scope pos) (tSc X.prog X.w wi g tt te (own.map (·.2))) := by
  refine ⟨fun pins s σ H Q I hyp => ?_⟩
  rw [arm_eval_SetComp]
  refine sc_run calm nd I w0 blk b0 bt be p0 hyp fun D C s' m H' I' q hn f => ⟨m, hn, fun h'' sb => ?_⟩
  obtain ⟨f0, f1, f2, f3, f4, f5⟩ := f
  exact ⟨.ref D, H', I'.turned (t' := s'.toks) (fun b o hb e => (sb.2 b hb).trans e) f0 f1 f3 f4 f5, rfl, q⟩
end
end Nm
set_option autoImplicit false
set_option maxRecDepth 100000
set_option maxHeartbeats 8000000
/-! Web.kinds -/
namespace Nm
open PySem PySem.Spec PyProof.Rows L2
section
variable {P : Program} {w : World} {K : PySem.W.Frag} {mg : Str → Option Value} {base : Heap}
def spKinds (C : Addr) : Sp := fun vs H Q _ => ∃ (p q dc r wd : Addr) (nm cl : List Str) (rs : List RowV), vs = [.ref p] ∧ WebX C H p q dc r wd nm cl rs ∧ rs.length ≤ 3000 ∧
  ∀ (l : Addr) (zs : List Str) (H' : Hp), H l = none → H' l = some (.lst (zs.map V.str)) → (∀ z, z ∈ zs ↔ ∃ row ∈ rs, row.kd = z) → zs.Nodup → sortedS zs = true → Same H H' → Q (.ref l) H'
abbrev nKi : List Str := ["self", "tie"]
theorem scKi : FnScope nKi ["self"] (defScope sWebKinds) := ⟨rfl, rfl, rfl, by decide +kernel, rfl, by decide +kernel, by decide +kernel⟩
theorem ok_kinds {f C : Addr} {fd : FuncData} (F : Fun K "kinds" "Web.kinds" sWebKinds f fd) (T : TxtW K mg C) : FnOk P w K mg base CX0 1 f fd ["self"] (spKinds C) := by
  refine F.ok scKi (fun vs H Q E h => ?_) (fun cdv A outer s H vs Q E hr h => ?_)
  · obtain ⟨_, _, _, _, _, _, _, _, rfl, _⟩ := h
    rfl
  · obtain ⟨p, q, dc, r, wd, nm, cl, rs, rfl, W, few, k⟩ := h
    obtain ⟨dx, hp⟩ := W.hp
    obtain ⟨ts, h1, h2⟩ := W.hr
    refine ⟨_, pss_one (ps_ret (pe_callB (cr_sortT rfl) (by rfl) T.sorted (by decide +kernel) (pa_cons (pe_sc (own := [("tie", 1)]) (g := gName 1) (tt := tYes) (te := tOp (rIxT K) (tVar 1) (tC (.int 2))) rfl scKi.nd (pi_list (pe_fld (pv 0) rfl))
        (blkOk_by (N := nKi) (sc := defScope sWebKinds) (by decide +kernel)) (fun _ _ _ _ _ => pg_name (i := 1) scKi.nd rfl (Or.inl rfl)) (fun _ _ _ _ _ => pts_nil) (fun _ _ _ _ _ => by exact pe_ix ix_tup (pv 1) pe_int (fun _ _ => rfl))) pa_nil))), ?_⟩
    refine ⟨_, rfl, p, C, dx, _, _, rfl, hp, T.cl, T.nTi, rfl, ?_⟩
    refine ⟨r, rfl, ⟨_, SqL.of h1⟩, fun D hD => ?_⟩
    have len : ts.length = rs.length := Paired.length h2
    refine walkW (walk_list (xs := ts.map V.ref)) (fun i H1 => ∃ l : List Str, H1 D = some (SetTO P w D l) ∧ (∀ z, z ∈ l ↔ ∃ row ∈ rs.take i, row.kd = z) ∧ l.length ≤ i ∧ l.Nodup ∧ Same H H1)
      ⟨[], upd_same, by simp, Nat.le_refl _, List.nodup_nil, same_new hD⟩ (fun i H1 _ ⟨_, _, _, _, _, h⟩ => SqL.of (h _ _ h1)) ?_ ?_
    · rintro i v H1 H2 hi ⟨l, hD1, hl, hle, hnd, s1⟩ ⟨rfl, hv⟩
      rw [List.length_map] at hi
      have hv : (ts.map V.ref)[i]? = some v := hv
      rw [List.getElem?_map] at hv
      obtain ⟨t, ht, rfl⟩ := Option.map_eq_some_iff.mp hv
      obtain ⟨row, hrow, x, y, _, _, htup⟩ := Nm.paired_get h2 ht
      refine ⟨rfl, tyes ?_⟩
      refine ⟨_, rfl, t, _, 2, _, rfl, rfl, SqT.of (s1 _ _ htup), atI_nat (j := 2) rfl, row.kd, l, rfl, hD1, by omega, ?_⟩
      refine ⟨_, upd_same, fun z => ?_, ?_, ?_, same_off s1 hD⟩
      · have e : (∃ row ∈ rs.take (i + 1), row.kd = z) ↔ (z ∈ l ∨ z = row.kd) := by
          rw [hl z, List.take_add_one, hrow, Option.toList_some]
          constructor
          · rintro ⟨r', hr', e⟩
            rcases List.mem_append.mp hr' with h | h
            · exact .inl ⟨r', h, e⟩
            · rw [List.mem_singleton.mp h] at e
              exact .inr e.symm
          · rintro (⟨r', h, e⟩ | e)
            · exact ⟨r', List.mem_append_left _ h, e⟩
            · exact ⟨row, List.mem_append_right _ (List.mem_singleton.mpr rfl), e.symm⟩
        rw [e]
        split
        · rename_i hm
          exact ⟨.inl, fun h => h.elim id fun e => by rw [e]; exact hm⟩
        · rw [List.mem_cons]
          exact Or.comm
      · split
        · omega
        · rw [List.length_cons]
          omega
      · split
        · exact hnd
        · rename_i hm
          exact List.nodup_cons.mpr ⟨hm, hnd⟩
    · rintro H1 ⟨l, hD1, hl, hle, hnd, s1⟩
      rw [List.length_map, len] at hle
      rw [List.length_map, len, List.take_length] at hl
      refine ⟨D, l, rfl, hD1, by omega, fun zs p2 pm so hp2 => ?_⟩
      exact k p2 zs _ (s1.free hp2) upd_same (fun z => by rw [pm.mem_iff]; exact hl z) (pm.nodup_iff.mpr hnd) so (s1.trans (same_new hp2))
end
end Nm
set_option autoImplicit false
set_option maxRecDepth 100000
set_option maxHeartbeats 8000000
/-! is_leading -/
namespace Nm
open PySem PySem.Spec PyProof.Rows L2
/-- a dict that leads names to names -/
def ledK (nm : List Str) (f : Str → Str) : List (Key × V) := nm.map fun x => (Sum.inr x, V.str (f x))
section
variable {P : Program} {w : World} {K : PySem.W.Frag} {mg : Str → Option Value} {base : Heap}
def spLeading : Sp := fun vs H Q _ => ∃ (a : Addr) (nm : List Str) (f : Str → Str), vs = [.ref a] ∧ H a = some (.dK (ledK nm f)) ∧ nm.Nodup ∧ nm.length ≤ 1000 ∧ ∀ H', Same H H' → Q (.bl true) H'
abbrev nLe : List Str := ["value", "key"]
theorem scLe : FnScope nLe ["value"] (defScope sLeading) := ⟨rfl, rfl, rfl, by decide +kernel, rfl, by decide +kernel, by decide +kernel⟩
theorem ok_leading {f : Addr} {fd : FuncData} (F : Fun K "is_leading" "is_leading" sLeading f fd) (T : TxtH mg) : FnOk P w K mg base CX0 1 f fd ["value"] spLeading := by
  refine F.ok scLe (fun vs H Q E h => ?_) (fun cdv A outer s H vs Q E hr h => ?_)
  · obtain ⟨_, _, _, rfl, _⟩ := h
    rfl
  · obtain ⟨a, nm, g, rfl, ha, nd, few, k⟩ := h
    have hu := hu_of hr
    refine ⟨_, pss_cons (ps_if (pt_not (pt_val (pe_callB call_isi (by rfl) T.isinstance (by decide +kernel) (pa_cons (pv 0) (pa_cons (pe_bltn (v := .ty "dict") (by rfl) T.dict (by decide +kernel) rfl) pa_nil))))) pss_nope pss_nil)
      (pss_one (ps_ret (pe_callB (cr_all rfl) (by rfl) T.all (by decide +kernel) (pa_cons (pe_lock (pe_lc (own := [("key", 1)]) (g := gName 1) (tt := tYes) rfl scLe.nd (pi_keys (pv 0)) (blkOk_by (N := nLe) (sc := defScope sLeading) (by decide +kernel))
        (fun _ _ _ _ _ => pg_name (i := 1) scLe.nd rfl (Or.inl rfl)) (fun _ _ _ _ _ => pts_nil)
        (te := tAndV (tCB (rIsi K) (tCons (tVar 1) (tCons (tC (.ty "str")) tNil))) (tCB (rIsi K) (tCons (tDGet (tVar 0) (tVar 1)) (tCons (tC (.ty "str")) tNil))))
        (fun _ _ _ _ _ => by exact pe_and (pe_callB call_isi (by rfl) T.isinstance (by decide +kernel) (pa_cons (pv 1) (pa_cons (pe_bltn (v := .ty "str") (by rfl) T.str (by decide +kernel) rfl) pa_nil))) (pe_one (pe_callB call_isi (by rfl) T.isinstance (by decide +kernel) (pa_cons (pe_dget hu (pv 0) (pv 1) (fun _ _ => rfl)) (pa_cons (pe_bltn (v := .ty "str") (by rfl) T.str (by decide +kernel) rfl) pa_nil))))))) pa_nil)))), ?_⟩
    have keyAt : ∀ {i : Nat} {key : Key} {v : V}, (ledK nm g)[i]? = some (key, v) → ∃ x, nm[i]? = some x ∧ key = Sum.inr x ∧ v = V.str (g x) := fun {i key v} h => by
      unfold ledK at h
      rw [List.getElem?_map] at h
      obtain ⟨x, hx, e⟩ := Option.map_eq_some_iff.mp h
      cases e
      exact ⟨x, hx, rfl, rfl⟩
    have keys : ((ledK nm g).map (·.1)).Nodup := by
      unfold ledK
      rw [List.map_map]
      exact List.Pairwise.map _ (fun a b hab e => hab (Sum.inr.inj e)) nd
    have len : (ledK nm g).length = nm.length := by unfold ledK; rw [List.length_map]
    refine ⟨_, rfl, _, _, _, _, true, rfl, ClsV.ty "dict", TyX.base (TyOf.dK ha), kit_ty (by decide +kernel), _, rfl, iteF ?_⟩
    refine ⟨a, _, ha, trivial, fun od => ?_⟩
    refine ⟨_, rfl, a, od, rfl, .inl ⟨ledK nm g, upd_same, fun D hD => ?_⟩⟩
    have ha2 : (upd H a (.frz od (.dK (ledK nm g)))) a = some (.frz od (.dK (ledK nm g))) := upd_same
    have nDa : D ≠ a := fun e => by subst e; rw [upd_same] at hD; cases hD
    have back : ∀ H2, Same (upd H a (.frz od (.dK (ledK nm g)))) H2 → Same H (upd H2 a (.dK (ledK nm g))) := fun H2 s2 c o e => by
      by_cases ec : c = a
      · subst ec
        rw [upd_same, ← ha]
        exact e
      · rw [upd_ne ec]
        exact s2 _ _ (by rw [upd_ne ec]; exact e)
    generalize upd H a (.frz od (.dK (ledK nm g))) = Hl at *
    refine walkW walk_keys (fun i H2 => ∃ bs : List Bool, H2 D = some (.lst (bs.map V.bl)) ∧ bs.length = i ∧ (∀ b ∈ bs, b = true) ∧ Same Hl H2) ⟨[], upd_same, rfl, (fun b hb => (List.not_mem_nil hb).elim), same_new hD⟩ (fun i H2 _ ⟨_, _, _, _, h⟩ => h _ _ ha2) ?_ ?_
    · rintro i x H2 H3 hi ⟨bs, hD2, hbl, hbt, s2⟩ ⟨rfl, key, v, hkv, rfl⟩
      obtain ⟨z, hz, rfl, rfl⟩ := keyAt hkv
      rw [len] at hi
      have got : DGet H3 a (V.str z) (some (V.str (g z))) := .inl ⟨ledK nm g, Sum.inr z, .inr ⟨od, s2 _ _ ha2⟩, rfl, (val_of_mem keys (List.mem_of_getElem? hkv)).symm⟩
      refine ⟨rfl, tyes ?_⟩
      refine ⟨_, rfl, _, _, _, _, true, rfl, ClsV.ty "str", TyX.base (TyOf.str z), kit_ty (by decide +kernel), _, rfl, iteT ?_⟩
      refine ⟨_, rfl, _, rfl, a, V.str (g z), rfl, got, _, _, _, _, true, rfl, ClsV.ty "str", TyX.base (TyOf.str (g z)), kit_ty (by decide +kernel), _, hD2, Evl.sz_lt (by rw [List.length_map]; omega), bs ++ [true], ?_, by simp [hbl], ?_, same_off s2 hD⟩
      · rw [upd_same, List.map_append]
        rfl
      · intro b hb
        rcases List.mem_append.mp hb with q | q
        · exact hbt b q
        · exact List.mem_singleton.mp q
    · rintro H2 ⟨bs, hD2, hbl, hbt, s2⟩
      refine ⟨s2 _ _ ha2, D, bs, rfl, SqL.of (by rw [upd_ne nDa]; exact hD2), ?_⟩
      have e : bs.all id = true := List.all_eq_true.mpr fun b hb => hbt b hb
      rw [e]
      exact k _ (back H2 s2)
end
end Nm
set_option autoImplicit false
set_option maxRecDepth 100000
set_option maxHeartbeats 8000000
/-! judge_names, of a dict that leads as it should -/
namespace Nm
open PySem PySem.Spec PyProof.Rows L2
/-- a dict that leads all names of A, and no others, to names of the same colour -/
structure Leads (A clA B clB : List Str) (nm : List Str) (f : Str → Str) : Prop where
  pm : nm.Perm A
  ndA : A.Nodup
  ndB : B.Nodup
  lA : A.length ≤ clA.length
  lB : B.length ≤ clB.length
  le : A.length ≤ 1000
  at_ : ∀ (i : Nat) (x : Str), A[i]? = some x → ∃ (q : Nat) (c : Str), B[q]? = some (f x) ∧ clA[i]? = some c ∧ clB[q]? = some c
section
variable {P : Program} {w : World} {K : PySem.W.Frag} {mg : Str → Option Value} {base : Heap}
def spJN (C : Addr) : Sp := fun vs H Q _ => ∃ (ov q1 d1 r1 w1 we q2 d2 r2 w2 a : Addr) (A clA B clB : List Str) (rA rB : List RowV) (nm : List Str) (f : Str → Str), vs = [.ref ov, .ref we, .ref a] ∧ WebX C H ov q1 d1 r1 w1 A clA rA ∧ WebX C H we q2 d2 r2 w2 B clB rB ∧ H a = some (.dK (ledK nm f)) ∧ a ≠ d1 ∧ Leads A clA B clB nm f ∧ ∀ H', Same H H' → Q .non H'
abbrev nJN : List Str := ["over", "web", "value", "places", "name", "strange", "key"]
theorem scJN : FnScope nJN ["over", "web", "value"] (defScope sJudgeNames) := ⟨rfl, rfl, rfl, by decide +kernel, rfl, by decide +kernel, by decide +kernel⟩
theorem ok_jn {fa C : Addr} {fd : FuncData} (F : Fun K "judge_names" "judge_names" sJudgeNames fa fd) (T : TxtW K mg C) (Gp : MethD P w K mg base C "places" ["self"] 1 (spPlaces C)) (Gh : MethD P w K mg base C "__contains__" ["self", "name"] 1 (spHas C)) (Gc : MethD P w K mg base C "colour" ["self", "name"] 2 (spColour C)) : FnOk P w K mg base CX0 3 fa fd ["over", "web", "value"] (spJN C) := by
  obtain ⟨fp, fdp, Gp, mp, bp⟩ := Gp.ex
  obtain ⟨fh, fdh, Gh, mh, bh⟩ := Gh.ex
  obtain ⟨fc, fdc, Gc, mc, bc⟩ := Gc.ex
  refine F.ok scJN (fun vs H Q E h => ?_) (fun cdv A' outer s H vs Q E hr h => ?_)
  · obtain ⟨_, _, _, _, _, _, _, _, _, _, _, _, _, _, _, _, _, _, _, rfl, _⟩ := h
    rfl
  · obtain ⟨ov, q1, d1, r1, w1, we, q2, d2, r2, w2, a, A, clA, B, clB, rA, rB, nm, f, rfl, XA, XB, ha, nad, L, k⟩ := h
    have hu := hu_of hr
    refine ⟨_, Evl.pss_cut (ps_set (i := 3) scJN.nd rfl (Or.inl rfl) (pe_meth0 (pv 0) T.cl mp Gp (hr.mono (by decide)) bp .nil pass0))
      (Evl.pss_cut (ps_for PassesOwn.never rfl (pi_list (pv 3)) (pg_name (i := 4) scJN.nd rfl (Or.inl rfl)) (pss_one (ps_if (pt_cmp (pc_dnotin hu (pv 4) (pv 2))) pss_nope pss_nil)))
      (Evl.pss_cut (ps_lock (ps_setLc (i := 5) (own := [("key", 6)]) (g := gName 6) (tt := tTest (tOp (fun x y H Q => ∃ (a dx : Addr) (fs : List (Str × V)), y = .ref a ∧ H a = some (.ins C dx fs) ∧ spHas C [.ref a, x] H (fun v H1 => ∃ b : Bool, v = .bl b ∧ Q (.bl (!b)) H1) E0) (tVar 6) (tVar 0))) (te := tVar 6) rfl scJN.nd rfl rfl (sw_true rfl rfl rfl (by decide +kernel)) (pi_keys (pv 2)) (blkOk_by (N := nJN) (sc := defScope sJudgeNames) (by decide +kernel))
        (fun _ _ _ _ _ => pg_name (i := 6) scJN.nd rfl (Or.inl rfl)) (fun _ _ _ _ _ => by exact pts_one (pt_cmpR (op_notInOwn (E := E0) Gh mh (hr.mono (by decide)) bh pass0 spHas_mono) (pv 6) (pv 0) (by rfl))) (fun _ _ _ _ _ => pv 6)))
      (Evl.pss_cut (ps_if (pt_truth (pv 5) (fun _ => rfl)) pss_nope pss_nil)
      (Evl.pss_cut (ps_for PassesOwn.never rfl (pi_list (pv 3)) (pg_name (i := 4) scJN.nd rfl (Or.inl rfl)) (pss_one (ps_if (pt_cmpR (op_notInOwn (E := E0) Gh mh (hr.mono (by decide)) bh pass0 spHas_mono) (pe_dget hu (pv 2) (pv 4) (fun _ _ => rfl)) (pv 1) (by rfl)) pss_nope pss_nil)))
      (Evl.pss_cut (ps_for PassesOwn.never rfl (pi_list (pv 3)) (pg_name (i := 4) scJN.nd rfl (Or.inl rfl)) (pss_one (ps_if (pt_cmpR op_ne (pe_meth (pv 1) T.cl mc Gc hr bc .nil pass0 (pa_cons (pe_dget hu (pv 2) (pv 4) (fun _ _ => rfl)) pa_nil)) (pe_meth (pv 0) T.cl mc Gc hr bc .nil pass0 (pa_cons (pv 4) pa_nil)) (nomark _)) pss_nope pss_nil)))
      (pss_one (ps_ret pe_non))))))), ?_⟩
    have dLen : (ledK nm f).length = nm.length := by unfold ledK; rw [List.length_map]
    have dKeys : ((ledK nm f).map (·.1)).Nodup := by
      unfold ledK
      rw [List.map_map]
      exact List.Pairwise.map _ (fun a b hab e => hab (Sum.inr.inj e)) (L.pm.nodup_iff.mpr L.ndA)
    have valAt : ∀ x ∈ A, valV (ledK nm f) (Sum.inr x) = some (V.str (f x)) := fun x hx => val_of_mem dKeys (List.mem_map.mpr ⟨x, L.pm.mem_iff.mpr hx, rfl⟩)
    have keyAt : ∀ {i : Nat} {key : Key} {v : V}, (ledK nm f)[i]? = some (key, v) → ∃ x, nm[i]? = some x ∧ key = Sum.inr x ∧ v = V.str (f x) := fun {i key v} h => by
      unfold ledK at h
      rw [List.getElem?_map] at h
      obtain ⟨x, hx, e⟩ := Option.map_eq_some_iff.mp h
      cases e
      exact ⟨x, hx, rfl, rfl⟩
    obtain ⟨dxA, hA⟩ := XA.hp
    obtain ⟨dxB, hB⟩ := XB.hp
    have le := L.le
    -- the places
    refine ⟨fun σ H1 => ∃ l : Addr, σ = [some (.ref ov), some (.ref we), some (.ref a), some (.ref l), none, none, none] ∧ H1 l = some (.lst (A.map V.str)) ∧ Same H H1, ?_, ?_⟩
    · refine ⟨_, rfl, ov, dxA, _, rfl, hA, rfl, ?_⟩
      exact ⟨ov, q1, d1, r1, w1, A, clA, rA, rfl, XA, by omega, fun l H1 _ hl s1 => ⟨l, rfl, hl, s1⟩⟩
    rintro σ H1 ⟨l, rfl, hl, s1⟩
    -- none is missing
    refine ⟨fun σ H2 => ∃ v4, σ = [some (.ref ov), some (.ref we), some (.ref a), some (.ref l), v4, none, none] ∧ H2 = H1, ?_, ?_⟩
    · refine ⟨_, rfl, l, rfl, ⟨_, SqL.of hl⟩, ?_⟩
      refine for_list (xs := A.map V.str) (fun i σ H2 => ∃ v4, σ = [some (.ref ov), some (.ref we), some (.ref a), some (.ref l), v4, none, none] ∧ H2 = H1) ⟨none, rfl, rfl⟩ (fun i σ H2 _ ⟨_, _, h⟩ => by rw [h]; exact SqL.of hl) ?_ (fun σ H2 h => h)
      rintro i x σ H2 hi ⟨v4, rfl, rfl⟩
      rw [List.getElem?_map] at hi
      obtain ⟨z, hz, rfl⟩ := Option.map_eq_some_iff.mp hi
      refine ⟨_, rfl, _, rfl, a, some (V.str (f z)), rfl, (by rw [← valAt z (List.mem_of_getElem? hz)]; exact DGet.k (k := Sum.inr z) (s1 _ _ ha)), _, rfl, iteF ⟨_, rfl, rfl⟩⟩
    rintro σ H2 ⟨v4, rfl, rfl⟩
    -- none is strange
    refine ⟨fun σ H3 => ∃ st : Addr, σ = [some (.ref ov), some (.ref we), some (.ref a), some (.ref l), v4, some (.ref st), none] ∧ H3 st = some (.lst []) ∧ H3 l = some (.lst (A.map V.str)) ∧ Same H H3, ?_, ?_⟩
    · have ha1 := s1 _ _ ha
      refine ⟨a, _, ha1, trivial, fun od => ?_⟩
      refine ⟨_, rfl, a, od, rfl, .inl ⟨ledK nm f, upd_same, fun D hD => ?_⟩⟩
      have nDa : D ≠ a := fun e => by subst e; rw [upd_same] at hD; cases hD
      have back : ∀ G, Same (upd H2 a (.frz od (.dK (ledK nm f)))) G → Same H2 (upd G a (.dK (ledK nm f))) := fun G s2 c o e => by
        by_cases ec : c = a
        · subst ec
          rw [upd_same, ← ha1]
          exact e
        · rw [upd_ne ec]
          exact s2 _ _ (by rw [upd_ne ec]; exact e)
      have XG : ∀ G : Hp, Same (upd H2 a (.frz od (.dK (ledK nm f)))) G → WebX C G ov q1 d1 r1 w1 A clA rA := fun G sg => by
        obtain ⟨⟨dx, g1⟩, g2, g3, ⟨tz, g4, g5⟩, g6⟩ := XA.same s1
        have st : ∀ b o, H2 b = some o → b ≠ a → G b = some o := fun b o e n => sg _ _ (by rw [upd_ne n]; exact e)
        exact ⟨⟨dx, st _ _ g1 (ne_of g1 ha1 (by intro z; cases z))⟩, st _ _ g2 (ne_of g2 ha1 (by intro z; cases z)), st _ _ g3 nad.symm, ⟨tz, st _ _ g4 (ne_of g4 ha1 (by intro z; cases z)), Paired.mapP g5 fun u v ⟨x, y, e1, e2, z⟩ => ⟨x, y, e1, e2, st _ _ z (ne_of z ha1 (by intro z; cases z))⟩⟩, st _ _ g6 (ne_of g6 ha1 (by intro z; cases z))⟩
      have ha2 : (upd H2 a (.frz od (.dK (ledK nm f)))) a = some (.frz od (.dK (ledK nm f))) := upd_same
      generalize upd H2 a (.frz od (.dK (ledK nm f))) = Hl at *
      refine walkW walk_keys (fun i G => G D = some (.lst []) ∧ Same Hl G) ⟨upd_same, same_new hD⟩ (fun i G _ ⟨_, h⟩ => h _ _ ha2) ?_ ?_
      · rintro i x G G' hi ⟨hD2, s2⟩ ⟨rfl, key, v, hkv, rfl⟩
        obtain ⟨z, hz, rfl, rfl⟩ := keyAt hkv
        have zA : z ∈ A := L.pm.mem_iff.mp (List.mem_of_getElem? hz)
        have X2 := XG G' s2
        obtain ⟨dx2, hp2⟩ := X2.hp
        refine ⟨rfl, ?_⟩
        refine ⟨_, rfl, _, rfl, ov, dx2, _, rfl, hp2, ov, q1, d1, r1, w1, A, clA, rA, z, rfl, X2, L.lA, ?_⟩
        rw [decide_eq_true zA]
        exact ⟨true, rfl, _, rfl, iteF ⟨hD2, s2⟩⟩
      · rintro G ⟨hD2, s2⟩
        exact ⟨s2 _ _ ha2, D, rfl, by rw [upd_ne nDa]; exact hD2, back G s2 _ _ hl, s1.trans (back G s2)⟩
    rintro σ H3 ⟨st, rfl, hst, hl3, s3⟩
    refine ⟨fun σ H4 => σ = [some (.ref ov), some (.ref we), some (.ref a), some (.ref l), v4, some (.ref st), none] ∧ H4 = H3, ?_, ?_⟩
    · exact ⟨_, rfl, false, .inl ⟨[], SqL.of hst, rfl⟩, iteF ⟨rfl, rfl⟩⟩
    rintro σ H4 ⟨rfl, rfl⟩
    -- all lead to a place
    refine ⟨fun σ H5 => ∃ v4, σ = [some (.ref ov), some (.ref we), some (.ref a), some (.ref l), v4, some (.ref st), none] ∧ H5 = H4, ?_, ?_⟩
    · refine ⟨_, rfl, l, rfl, ⟨_, SqL.of hl3⟩, ?_⟩
      refine for_list (xs := A.map V.str) (fun i σ H5 => ∃ v4, σ = [some (.ref ov), some (.ref we), some (.ref a), some (.ref l), v4, some (.ref st), none] ∧ H5 = H4) ⟨v4, rfl, rfl⟩ (fun i σ H5 _ ⟨_, _, h⟩ => by rw [h]; exact SqL.of hl3) ?_ (fun σ H5 h => h)
      rintro i x σ H5 hi ⟨w4, rfl, rfl⟩
      rw [List.getElem?_map] at hi
      obtain ⟨z, hz, rfl⟩ := Option.map_eq_some_iff.mp hi
      obtain ⟨q, c, hq, _, _⟩ := L.at_ i z hz
      refine ⟨_, rfl, _, rfl, a, V.str (f z), rfl, (by rw [← valAt z (List.mem_of_getElem? hz)]; exact DGet.k (k := Sum.inr z) (s3 _ _ ha)), _, rfl, we, dxB, _, rfl, s3 _ _ hB, we, q2, d2, r2, w2, B, clB, rB, f z, rfl, XB.same s3, L.lB, ?_⟩
      rw [decide_eq_true (List.mem_of_getElem? hq)]
      exact ⟨true, rfl, _, rfl, iteF ⟨_, rfl, rfl⟩⟩
    rintro σ H5 ⟨w4, rfl, rfl⟩
    -- of one colour
    refine ⟨fun σ H6 => H6 = H5, ?_, fun σ H6 e => by rw [e]; exact k _ s3⟩
    refine ⟨_, rfl, l, rfl, ⟨_, SqL.of hl3⟩, ?_⟩
    refine for_list (xs := A.map V.str) (fun i σ H6 => ∃ v4, σ = [some (.ref ov), some (.ref we), some (.ref a), some (.ref l), v4, some (.ref st), none] ∧ H6 = H5) ⟨w4, rfl, rfl⟩ (fun i σ H6 _ ⟨_, _, h⟩ => by rw [h]; exact SqL.of hl3) ?_ (fun σ H6 ⟨_, _, h⟩ => h)
    rintro i x σ H6 hi ⟨y4, rfl, rfl⟩
    rw [List.getElem?_map] at hi
    obtain ⟨z, hz, rfl⟩ := Option.map_eq_some_iff.mp hi
    obtain ⟨q, c, hq, hcA, hcB⟩ := L.at_ i z hz
    refine ⟨_, rfl, we, dxB, _, rfl, s3 _ _ hB, rfl, _, rfl, _, rfl, a, V.str (f z), rfl, (by rw [← valAt z (List.mem_of_getElem? hz)]; exact DGet.k (k := Sum.inr z) (s3 _ _ ha)), we, q2, d2, r2, w2, B, clB, rB, q, f z, c, rfl, XB.same s3, L.ndB, L.lB, hq, hcB, ?_⟩
    refine ⟨_, rfl, ov, dxA, _, rfl, s3 _ _ hA, rfl, _, rfl, ov, q1, d1, r1, w1, A, clA, rA, i, z, c, rfl, XA.same s3, L.ndA, L.lA, hz, hcA, rfl, _, rfl, ?_⟩
    have e : (!decide (V.str c = V.str c)) = false := by rw [decide_eq_true rfl]; rfl
    rw [e]
    exact iteF ⟨_, rfl, rfl⟩
end
end Nm
set_option autoImplicit true
set_option maxRecDepth 100000
set_option maxHeartbeats 4000000
/-! what the law reckons, and what the program tells: one and the same -/
namespace Nm
open PySem L2
/-- the name with a number -/
def nmA (nm : List Str) (w : Nat) : Str := (nm[w]?).getD ""
theorem nmA_at {nm : List Str} {w : Nat} {x : Str} (h : nm[w]? = some x) : nmA nm w = x := by
  unfold nmA
  rw [h]
  rfl
/-- where a dict leads a name -/
def leadG (fkv : List (Key × V)) (x : Str) : Str := match valV fkv (Sum.inr x) with
  | some (.str z) => z
  | _ => ""
theorem lead_at {nm' nm : List Str} {led : List Nat} {i w : Nat} {x y : Str} (hx : nm'[i]? = some x) (hw : led[i]? = some w) (hy : nm[w]? = some y) : (Sum.inr x, V.str y) ∈ leadKV nm' nm led := by
  unfold leadKV
  refine List.mem_map.mpr ⟨(x, w), List.mem_of_getElem? (i := i) ?_, by simp [hy]⟩
  rw [List.getElem?_zip_eq_some]
  exact ⟨hx, hw⟩
/-- what of a folding's dict is known -/
structure Lead (nm' nm : List Str) (led : List Nat) (fkv : List (Key × V)) : Prop where
  pm : fkv.Perm (leadKV nm' nm led)
  nd' : nm'.Nodup
  nd : nm.Nodup
  len : led.length = nm'.length
  lt : ∀ x ∈ led, x < nm.length
section
variable {nm' nm : List Str} {led : List Nat} {fkv : List (Key × V)}
theorem Lead.keys (L : Lead nm' nm led fkv) : (fkv.map (·.1)).Nodup := (L.pm.map (·.1)).nodup_iff.mpr (lead_nd L.len L.nd')
theorem Lead.val (L : Lead nm' nm led fkv) {i w : Nat} {x y : Str} (hx : nm'[i]? = some x) (hw : led[i]? = some w) (hy : nm[w]? = some y) : valV fkv (Sum.inr x) = some (V.str y) := val_of_mem L.keys (L.pm.mem_iff.mpr (lead_at hx hw hy))
theorem Lead.g (L : Lead nm' nm led fkv) {i w : Nat} {x y : Str} (hx : nm'[i]? = some x) (hw : led[i]? = some w) (hy : nm[w]? = some y) : leadG fkv x = y := by
  unfold leadG
  rw [L.val hx hw hy]
theorem Lead.there (L : Lead nm' nm led fkv) {i : Nat} {x : Str} (hx : nm'[i]? = some x) : ∃ w y, led[i]? = some w ∧ nm[w]? = some y := by
  have hi := (List.getElem?_eq_some_iff.mp hx).1
  obtain ⟨w, hw⟩ : ∃ w, led[i]? = some w := ⟨_, List.getElem?_eq_getElem (by rw [L.len]; exact hi)⟩
  exact ⟨w, _, hw, List.getElem?_eq_getElem (L.lt w (List.mem_of_getElem? hw))⟩
/-- as the judging functions ask for it -/
theorem Lead.ok (L : Lead nm' nm led fkv) : ∀ x ∈ nm', valV fkv (Sum.inr x) = some (V.str (leadG fkv x)) ∧ leadG fkv x ∈ nm := fun x hx => by
  obtain ⟨i, hi⟩ := List.getElem?_of_mem hx
  obtain ⟨w, y, hw, hy⟩ := L.there hi
  rw [L.g hi hw hy]
  exact ⟨L.val hi hw hy, List.mem_of_getElem? hy⟩
/-- the names over y, by numbers -/
theorem Lead.over_take (L : Lead nm' nm led fkv) {q : Nat} {y : Str} (hq : nm[q]? = some y) : ∀ i, i ≤ nm'.length → overL (nm'.take i) (leadG fkv) y = (posU led i q).map (nmA nm')
  | 0, _ => rfl
  | i + 1, le => by
    obtain ⟨x, hx⟩ : ∃ x, nm'[i]? = some x := ⟨_, List.getElem?_eq_getElem le⟩
    obtain ⟨w, z, hw, hz⟩ := L.there hx
    have ih := L.over_take hq i (by omega)
    have g := L.g hx hw hz
    by_cases e : w = q
    · subst e
      have : z = y := Option.some.inj (hz.symm.trans hq)
      subst this
      rw [overL_yes hx g, posU_yes hw, ih, List.map_append, List.map_singleton, nmA_at hx]
    · have ne : ¬ leadG fkv x = y := fun z' => by
        rw [g] at z'
        subst z'
        exact e ((List.getElem?_inj (List.getElem?_eq_some_iff.mp hz).1 L.nd).mp (hz.trans hq.symm))
      rw [overL_no hx ne, posU_no hw (fun z' => e z'.symm), ih]
theorem Lead.over (L : Lead nm' nm led fkv) {q : Nat} {y : Str} (hq : nm[q]? = some y) : overL nm' (leadG fkv) y = (posU led led.length q).map (nmA nm') := by
  have := L.over_take hq nm'.length (Nat.le_refl _)
  rw [List.take_of_length_le (Nat.le_refl _), ← L.len] at this
  exact this
/-- the counts -/
def cnts (led : List Nat) (n : Nat) : List Nat := (List.range n).map fun q => (posU led led.length q).length
theorem Lead.counts (L : Lead nm' nm led fkv) : (nm.map fun y => (overL nm' (leadG fkv) y).length) = cnts led nm.length := by
  refine List.ext_getElem? fun q => ?_
  unfold cnts
  rw [List.getElem?_map, List.getElem?_map]
  by_cases c : q < nm.length
  · have hq := List.getElem?_eq_getElem c
    rw [hq, List.getElem?_range c, Option.map_some, Option.map_some, L.over hq, List.length_map]
  · rw [List.getElem?_eq_none (by omega), List.getElem?_eq_none (by rw [List.length_range]; omega)]
    rfl
/-- two such dicts are equal -/
theorem Lead.eqs {fkv2 : List (Key × V)} (L : Lead nm' nm led fkv) (L2 : Lead nm' nm led fkv2) : fkv.length = fkv2.length ∧ ∀ p ∈ fkv, valV fkv2 p.1 = some p.2 ∧ flatB p.2 = true := by
  refine ⟨(L.pm.trans L2.pm.symm).length_eq, fun p m => ?_⟩
  have m1 := L.pm.mem_iff.mp m
  refine ⟨val_of_mem L2.keys (L2.pm.mem_iff.mpr m1), ?_⟩
  unfold leadKV at m1
  obtain ⟨z, _, rfl⟩ := List.mem_map.mp m1
  rfl
end
/-- by least and greatest: is there one over each? -/
theorem all_pos {ks : List Nat} {m : Int} (hm : m ∈ ks.map fun (k : Nat) => (k : Int)) (le : ∀ j ∈ ks.map fun (k : Nat) => (k : Int), m ≤ j) : (ks.all fun n => decide (0 < n)) = decide (0 < m) := by
  by_cases c : 0 < m
  · rw [decide_eq_true c]
    refine List.all_eq_true.mpr fun k hk => decide_eq_true ?_
    have := le (k : Int) (List.mem_map.mpr ⟨k, hk, rfl⟩)
    omega
  · rw [decide_eq_false c]
    obtain ⟨k, hk, rfl⟩ := List.mem_map.mp hm
    refine List.all_eq_false.mpr ⟨k, hk, ?_⟩
    simp
    omega
theorem all_same {ks : List Nat} {k0 : Nat} {m M : Int} (h0 : ks[0]? = some k0) (hm : m ∈ ks.map fun (k : Nat) => (k : Int)) (le : ∀ j ∈ ks.map fun (k : Nat) => (k : Int), m ≤ j) (hM : M ∈ ks.map fun (k : Nat) => (k : Int)) (ge : ∀ j ∈ ks.map fun (k : Nat) => (k : Int), j ≤ M) :
    (decide (0 < k0) && ks.all fun n => decide (n = k0)) = (decide (0 < m) && decide (m = M)) := by
  have m0 : k0 ∈ ks := List.mem_of_getElem? h0
  by_cases c : m = M
  · subst c
    have same : ∀ k ∈ ks, (k : Int) = m := fun k hk => Int.le_antisymm (ge _ (List.mem_map.mpr ⟨k, hk, rfl⟩)) (le _ (List.mem_map.mpr ⟨k, hk, rfl⟩))
    have e0 := same k0 m0
    have a1 : (ks.all fun n => decide (n = k0)) = true := List.all_eq_true.mpr fun k hk => decide_eq_true (by have := same k hk; omega)
    rw [a1, Bool.and_true, decide_eq_true (rfl : m = m), Bool.and_true]
    by_cases p : 0 < k0
    · rw [decide_eq_true p, decide_eq_true (by omega)]
    · rw [decide_eq_false p, decide_eq_false (by omega)]
  · rw [decide_eq_false c, Bool.and_false]
    obtain ⟨a, ha, ea⟩ := List.mem_map.mp hm
    obtain ⟨b, hb, eb⟩ := List.mem_map.mp hM
    have a1 : (ks.all fun n => decide (n = k0)) = false := by
      refine List.all_eq_false.mpr ?_
      by_cases p : a = k0
      · exact ⟨b, hb, by simp; omega⟩
      · exact ⟨a, ha, by simp [p]⟩
    rw [a1, Bool.and_false]
theorem none_same {ks : List Nat} {k0 : Nat} {m : Int} (hm : m ∈ ks.map fun (k : Nat) => (k : Int)) (c : ¬ 0 < m) : (decide (0 < k0) && ks.all fun n => decide (n = k0)) = false := by
  obtain ⟨a, ha, ea⟩ := List.mem_map.mp hm
  by_cases p : 0 < k0
  · have a1 : (ks.all fun n => decide (n = k0)) = false := List.all_eq_false.mpr ⟨a, ha, by simp; omega⟩
    rw [a1, Bool.and_false]
  · rw [decide_eq_false p, Bool.false_and]
/-- a web over itself -/
def selfKV (nm : List Str) : List (Key × V) := nm.map fun x => (Sum.inr x, V.str x)
theorem self_keys (nm : List Str) : (selfKV nm).map (·.1) = nm.map Sum.inr := by
  unfold selfKV
  rw [List.map_map]
  rfl
theorem self_nd {nm : List Str} (nd : nm.Nodup) : ((selfKV nm).map (·.1)).Nodup := by
  rw [self_keys]
  exact List.Pairwise.map _ (fun a b hab e => hab (Sum.inr.inj e)) nd
theorem self_ok {nm : List Str} (nd : nm.Nodup) : ∀ x ∈ nm, valV (selfKV nm) (Sum.inr x) = some (V.str (id x)) ∧ id x ∈ nm := fun x hx => ⟨val_of_mem (self_nd nd) (List.mem_map.mpr ⟨x, hx, rfl⟩), hx⟩
theorem self_over {nm : List Str} (nd : nm.Nodup) : ∀ y ∈ nm, (overL nm id y).length = 1 := by
  intro y hy
  have e : overL nm id y = nm.filter (· == y) := by
    unfold overL
    congr 1
  have h1 : nm.count y ≤ 1 := List.nodup_iff_count.mp nd y
  have h2 : 0 < nm.count y := List.count_pos_iff.mpr hy
  rw [e, ← List.count_eq_length_filter]
  omega
theorem self_onto {nm : List Str} (nd : nm.Nodup) : ((nm.map fun y => (overL nm id y).length).all fun n => decide (0 < n)) = true := by
  rw [List.all_map]
  refine List.all_eq_true.mpr fun y hy => ?_
  show decide (0 < (overL nm id y).length) = true
  rw [self_over nd y hy]
  rfl
theorem self_spread {nm : List Str} (nd : nm.Nodup) {y0 : Str} (h : nm[0]? = some y0) : (decide (0 < (overL nm id y0).length) && (nm.map fun y => (overL nm id y).length).all fun n => decide (n = (overL nm id y0).length)) = true := by
  rw [self_over nd y0 (List.mem_of_getElem? h), List.all_map]
  refine Bool.and_eq_true_iff.mpr ⟨rfl, List.all_eq_true.mpr fun y hy => ?_⟩
  show decide ((overL nm id y).length = 1) = true
  rw [self_over nd y hy]
  rfl
end Nm
set_option autoImplicit true
set_option maxRecDepth 100000
set_option maxHeartbeats 4000000
/-! how wide names hang together; coverings by names -/
namespace Nm
open PySem L2
def wN (nm : List Str) (rs : List RowV) (a b kd : Str) : Nat := (rs.map fun r => if r.kd = kd ∧ ((nmA nm r.i = a ∧ nmA nm r.j = b) ∨ (nmA nm r.i = b ∧ nmA nm r.j = a)) then r.w.toNat else 0).sum
theorem wN_cons (nm : List Str) (r : RowV) (rs : List RowV) (a b kd : Str) : wN nm (r :: rs) a b kd = (if r.kd = kd ∧ ((nmA nm r.i = a ∧ nmA nm r.j = b) ∨ (nmA nm r.i = b ∧ nmA nm r.j = a)) then r.w.toNat else 0) + wN nm rs a b kd := rfl
theorem wN_snoc (nm : List Str) (r : RowV) (rs : List RowV) (a b kd : Str) : wN nm (rs ++ [r]) a b kd = wN nm rs a b kd + (if r.kd = kd ∧ ((nmA nm r.i = a ∧ nmA nm r.j = b) ∨ (nmA nm r.i = b ∧ nmA nm r.j = a)) then r.w.toNat else 0) := by
  unfold wN
  rw [List.map_append, List.sum_append]
  simp
theorem wN_swap (nm : List Str) (rs : List RowV) (a b kd : Str) : wN nm rs a b kd = wN nm rs b a kd := by
  unfold wN
  congr 1
  refine List.map_congr_left fun r _ => ?_
  have e : (r.kd = kd ∧ ((nmA nm r.i = a ∧ nmA nm r.j = b) ∨ (nmA nm r.i = b ∧ nmA nm r.j = a))) ↔ (r.kd = kd ∧ ((nmA nm r.i = b ∧ nmA nm r.j = a) ∨ (nmA nm r.i = a ∧ nmA nm r.j = b))) := by
    constructor <;> (rintro ⟨h, z | z⟩) <;> first | exact ⟨h, .inr z⟩ | exact ⟨h, .inl z⟩
  simp only [e]
theorem nmA_get {nm : List Str} {i : Nat} (h : i < nm.length) : nm[i]? = some (nmA nm i) := by
  unfold nmA
  rw [List.getElem?_eq_getElem h]
  rfl
theorem nmA_mem {nm : List Str} {i : Nat} (h : i < nm.length) : nmA nm i ∈ nm := List.mem_of_getElem? (nmA_get h)
theorem nmA_inj {nm : List Str} (nd : nm.Nodup) {i j : Nat} (hi : i < nm.length) (hj : j < nm.length) (e : nmA nm i = nmA nm j) : i = j :=
  (List.getElem?_inj hi nd).mp (by rw [nmA_get hi, nmA_get hj, e])
/-- what a row gives a name -/
def tieN (nm : List Str) (h : Str → Nat) (x kd : Str) (r : RowV) : Nat := if r.kd = kd then (if nmA nm r.i = x then h (nmA nm r.j) else 0) + (if nmA nm r.j = x then h (nmA nm r.i) else 0) else 0
def SN (nm : List Str) (h : Str → Nat) (x kd : Str) (rs : List RowV) : Nat := (rs.map fun r => r.w.toNat * tieN nm h x kd r).sum
theorem SN.perm {nm : List Str} {h : Str → Nat} {x kd : Str} {a b : List RowV} (p : a.Perm b) : SN nm h x kd a = SN nm h x kd b := (p.map _).sum_nat
theorem row_sum {nm : List Str} (nd : nm.Nodup) {h : Str → Nat} {x kd : Str} {r : RowV} (h1 : r.i < r.j) (h2 : r.j < nm.length) :
    (nm.map fun z => h z * (if r.kd = kd ∧ ((nmA nm r.i = x ∧ nmA nm r.j = z) ∨ (nmA nm r.i = z ∧ nmA nm r.j = x)) then r.w.toNat else 0)).sum = r.w.toNat * tieN nm h x kd r := by
  have hij : nmA nm r.i ≠ nmA nm r.j := fun e => by have := nmA_inj nd (by omega) h2 e; omega
  unfold tieN
  by_cases hk : r.kd = kd
  · rw [if_pos hk]
    by_cases ei : nmA nm r.i = x
    · have ej : ¬ nmA nm r.j = x := fun e => hij (ei.trans e.symm)
      rw [if_pos ei, if_neg ej, Nat.add_zero]
      rw [sumo (a := nmA nm r.j) nd (nmA_mem h2) fun u _ hne => by
        rw [if_neg fun z => by
          rcases z.2 with z | z
          · exact hne z.2.symm
          · exact ej z.2]
        rfl]
      rw [if_pos ⟨hk, .inl ⟨ei, rfl⟩⟩, Nat.mul_comm]
    · rw [if_neg ei, Nat.zero_add]
      by_cases ej : nmA nm r.j = x
      · rw [if_pos ej]
        rw [sumo (a := nmA nm r.i) nd (nmA_mem (by omega)) fun u _ hne => by
          rw [if_neg fun z => by
            rcases z.2 with z | z
            · exact ei z.1
            · exact hne z.1.symm]
          rfl]
        rw [if_pos ⟨hk, .inr ⟨rfl, ej⟩⟩, Nat.mul_comm]
      · rw [if_neg ej, Nat.mul_zero]
        exact sumz fun u _ => by
          rw [if_neg fun z => by
            rcases z.2 with z | z
            · exact ei z.1
            · exact ej z.2]
          rfl
  · rw [if_neg hk, Nat.mul_zero]
    exact sumz fun u _ => by
      rw [if_neg fun z => hk z.1]
      rfl
theorem sN_eq {nm : List Str} (nd : nm.Nodup) {h : Str → Nat} {x kd : Str} : ∀ {rs : List RowV}, (∀ r ∈ rs, r.i < r.j ∧ r.j < nm.length) → (nm.map fun z => h z * wN nm rs x z kd).sum = SN nm h x kd rs
  | [], _ => sumz fun u _ => rfl
  | r :: rs, hr => by
    have ih := sN_eq nd (h := h) (x := x) (kd := kd) (rs := rs) fun r' h' => hr r' (List.mem_cons_of_mem _ h')
    obtain ⟨h1, h2⟩ := hr r List.mem_cons_self
    have e : (nm.map fun z => h z * wN nm (r :: rs) x z kd) = nm.map fun z => h z * (if r.kd = kd ∧ ((nmA nm r.i = x ∧ nmA nm r.j = z) ∨ (nmA nm r.i = z ∧ nmA nm r.j = x)) then r.w.toNat else 0) + h z * wN nm rs x z kd :=
      List.map_congr_left fun z _ => by rw [wN_cons, Nat.mul_add]
    rw [e, suma, ih, row_sum nd h1 h2]
    rfl
/-- by numbers -/
theorem tieN_C {nm : List Str} (nd : nm.Nodup) {h : Str → Nat} {kd : Str} {r : RowV} {k : Nat} (h1 : r.i < nm.length) (h2 : r.j < nm.length) (hk : k < nm.length) : tieN nm h (nmA nm k) kd r = tieC (fun y => h (nmA nm y)) k kd (rKey r) := by
  unfold rKey tieN
  rw [tieC_nat]
  have a1 : nmA nm r.i = nmA nm k ↔ r.i = k := ⟨nmA_inj nd h1 hk, fun e => by rw [e]⟩
  have a2 : nmA nm r.j = nmA nm k ↔ r.j = k := ⟨nmA_inj nd h2 hk, fun e => by rw [e]⟩
  simp only [a1, a2]
theorem SN_Sg {nm : List Str} (nd : nm.Nodup) {m : Nat} {kvs : List (List Key × V)} {rs : List RowV} (T : Ties nm.length m kvs) (R : RowsOf kvs rs) {h : Str → Nat} {kd : Str} {k : Nat} (hk : k < nm.length) : SN nm h (nmA nm k) kd rs = Sg (tieC (fun y => h (nmA nm y)) k kd) kvs := by
  rw [SN.perm R.1]
  unfold SN Sg
  rw [List.map_map]
  congr 1
  refine List.map_congr_left fun kv hm => ?_
  obtain ⟨i, j, kd', e1, h1, h2, _⟩ := T.key kv hm
  obtain ⟨x, e2, _⟩ := T.val kv hm
  obtain ⟨ke, v⟩ := kv
  have e1 : ke = [Sum.inl (i : Int), Sum.inl (j : Int), Sum.inr kd'] := e1
  have e2 : v = V.int (x : Int) := e2
  subst e1 e2
  show (x : Int).toNat * tieN nm h (nmA nm k) kd ⟨(i : Int).toNat, (j : Int).toNat, kd', (x : Int)⟩ = (x : Int).toNat * _
  rw [tieN_C nd (by show (i : Int).toNat < _; rw [Int.toNat_natCast]; omega) (by show (j : Int).toNat < _; rw [Int.toNat_natCast]; exact h2) hk]
  unfold rKey
  simp only [Int.toNat_natCast]
/-! ### coverings by names -/
structure Cvr (A : List Str) (WA : Str → Str → Str → Nat) (B : List Str) (WB : Str → Str → Str → Nat) (f : Str → Str) : Prop where
  to : ∀ x ∈ A, f x ∈ B
  sum : ∀ x ∈ A, ∀ (h : Str → Nat) (kd : Str), (A.map fun z => h (f z) * WA x z kd).sum = (B.map fun e => h e * WB (f x) e kd).sum
theorem Cvr.trans {A B C : List Str} {WA WB WC : Str → Str → Str → Nat} {f g : Str → Str} (a : Cvr A WA B WB f) (b : Cvr B WB C WC g) : Cvr A WA C WC (g ∘ f) :=
  ⟨fun x hx => b.to _ (a.to x hx), fun x hx h kd => (a.sum x hx (fun y => h (g y)) kd).trans (b.sum _ (a.to x hx) h kd)⟩
theorem cvr_of {nm' nm : List Str} {kvs kvs' : List (List Key × V)} {cl cl' : List Str} {led : List Nat} {m m' : Nat} {rs rs' : List RowV} {f : Str → Str} (nd' : nm'.Nodup) (nd : nm.Nodup) (T' : Ties nm'.length m' kvs') (T : Ties nm.length m kvs) (R' : RowsOf kvs' rs') (R : RowsOf kvs rs)
    (C : Cov kvs cl kvs' led cl') (hl : led.length = nm'.length) (hlt : ∀ x ∈ led, x < nm.length) (hf : ∀ i < nm'.length, f (nmA nm' i) = nmA nm (lf led i)) : Cvr nm' (wN nm' rs') nm (wN nm rs) f := by
  have F' := rowsFit_of T' R'
  have F := rowsFit_of T R
  have lt : ∀ i < nm'.length, lf led i < nm.length := fun i hi => by
    obtain ⟨p, hp⟩ : ∃ p, led[i]? = some p := ⟨_, List.getElem?_eq_getElem (by omega)⟩
    rw [lf_of hp]
    exact hlt p (List.mem_of_getElem? hp)
  have name : ∀ x ∈ nm', ∃ i < nm'.length, x = nmA nm' i := fun x hx => by
    obtain ⟨i, hi⟩ := List.getElem?_of_mem hx
    exact ⟨i, (List.getElem?_eq_some_iff.mp hi).1, (nmA_at hi).symm⟩
  refine ⟨fun x hx => ?_, fun x hx h kd => ?_⟩
  · obtain ⟨i, hi, rfl⟩ := name x hx
    rw [hf i hi]
    exact nmA_mem (lt i hi)
  · obtain ⟨i, hi, rfl⟩ := name x hx
    obtain ⟨p, hp⟩ : ∃ p, led[i]? = some p := ⟨_, List.getElem?_eq_getElem (by omega)⟩
    rw [sN_eq (h := fun z => h (f z)) nd' F'.lt, SN_Sg nd' T' R' hi, hf i hi, sN_eq nd F.lt, SN_Sg nd T R (lt i hi), lf_of hp]
    rw [← (C i p hp).2 (fun q => h (nmA nm q)) kd]
    refine Sg.congr fun kv hm => ?_
    obtain ⟨a, b, kd', e1, h1, h2, _⟩ := T'.key kv hm
    rw [e1, tieC_nat, tieC_nat, hf a (by omega), hf b h2]
/-! ### turned copies -/
theorem sum_two {F : Nat → Nat} {m : Nat} : ∀ L : Nat, ((List.range (L * m)).map F).sum = ((List.range L).map fun i => ((List.range m).map fun u => F (i * m + u)).sum).sum
  | 0 => by rw [Nat.zero_mul]; rfl
  | L + 1 => by
    rw [Nat.succ_mul, List.range_succ, List.map_append, List.sum_append, ← sum_two L, List.range_add, List.map_append, List.sum_append, List.map_map]
    simp
    rfl
theorem toT_turn {m u : Nat} {t : Int} (hm : 1 ≤ m) : toT m u t = (u + (t % (m : Int)).toNat) % m := by
  have h1 := Int.emod_nonneg t (b := (m : Int)) (by omega)
  have e : ((toT m u t : Nat) : Int) = (((u + (t % (m : Int)).toNat) % m : Nat) : Int) := by
    rw [toT_int hm, Int.natCast_emod, Int.natCast_add, Int.toNat_of_nonneg h1, Int.add_emod_emod]
  omega
theorem cvr_copies {nm : List Str} {rs rs' : List RowV} {ts : List Int} {m : Nat} {f : Str → Str} (nd : nm.Nodup) (F : RowsFit nm.length rs) (hm : 1 ≤ m) (hN : nm.length * m ≤ 240) (p : rs'.Perm (cRows m rs ts (rs.length * m))) (hts : ts.length = rs.length)
    (hf : ∀ k < nm.length * m, f (pN k) = nmA nm (k / m)) : Cvr (nmT (nm.length * m)) (wN (nmT (nm.length * m)) rs') nm (wN nm rs) f := by
  have nd' := nmT_nd hN
  have at' : ∀ k < nm.length * m, nmA (nmT (nm.length * m)) k = pN k := fun k hk => nmA_at (nmT_at hk)
  have dl : ∀ k < nm.length * m, k / m < nm.length := fun k hk => Nat.div_lt_of_lt_mul (by rw [Nat.mul_comm]; exact hk)
  have name : ∀ x ∈ nmT (nm.length * m), ∃ k < nm.length * m, x = pN k := fun x hx => by
    obtain ⟨k, hk, rfl⟩ := List.mem_map.mp hx
    exact ⟨k, List.mem_range.mp hk, rfl⟩
  refine ⟨fun x hx => ?_, fun x hx h kd => ?_⟩
  · obtain ⟨k, hk, rfl⟩ := name x hx
    rw [hf k hk]
    exact nmA_mem (dl k hk)
  · obtain ⟨k, hk, rfl⟩ := name x hx
    have lt' : ∀ r ∈ rs', r.i < r.j ∧ r.j < (nmT (nm.length * m)).length := fun r hr => by
      obtain ⟨k', hk', rfl⟩ := List.mem_map.mp (p.mem_iff.mp hr)
      obtain ⟨_, _, h1, h2, _⟩ := cRow_fit (k := k') (ts := ts) F hm (List.mem_range.mp hk')
      exact ⟨h1, by rw [nmT_len]; exact h2⟩
    rw [sN_eq (h := fun z => h (f z)) nd' lt', hf k hk, sN_eq nd F.lt, SN.perm p]
    have e1 : SN (nmT (nm.length * m)) (fun z => h (f z)) (pN k) kd (cRows m rs ts (rs.length * m)) = ((List.range (rs.length * m)).map fun q => (cRow m rs ts q).w.toNat * tieN (nmT (nm.length * m)) (fun z => h (f z)) (pN k) kd (cRow m rs ts q)).sum := by
      unfold SN cRows
      rw [List.map_map]
      rfl
    have e2 : SN nm h (nmA nm (k / m)) kd rs = ((List.range rs.length).map fun i => ((rs[i]?).getD ⟨0, 0, "", 0⟩).w.toNat * tieN nm h (nmA nm (k / m)) kd ((rs[i]?).getD ⟨0, 0, "", 0⟩)).sum := by
      unfold SN
      congr 1
      refine List.ext_getElem? fun i => ?_
      rw [List.getElem?_map, List.getElem?_map]
      by_cases c : i < rs.length
      · obtain ⟨r, hr⟩ : ∃ r, rs[i]? = some r := ⟨_, List.getElem?_eq_getElem c⟩
        rw [List.getElem?_range c]
        simp [hr]
      · rw [List.getElem?_eq_none (by omega), List.getElem?_eq_none (by rw [List.length_range]; omega)]
        rfl
    rw [e1, e2, sum_two]
    congr 1
    refine List.map_congr_left fun i hi => ?_
    have hi := List.mem_range.mp hi
    obtain ⟨r, hr⟩ : ∃ r, rs[i]? = some r := ⟨_, List.getElem?_eq_getElem hi⟩
    obtain ⟨t, ht⟩ : ∃ t, ts[i]? = some t := ⟨_, List.getElem?_eq_getElem (by omega)⟩
    obtain ⟨r1, r2⟩ := F.lt r (List.mem_of_getElem? hr)
    rw [hr]
    show _ = r.w.toNat * tieN nm h (nmA nm (k / m)) kd r
    rw [tieN_C nd (by omega) r2 (dl k hk)]
    have hu := unit_count (s := fun p u => p * m + u) (f := fun y => y / m) (c := m) (i := r.i) (j := r.j) (x := k) (τ := fun u => toT m u t) (g := fun q => h (nmA nm q)) (kd := kd) (k := r.kd)
      (fun u _ => toT_lt hm) (fun z hz => by
        have := turn_ok (c := m) (t := (t % (m : Int)).toNat) (by have h1 := Int.emod_lt_of_pos t (b := (m : Int)) (by omega); omega)
        obtain ⟨u, h1, h2⟩ := this.2.1 z hz
        exact ⟨u, h1, by rw [toT_turn hm]; exact h2⟩) (fun u hu v hv e => by
        have := turn_ok (c := m) (t := (t % (m : Int)).toNat) (by have h1 := Int.emod_lt_of_pos t (b := (m : Int)) (by omega); omega)
        rw [toT_turn hm, toT_turn hm] at e
        exact this.2.2 u hu v hv e) (fun u hu => ⟨(dm hu).1, (dm hu).1⟩) (fun p _ e => ⟨k % m, Nat.mod_lt _ (by omega), by
        have := Nat.div_add_mod k m
        rw [← e]
        show k / m * m + k % m = k
        rw [Nat.mul_comm]
        exact this⟩) (fun p _ u hu v hv e => by omega)
    have e3 : r.w.toNat * tieC (fun q => h (nmA nm q)) (k / m) kd (rKey r) = ((List.range m).map fun u => r.w.toNat * tieC (fun z => h (nmA nm (z / m))) k kd [Sum.inl ((r.i * m + u : Nat) : Int), Sum.inl ((r.j * m + toT m u t : Nat) : Int), Sum.inr r.kd]).sum := by
      have e4 : ∀ (l : List Nat) (c : Nat) (G : Nat → Nat), (l.map fun u => c * G u).sum = c * (l.map G).sum := fun l c G => by
        induction l with
        | nil => rfl
        | cons a l ih => rw [List.map_cons, List.sum_cons, ih, List.map_cons, List.sum_cons, Nat.mul_add]
      rw [e4]
      congr 1
      exact hu.symm
    rw [e3]
    congr 1
    refine List.map_congr_left fun u hu => ?_
    have hu := List.mem_range.mp hu
    have hq : i * m + u < rs.length * m := by
      have := Nat.mul_le_mul_right m (show i + 1 ≤ rs.length from hi)
      rw [Nat.add_mul, Nat.one_mul] at this
      omega
    obtain ⟨r', hr', f1, f2, _⟩ := cRow_fit (k := i * m + u) (ts := ts) F hm hq
    rw [cRow_at hu hr ht] at f1 f2 ⊢
    have f2 : r.j * m + toT m u t < nm.length * m := f2
    have f1 : r.i * m + u < r.j * m + toT m u t := f1
    rw [← at' k hk, tieN_C nd' (by rw [nmT_len]; show r.i * m + u < _; omega) (by rw [nmT_len]; exact f2) (by rw [nmT_len]; exact hk)]
    show r.w.toNat * tieC _ k kd [Sum.inl ((r.i * m + u : Nat) : Int), Sum.inl ((r.j * m + toT m u t : Nat) : Int), Sum.inr r.kd] = _
    rw [tieC_nat, tieC_nat, at' _ f2, at' _ (by omega : r.i * m + u < nm.length * m), hf _ f2, hf _ (by omega)]
/-! ### the dict of the widths tells them -/
theorem wid_take {nm : List Str} (nd : nm.Nodup) {rs : List RowV} (F : RowsFit nm.length rs) (a b kd : Str) : ∀ i, i ≤ rs.length → (valV (widK nm (rs.take i)) [Sum.inr a, Sum.inr b, Sum.inr kd] = none ∧ wN nm (rs.take i) a b kd = 0 ∨ valV (widK nm (rs.take i)) [Sum.inr a, Sum.inr b, Sum.inr kd] = some (.int (wN nm (rs.take i) a b kd : Nat)) ∧ ∃ r ∈ rs.take i, r.kd = kd ∧ ((nmA nm r.i = a ∧ nmA nm r.j = b) ∨ (nmA nm r.i = b ∧ nmA nm r.j = a)))
  | 0, _ => .inl ⟨rfl, rfl⟩
  | i + 1, hi => by
    have ih := wid_take nd F a b kd i (by omega)
    obtain ⟨r, hr⟩ : ∃ r, rs[i]? = some r := ⟨_, List.getElem?_eq_getElem (by omega)⟩
    have hrm := List.mem_of_getElem? hr
    obtain ⟨r1, r2⟩ := F.lt r hrm
    have w1 := F.w1 r hrm
    have et : rs.take (i + 1) = rs.take i ++ [r] := by rw [List.take_add_one, hr]; rfl
    rw [widK_step hr]
    have ewn : wN nm (rs.take (i + 1)) a b kd = wN nm (rs.take i) a b kd + (if r.kd = kd ∧ ((nmA nm r.i = a ∧ nmA nm r.j = b) ∨ (nmA nm r.i = b ∧ nmA nm r.j = a)) then r.w.toNat else 0) := by rw [et, wN_snoc]
    by_cases c : r.kd = kd ∧ ((nmA nm r.i = a ∧ nmA nm r.j = b) ∨ (nmA nm r.i = b ∧ nmA nm r.j = a))
    · have old : wN nm (rs.take i) a b kd = 0 := by
        rcases ih with ⟨_, z⟩ | ⟨_, r', hr', c'⟩
        · exact z
        · obtain ⟨i', hi'⟩ := List.getElem?_of_mem hr'
          rw [List.getElem?_take] at hi'
          split at hi'
          · rename_i hlt
            have hrm' := List.mem_of_getElem? hi'
            obtain ⟨q1, q2⟩ := F.lt r' hrm'
            have same : r'.i = r.i ∧ r'.j = r.j := by
              have A := fun {x y : Nat} (hx : x < nm.length) (hy : y < nm.length) (e : nmA nm x = nmA nm y) => nmA_inj nd hx hy e
              rcases c.2 with ⟨z1, z2⟩ | ⟨z1, z2⟩ <;> rcases c'.2 with ⟨y1, y2⟩ | ⟨y1, y2⟩
              · exact ⟨A (by omega) (by omega) (y1.trans z1.symm), A q2 r2 (y2.trans z2.symm)⟩
              · have := A (by omega) r2 (y1.trans z2.symm)
                have := A q2 (by omega) (y2.trans z1.symm)
                omega
              · have := A (by omega) r2 (y1.trans z2.symm)
                have := A q2 (by omega) (y2.trans z1.symm)
                omega
              · exact ⟨A (by omega) (by omega) (y1.trans z1.symm), A q2 r2 (y2.trans z2.symm)⟩
            have key : (rs.map fun r => (r.i, r.j, r.kd))[i']? = (rs.map fun r => (r.i, r.j, r.kd))[i]? := by
              rw [List.getElem?_map, List.getElem?_map, hi', hr]
              show some (r'.i, r'.j, r'.kd) = some (r.i, r.j, r.kd)
              rw [same.1, same.2, c'.1, c.1]
            have := (List.getElem?_inj (by rw [List.length_map]; exact (List.getElem?_eq_some_iff.mp hi').1) F.nd).mp key
            omega
          · cases hi'
      right
      rw [ewn, old, if_pos c, Nat.zero_add]
      refine ⟨?_, r, by rw [et]; simp, c⟩
      have ew : ((r.w.toNat : Nat) : Int) = r.w := Int.toNat_of_nonneg (by omega)
      rw [ew]
      unfold widS
      rw [valV_put, valV_put]
      show (if ([Sum.inr a, Sum.inr b, Sum.inr kd] : List Key) = [Sum.inr (nmA nm r.j), Sum.inr (nmA nm r.i), Sum.inr r.kd] then _ else _) = _
      obtain ⟨c0, c1 | c1⟩ := c
      · by_cases e : ([Sum.inr a, Sum.inr b, Sum.inr kd] : List Key) = [Sum.inr (nmA nm r.j), Sum.inr (nmA nm r.i), Sum.inr r.kd]
        · rw [if_pos e]
        · rw [if_neg e, if_pos (by show ([Sum.inr a, Sum.inr b, Sum.inr kd] : List Key) = [Sum.inr (nmA nm r.i), Sum.inr (nmA nm r.j), Sum.inr r.kd]; rw [c1.1, c1.2, c0])]
      · rw [if_pos (by rw [c1.1, c1.2, c0])]
    · have ne1 : ¬ ([Sum.inr a, Sum.inr b, Sum.inr kd] : List Key) = [Sum.inr (nmA nm r.j), Sum.inr (nmA nm r.i), Sum.inr r.kd] := fun e => by
        simp only [List.cons.injEq, Sum.inr.injEq, and_true] at e
        exact c ⟨e.2.2.symm, .inr ⟨e.2.1.symm, e.1.symm⟩⟩
      have ne2 : ¬ ([Sum.inr a, Sum.inr b, Sum.inr kd] : List Key) = [Sum.inr (nmA nm r.i), Sum.inr (nmA nm r.j), Sum.inr r.kd] := fun e => by
        simp only [List.cons.injEq, Sum.inr.injEq, and_true] at e
        exact c ⟨e.2.2.symm, .inl ⟨e.1.symm, e.2.1.symm⟩⟩
      have ev : valV (widS nm (widK nm (rs.take i)) r) [Sum.inr a, Sum.inr b, Sum.inr kd] = valV (widK nm (rs.take i)) [Sum.inr a, Sum.inr b, Sum.inr kd] := by
        unfold widS
        rw [valV_put, valV_put]
        exact (if_neg ne1).trans (if_neg ne2)
      rw [ev, ewn, if_neg c, Nat.add_zero]
      rcases ih with z | ⟨z1, r', hr', c'⟩
      · exact .inl z
      · exact .inr ⟨z1, r', by rw [et]; exact List.mem_append_left _ hr', c'⟩
theorem wid_at {nm : List Str} (nd : nm.Nodup) {rs : List RowV} (F : RowsFit nm.length rs) (a b kd : Str) : (valV (widK nm rs) [Sum.inr a, Sum.inr b, Sum.inr kd]).getD (.int 0) = .int (wN nm rs a b kd : Nat) := by
  have h := wid_take nd F a b kd rs.length (Nat.le_refl _)
  rw [List.take_length] at h
  rcases h with ⟨e1, e2⟩ | ⟨e1, _⟩
  · rw [e1, e2]
    rfl
  · rw [e1]
    rfl
end Nm
set_option autoImplicit true
set_option maxRecDepth 100000
set_option maxHeartbeats 4000000
/-! ways, and the ways above them -/
namespace Nm
open PySem L2
/-- f, summed over a list -/
def S {α : Type} (l : List α) (f : α → Nat) : Nat := (l.map f).sum
section
variable {α β : Type}
theorem S_nil (f : α → Nat) : S [] f = 0 := rfl
theorem S_cons (a : α) (l : List α) (f : α → Nat) : S (a :: l) f = f a + S l f := rfl
theorem S_app (l m : List α) (f : α → Nat) : S (l ++ m) f = S l f + S m f := by unfold S; rw [List.map_append, List.sum_append]
theorem S_congr {l : List α} {f g : α → Nat} (h : ∀ a ∈ l, f a = g a) : S l f = S l g := by unfold S; congr 1; exact List.map_congr_left h
theorem S_map (l : List α) (g : α → β) (f : β → Nat) : S (l.map g) f = S l fun a => f (g a) := by unfold S; rw [List.map_map]; rfl
theorem S_flat : ∀ (l : List α) (g : α → List β) (f : β → Nat), S (l.flatMap g) f = S l fun a => S (g a) f
  | [], _, _ => rfl
  | a :: l, g, f => by rw [List.flatMap_cons, S_app, S_flat l g f]; rfl
theorem S_filter : ∀ (l : List α) (p : α → Bool) (f : α → Nat), S (l.filter p) f = S l fun a => if p a = true then f a else 0
  | [], _, _ => rfl
  | a :: l, p, f => by
    rw [List.filter_cons, S_cons, ← S_filter l p f]
    split
    · rfl
    · rw [Nat.zero_add]
theorem S_add (l : List α) (f g : α → Nat) : S l (fun a => f a + g a) = S l f + S l g := suma
theorem S_zero {l : List α} {f : α → Nat} (h : ∀ a ∈ l, f a = 0) : S l f = 0 := sumz h
theorem S_one [DecidableEq α] {l : List α} {f : α → Nat} {a : α} (nd : l.Nodup) (ha : a ∈ l) (h : ∀ u ∈ l, u ≠ a → f u = 0) : S l f = f a := sumo nd ha h
theorem S_swap : ∀ (l : List α) (m : List β) (F : α → β → Nat), S l (fun a => S m (F a)) = S m fun b => S l fun a => F a b
  | [], m, F => (S_zero fun _ _ => rfl).symm
  | a :: l, m, F => by rw [S_cons, S_swap l m F, ← S_add]; rfl
theorem S_mulL : ∀ (l : List α) (c : Nat) (f : α → Nat), S l (fun a => c * f a) = c * S l f
  | [], _, _ => rfl
  | a :: l, c, f => by rw [S_cons, S_mulL l c f, S_cons, Nat.mul_add]
theorem S_mulR (l : List α) (c : Nat) (f : α → Nat) : S l (fun a => f a * c) = S l f * c := by
  rw [Nat.mul_comm, ← S_mulL]
  exact S_congr fun a _ => Nat.mul_comm _ _
theorem S_le {l : List α} {f g : α → Nat} : (∀ a ∈ l, f a ≤ g a) → S l f ≤ S l g := by
  induction l with
  | nil => exact fun _ => Nat.le_refl _
  | cons a l ih =>
    intro h
    rw [S_cons, S_cons]
    exact Nat.add_le_add (h a List.mem_cons_self) (ih fun b hb => h b (List.mem_cons_of_mem _ hb))
theorem S_ones : ∀ l : List α, S l (fun _ => 1) = l.length
  | [] => rfl
  | a :: l => by rw [S_cons, S_ones l, List.length_cons, Nat.add_comm]
end
/-- steps of a way: kind, place -/
abbrev Steps := List (Str × Str)
def lastW (a : Str) (l : Steps) : Str := match l.getLast? with | some s => s.2 | none => a
theorem lastW_snoc (a : Str) (l : Steps) (s : Str × Str) : lastW a (l ++ [s]) = s.2 := by unfold lastW; rw [List.getLast?_concat]
def prodW (W : Str → Str → Str → Nat) : Str → Steps → Nat
  | _, [] => 1
  | a, s :: r => W a s.2 s.1 * prodW W s.2 r
theorem lastW_cons (a : Str) (s : Str × Str) (l : Steps) : lastW a (s :: l) = lastW s.2 l := by
  unfold lastW
  cases l with
  | nil => rfl
  | cons b l => rw [List.getLast?_cons_cons]; simp [List.getLast?_cons]
theorem prodW_snoc (W : Str → Str → Str → Nat) : ∀ (a : Str) (l : Steps) (s : Str × Str), prodW W a (l ++ [s]) = prodW W a l * W (lastW a l) s.2 s.1
  | a, [], s => by
    show W a s.2 s.1 * 1 = 1 * W a s.2 s.1
    rw [Nat.mul_one, Nat.one_mul]
  | a, b :: l, s => by
    show W a b.2 b.1 * prodW W b.2 (l ++ [s]) = W a b.2 b.1 * prodW W b.2 l * _
    rw [prodW_snoc W b.2 l s, lastW_cons, Nat.mul_assoc]
/-- a way that may stand -/
def WayOk (A : List Str) (W : Str → Str → Str → Nat) : Str → Steps → Prop
  | a, [] => a ∈ A
  | a, s :: r => a ∈ A ∧ 0 < W a s.2 s.1 ∧ WayOk A W s.2 r
theorem WayOk.head {A : List Str} {W : Str → Str → Str → Nat} : ∀ {a : Str} {l : Steps}, WayOk A W a l → a ∈ A
  | _, [], h => h
  | _, _ :: _, h => h.1
theorem WayOk.snoc {A : List Str} {W : Str → Str → Str → Nat} : ∀ {a : Str} {l : Steps} {s : Str × Str}, WayOk A W a l → s.2 ∈ A → 0 < W (lastW a l) s.2 s.1 → WayOk A W a (l ++ [s])
  | a, [], s, h, hs, w => ⟨h, w, hs⟩
  | a, b :: l, s, h, hs, w => ⟨h.1, h.2.1, h.2.2.snoc hs (by rw [lastW_cons] at w; exact w)⟩
theorem WayOk.last {A : List Str} {W : Str → Str → Str → Nat} : ∀ {a : Str} {l : Steps}, WayOk A W a l → lastW a l ∈ A
  | a, [], h => h
  | a, b :: l, h => by
    rw [lastW_cons]
    exact h.2.2.last
theorem WayOk.pos {A : List Str} {W : Str → Str → Str → Nat} : ∀ {a : Str} {l : Steps}, WayOk A W a l → 1 ≤ prodW W a l
  | a, [], h => Nat.le_refl _
  | a, b :: l, h => Nat.mul_le_mul h.2.1 h.2.2.pos
theorem prod_le {A : List Str} {W : Str → Str → Str → Nat} (h2 : ∀ a b k, W a b k ≤ 2) : ∀ (a : Str) (l : Steps), prodW W a l ≤ 2 ^ l.length
  | a, [] => Nat.le_refl _
  | a, b :: l => by
    show W a b.2 b.1 * prodW W b.2 l ≤ 2 ^ (l.length + 1)
    rw [Nat.pow_succ, Nat.mul_comm]
    exact Nat.mul_le_mul (prod_le (A := A) h2 b.2 l) (h2 a b.2 b.1)
/-- each step of the way -/
theorem WayOk.at {A : List Str} {W : Str → Str → Str → Nat} : ∀ {a : Str} {l : Steps} {i : Nat} {s : Str × Str}, WayOk A W a l → l[i]? = some s → s.2 ∈ A ∧ 0 < W (lastW a (l.take i)) s.2 s.1
  | a, b :: l, 0, s, h, e => by
    cases e
    exact ⟨h.2.2.head, h.2.1⟩
  | a, b :: l, i + 1, s, h, e => by
    have e : l[i]? = some s := e
    obtain ⟨h1, h2⟩ := h.2.2.at e
    refine ⟨h1, ?_⟩
    rw [List.take_succ_cons, lastW_cons]
    exact h2
/-- the ends above: over e, and tied -/
def endsU (A : List Str) (WA : Str → Str → Str → Nat) (f : Str → Str) (x : Str) (s : Str × Str) : List Str := (overL A f s.2).filter fun z => decide (0 < WA x z s.1)
def stepU (A : List Str) (WA : Str → Str → Str → Nat) (f : Str → Str) (x : Str) (us : List Steps) (s : Str × Str) : List Steps := us.flatMap fun u => (endsU A WA f (lastW x u) s).map fun z => u ++ [(s.1, z)]
def ups (A : List Str) (WA : Str → Str → Str → Nat) (f : Str → Str) (x : Str) (l : Steps) : List Steps := l.foldl (stepU A WA f x) [[]]
theorem ups_snoc (A : List Str) (WA : Str → Str → Str → Nat) (f : Str → Str) (x : Str) (l : Steps) (s : Str × Str) : ups A WA f x (l ++ [s]) = stepU A WA f x (ups A WA f x l) s := by
  unfold ups
  rw [List.foldl_append]
  rfl
@[elab_as_elim] theorem snoc_ind {α : Type} {P : List α → Prop} (h0 : P []) (hs : ∀ l a, P l → P (l ++ [a])) (l : List α) : P l := by
  have : ∀ n, P (l.take n) := fun n => by
    induction n with
    | zero => exact h0
    | succ n ih =>
      rw [List.take_add_one]
      cases e : l[n]? with
      | none => simpa using ih
      | some a => exact hs _ _ ih
  have h := this l.length
  rw [List.take_length] at h
  exact h
section
variable {A B C : List Str} {WA WB WC : Str → Str → Str → Nat} {f g : Str → Str}
theorem mem_ends {x z : Str} {s : Str × Str} : z ∈ endsU A WA f x s ↔ z ∈ A ∧ f z = s.2 ∧ 0 < WA x z s.1 := by
  unfold endsU overL
  rw [List.mem_filter, List.mem_filter, decide_eq_true_eq, decide_eq_true_eq, and_assoc]
/-- what lies above a way -/
theorem ups_ok {x : Str} (hx : x ∈ A) : ∀ l : Steps, ∀ u ∈ ups A WA f x l, WayOk A WA x u ∧ f (lastW x u) = lastW (f x) l ∧ u.length = l.length ∧ u.map (·.1) = l.map (·.1) ∧ u.map (fun s => f s.2) = l.map (·.2) := by
  intro l
  induction l using snoc_ind with
  | h0 =>
    intro u hu
    rw [List.mem_singleton.mp hu]
    exact ⟨hx, rfl, rfl, rfl, rfl⟩
  | hs l s ih =>
    intro u hu
    rw [ups_snoc] at hu
    obtain ⟨v, hv, hu⟩ := List.mem_flatMap.mp hu
    obtain ⟨z, hz, rfl⟩ := List.mem_map.mp hu
    obtain ⟨a1, a2, a3⟩ := mem_ends.mp hz
    obtain ⟨b1, b2, b3, b4, b5⟩ := ih v hv
    refine ⟨b1.snoc a1 a3, ?_, ?_, ?_, ?_⟩
    · rw [lastW_snoc, lastW_snoc]
      exact a2
    · rw [List.length_append, List.length_append, b3]
      rfl
    · rw [List.map_append, List.map_append, b4]
      rfl
    · rw [List.map_append, List.map_append, b5]
      show _ ++ [f z] = _ ++ [s.2]
      rw [a2]
theorem S_ends (x : Str) (s : Str × Str) (φ : Str → Nat) : S (endsU A WA f x s) φ = S A fun z => if f z = s.2 ∧ 0 < WA x z s.1 then φ z else 0 := by
  unfold endsU overL
  rw [S_filter, S_filter]
  refine S_congr fun z _ => ?_
  by_cases c1 : f z = s.2 <;> by_cases c2 : 0 < WA x z s.1 <;> simp [c1, c2]
/-- the products over a way come to its own -/
theorem ups_prod (Cv : Cvr A WA B WB f) (ndB : B.Nodup) {x : Str} (hx : x ∈ A) : ∀ l : Steps, (∀ s ∈ l, s.2 ∈ B) → S (ups A WA f x l) (prodW WA x) = prodW WB (f x) l := by
  intro l
  induction l using snoc_ind with
  | h0 => exact fun _ => rfl
  | hs l s ih =>
  intro hl
  have ih := ih fun s' h' => hl s' (List.mem_append_left _ h')
  rw [ups_snoc, prodW_snoc, ← ih, ← S_mulR]
  unfold stepU
  rw [S_flat]
  refine S_congr fun u hu => ?_
  obtain ⟨u1, u2, _⟩ := ups_ok hx l u hu
  rw [S_map, S_ends]
  have e : S A (fun z => if f z = s.2 ∧ 0 < WA (lastW x u) z s.1 then prodW WA x (u ++ [(s.1, z)]) else 0) = S A fun z => prodW WA x u * ((if f z = s.2 then 1 else 0) * WA (lastW x u) z s.1) := by
    refine S_congr fun z _ => ?_
    rw [prodW_snoc]
    by_cases c1 : f z = s.2
    · by_cases c2 : 0 < WA (lastW x u) z s.1
      · rw [if_pos ⟨c1, c2⟩, if_pos c1, Nat.one_mul]
      · have c2 : WA (lastW x u) z s.1 = 0 := by omega
        rw [if_neg (fun z => by omega), c2, Nat.mul_zero, Nat.mul_zero]
    · rw [if_neg (fun z => c1 z.1), if_neg c1, Nat.zero_mul, Nat.mul_zero]
  rw [e, S_mulL]
  congr 1
  have k := Cv.sum _ u1.last (fun y => if y = s.2 then 1 else 0) s.1
  refine Eq.trans k ?_
  rw [sumo (a := s.2) ndB (hl s (by simp)) fun y _ hne => by rw [if_neg hne, Nat.zero_mul], if_pos rfl, Nat.one_mul, u2]
/-- so many ways as the products allow -/
theorem ups_len (Cv : Cvr A WA B WB f) (ndB : B.Nodup) {x : Str} (hx : x ∈ A) (l : Steps) (hl : ∀ s ∈ l, s.2 ∈ B) : (ups A WA f x l).length ≤ prodW WB (f x) l := by
  rw [← ups_prod Cv ndB hx l hl, ← S_ones]
  exact S_le fun u hu => (ups_ok hx l u hu).1.pos
theorem ups_take_len (Cv : Cvr A WA B WB f) (ndB : B.Nodup) (h2 : ∀ a b k, WB a b k ≤ 2) {x : Str} (hx : x ∈ A) (l : Steps) (hl : ∀ s ∈ l, s.2 ∈ B) (n : Nat) (hn : l.length ≤ n) : (ups A WA f x l).length ≤ 2 ^ n :=
  Nat.le_trans (ups_len Cv ndB hx l hl) (Nat.le_trans (prod_le (A := A) h2 _ _) (Nat.pow_le_pow_right (by decide) hn))
/-- a tie above is a tie below -/
theorem Cvr.pos (Cv : Cvr A WA B WB f) (ndB : B.Nodup) {x z : Str} {k : Str} (hx : x ∈ A) (hz : z ∈ A) (h : 0 < WA x z k) : 0 < WB (f x) (f z) k := by
  have e := Cv.sum x hx (fun y => if y = f z then 1 else 0) k
  rw [sumo (l := B) (a := f z) ndB (Cv.to z hz) fun y _ hne => by rw [if_neg hne, Nat.zero_mul]] at e
  rw [if_pos rfl, Nat.one_mul] at e
  rw [← e]
  have le : ∀ (l : List Str), z ∈ l → WA x z k ≤ (l.map fun z' => (if f z' = f z then 1 else 0) * WA x z' k).sum := fun l => by
    induction l with
    | nil => exact fun h => by cases h
    | cons a l ih =>
      intro hm
      rw [List.map_cons, List.sum_cons]
      rcases List.mem_cons.mp hm with rfl | h'
      · rw [if_pos rfl, Nat.one_mul]
        omega
      · have := ih h'
        omega
  exact Nat.lt_of_lt_of_le h (le A hz)
/-- one covering behind another: the ways above, counted by the ways between -/
theorem ups_two (Cv : Cvr C WC B WB f) (ndB : B.Nodup) {g : Str → Str} {x : Str} (hx : x ∈ C) : ∀ (l : Steps) (φ : Str → Nat), S (ups C WC (g ∘ f) x l) (fun u => φ (lastW x u)) = S (ups B WB g (f x) l) fun v => S (ups C WC f x v) fun u => φ (lastW x u) := by
  intro l
  induction l using snoc_ind with
  | h0 =>
    intro φ
    show S [[]] _ = S [[]] fun v => S (ups C WC f x v) _
    rfl
  | hs l s ih =>
    intro φ
    rw [ups_snoc, ups_snoc]
    unfold stepU
    rw [S_flat, S_flat]
    have e1 : S (ups C WC (g ∘ f) x l) (fun u => S ((endsU C WC (g ∘ f) (lastW x u) s).map fun z => u ++ [(s.1, z)]) fun u => φ (lastW x u)) = S (ups C WC (g ∘ f) x l) fun u => (fun y => S (endsU C WC (g ∘ f) y s) φ) (lastW x u) :=
      S_congr fun u _ => by
        rw [S_map]
        exact S_congr fun z _ => by rw [lastW_snoc]
    rw [e1, ih fun y => S (endsU C WC (g ∘ f) y s) φ]
    refine S_congr fun v hv => ?_
    obtain ⟨v1, v2, _⟩ := ups_ok (Cv.to x hx) l v hv
    rw [S_map]
    have e2 : S (endsU B WB g (lastW (f x) v) s) (fun y => S (ups C WC f x (v ++ [(s.1, y)])) fun u => φ (lastW x u)) = S (endsU B WB g (lastW (f x) v) s) fun y => S (ups C WC f x v) fun u => S (endsU C WC f (lastW x u) (s.1, y)) φ :=
      S_congr fun y _ => by
        rw [ups_snoc]
        unfold stepU
        rw [S_flat]
        refine S_congr fun u _ => ?_
        rw [S_map]
        exact S_congr fun z _ => by rw [lastW_snoc]
    rw [e2, S_swap]
    refine S_congr fun u hu => ?_
    obtain ⟨u1, u2, _⟩ := ups_ok hx v u hu
    show S (endsU C WC (g ∘ f) (lastW x u) s) φ = _
    rw [S_ends, S_ends]
    have e3 : (S B fun y => if g y = s.2 ∧ 0 < WB (lastW (f x) v) y s.1 then S (endsU C WC f (lastW x u) (s.1, y)) φ else 0) = S B fun y => S C fun z => if g y = s.2 ∧ 0 < WB (lastW (f x) v) y s.1 then (if f z = y ∧ 0 < WC (lastW x u) z s.1 then φ z else 0) else 0 :=
      S_congr fun y _ => by
        by_cases c : g y = s.2 ∧ 0 < WB (lastW (f x) v) y s.1
        · rw [if_pos c, S_ends]
          exact S_congr fun z _ => by rw [if_pos c]
        · rw [if_neg c]
          exact (S_zero fun z _ => by rw [if_neg c]).symm
    rw [e3, S_swap]
    refine S_congr fun z hz => ?_
    rw [S_one (a := f z) ndB (Cv.to z hz) fun y _ hne => by
      rw [if_neg (c := f z = y ∧ 0 < WC (lastW x u) z s.1) fun h => hne h.1.symm]
      split <;> rfl]
    by_cases c2 : 0 < WC (lastW x u) z s.1
    · have c3 : 0 < WB (lastW (f x) v) (f z) s.1 := by
        rw [← u2]
        exact Cv.pos ndB u1.last hz c2
      by_cases c1 : g (f z) = s.2
      · rw [if_pos ⟨c1, c2⟩, if_pos ⟨c1, c3⟩, if_pos ⟨rfl, c2⟩]
      · rw [if_neg fun h => c1 h.1, if_neg fun h => c1 h.1]
    · rw [if_neg fun h => c2 h.2, if_neg (c := f z = f z ∧ 0 < WC (lastW x u) z s.1) fun h => c2 h.2]
      split <;> rfl
theorem ups_count (Cv : Cvr C WC B WB f) (ndB : B.Nodup) {g : Str → Str} {x : Str} (hx : x ∈ C) (l : Steps) : S (ups B WB g (f x) l) (fun v => (ups C WC f x v).length) = (ups C WC (g ∘ f) x l).length := by
  rw [← S_ones (ups C WC (g ∘ f) x l), ups_two Cv ndB hx l fun _ => 1]
  exact S_congr fun v _ => (S_ones _).symm
end
end Nm
set_option autoImplicit false
set_option maxRecDepth 100000
set_option maxHeartbeats 4000000
/-! != of two dicts by tuples that tell the same -/
namespace Nm
open PySem PySem.Spec PyProof.Rows L2 PySem.Calls PyProof.V
section
variable {prog : Program} {w : World} {K : Type} [DecidableEq K] {knd : HeapKind prog w K} {A : Around} {E : Value → Shared → Prop} {s : Shared}
theorem keqH_samePairs {nm : String} {a b : Addr} {xs ys : List (K × Addr × Value)} {Q : Bool → Shared → Prop} (ha : (a == sysModules) = false) (hb : (b == sysModules) = false) (hu : knd.room A)
    (da : s.heap.DictOfH knd a xs) (db : s.heap.DictOfH knd b ys) (len : xs.length = ys.length) (hits : ∀ x ∈ xs, ∃ p, atKey ys x.1 = some p ∧ SeqAt.EqAt A s x.2.2 p.2 true) (h : Q true s) :
    wpAny (model prog w) A (Builtin.Dict.samePairs nm a b) Q E s := by
  obtain ⟨oa, es, ep, hoa, _, hda, hea, hisa, hna⟩ := da
  obtain ⟨ob, es', ep', hob, _, hdb, heb, hisb, hnb⟩ := db
  have hla : es.size = xs.length := size_of_entries hea
  have hlb : es'.size = ys.length := size_of_entries heb
  unfold Builtin.Dict.samePairs Builtin.Dict.showsAll
  rw [if_neg (show ¬ (a == sysModules) = true by rw [ha]; exact Bool.false_ne_true), if_neg (show ¬ (b == sysModules) = true by rw [hb]; exact Bool.false_ne_true)]
  refine wpAny_bind (wpAny_pure (wpAny_bind (wpAny_pure ?_)))
  refine wpAny_bind (wpAny_dictEntries hoa hda ?_)
  dsimp only
  refine wpAny_bind (wpAny_dictEntries hob hdb ?_)
  have hsz : es.size = es'.size := by omega
  rw [if_neg (by rw [hsz]; simp)]
  refine wpAny_bind (wpAny_dictEpoch hoa hda ?_)
  refine wpAny_bind ?_
  rw [Std.Legacy.Range.forIn_eq_forIn_range']
  simp only [Std.Legacy.Range.size, Nat.sub_zero, Nat.add_sub_cancel, Nat.div_one]
  refine wpAny_forIn_list _
    (fun rest q s' => s' = s ∧ q = (none, ()) ∧ ∃ i, rest = List.range' i (es.size - i) ∧ i ≤ es.size)
    _ ?_ ?_ _ _ ⟨rfl, rfl, 0, by simp, Nat.zero_le _⟩
  · rintro x rest q s' ⟨rfl, rfl, i, hr, hi⟩
    have hlt : i < es.size := by
      rcases Nat.lt_or_ge i es.size with h | h
      · exact h
      · rw [Nat.sub_eq_zero_of_le h] at hr; simp at hr
    obtain ⟨rfl, hrest⟩ : x = i ∧ rest = List.range' (i + 1) (es.size - (i + 1)) := by
      have e : es.size - i = (es.size - (i + 1)) + 1 := by omega
      rw [e, List.range'_succ] at hr
      injection hr with h1 h2
      exact ⟨h1, h2⟩
    obtain ⟨z, hz⟩ : ∃ z, xs[x]? = some z := ⟨_, List.getElem?_eq_getElem (by omega)⟩
    have hent : es[x]? = some (entryOfKey knd z) := by rw [entry_at hea x, hz]; rfl
    have hzm : z ∈ xs := List.mem_of_getElem? hz
    obtain ⟨p, hp, eq⟩ := hits z hzm
    refine wpAny_bind (wpAny_dictEntries hoa hda ?_)
    rw [hent]
    show wpAny _ _ (holding [(entryOfKey knd z).key, (entryOfKey knd z).val] _ >>= _) _ _ _
    refine wpAny_bind (wpAny_holding (wpAny_bind (wpAny_dictFind_heap (k := z.1) (a := z.2.1) hu (hisa z hzm) hob hdb heb hisb hnb ?_ ?_)))
    · intro hno
      rw [atKey_none_of_get hno] at hp
      exact nomatch hp
    · intro j q hj
      have hj' := atKey_of_get hnb hj
      rw [hp] at hj'
      obtain rfl : p = q := Option.some.inj hj'
      have hent' : es'[j]? = some (entryOfKey knd (z.1, p)) := by rw [entry_at heb j, hj]; rfl
      refine wpAny_bind (wpAny_dictEntries hob hdb ?_)
      rw [hent']
      refine wpAny_holding (eq prog w _ _ ?_)
      show wpAny _ _ (if (!true) = true then _ else _) _ _ _
      rw [if_neg (by decide)]
      refine wpAny_bind (wpAny_dictEpoch hoa hda ?_)
      rw [if_neg (by simp)]
      exact wpAny_pure ⟨rfl, rfl, x + 1, hrest, hlt⟩
  · rintro q s' ⟨rfl, rfl, i, hr, hi⟩
    exact wpAny_pure h
theorem keqH_ne {a b : Addr} {xs ys : List (K × Addr × Value)} {Q : Value → Shared → Prop} (ha : (a == sysModules) = false) (hb : (b == sysModules) = false) (hu : A.units < cLine) (hk : knd.room A.in1)
    (da : s.heap.DictOfH knd a xs) (db : s.heap.DictOfH knd b ys) (len : xs.length = ys.length) (hits : ∀ x ∈ xs, ∃ p, atKey ys x.1 = some p ∧ SeqAt.EqAt A.in1 s x.2.2 p.2 true) (h : Q (.bool false) s) :
    wpAny (model prog w) A (compareOp .NotEq (.ref a) (.ref b)) Q E s := by
  refine wpAny_richCompare_same_room (op := .NotEq) da.typeIs db.typeIs PySem.F.slot_dict_ne (wpAny_call_entry PySem.F.slot_dict_ne da.typeIs PySem.F.entry_dict_ne ?_ (PySem.F.args_dict_ne_2 _ _)) hu
  show wpAny _ _ (Builtin.Dict.dictSlotArgs "__ne__" ⟨[.ref a, .ref b], []⟩ >>= _) _ _ s
  refine wpAny_bind ?_
  unfold Builtin.Dict.dictSlotArgs
  refine wpAny_bind (wpAny_notOrdered_dict da.typeIs ?_)
  show wpAny _ _ (pure (Value.ref a, Value.ref b)) _ _ s
  refine wpAny_pure ?_
  refine wpAny_bind (wpAny_isInstance (T := "dict") db.typeIs PySem.F.sub_dict_dict ?_)
  simp only [Bool.not_true, Bool.false_eq_true, if_false]
  refine wpAny_bind (wpAny_pure (wpAny_bind (wpAny_pure ?_)))
  refine wpAny_bind (keqH_samePairs ha hb hk da db len hits ?_)
  refine wpAny_pure ⟨_, rfl, ?_, ?_⟩
  · exact fun x => nomatch x
  · simpa using h
end
section
variable {X : Cx}
theorem KT.hits {H : Hp} {A : Around} {s : Shared} {ls : List (List Key × V)} {ys : List (List Key × Addr × Value)} (rb : KT H ls ys) : ∀ {ks : List (List Key × V)} {xs : List (List Key × Addr × Value)}, KT H ks xs →
    (∀ p ∈ ks, valV ls p.1 = some p.2 ∧ flatB p.2 = true) → ∀ x ∈ xs, ∃ p, atKey ys x.1 = some p ∧ SeqAt.EqAt A s x.2.2 p.2 true := by
  intro ks xs ra
  induction ra with
  | nil => exact fun _ x h => nomatch h
  | @cons p q ps qs h t ih =>
    intro hp x hx
    rcases List.mem_cons.mp hx with e | hx
    · subst e
      obtain ⟨h1, h2, h3⟩ := h
      obtain ⟨e, f⟩ := hp p List.mem_cons_self
      have rr := rb.val p.1
      rw [e, h1] at rr
      obtain ⟨y, hy, ry⟩ := rr.some_of
      obtain ⟨z, hz, rfl⟩ := Option.map_eq_some_iff.mp hy
      exact ⟨z, hz, eqAt_same h3 ry f⟩
    · exact ih (fun p' m => hp p' (List.mem_cons_of_mem _ m)) x hx
def rNeTA : R2 := fun x y H Q => ∃ a b ks ls, x = .ref a ∧ y = .ref b ∧ H a = some (.dT ks) ∧ H b = some (.dT ls) ∧ ks.length = ls.length ∧ (∀ p ∈ ks, valV ls p.1 = some p.2 ∧ flatB p.2 = true) ∧ Q (.bl false) H
theorem op_neTA (hu : X.A.units + 1 < cLine) : OpR X (compareOp .NotEq) rNeTA := by
  intro pins s σ H x y v u Q I rx ry h
  obtain ⟨a, b, ks, ls, rfl, rfl, ea, eb, hlen, hp, q⟩ := h
  obtain rfl : v = Value.ref a := rx
  obtain rfl : u = Value.ref b := ry
  obtain ⟨_, ya, xa, ra, da⟩ := dt_of I.hok ea
  obtain ⟨_, yb, xb, rb, db⟩ := dt_of I.hok eb
  exact keqH_ne (knd := tupleKind (mixKind X.prog X.w)) ya yb (by omega) (show X.A.units + 1 < cLine from hu) da db (by rw [← ra.length, ← rb.length]; exact hlen) (KT.hits rb ra hp) (fin_bl I q rfl)
end
end Nm
set_option autoImplicit false
set_option maxRecDepth 100000
set_option maxHeartbeats 4000000
/-! the widths of a place by (end, kind): what the dict of widths_by_end tells -/
namespace Nm
open PySem PySem.Spec PyProof.Rows L2
theorem nodup_len {α : Type} [DecidableEq α] : ∀ {l m : List α}, l.Nodup → (∀ x ∈ l, x ∈ m) → l.length ≤ m.length
  | [], _, _, _ => Nat.zero_le _
  | a :: l, m, nd, h => by
    obtain ⟨h1, h2⟩ := List.nodup_cons.mp nd
    have ha := h a List.mem_cons_self
    have i := nodup_len (l := l) (m := m.erase a) h2 fun x hx => (List.mem_erase_of_ne (fun e : x = a => h1 (by rw [← e]; exact hx))).mpr (h x (List.mem_cons_of_mem _ hx))
    rw [List.length_erase_of_mem ha] at i
    have := List.length_pos_of_mem ha
    rw [List.length_cons]
    omega
structure WdT (kvs : List (List Key × V)) (g : Str → Str → Nat) : Prop where
  nd : (kvs.map (·.1)).Nodup
  sh : ∀ p ∈ kvs, ∃ (e k : Str) (n : Nat), p = ([Sum.inr e, Sum.inr k], V.int (n : Int))
  at_ : ∀ e k, valV kvs [Sum.inr e, Sum.inr k] = if g e k = 0 then none else some (.int (g e k : Nat))
theorem WdT.nil : WdT [] fun _ _ => 0 := ⟨List.nodup_nil, fun _ h => (List.not_mem_nil h).elim, fun _ _ => rfl⟩
theorem WdT.congr {kvs : List (List Key × V)} {g g' : Str → Str → Nat} (t : WdT kvs g) (h : ∀ e k, g e k = g' e k) : WdT kvs g' := ⟨t.nd, t.sh, fun e k => by rw [← h]; exact t.at_ e k⟩
theorem WdT.get {kvs : List (List Key × V)} {g : Str → Str → Nat} (t : WdT kvs g) (e k : Str) : (valV kvs [Sum.inr e, Sum.inr k]).getD (.int 0) = .int (g e k : Nat) := by
  rw [t.at_]
  split
  · rename_i h
    rw [h]
    rfl
  · rfl
def addW (g : Str → Str → Nat) (e k : Str) (w : Nat) : Str → Str → Nat := fun e' k' => g e' k' + if e' = e ∧ k' = k then w else 0
theorem WdT.put {kvs : List (List Key × V)} {g : Str → Str → Nat} (t : WdT kvs g) (e k : Str) {w : Nat} (hw : 1 ≤ w) : WdT (putK kvs [Sum.inr e, Sum.inr k] (.int ((g e k + w : Nat) : Int))) (addW g e k w) := by
  refine ⟨nodup_put _ _ t.nd, fun p hp => ?_, fun e' k' => ?_⟩
  · rcases mem_put hp with h | ⟨h, _⟩
    · exact ⟨e, k, g e k + w, h⟩
    · exact t.sh p h
  · rw [valV_put]
    unfold addW
    by_cases c : e' = e ∧ k' = k
    · obtain ⟨rfl, rfl⟩ := c
      rw [if_pos rfl, if_pos (show e' = e' ∧ k' = k' from ⟨rfl, rfl⟩), if_neg (by omega)]
    · rw [if_neg c, if_neg fun h => c (by simpa using h), Nat.add_zero]
      exact t.at_ e' k'
theorem WdT.same {ks ls : List (List Key × V)} {g : Str → Str → Nat} (a : WdT ks g) (b : WdT ls g) : ∀ p ∈ ks, valV ls p.1 = some p.2 ∧ flatB p.2 = true := fun p hp => by
  obtain ⟨e, k, n, rfl⟩ := a.sh p hp
  have h := val_of_mem a.nd hp
  refine ⟨?_, rfl⟩
  rw [a.at_] at h
  rw [b.at_]
  exact h
theorem WdT.le {ks ls : List (List Key × V)} {g : Str → Str → Nat} (a : WdT ks g) (b : WdT ls g) : ks.length ≤ ls.length := by
  have := nodup_len (l := ks.map (·.1)) (m := ls.map (·.1)) a.nd fun x hx => by
    obtain ⟨p, hp, rfl⟩ := List.mem_map.mp hx
    exact List.mem_map.mpr ⟨_, mem_of_val (a.same b p hp).1, rfl⟩
  rw [List.length_map, List.length_map] at this
  exact this
theorem WdT.eq {ks ls : List (List Key × V)} {g : Str → Str → Nat} (a : WdT ks g) (b : WdT ls g) : ks.length = ls.length ∧ ∀ p ∈ ks, valV ls p.1 = some p.2 ∧ flatB p.2 = true := ⟨Nat.le_antisymm (a.le b) (b.le a), a.same b⟩
/-- how wide the place x hangs on the end e by kind k -/
def gW (nm : List Str) (rs : List RowV) (f : Str → Str) (x e k : Str) : Nat := SN nm (fun z => if f z = e then 1 else 0) x k rs
theorem SN_snoc (nm : List Str) (h : Str → Nat) (x kd : Str) (rs : List RowV) (r : RowV) : SN nm h x kd (rs ++ [r]) = SN nm h x kd rs + r.w.toNat * tieN nm h x kd r := by
  unfold SN
  rw [List.map_append, List.sum_append]
  simp
section
variable {nm : List Str} {rs : List RowV} {f : Str → Str} {r : RowV} {y : Str}
theorem gW_one (h1 : nmA nm r.i = y) (h2 : nmA nm r.j ≠ y) (e k : Str) : addW (gW nm rs f y) (f (nmA nm r.j)) r.kd r.w.toNat e k = gW nm (rs ++ [r]) f y e k := by
  unfold addW gW
  rw [SN_snoc]
  unfold tieN
  dsimp only
  rw [if_pos h1, if_neg h2, Nat.add_zero]
  by_cases c : r.kd = k
  · by_cases d : f (nmA nm r.j) = e
    · rw [if_pos ⟨d.symm, c.symm⟩, if_pos c, if_pos d, Nat.mul_one]
    · rw [if_neg fun z => d z.1.symm, if_pos c, if_neg d, Nat.mul_zero]
  · rw [if_neg fun z => c z.2.symm, if_neg c, Nat.mul_zero]
theorem gW_two (h1 : nmA nm r.i ≠ y) (h2 : nmA nm r.j = y) (e k : Str) : addW (gW nm rs f y) (f (nmA nm r.i)) r.kd r.w.toNat e k = gW nm (rs ++ [r]) f y e k := by
  unfold addW gW
  rw [SN_snoc]
  unfold tieN
  dsimp only
  rw [if_neg h1, if_pos h2, Nat.zero_add]
  by_cases c : r.kd = k
  · by_cases d : f (nmA nm r.i) = e
    · rw [if_pos ⟨d.symm, c.symm⟩, if_pos c, if_pos d, Nat.mul_one]
    · rw [if_neg fun z => d z.1.symm, if_pos c, if_neg d, Nat.mul_zero]
  · rw [if_neg fun z => c z.2.symm, if_neg c, Nat.mul_zero]
theorem gW_no (h1 : nmA nm r.i ≠ y) (h2 : nmA nm r.j ≠ y) (e k : Str) : gW nm rs f y e k = gW nm (rs ++ [r]) f y e k := by
  unfold gW
  rw [SN_snoc]
  unfold tieN
  rw [if_neg h1, if_neg h2]
  split <;> rfl
theorem gW_nil (e k : Str) : gW nm [] f y e k = 0 := rfl
end
theorem gW_cvr {A B : List Str} {rA rB : List RowV} {f : Str → Str} (ndA : A.Nodup) (ndB : B.Nodup) (FA : RowsFit A.length rA) (FB : RowsFit B.length rB) (C : Cvr A (wN A rA) B (wN B rB) f) {x : Str} (hx : x ∈ A) (e k : Str) : gW A rA f x e k = gW B rB id (f x) e k := by
  have h := C.sum x hx (fun z => if z = e then 1 else 0) k
  rw [sN_eq (h := fun z => if f z = e then 1 else 0) ndA FA.lt, sN_eq ndB FB.lt] at h
  exact h
end Nm
set_option autoImplicit true
set_option maxRecDepth 100000
set_option maxHeartbeats 4000000
/-! a web by its names and widths; Web.width -/
namespace Nm
open PySem L2
/-- a web stands at p: its places, its widths -/
structure Net (C : Addr) (H : Hp) (p : Addr) (nm : List Str) (W : Str → Str → Str → Nat) : Prop where
  ex : ∃ (q dc r wd : Addr) (cl : List Str) (rs : List RowV), WebX C H p q dc r wd nm cl rs ∧ nm.length ≤ cl.length ∧ RowsFit nm.length rs ∧ W = wN nm rs
  nd : nm.Nodup
  le : nm.length ≤ 240
  two : ∀ a b k, W a b k ≤ 1000000
theorem Net.same {C : Addr} {H H' : Hp} {p : Addr} {nm : List Str} {W : Str → Str → Str → Nat} (h : Net C H p nm W) (s : Same H H') : Net C H' p nm W := by
  obtain ⟨⟨q, dc, r, wd, cl, rs, h1, h2, h3, h4⟩, nd, le, two⟩ := h
  exact ⟨⟨q, dc, r, wd, cl, rs, h1.same s, h2, h3, h4⟩, nd, le, two⟩
theorem Net.ins {C : Addr} {H : Hp} {p : Addr} {nm : List Str} {W : Str → Str → Str → Nat} (h : Net C H p nm W) : ∃ dx q dc r wd, H p = some (.ins C dx (webF dc q r wd)) := by
  obtain ⟨⟨q, dc, r, wd, cl, rs, h1, _⟩, _⟩ := h
  obtain ⟨dx, e⟩ := h1.hp
  exact ⟨dx, _, _, _, _, e⟩
section
variable {P : Program} {w : World} {K : PySem.W.Frag} {mg : Str → Option Value} {base : Heap}
/-- what Web.__contains__ tells of a name that is there -/
theorem Net.has {C : Addr} {H : Hp} {p : Addr} {nm : List Str} {W : Str → Str → Str → Nat} (h : Net C H p nm W) {z : Str} (hz : z ∈ nm) {Q : VK} {E : XK} (k : Q (.bl true) H) : spHas C [.ref p, .str z] H Q E := by
  obtain ⟨⟨q, dc, r, wd, cl, rs, h1, h2, _⟩, _⟩ := h
  exact ⟨p, q, dc, r, wd, nm, cl, rs, z, rfl, h1, h2, by rw [decide_eq_true hz]; exact k⟩
theorem Net.places {C : Addr} {H : Hp} {p : Addr} {nm : List Str} {W : Str → Str → Str → Nat} (h : Net C H p nm W) {Q : VK} {E : XK} (k : ∀ (l : Addr) (H' : Hp), H l = none → H' l = some (.lst (nm.map V.str)) → Same H H' → Q (.ref l) H') : spPlaces C [.ref p] H Q E := by
  obtain ⟨⟨q, dc, r, wd, cl, rs, h1, h2, _⟩, _, le, _⟩ := h
  exact ⟨p, q, dc, r, wd, nm, cl, rs, rfl, h1, by omega, k⟩
def spWidth (C : Addr) : Sp := fun vs H Q _ => ∃ (p : Addr) (nm : List Str) (W : Str → Str → Str → Nat) (a b kd : Str), vs = [.ref p, .str a, .str b, .str kd] ∧ Net C H p nm W ∧ a ∈ nm ∧ b ∈ nm ∧ ∀ u : Addr, H u = none → Q (.int (W a b kd : Nat)) (upd H u (.tup [.str a, .str b, .str kd]))
theorem scWidth : FnScope ["self", "one", "other", "kind"] ["self", "one", "other", "kind"] (defScope sWebWidth) := ⟨rfl, rfl, rfl, by decide +kernel, rfl, by decide +kernel, by decide +kernel⟩
theorem ok_width {f C : Addr} {fd : FuncData} (F : Fun K "width" "Web.width" sWebWidth f fd) (T : TxtW K mg C) (Gh : MethD P w K mg base C "__contains__" ["self", "name"] 1 (spHas C)) : FnOk P w K mg base CX0 2 f fd ["self", "one", "other", "kind"] (spWidth C) := by
  obtain ⟨fh, fdh, Gh, mh, bh⟩ := Gh.ex
  refine F.ok scWidth (fun vs H Q E h => ?_) (fun cdv A outer s H vs Q E hr h => ?_)
  · obtain ⟨_, _, _, _, _, _, rfl, _⟩ := h
    rfl
  · obtain ⟨p, nm, W, a, b, kd, rfl, N, ha, hb, k⟩ := h
    have hu := hu_of hr
    refine ⟨_, pss_cons (ps_if (pt_cmpR (op_notInOwn Gh mh (hr.mono (by decide)) bh pass0 spHas_mono) (pv 1) (pv 0) (by rfl)) pss_nope pss_nil)
      (pss_cons (ps_if (pt_cmpR (op_notInOwn Gh mh (hr.mono (by decide)) bh pass0 spHas_mono) (pv 2) (pv 0) (by rfl)) pss_nope pss_nil)
      (pss_cons (ps_if (pt_not (pt_val (pe_callB call_isi (by rfl) T.isinstance (by decide +kernel) (pa_cons (pv 3) (pa_cons (pe_bltn (v := .ty "str") (by rfl) T.str (by decide +kernel) rfl) pa_nil))))) (pss_one (ps_ret pe_int)) pss_nil)
      (pss_one (ps_ret (pe_dget2 hu (pe_fld (pv 0) rfl) (pe_tup (pa_cons (pv 1) (pa_cons (pv 2) (pa_cons (pv 3) pa_nil)))) pe_int ⟨rfl, rfl, rfl, rfl⟩))))), ?_⟩
    obtain ⟨dx, _, _, _, _, hp⟩ := N.ins
    refine ⟨_, rfl, _, rfl, p, dx, _, rfl, hp, N.has ha ⟨true, rfl, _, rfl, iteF ?_⟩⟩
    refine ⟨_, rfl, _, rfl, p, dx, _, rfl, hp, N.has hb ⟨true, rfl, _, rfl, iteF ?_⟩⟩
    refine ⟨_, rfl, _, _, _, _, true, rfl, ClsV.ty "str", TyX.base (TyOf.str kd), kit_ty (by decide +kernel), _, rfl, iteF ?_⟩
    obtain ⟨⟨q, dc, r, wd, cl, rs, WX, hc, FT, rfl⟩, nd, _, _⟩ := id N
    obtain ⟨dx2, hp2⟩ := WX.hp
    refine ⟨_, rfl, p, C, dx2, _, _, rfl, hp2, T.cl, T.nWi, rfl, wd, rfl, .inr ⟨_, .inl WX.hwd⟩, _, rfl, _, rfl, _, rfl, (by show 3 ≤ sizeLine; decide), fun u hu0 => ?_⟩
    have su := same_new (o := .tup [V.str a, V.str b, V.str kd]) hu0
    refine ⟨_, DGet.t (k := [Sum.inr a, Sum.inr b, Sum.inr kd]) (su _ _ WX.hwd) upd_same, ?_⟩
    rw [wid_at nd FT a b kd]
    exact k u hu0
end
end Nm
set_option autoImplicit true
set_option maxRecDepth 100000
set_option maxHeartbeats 4000000
namespace Nm
open PySem L2
theorem tNil_in {σ : L2.St} {H : Hp} {k : List V → Hp → Prop} (h : k [] H) : tNil σ H k := h
section
variable {P : Program} {w : World} {K : PySem.W.Frag} {mg : Str → Option Value} {base : Heap}
/-! ### places_over -/
def spPO (C : Addr) : Sp := fun vs H Q _ => ∃ (ov we fo : Addr) (nm' nm : List Str) (W' W : Str → Str → Str → Nat) (fkv : List (Key × V)) (g : Str → Str), vs = [.ref ov, .ref we, .ref fo] ∧ Net C H ov nm' W' ∧ Net C H we nm W ∧ H fo = some (.dK fkv) ∧
  (∀ x ∈ nm', valV fkv (Sum.inr x) = some (V.str (g x)) ∧ g x ∈ nm) ∧
  ∀ (D : Addr) (as : List Addr) (H' : Hp), H D = none → H' D = some (.dK (poKV nm as)) → as.length = nm.length → (∀ (q : Nat) (a : Addr) (y : Str), as[q]? = some a → nm[q]? = some y → H a = none ∧ H' a = some (.lst ((overL nm' g y).map V.str))) → Same H H' → Q (.ref D) H'
abbrev nPO : List Str := ["over", "web", "folding", "found", "name", "place"]
theorem scPO : FnScope nPO ["over", "web", "folding"] (defScope sPlacesOver) := ⟨rfl, rfl, rfl, by decide +kernel, rfl, by decide +kernel, by decide +kernel⟩
theorem ok_placesOver {f C : Addr} {fd : FuncData} (F : Fun K "places_over" "places_over" sPlacesOver f fd) (T : TxtW K mg C) (Gm : MethD P w K mg base C "places" ["self"] 1 (spPlaces C)) : FnOk P w K mg base CX0 2 f fd ["over", "web", "folding"] (spPO C) := by
  obtain ⟨fm, fdm, Gm, mm, bm⟩ := Gm.ex
  refine F.ok scPO (fun vs H Q E h => ?_) (fun cdv A outer s H vs Q E hr h => ?_)
  · obtain ⟨_, _, _, _, _, _, _, _, _, rfl, _⟩ := h
    rfl
  · obtain ⟨ov, we, fo, nm', nm, W', W, fkv, g, rfl, hov, hwe, hfo, hg, k⟩ := h
    have nd := hwe.nd
    have hn := hwe.le
    have hn' := hov.le
    have hu := hu_of hr
    refine ⟨_, Evl.pss_cut (ps_setDc (n := 3) (own := [("place", 5)]) (g := gName 5) (tt := tYes) rfl scPO.nd rfl rfl (sw_dict rfl rfl rfl (by decide +kernel)) (pi_list (pe_meth0 (pv 1) T.cl mm Gm hr bm .nil pass0))
        (blkOk_by (N := nPO) (sc := defScope sPlacesOver) (by decide +kernel)) (fun _ _ _ _ _ => pg_name (i := 5) scPO.nd rfl (Or.inl rfl)) (fun _ _ _ _ _ => pts_nil) (fun _ _ _ _ _ => pv 5) (fun _ _ _ _ _ => pe_lst pa_nil))
      (pss_cons (ps_for PassesOwn.never rfl (pi_list (pe_meth0 (pv 0) T.cl mm Gm hr bm .nil pass0)) (pg_name (i := 4) scPO.nd rfl (.inl rfl))
        (pss_one (ps_expr (pe_bm PySem.F.plainAttrs_list PySem.F.slot_list_append PySem.F.type_list_append mt_append (pe_dget hu (pv 3) (pe_dget hu (pv 2) (pv 4) (fun _ _ => rfl)) (fun _ _ => rfl)) (pa_cons (pv 4) pa_nil)))))
      (pss_one (ps_ret (pv 3)))), ?_⟩
    refine ⟨fun σ H1 => ∃ D as, σ = [some (.ref ov), some (.ref we), some (.ref fo), some (.ref D), none, none] ∧ H D = none ∧ H1 D = some (.dK (poKV nm as)) ∧ as.length = nm.length ∧ as.Nodup ∧ (∀ a ∈ as, H a = none ∧ H1 a = some (.lst [])) ∧ Same H H1, ?_, ?_⟩
    · obtain ⟨dw, _, _, _, _, hw1⟩ := hwe.ins
      refine ⟨_, rfl, we, dw, _, rfl, hw1, rfl, ?_⟩
      refine tNil_in (hwe.places fun r H1 hr0 hr1 s1 => ?_)
      refine ⟨r, rfl, ⟨_, SqL.of hr1⟩, fun D hD => ?_⟩
      have hD0 := s1.free hD
      refine dc_walk (walk_list (xs := nm.map V.str)) (fun i H2 => ∃ as, H2 D = some (.dK (poKV (nm.take i) as)) ∧ as.length = (nm.take i).length ∧ as.Nodup ∧ (∀ a ∈ as, H a = none ∧ H2 a = some (.lst [])) ∧ Same H1 H2) ⟨[], upd_same, rfl, List.nodup_nil, (fun a ha => (List.not_mem_nil ha).elim), same_new hD⟩ (fun i H2 _ ⟨_, _, _, _, _, h⟩ => SqL.of (h _ _ hr1)) ?_ ?_
      · rintro i x H2 H3 hi ⟨as, hD2, hal, hand, hae, s2⟩ ⟨rfl, hx⟩
        rw [List.length_map] at hi
        rw [List.getElem?_map] at hx
        obtain ⟨y, hy, rfl⟩ := Option.map_eq_some_iff.mp hx
        refine ⟨rfl, tyes ?_⟩
        refine ⟨_, rfl, (by show 0 ≤ sizeLine; decide), fun u hu' => ?_⟩
        have su := same_new (o := .lst []) hu'
        have nuD : u ≠ D := fun e => by subst e; rw [hD2] at hu'; cases hu'
        have hua : u ∉ as := fun hm => by have := (hae u hm).2; rw [hu'] at this; cases this
        have hnew : valV (poKV (nm.take i) as) (Sum.inr y) = none := nm_new nd hy (po_keys hal)
        have hkl : (poKV (nm.take i) as).length ≤ i := by
          unfold poKV
          rw [List.length_map, List.length_zip, List.length_take]
          omega
        refine ⟨_, Sum.inr y, rfl, su _ _ hD2, Evl.sz_lt (by omega), as ++ [u], ?_, ?_, ?_, ?_, fun b o e => ?_⟩
        · rw [upd_same, putK_new _ hnew, List.take_add_one, hy]
          unfold poKV
          rw [Option.toList_some, List.zip_append hal.symm, List.map_append]
          rfl
        · rw [List.take_add_one, hy]
          simp [hal]
        · rw [List.nodup_append]
          refine ⟨hand, by simp, fun a ha b hb e => ?_⟩
          rw [List.mem_singleton] at hb
          subst hb e
          exact hua ha
        · intro a ha
          rcases List.mem_append.mp ha with z | z
          · have na : a ≠ D := ne_of (hae a z).2 hD2 (by intro z; cases z)
            exact ⟨(hae a z).1, by rw [upd_ne na]; exact su _ _ (hae a z).2⟩
          · rw [List.mem_singleton] at z
            subst z
            exact ⟨(s1.trans s2).free hu', by rw [upd_ne nuD]; exact upd_same⟩
        · rw [upd_ne (ne_of_none e hD)]
          exact su _ _ (s2 b o e)
      · rintro H2 ⟨as, hD2, hal, hand, hae, s2⟩
        rw [List.length_map, List.take_of_length_le (Nat.le_refl _)] at hD2 hal
        exact ⟨D, as, rfl, hD0, hD2, hal, hand, hae, s1.trans s2⟩
    rintro σ H1 ⟨D, as, rfl, hD0, hD1, hal, hand, hae, s1⟩
    obtain ⟨dw, _, _, _, _, hw1⟩ := (hov.same s1).ins
    refine ⟨_, rfl, ov, dw, _, rfl, hw1, rfl, ?_⟩
    refine tNil_in ((hov.same s1).places fun r H2 hr0 hr2 s2 => ?_)
    refine ⟨r, rfl, ⟨_, SqL.of hr2⟩, ?_⟩
    have hr00 := s1.free hr0
    have s12 := s1.trans s2
    have hra : ∀ a ∈ as, r ≠ a := fun a ha e => by subst e; rw [(hae r ha).2] at hr0; cases hr0
    refine for_list (xs := nm'.map V.str) (fun i σ H3 => ∃ v4, σ = [some (.ref ov), some (.ref we), some (.ref fo), some (.ref D), v4, none] ∧ H3 D = some (.dK (poKV nm as)) ∧ H3 r = some (.lst (nm'.map V.str)) ∧ (∀ (q : Nat) (a : Addr) (y : Str), as[q]? = some a → nm[q]? = some y → H3 a = some (.lst ((overL (nm'.take i) g y).map V.str))) ∧ Same H H3)
      ⟨none, rfl, s2 _ _ hD1, hr2, fun q a y ha _ => s2 _ _ (hae a (List.mem_of_getElem? ha)).2, s12⟩ (fun i σ H3 _ ⟨_, _, _, h, _, _⟩ => SqL.of h) ?_ ?_
    · rintro i v σ H3 hi ⟨v4, rfl, hD3, hr3, hq3, s3⟩
      have hil := (List.getElem?_eq_some_iff.mp hi).1
      rw [List.length_map] at hil
      rw [List.getElem?_map] at hi
      obtain ⟨x, hx, rfl⟩ := Option.map_eq_some_iff.mp hi
      obtain ⟨hg1, hg2⟩ := hg x (List.mem_of_getElem? hx)
      obtain ⟨q, hq⟩ := List.getElem?_of_mem hg2
      have hql := (List.getElem?_eq_some_iff.mp hq).1
      obtain ⟨a, ha⟩ : ∃ a, as[q]? = some a := ⟨_, List.getElem?_eq_getElem (by omega)⟩
      have ha3 := hq3 q a _ ha hq
      have d1 : DGet H3 fo (V.str x) (some (V.str (g x))) := by rw [← hg1]; exact DGet.k (k := Sum.inr x) (s3 _ _ hfo)
      have d2 : DGet H3 D (V.str (g x)) (some (V.ref a)) := by rw [← po_at hal nd hq ha]; exact DGet.k (k := Sum.inr (g x)) hD3
      refine ⟨_, rfl, _, rfl, _, rfl, fo, _, rfl, d1, D, _, rfl, d2, .inl ⟨rfl, _, SqL.of ha3⟩, _, rfl, a, _, _, rfl, rfl, ha3, Evl.sz_lt (by rw [List.length_map]; have := overL_len (nm'.take i) g (g x); rw [List.length_take] at this; omega), ?_⟩
      have naD : a ≠ D := ne_of ha3 hD3 (by intro z; cases z)
      refine ⟨_, rfl, by rw [upd_ne naD.symm]; exact hD3, by rw [upd_ne (hra a (List.mem_of_getElem? ha))]; exact hr3, fun q' a' y' ha' hy' => ?_, fun b o e => ?_⟩
      · by_cases e : q' = q
        · subst e
          rw [ha] at ha'
          cases ha'
          rw [hq] at hy'
          cases hy'
          rw [upd_same, overL_yes hx rfl, List.map_append]
          rfl
        · have naa : a' ≠ a := fun z => by
            subst z
            have h1 := (List.getElem?_eq_some_iff.mp ha').1
            exact e ((List.getElem?_inj h1 hand).mp (by rw [ha, ha']))
          have nyy : ¬ g x = y' := fun z => by
            subst z
            have h1 := (List.getElem?_eq_some_iff.mp hy').1
            exact e ((List.getElem?_inj h1 nd).mp (by rw [hq, hy']))
          rw [upd_ne naa, overL_no hx nyy]
          exact hq3 q' a' y' ha' hy'
      · rw [upd_ne (ne_of_none e (hae a (List.mem_of_getElem? ha)).1)]
        exact s3 b o e
    · rintro σ H3 ⟨v4, rfl, hD3, hr3, hq3, s3⟩
      rw [List.length_map, List.take_of_length_le (Nat.le_refl _)] at hq3
      exact ⟨_, rfl, k D as H3 hD0 hD3 hal (fun q a y ha hy => ⟨(hae a (List.mem_of_getElem? ha)).1, hq3 q a y ha hy⟩) s3⟩
end
end Nm
set_option autoImplicit false
set_option maxRecDepth 100000
set_option maxHeartbeats 8000000
/-! widths_by_end -/
namespace Nm
open PySem PySem.Spec PyProof.Rows L2
/-- all is kept but what stands at as -/
def ButL (as : List Addr) (H H' : Hp) : Prop := ∀ b o, H b = some o → b ∉ as → H' b = some o
theorem ButL.trans {as : List Addr} {H H1 H2 : Hp} (a : ButL as H H1) (b : ButL as H1 H2) : ButL as H H2 := fun c o e n => b c o (a c o e n) n
theorem ButL.of {as : List Addr} {H H' : Hp} (s : Same H H') : ButL as H H' := fun c o e _ => s c o e
theorem ButL.upd {as : List Addr} {H : Hp} {a : Addr} {o : HO} (h : a ∈ as) : ButL as H (upd H a o) := fun c o' e n => by
  rw [upd_ne fun z => n (by rw [z]; exact h)]
  exact e
/-- the dicts of the places -/
def DAt (H : Hp) (as : List Addr) (nm : List Str) (G : Str → Str → Str → Nat) (m : Nat) : Prop := ∀ (q : Nat) (a : Addr) (y : Str), as[q]? = some a → nm[q]? = some y → ∃ kvs, H a = some (.dT kvs) ∧ WdT kvs (G y) ∧ kvs.length ≤ m
theorem DAt.congr {H : Hp} {as : List Addr} {nm : List Str} {G G' : Str → Str → Str → Nat} {m m' : Nat} (h : DAt H as nm G m) (e : ∀ y e k, G y e k = G' y e k) (hm : m ≤ m') : DAt H as nm G' m' := fun q a y ha hy => by
  obtain ⟨kvs, h1, h2, h3⟩ := h q a y ha hy
  exact ⟨kvs, h1, h2.congr (e y), by omega⟩
theorem DAt.same {H H' : Hp} {as : List Addr} {nm : List Str} {G : Str → Str → Str → Nat} {m : Nat} (h : DAt H as nm G m) (s : Same H H') : DAt H' as nm G m := fun q a y ha hy => by
  obtain ⟨kvs, h1, h2, h3⟩ := h q a y ha hy
  exact ⟨kvs, s _ _ h1, h2, h3⟩
def bumpG (G : Str → Str → Str → Nat) (x e k : Str) (w : Nat) : Str → Str → Str → Nat := fun y => if y = x then addW (G x) e k w else G y
theorem DAt.bump {H : Hp} {as : List Addr} {nm : List Str} {G : Str → Str → Str → Nat} {m : Nat} (h : DAt H as nm G m) (nda : as.Nodup) (nd : nm.Nodup) {q : Nat} {a : Addr} {x e k : Str} {w : Nat} {kvs : List (List Key × V)} (ha : as[q]? = some a) (hx : nm[q]? = some x) (t : WdT kvs (G x)) (hl : kvs.length ≤ m) (hw : 1 ≤ w) :
    DAt (upd H a (.dT (putK kvs [Sum.inr e, Sum.inr k] (.int ((G x e k + w : Nat) : Int))))) as nm (bumpG G x e k w) (m + 1) := fun q' a' y ha' hy => by
  by_cases c : q' = q
  · subst c
    rw [ha] at ha'
    cases ha'
    rw [hx] at hy
    cases hy
    refine ⟨_, upd_same, ?_, ?_⟩
    · unfold bumpG
      rw [if_pos rfl]
      exact t.put e k hw
    · have := length_putK kvs [Sum.inr e, Sum.inr k] (.int ((G x e k + w : Nat) : Int))
      omega
  · have naa : a' ≠ a := fun z => by
      subst z
      exact c ((List.getElem?_inj (List.getElem?_eq_some_iff.mp ha').1 nda).mp (by rw [ha, ha']))
    have nyy : y ≠ x := fun z => by
      subst z
      exact c ((List.getElem?_inj (List.getElem?_eq_some_iff.mp hy).1 nd).mp (by rw [hx, hy]))
    obtain ⟨kv, h1, h2, h3⟩ := h q' a' y ha' hy
    refine ⟨kv, by rw [upd_ne naa]; exact h1, ?_, by omega⟩
    unfold bumpG
    rw [if_neg nyy]
    exact h2
section
variable {P : Program} {w : World} {K : PySem.W.Frag} {mg : Str → Option Value} {base : Heap}
def spWE (C : Addr) : Sp := fun vs H Q _ => ∃ (p q dc r wd le : Addr) (nm cl : List Str) (rs : List RowV) (lkv : List (Key × V)) (f : Str → Str), vs = [.ref p, .ref le] ∧ WebX C H p q dc r wd nm cl rs ∧ RowsFit nm.length rs ∧ nm.Nodup ∧ nm.length ≤ 1000 ∧ rs.length ≤ 4800 ∧ H le = some (.dK lkv) ∧ (∀ x ∈ nm, valV lkv (Sum.inr x) = some (V.str (f x))) ∧
  ∀ (D : Addr) (as : List Addr) (H' : Hp), H D = none → H' D = some (.dK (poKV nm as)) → as.length = nm.length → (∀ (q : Nat) (a : Addr) (y : Str), as[q]? = some a → nm[q]? = some y → H a = none ∧ ∃ kvs, H' a = some (.dT kvs) ∧ WdT kvs (gW nm rs f y)) → Same H H' → Q (.ref D) H'
abbrev nWE : List Str := ["web", "led", "widths", "one", "other", "kind", "width", "place", "end", "spot", "name"]
theorem scWE : FnScope nWE ["web", "led"] (defScope sWidthsByEnd) := ⟨rfl, rfl, rfl, by decide +kernel, rfl, by decide +kernel, by decide +kernel⟩
theorem ok_widthsByEnd {f C : Addr} {fd : FuncData} (F : Fun K "widths_by_end" "widths_by_end" sWidthsByEnd f fd) (T : TxtW K mg C) (Gp : MethD P w K mg base C "places" ["self"] 1 (spPlaces C)) (Gt : MethD P w K mg base C "ties" ["self"] 1 (spTies C)) : FnOk P w K mg base CX0 2 f fd ["web", "led"] (spWE C) := by
  obtain ⟨fp, fdp, Gp, mp, bp⟩ := Gp.ex
  obtain ⟨ft, fdt, Gt, mt, bt⟩ := Gt.ex
  refine F.ok scWE (fun vs H Q E h => ?_) (fun cdv A outer s H vs Q E hr h => ?_)
  · obtain ⟨_, _, _, _, _, _, _, _, _, _, _, rfl, _⟩ := h
    rfl
  · obtain ⟨p, q0, dc, r0, wd, le, nm, cl, rs, lkv, f, rfl, W, FT, nd, hn, hrl, hle, hlk, k⟩ := h
    have hu := hu_of hr
    refine ⟨_, Evl.pss_cut (ps_setDc (n := 2) (own := [("name", 10)]) (g := gName 10) (tt := tYes) rfl scWE.nd rfl rfl (sw_dict rfl rfl rfl (by decide +kernel)) (pi_list (pe_meth0 (pv 0) T.cl mp Gp hr bp .nil pass0))
        (blkOk_by (N := nWE) (sc := defScope sWidthsByEnd) (by decide +kernel)) (fun _ _ _ _ _ => pg_name (i := 10) scWE.nd rfl (Or.inl rfl)) (fun _ _ _ _ _ => pts_nil) (fun _ _ _ _ _ => pv 10) (fun _ _ _ _ _ => pe_dnewT))
      (pss_cons (ps_for PassesOwn.never rfl (pi_list (pe_meth0 (pv 0) T.cl mt Gt hr bt .nil pass0))
          (pg_tup rfl (pgs_cons (pg_name (i := 3) scWE.nd rfl (.inl rfl)) (pgs_cons (pg_name (i := 4) scWE.nd rfl (.inl rfl)) (pgs_cons (pg_name (i := 5) scWE.nd rfl (.inl rfl)) (pgs_cons (pg_name (i := 6) scWE.nd rfl (.inl rfl)) pgs_nil)))))
        (pss_one (ps_for PassesOwn.never rfl (pi_tup (pe_tup (pa_cons (pe_tup (pa_cons (pv 3) (pa_cons (pv 4) pa_nil))) (pa_cons (pe_tup (pa_cons (pv 4) (pa_cons (pv 3) pa_nil))) pa_nil))))
            (pg_tup rfl (pgs_cons (pg_name (i := 7) scWE.nd rfl (.inl rfl)) (pgs_cons (pg_name (i := 8) scWE.nd rfl (.inl rfl)) pgs_nil)))
          (pss_cons (ps_set (i := 9) scWE.nd rfl (Or.inl rfl) (pe_tup (pa_cons (pe_dget hu (pv 1) (pv 8) (fun _ _ => rfl)) (pa_cons (pv 5) pa_nil))))
          (pss_one (ps_dput hu (pe_dget hu (pv 2) (pv 7) (fun _ _ => rfl)) (pv 9) (pe_op op_add (pe_dget2 hu (pe_dget hu (pv 2) (pv 7) (fun _ _ => rfl)) (pv 9) pe_int ⟨rfl, rfl, rfl, rfl⟩) (pv 6)) rfl))))))
      (pss_one (ps_ret (pv 2)))), ?_⟩
    refine ⟨fun σ H1 => ∃ D as, σ = [some (.ref p), some (.ref le), some (.ref D), none, none, none, none, none, none, none, none] ∧ H D = none ∧ H1 D = some (.dK (poKV nm as)) ∧ as.length = nm.length ∧ as.Nodup ∧ (∀ a ∈ as, H a = none ∧ H1 a = some (.dT [])) ∧ Same H H1, ?_, ?_⟩
    · obtain ⟨dw, hw1⟩ := W.hp
      refine ⟨_, rfl, p, dw, _, rfl, hw1, rfl, ?_⟩
      refine tNil_in ⟨p, q0, dc, r0, wd, nm, cl, rs, rfl, W, hn, fun r H1 hr0 hr1 s1 => ?_⟩
      refine ⟨r, rfl, ⟨_, SqL.of hr1⟩, fun D hD => ?_⟩
      have hD0 := s1.free hD
      refine dc_walk (walk_list (xs := nm.map V.str)) (fun i H2 => ∃ as, H2 D = some (.dK (poKV (nm.take i) as)) ∧ as.length = (nm.take i).length ∧ as.Nodup ∧ (∀ a ∈ as, H a = none ∧ H2 a = some (.dT [])) ∧ Same H1 H2) ⟨[], upd_same, rfl, List.nodup_nil, (fun a ha => (List.not_mem_nil ha).elim), same_new hD⟩ (fun i H2 _ ⟨_, _, _, _, _, h⟩ => SqL.of (h _ _ hr1)) ?_ ?_
      · rintro i x H2 H3 hi ⟨as, hD2, hal, hand, hae, s2⟩ ⟨rfl, hx⟩
        rw [List.length_map] at hi
        rw [List.getElem?_map] at hx
        obtain ⟨y, hy, rfl⟩ := Option.map_eq_some_iff.mp hx
        refine ⟨rfl, tyes ?_⟩
        refine ⟨_, rfl, fun u hu' => ?_⟩
        have su := same_new (o := .dT []) hu'
        have nuD : u ≠ D := fun e => by subst e; rw [hD2] at hu'; cases hu'
        have hua : u ∉ as := fun hm => by have := (hae u hm).2; rw [hu'] at this; cases this
        have hnew : valV (poKV (nm.take i) as) (Sum.inr y) = none := nm_new nd hy (po_keys hal)
        have hkl : (poKV (nm.take i) as).length ≤ i := by
          unfold poKV
          rw [List.length_map, List.length_zip, List.length_take]
          omega
        refine ⟨_, Sum.inr y, rfl, su _ _ hD2, Evl.sz_lt (by omega), as ++ [u], ?_, ?_, ?_, ?_, fun b o e => ?_⟩
        · rw [upd_same, putK_new _ hnew, List.take_add_one, hy]
          unfold poKV
          rw [Option.toList_some, List.zip_append hal.symm, List.map_append]
          rfl
        · rw [List.take_add_one, hy]
          simp [hal]
        · rw [List.nodup_append]
          refine ⟨hand, by simp, fun a ha b hb e => ?_⟩
          rw [List.mem_singleton] at hb
          subst hb e
          exact hua ha
        · intro a ha
          rcases List.mem_append.mp ha with z | z
          · have na : a ≠ D := ne_of (hae a z).2 hD2 (by intro z; cases z)
            exact ⟨(hae a z).1, by rw [upd_ne na]; exact su _ _ (hae a z).2⟩
          · rw [List.mem_singleton] at z
            subst z
            exact ⟨(s1.trans s2).free hu', by rw [upd_ne nuD]; exact upd_same⟩
        · rw [upd_ne (ne_of_none e hD)]
          exact su _ _ (s2 b o e)
      · rintro H2 ⟨as, hD2, hal, hand, hae, s2⟩
        rw [List.length_map, List.take_of_length_le (Nat.le_refl _)] at hD2 hal
        exact ⟨D, as, rfl, hD0, hD2, hal, hand, hae, s1.trans s2⟩
    rintro σ H1 ⟨D, as, rfl, hD0, hD1, hal, hand, hae, s1⟩
    obtain ⟨dw, hw1⟩ := (W.same s1).hp
    refine ⟨_, rfl, p, dw, _, rfl, hw1, rfl, ?_⟩
    refine tNil_in ⟨p, q0, dc, r0, wd, nm, cl, rs, rfl, W.same s1, fun l H2 hl0 ho s2 => ?_⟩
    obtain ⟨ts, hl2, hpr⟩ := ho
    refine ⟨l, rfl, ⟨_, SqL.of hl2⟩, ?_⟩
    have s12 := s1.trans s2
    have d0 : DAt H2 as nm (gW nm (rs.take 0) f) 0 := fun q a y ha _ => ⟨[], s2 _ _ (hae a (List.mem_of_getElem? ha)).2, WdT.nil.congr fun _ _ => rfl, Nat.le_refl _⟩
    have nas : ∀ {b : Addr} {o : HO}, H2 b = some o → o ≠ .dT [] → b ∉ as := fun {b o} e n hm => n (by
      have := s2 _ _ (hae b hm).2
      rw [e] at this
      exact Option.some.inj this)
    have hD2 := s2 _ _ hD1
    have nD : D ∉ as := nas hD2 (by intro z; cases z)
    have nlas : l ∉ as := nas hl2 (by intro z; cases z)
    have nold : ∀ {b : Addr} {o : HO}, H b = some o → b ∉ as := fun {b o} e hm => by rw [(hae b hm).1] at e; cases e
    refine for_list (xs := ts.map V.ref) (fun i σ H3 => ∃ v3 v4 v5 v6 v7 v8 v9, σ = [some (.ref p), some (.ref le), some (.ref D), v3, v4, v5, v6, v7, v8, v9, none] ∧ DAt H3 as nm (gW nm (rs.take i) f) (2 * i) ∧ ButL as H2 H3)
      ⟨none, none, none, none, none, none, none, rfl, d0, fun _ _ e _ => e⟩ (fun i σ H3 _ ⟨_, _, _, _, _, _, _, _, _, b⟩ => SqL.of (b _ _ hl2 nlas)) ?_ ?_
    · rintro i v σ H3 hi ⟨v3, v4, v5, v6, v7, v8, v9, rfl, d3, b3⟩
      have hil := (List.getElem?_eq_some_iff.mp hi).1
      rw [List.length_map, Paired.length hpr] at hil
      rw [List.getElem?_map] at hi
      obtain ⟨t, ht, rfl⟩ := Option.map_eq_some_iff.mp hi
      obtain ⟨rv, hrv, x, y, hx, hy, htt⟩ := paired_get hpr ht
      have hrm := List.mem_of_getElem? hrv
      obtain ⟨r1, r2⟩ := FT.lt rv hrm
      have w1 := FT.w1 rv hrm
      have ht3 := b3 _ _ htt (nas htt (by intro z; cases z))
      refine ⟨t, _, rfl, SqT.of ht3, rfl, _, _, rfl, _, _, rfl, _, _, rfl, _, _, rfl, rfl, ?_⟩
      -- the two tuples and the tuple of them
      refine ⟨_, rfl, _, rfl, (by show 2 ≤ sizeLine; decide), fun u1 hu1 => ?_⟩
      have t1 := same_new (o := .tup [V.str x, V.str y]) hu1
      have e1 : (upd H3 u1 (.tup [V.str x, V.str y])) u1 = some (.tup [V.str x, V.str y]) := upd_same
      generalize upd H3 u1 (.tup [V.str x, V.str y]) = Ha at *
      refine ⟨_, rfl, _, rfl, (by show 2 ≤ sizeLine; decide), fun u2 hu2 => ?_⟩
      have t2 := same_new (o := .tup [V.str y, V.str x]) hu2
      have e2 : (upd Ha u2 (.tup [V.str y, V.str x])) u2 = some (.tup [V.str y, V.str x]) := upd_same
      have e1 := t2 _ _ e1
      generalize upd Ha u2 (.tup [V.str y, V.str x]) = Hb at *
      refine ⟨(by show 2 ≤ sizeLine; decide), fun u3 hu3 => ?_⟩
      have t3 := same_new (o := .tup [V.ref u1, V.ref u2]) hu3
      have e3 : (upd Hb u3 (.tup [V.ref u1, V.ref u2])) u3 = some (.tup [V.ref u1, V.ref u2]) := upd_same
      have e1 := t3 _ _ e1
      have e2 := t3 _ _ e2
      generalize upd Hb u3 (.tup [V.ref u1, V.ref u2]) = Hc at *
      have tc := (t1.trans t2).trans t3
      have dC := d3.same tc
      have bC : ButL as H2 Hc := b3.trans (ButL.of tc)
      have nasC : ∀ {b : Addr} {xs : List V}, Hc b = some (.tup xs) → b ∉ as := fun {b xs} e hm => by
        obtain ⟨q, hq⟩ := List.getElem?_of_mem hm
        obtain ⟨z, hz⟩ : ∃ z, nm[q]? = some z := ⟨_, List.getElem?_eq_getElem (by have := (List.getElem?_eq_some_iff.mp hq).1; omega)⟩
        obtain ⟨kv, h1, _⟩ := dC q b z hq hz
        rw [e] at h1
        cases h1
      refine ⟨u3, rfl, ⟨_, SqT.of e3⟩, ?_⟩
      have ex : nmA nm rv.i = x := nmA_at hx
      have ey : nmA nm rv.j = y := nmA_at hy
      have nxy : x ≠ y := fun e => by
        have := nmA_inj nd (by omega) r2 (ex.trans (e.trans ey.symm))
        omega
      refine for_tup (xs := [V.ref u1, V.ref u2]) (fun j σ H4 => ∃ v7 v8 v9, σ = [some (.ref p), some (.ref le), some (.ref D), some (.str x), some (.str y), some (.str rv.kd), some (.int rv.w), v7, v8, v9, none] ∧
        DAt H4 as nm (if j = 0 then gW nm (rs.take i) f else if j = 1 then bumpG (gW nm (rs.take i) f) x (f y) rv.kd rv.w.toNat else bumpG (bumpG (gW nm (rs.take i) f) x (f y) rv.kd rv.w.toNat) y (f x) rv.kd rv.w.toNat) (2 * i + j) ∧ ButL as Hc H4)
        ⟨v7, v8, v9, rfl, dC, fun _ _ e _ => e⟩ (fun j σ H4 _ ⟨_, _, _, _, _, b⟩ => SqT.of (b _ _ e3 (nasC e3))) ?_ ?_
      · rintro j xv σ H4 hj ⟨w7, w8, w9, rfl, d4, b4⟩
        have both : ∃ (u : Addr) (pl en : Str) (qp : Nat) (G : Str → Str → Str → Nat), xv = .ref u ∧ H4 u = some (.tup [.str pl, .str en]) ∧ nm[qp]? = some pl ∧ en ∈ nm ∧ DAt H4 as nm G (2 * i + j) ∧
            (if j + 1 = 0 then gW nm (rs.take i) f else if j + 1 = 1 then bumpG (gW nm (rs.take i) f) x (f y) rv.kd rv.w.toNat else bumpG (bumpG (gW nm (rs.take i) f) x (f y) rv.kd rv.w.toNat) y (f x) rv.kd rv.w.toNat) = bumpG G pl (f en) rv.kd rv.w.toNat := by
          have hj2 : j < 2 := (List.getElem?_eq_some_iff.mp hj).1
          have : j = 0 ∨ j = 1 := by omega
          rcases this with rfl | rfl
          · cases hj
            exact ⟨u1, x, y, rv.i, _, rfl, b4 _ _ e1 (nasC e1), hx, List.mem_of_getElem? hy, d4, rfl⟩
          · cases hj
            exact ⟨u2, y, x, rv.j, _, rfl, b4 _ _ e2 (nasC e2), hy, List.mem_of_getElem? hx, d4, rfl⟩
        obtain ⟨u, pl, en, qp, G, rfl, hu4, hpl, hen, dG, eG⟩ := both
        rw [eG]
        refine ⟨u, _, rfl, SqT.of hu4, rfl, _, _, rfl, _, _, rfl, rfl, ?_⟩
        have b24 := bC.trans b4
        have hle4 := b24 _ _ (s12 _ _ hle) (nold hle)
        have hD4 := b24 _ _ hD2 nD
        obtain ⟨a, ha⟩ : ∃ a, as[qp]? = some a := ⟨_, List.getElem?_eq_getElem (by have := (List.getElem?_eq_some_iff.mp hpl).1; omega)⟩
        have g1 : DGet H4 le (V.str en) (some (V.str (f en))) := by rw [← hlk en hen]; exact DGet.k (k := Sum.inr en) hle4
        refine ⟨_, rfl, _, rfl, le, V.str (f en), rfl, g1, _, rfl, (by show 2 ≤ sizeLine; decide), fun uk huk => ?_⟩
        have tk := same_new (o := .tup [V.str (f en), V.str rv.kd]) huk
        have ek : (upd H4 uk (.tup [V.str (f en), V.str rv.kd])) uk = some (.tup (List.map kV [Sum.inr (f en), Sum.inr rv.kd])) := upd_same
        generalize upd H4 uk (.tup [V.str (f en), V.str rv.kd]) = H5 at *
        obtain ⟨kvs, h1, h2, h3⟩ := (dG.same tk) qp a pl ha hpl
        have g2 : DGet H5 D (V.str pl) (some (V.ref a)) := by rw [← po_at hal nd hpl ha]; exact DGet.k (k := Sum.inr pl) (tk _ _ hD4)
        refine ⟨_, rfl, _, rfl, D, V.ref a, rfl, g2, a, rfl, .inr ⟨_, .inl h1⟩, _, rfl, _, DGet.t (k := [Sum.inr (f en), Sum.inr rv.kd]) h1 ek, ?_⟩
        refine ⟨_, rfl, _, _, h2.get _ _, rfl, _, rfl, _, rfl, D, V.ref a, rfl, g2, _, rfl, a, _, rfl, DPut.t (k := [Sum.inr (f en), Sum.inr rv.kd]) h1 ek (Evl.sz_lt (by
          have hj2 : j < 2 := (List.getElem?_eq_some_iff.mp hj).1
          omega)), ?_⟩
        have ew : ((G pl (f en) rv.kd : Nat) : Int) + rv.w = ((G pl (f en) rv.kd + rv.w.toNat : Nat) : Int) := by omega
        have bb := (dG.same tk).bump (e := f en) (k := rv.kd) (w := rv.w.toNat) hand nd ha hpl h2 h3 (by omega)
        rw [← ew] at bb
        refine ⟨_, _, _, rfl, bb, ?_⟩
        exact (b4.trans (ButL.of tk)).trans (ButL.upd (List.mem_of_getElem? ha))
      · rintro σ H4 ⟨w7, w8, w9, rfl, d4, b4⟩
        refine ⟨_, _, _, _, _, _, _, rfl, ?_, bC.trans b4⟩
        refine d4.congr (fun z e k => ?_) (by show 2 * i + 2 ≤ _; omega)
        have et : rs.take (i + 1) = rs.take i ++ [rv] := by rw [List.take_add_one, hrv]; rfl
        rw [et]
        show bumpG (bumpG (gW nm (rs.take i) f) x (f y) rv.kd rv.w.toNat) y (f x) rv.kd rv.w.toNat z e k = _
        unfold bumpG
        by_cases c1 : z = y
        · rw [if_pos c1, if_neg nxy.symm, c1, ← gW_two (by rw [ex]; exact nxy) ey, ex]
        · rw [if_neg c1]
          by_cases c2 : z = x
          · rw [if_pos c2, c2, ← gW_one ex (by rw [ey]; exact nxy.symm), ey]
          · rw [if_neg c2]
            exact gW_no (by rw [ex]; exact fun h => c2 h.symm) (by rw [ey]; exact fun h => c1 h.symm) e k
    · rintro σ H3 ⟨v3, v4, v5, v6, v7, v8, v9, rfl, d3, b3⟩
      rw [List.length_map, Paired.length hpr, List.take_length] at d3
      refine ⟨_, rfl, k D as H3 hD0 (b3 _ _ hD2 nD) hal (fun q a y ha hy => ⟨(hae a (List.mem_of_getElem? ha)).1, ?_⟩) fun b o e => b3 _ _ (s12 _ _ e) (nold e)⟩
      obtain ⟨kvs, h1, h2, _⟩ := d3 q a y ha hy
      exact ⟨kvs, h1, h2⟩
end
end Nm
set_option autoImplicit false
set_option maxRecDepth 100000
set_option maxHeartbeats 8000000
/-! judge_widths, of a covering -/
namespace Nm
open PySem PySem.Spec PyProof.Rows L2
theorem ledK_keys (nm : List Str) (f : Str → Str) : (ledK nm f).map (·.1) = nm.map Sum.inr := by
  unfold ledK
  rw [List.map_map]
  rfl
theorem ledK_nd {nm : List Str} {f : Str → Str} (nd : nm.Nodup) : ((ledK nm f).map (·.1)).Nodup := by
  rw [ledK_keys]
  exact List.Pairwise.map _ (fun a b hab e => hab (Sum.inr.inj e)) nd
theorem ledK_at {nm : List Str} {f : Str → Str} (nd : nm.Nodup) {x : Str} (h : x ∈ nm) : valV (ledK nm f) (Sum.inr x) = some (V.str (f x)) := val_of_mem (ledK_nd nd) (List.mem_map.mpr ⟨x, h, rfl⟩)
theorem ledK_len (nm : List Str) (f : Str → Str) : (ledK nm f).length = nm.length := by unfold ledK; rw [List.length_map]
section
variable {P : Program} {w : World} {K : PySem.W.Frag} {mg : Str → Option Value} {base : Heap}
def spJW (C : Addr) : Sp := fun vs H Q _ => ∃ (ov q1 d1 r1 w1 we q2 d2 r2 w2 fo : Addr) (A clA B clB : List Str) (rA rB : List RowV) (lkv : List (Key × V)) (f : Str → Str), vs = [.ref ov, .ref we, .ref fo] ∧ WebX C H ov q1 d1 r1 w1 A clA rA ∧ WebX C H we q2 d2 r2 w2 B clB rB ∧ RowsFit A.length rA ∧ RowsFit B.length rB ∧ A.Nodup ∧ B.Nodup ∧
  A.length ≤ 1000 ∧ B.length ≤ 1000 ∧ rA.length ≤ 1900 ∧ rB.length ≤ 1900 ∧ H fo = some (.dK lkv) ∧ (∀ x ∈ A, valV lkv (Sum.inr x) = some (V.str (f x))) ∧ Cvr A (wN A rA) B (wN B rB) f ∧ ∀ H', Same H H' → Q .non H'
abbrev nJW : List Str := ["over", "web", "folding", "above", "below", "kinds", "name", "found", "wanted", "place", "kind"]
theorem scJW : FnScope nJW ["over", "web", "folding"] (defScope sJudgeWidths) := ⟨rfl, rfl, rfl, by decide +kernel, rfl, by decide +kernel, by decide +kernel⟩
theorem ok_jw {fa C : Addr} {fd : FuncData} (F : Fun K "judge_widths" "judge_widths" sJudgeWidths fa fd) (T : TxtW K mg C) (Gp : MethD P w K mg base C "places" ["self"] 1 (spPlaces C)) (Gk : MethD P w K mg base C "kinds" ["self"] 1 (spKinds C)) (Gw : Def P w K mg base "widths_by_end" ["web", "led"] 2 (spWE C)) : FnOk P w K mg base CX0 3 fa fd ["over", "web", "folding"] (spJW C) := by
  obtain ⟨fp, fdp, Gp, mp, bp⟩ := Gp.ex
  obtain ⟨fk, fdk, Gk, mk, bk⟩ := Gk.ex
  obtain ⟨fw, fdw, Gw, mw, kw, bw⟩ := Gw.ex
  refine F.ok scJW (fun vs H Q E h => ?_) (fun cdv A' outer s H vs Q E hr h => ?_)
  · obtain ⟨_, _, _, _, _, _, _, _, _, _, _, _, _, _, _, _, _, _, _, rfl, _⟩ := h
    rfl
  · obtain ⟨ov, q1, d1, r1, w1, we, q2, d2, r2, w2, fo, A, clA, B, clB, rA, rB, lkv, f, rfl, XA, XB, FA, FB, ndA, ndB, lA, lB, mA, mB, hfo, hlk, cv, k⟩ := h
    have hu := hu_of hr
    have hr1 := hr.mono (by decide : 1 ≤ 2)
    refine ⟨_, Evl.pss_cut (ps_set (i := 3) scJW.nd rfl (Or.inl rfl) (pe_call Gw hr (by rfl) mw kw bw .nil pass0 (pa_cons (pv 0) (pa_cons (pv 2) pa_nil))))
      (Evl.pss_cut (ps_set (i := 4) scJW.nd rfl (Or.inl rfl) (pe_call Gw hr (by rfl) mw kw bw .nil pass0 (pa_cons (pv 1) (pa_cons (pe_dc (own := [("name", 6)]) (g := gName 6) (tt := tYes) (tk := tVar 6) (tv := tVar 6) rfl scJW.nd (pi_list (pe_meth0 (pv 1) T.cl mp Gp hr1 bp .nil pass0)) (blkOk_by (N := nJW) (sc := defScope sJudgeWidths) (by decide +kernel))
        (fun _ _ _ _ _ => pg_name (i := 6) scJW.nd rfl (Or.inl rfl)) (fun _ _ _ _ _ => pts_nil) (fun _ _ _ _ _ => pv 6) (fun _ _ _ _ _ => pv 6)) pa_nil))))
      (Evl.pss_cut (ps_set (i := 5) scJW.nd rfl (Or.inl rfl) (pe_callB (cr_sortT rfl) (by rfl) T.sorted (by decide +kernel) (pa_cons (pe_callTy (cr_setT rfl) (by rfl) T.set (by decide +kernel) (pa_cons (pe_op op_cat (pe_meth0 (pv 0) T.cl mk Gk hr1 bk .nil pass0) (pe_meth0 (pv 1) T.cl mk Gk hr1 bk .nil pass0)) pa_nil)) pa_nil)))
      (Evl.pss_cut (ps_for PassesOwn.never rfl (pi_list (pe_meth0 (pv 0) T.cl mp Gp hr1 bp .nil pass0)) (pg_name (i := 6) scJW.nd rfl (Or.inl rfl))
          (pss_cons (ps_set (i := 7) scJW.nd rfl (Or.inl rfl) (pe_dget hu (pv 3) (pv 6) (fun _ _ => rfl)))
          (pss_cons (ps_set (i := 8) scJW.nd rfl (Or.inl rfl) (pe_dget hu (pv 4) (pe_dget hu (pv 2) (pv 6) (fun _ _ => rfl)) (fun _ _ => rfl)))
          (pss_one (ps_if (pt_cmpR (op_neTA hu) (pv 7) (pv 8) (by rfl)) pss_nope pss_nil)))))
      (pss_one (ps_ret pe_non))))), ?_⟩
    -- above
    refine ⟨fun σ H1 => ∃ D1 as1, σ = [some (.ref ov), some (.ref we), some (.ref fo), some (.ref D1), none, none, none, none, none, none, none] ∧ H1 D1 = some (.dK (poKV A as1)) ∧ as1.length = A.length ∧ (∀ (q : Nat) (a : Addr) (y : Str), as1[q]? = some a → A[q]? = some y → ∃ kvs, H1 a = some (.dT kvs) ∧ WdT kvs (gW A rA f y)) ∧ Same H H1, ?_, ?_⟩
    · exact ⟨_, rfl, _, rfl, ov, q1, d1, r1, w1, fo, A, clA, rA, lkv, f, rfl, XA, FA, ndA, lA, by omega, hfo, hlk, fun D1 as1 H1 _ hD1 hl1 h1 s1 => ⟨D1, as1, rfl, hD1, hl1, fun q a y ha hy => (h1 q a y ha hy).2, s1⟩⟩
    rintro σ H1 ⟨D1, as1, rfl, hD1, hl1, h1, s1⟩
    -- below
    refine ⟨fun σ H2 => ∃ D2 as2, σ = [some (.ref ov), some (.ref we), some (.ref fo), some (.ref D1), some (.ref D2), none, none, none, none, none, none] ∧ H2 D2 = some (.dK (poKV B as2)) ∧ as2.length = B.length ∧ (∀ (q : Nat) (a : Addr) (y : Str), as2[q]? = some a → B[q]? = some y → ∃ kvs, H2 a = some (.dT kvs) ∧ WdT kvs (gW B rB id y)) ∧ Same H1 H2, ?_, ?_⟩
    · obtain ⟨dx, hw⟩ := (XB.same s1).hp
      refine ⟨_, rfl, _, rfl, we, dx, _, rfl, hw, rfl, ?_⟩
      refine tNil_in ⟨we, q2, d2, r2, w2, B, clB, rB, rfl, XB.same s1, lB, fun r H2 hr0 hr2 s2 => ?_⟩
      refine ⟨r, rfl, ⟨_, SqL.of hr2⟩, fun D hD => ?_⟩
      refine dc_walk (walk_list (xs := B.map V.str)) (fun i H3 => H3 D = some (.dK (ledK (B.take i) id)) ∧ Same H2 H3) ⟨upd_same, same_new hD⟩ (fun i H3 _ h => SqL.of (h.2 _ _ hr2)) ?_ ?_
      · rintro i x H3 H4 hi ⟨hD3, s3⟩ ⟨rfl, hx⟩
        rw [List.length_map] at hi
        rw [List.getElem?_map] at hx
        obtain ⟨y, hy, rfl⟩ := Option.map_eq_some_iff.mp hx
        refine ⟨rfl, tyes ?_⟩
        have hnew : valV (ledK (B.take i) id) (Sum.inr y) = none := nm_new ndB hy (ledK_keys _ _)
        have hkl := ledK_len (B.take i) id
        rw [List.length_take] at hkl
        refine ⟨_, rfl, _, rfl, _, Sum.inr y, rfl, hD3, Evl.sz_lt (by omega), ?_, fun b o e => ?_⟩
        · rw [upd_same, putK_new _ hnew, List.take_add_one, hy]
          unfold ledK
          rw [Option.toList_some, List.map_append]
          rfl
        · rw [upd_ne (ne_of_none e hD)]
          exact s3 b o e
      · rintro H3 ⟨hD3, s3⟩
        rw [List.length_map, List.take_of_length_le (Nat.le_refl _)] at hD3
        exact ⟨we, q2, d2, r2, w2, D, B, clB, rB, _, id, rfl, (XB.same s1).same (s2.trans s3), FB, ndB, lB, by omega, hD3, fun x hx => ledK_at ndB hx, fun D2 as2 H4 _ hD2 hl2 h2 s4 => ⟨D2, as2, rfl, hD2, hl2, fun q a y ha hy => (h2 q a y ha hy).2, (s2.trans s3).trans s4⟩⟩
    rintro σ H2 ⟨D2, as2, rfl, hD2, hl2, h2, s2⟩
    have s12 := s1.trans s2
    -- the kinds
    refine ⟨fun σ H3 => ∃ kd : V, σ = [some (.ref ov), some (.ref we), some (.ref fo), some (.ref D1), some (.ref D2), some kd, none, none, none, none, none] ∧ Same H2 H3, ?_, ?_⟩
    · obtain ⟨dx1, hw1⟩ := (XA.same s12).hp
      refine ⟨_, rfl, ov, dx1, _, rfl, hw1, rfl, ?_⟩
      refine tNil_in ⟨ov, q1, d1, r1, w1, A, clA, rA, rfl, XA.same s12, by omega, fun l1 zs1 H3 _ hz1 m1 n1 _ s3 => ?_⟩
      have XB3 := (XB.same s12).same s3
      obtain ⟨dx2, hw2⟩ := XB3.hp
      refine ⟨_, rfl, we, dx2, _, rfl, hw2, rfl, ?_⟩
      refine tNil_in ⟨we, q2, d2, r2, w2, B, clB, rB, rfl, XB3, by omega, fun l2 zs2 H4 _ hz2 m2 n2 _ s4 => ?_⟩
      have c1 : zs1.length ≤ rA.length := by
        have := nodup_len (m := rA.map (·.kd)) n1 fun z hz => by
          obtain ⟨row, hr', e⟩ := (m1 z).mp hz
          exact List.mem_map.mpr ⟨row, hr', e⟩
        rwa [List.length_map] at this
      have c2 : zs2.length ≤ rB.length := by
        have := nodup_len (m := rB.map (·.kd)) n2 fun z hz => by
          obtain ⟨row, hr', e⟩ := (m2 z).mp hz
          exact List.mem_map.mpr ⟨row, hr', e⟩
        rwa [List.length_map] at this
      refine ⟨l1, l2, _, _, rfl, rfl, s4 _ _ hz1, hz2, by rw [List.length_map, List.length_map, sizeLine_eq]; omega, fun p hp => ?_⟩
      have sp := same_new (o := .lst (zs1.map V.str ++ zs2.map V.str)) hp
      have ep : (upd H4 p (.lst (zs1.map V.str ++ zs2.map V.str))) p = some (.lst ((zs1 ++ zs2).map V.str)) := by rw [List.map_append]; exact upd_same
      generalize upd H4 p (.lst (zs1.map V.str ++ zs2.map V.str)) = H5 at *
      refine ⟨p, zs1 ++ zs2, rfl, SqL.of ep, by rw [List.length_append]; omega, fun a ha => ?_⟩
      have sa := same_new (o := SetTO P w a (dedT (zs1 ++ zs2))) ha
      have dl := dedT_len (zs1 ++ zs2) (zs1 ++ zs2).length (Nat.le_refl _)
      rw [List.take_length, List.length_append] at dl
      refine ⟨a, dedT (zs1 ++ zs2), rfl, upd_same, by omega, fun zs p2 pm so hp2 => ?_⟩
      exact ⟨.ref p2, rfl, (((s3.trans s4).trans sp).trans sa).trans (same_new hp2)⟩
    rintro σ H3 ⟨kd, rfl, s3⟩
    have s13 := s12.trans s3
    -- the places
    refine ⟨fun σ H6 => Same H H6, ?_, fun σ H6 s6 => k _ s6⟩
    obtain ⟨dx1, hw1⟩ := (XA.same s13).hp
    refine ⟨_, rfl, ov, dx1, _, rfl, hw1, rfl, ?_⟩
    refine tNil_in ⟨ov, q1, d1, r1, w1, A, clA, rA, rfl, XA.same s13, lA, fun l H4 _ hl4 s4 => ?_⟩
    refine ⟨l, rfl, ⟨_, SqL.of hl4⟩, ?_⟩
    have s14 := s13.trans s4
    have s24 := s3.trans s4
    refine for_list (xs := A.map V.str) (fun i σ H6 => ∃ v6 v7 v8, σ = [some (.ref ov), some (.ref we), some (.ref fo), some (.ref D1), some (.ref D2), some kd, v6, v7, v8, none, none] ∧ H6 = H4) ⟨none, none, none, rfl, rfl⟩ (fun i σ H6 _ ⟨_, _, _, _, h⟩ => by rw [h]; exact SqL.of hl4) ?_ (fun σ H6 ⟨_, _, _, _, h⟩ => by rw [h]; exact s14)
    rintro i x σ H6 hi ⟨v6, v7, v8, rfl, rfl⟩
    rw [List.getElem?_map] at hi
    obtain ⟨z, hz, rfl⟩ := Option.map_eq_some_iff.mp hi
    have hzm := List.mem_of_getElem? hz
    obtain ⟨a, ha⟩ : ∃ a, as1[i]? = some a := ⟨_, List.getElem?_eq_getElem (by have := (List.getElem?_eq_some_iff.mp hz).1; omega)⟩
    obtain ⟨j, hj⟩ := List.getElem?_of_mem (cv.to z hzm)
    obtain ⟨b, hb⟩ : ∃ b, as2[j]? = some b := ⟨_, List.getElem?_eq_getElem (by have := (List.getElem?_eq_some_iff.mp hj).1; omega)⟩
    obtain ⟨ks, e1, t1⟩ := h1 i a z ha hz
    obtain ⟨ls, e2, t2⟩ := h2 j b _ hb hj
    have t1' : WdT ks (gW B rB id (f z)) := t1.congr fun e k => gW_cvr ndA ndB FA FB cv hzm e k
    obtain ⟨le, sm⟩ := t1'.eq t2
    have g1 : DGet H6 D1 (V.str z) (some (V.ref a)) := by rw [← po_at hl1 ndA hz ha]; exact DGet.k (k := Sum.inr z) ((s2.trans s24) _ _ hD1)
    have g2 : DGet H6 fo (V.str z) (some (V.str (f z))) := by rw [← hlk z hzm]; exact DGet.k (k := Sum.inr z) (s14 _ _ hfo)
    have g3 : DGet H6 D2 (V.str (f z)) (some (V.ref b)) := by rw [← po_at hl2 ndB hj hb]; exact DGet.k (k := Sum.inr (f z)) (s24 _ _ hD2)
    refine ⟨_, rfl, _, rfl, D1, _, rfl, g1, ?_⟩
    refine ⟨_, rfl, _, rfl, _, rfl, fo, _, rfl, g2, D2, _, rfl, g3, ?_⟩
    exact ⟨_, rfl, _, rfl, a, b, ks, ls, rfl, rfl, (s2.trans s24) _ _ e1, s24 _ _ e2, le, sm, _, rfl, iteF ⟨_, _, _, rfl, rfl⟩⟩
end
end Nm
set_option autoImplicit false
set_option maxRecDepth 100000
set_option maxHeartbeats 8000000
/-! judge_folding, of a covering -/
namespace Nm
open PySem PySem.Spec PyProof.Rows L2
section
variable {P : Program} {w : World} {K : PySem.W.Frag} {mg : Str → Option Value} {base : Heap}
def spJF (C : Addr) : Sp := fun vs H Q _ => ∃ (ov q1 d1 r1 w1 we q2 d2 r2 w2 fo : Addr) (A clA B clB : List Str) (rA rB : List RowV) (nm : List Str) (f : Str → Str), vs = [.ref ov, .ref we, .ref fo] ∧ WebX C H ov q1 d1 r1 w1 A clA rA ∧ WebX C H we q2 d2 r2 w2 B clB rB ∧ RowsFit A.length rA ∧ RowsFit B.length rB ∧
  B.length ≤ 1000 ∧ rA.length ≤ 1900 ∧ rB.length ≤ 1900 ∧ H fo = some (.dK (ledK nm f)) ∧ fo ≠ d1 ∧ Leads A clA B clB nm f ∧ Cvr A (wN A rA) B (wN B rB) f ∧ ∀ H', Same H H' → Q .non H'
abbrev nJF : List Str := ["over", "web", "value", "fault"]
theorem scJF : FnScope nJF ["over", "web", "value"] (defScope sJudgeFolding) := ⟨rfl, rfl, rfl, by decide +kernel, rfl, by decide +kernel, by decide +kernel⟩
theorem ok_jf {fa C : Addr} {fd : FuncData} (F : Fun K "judge_folding" "judge_folding" sJudgeFolding fa fd) (Gl : Def P w K mg base "is_leading" ["value"] 1 spLeading) (Gn : Def P w K mg base "judge_names" ["over", "web", "value"] 3 (spJN C)) (Gw : Def P w K mg base "judge_widths" ["over", "web", "folding"] 3 (spJW C)) : FnOk P w K mg base CX0 4 fa fd ["over", "web", "value"] (spJF C) := by
  obtain ⟨fl, fdl, Gl, ml, kl, bl⟩ := Gl.ex
  obtain ⟨fn, fdn, Gn, mn, kn, bn⟩ := Gn.ex
  obtain ⟨fw, fdw, Gw, mw, kw, bw⟩ := Gw.ex
  refine F.ok scJF (fun vs H Q E h => ?_) (fun cdv A' outer s H vs Q E hr h => ?_)
  · obtain ⟨_, _, _, _, _, _, _, _, _, _, _, _, _, _, _, _, _, _, _, rfl, _⟩ := h
    rfl
  · obtain ⟨ov, q1, d1, r1, w1, we, q2, d2, r2, w2, fo, A, clA, B, clB, rA, rB, nm, f, rfl, XA, XB, FA, FB, lB, mA, mB, hfo, nfo, L, cv, k⟩ := h
    have hu := hu_of hr
    refine ⟨_, pss_cons (ps_if (pt_not (pt_val (pe_call Gl (hr.mono (by decide)) (by rfl) ml kl bl .nil pass0 (pa_cons (pv 2) pa_nil)))) pss_nope pss_nil)
      (pss_cons (ps_set (i := 3) scJF.nd rfl (Or.inl rfl) (pe_call Gn hr (by rfl) mn kn bn .nil pass0 (pa_cons (pv 0) (pa_cons (pv 1) (pa_cons (pv 2) pa_nil)))))
      (pss_cons (ps_if (pt_cmp (pc_notN (pv 3))) pss_nope pss_nil)
      (pss_one (ps_ret (pe_call Gw hr (by rfl) mw kw bw .nil pass0 (pa_cons (pv 0) (pa_cons (pv 1) (pa_cons (pv 2) pa_nil)))))))), ?_⟩
    have ln : nm.length = A.length := L.pm.length_eq
    have le := L.le
    refine ⟨_, rfl, fo, nm, f, rfl, hfo, L.pm.nodup_iff.mpr L.ndA, by omega, fun H1 s1 => ⟨_, rfl, iteF ?_⟩⟩
    refine ⟨_, rfl, _, rfl, _, rfl, ov, q1, d1, r1, w1, we, q2, d2, r2, w2, fo, A, clA, B, clB, rA, rB, nm, f, rfl, XA.same s1, XB.same s1, s1 _ _ hfo, nfo, L, fun H2 s2 => ?_⟩
    have s12 := s1.trans s2
    refine ⟨_, rfl, false, rfl, iteF ?_⟩
    refine ⟨_, rfl, _, rfl, _, rfl, ov, q1, d1, r1, w1, we, q2, d2, r2, w2, fo, A, clA, B, clB, rA, rB, _, f, rfl, XA.same s12, XB.same s12, FA, FB, L.ndA, L.ndB, L.le, lB, mA, mB, s12 _ _ hfo, fun x hx => ledK_at (L.pm.nodup_iff.mpr L.ndA) (L.pm.mem_iff.mpr hx), cv, fun H3 s3 => k _ (s12.trans s3)⟩
end
end Nm
set_option autoImplicit true
set_option maxRecDepth 100000
set_option maxHeartbeats 4000000
/-! exceptions over LookupError: self.name = .., super().__init__(f"..") -/
namespace Nm
open PySem PySem.Spec PyProof.Rows L2
abbrev leTail : List Value := [.type "LookupError", .type "Exception", .type "BaseException", .type "object"]
def LE (l : List Value) : Prop := ∃ cs : List Addr, l = cs.map Value.ref ++ leTail
def leB : List Value → Bool
  | .ref _ :: r => leB r
  | l => l == leTail
theorem le_of : ∀ l : List Value, leB l = true → LE l := fun l => by
  induction l with
  | nil => intro e; exact absurd e (by decide)
  | cons a r ih =>
    intro e
    cases a
    case ref c =>
      obtain ⟨cs, h⟩ := ih e
      exact ⟨c :: cs, by rw [h]; rfl⟩
    all_goals exact ⟨[], beq_iff_eq.mp e⟩
theorem LE.has {l : List Value} (h : LE l) (X : String) : l.contains (.type X) = leTail.contains (.type X) := by
  obtain ⟨cs, rfl⟩ := h
  induction cs with
  | nil => rfl
  | cons c cs ih =>
    rw [List.map_cons, List.cons_append, List.contains_cons, ih]
    rfl
theorem LE.cons {l : List Value} (h : LE l) (c : Addr) : LE (.ref c :: l) := by
  obtain ⟨cs, rfl⟩ := h
  exact ⟨c :: cs, rfl⟩
theorem LE.ne {l : List Value} (h : LE l) : l.isEmpty = false := by
  obtain ⟨cs, rfl⟩ := h
  cases cs <;> rfl
section
open Builtin Builtin.ObjectAttr PySem.HandSPX
theorem LE.pass {l : List Value} (h : LE l) (self : Value) : refuseLoop self "__setattr__" l = pure () := by
  obtain ⟨cs, rfl⟩ := h
  induction cs with
  | nil => exact F.store_LookupError.passes self
  | cons c cs ih =>
    rw [List.map_cons, List.cons_append, refuseLoop_ref]
    exact ih
variable {prog : Program} {w : World} {A : Around} {R : Result → Shared → Prop} {hp : Heap} {g : Array GenState} {d : Drawn} {t : Nat} {os : OsState}
theorem le_osa {K : PySem.W.Frag} {name : Str} {tk : Tok} {v : Value} {x C : Addr} {fv : Array Value} {cd : ClassData} (KX : K.In hp) (ox : hp.get? x = some { cls := .ref C, data := .fields fv })
    (cc : PySem.W.clsIn K C = some cd) (lm : LE cd.mro) (dh : cd.hasDict = true) (no : PySem.W.findIn K (.ref C) name = some none)
    (fin : ∀ h' tk' dx, (∀ b o, b ≠ x → hp.get? b = some o → h'.get? b = some o) → hp.objs.size ≤ dx → dx ≠ x → h'.get? x = some { cls := .ref C, dict := some dx, data := .fields fv } → h'.Ns1 dx (fun y => if y = name then some v else none) → R (.ok (.ret .none)) ⟨h', g, d, tk', os⟩) :
    codeAny (model prog w) A (.call (.builtin "object.__setattr__") ⟨[.ref x, .str name tk, v], []⟩) R ⟨hp, g, d, t, os⟩ := by
  have J : PySem.W.InstAt hp x { cls := .ref C, data := .fields fv } C none := ⟨ox, rfl, rfl, trivial⟩
  have G := F.store_object
  have noE := lm.ne
  have objIn : cd.mro.contains (.type "object") = true := (lm.has "object").trans (by decide +kernel)
  have far : x ≠ hp.objs.size := Nat.ne_of_lt (Heap.lt_size ox)
  have isO : PySem.W.Looks (model prog w) hp (isInstance (.ref x) (.type "object")) true := J.type.andThen (PySem.W.looks_mroIn KX (by unfold PySem.W.mroIn; rw [cc, Option.bind_some, if_neg (by rw [noE]; decide), objIn]))
  have three := G.args (.ref x) (.str name tk) v
  refine codeAny_call_builtin G.slot.plain G.entry (@PySem.W.check_slot (model prog w) _ _ ⟨hp, g, d, t, os⟩ "object.__setattr__" "object" "__setattr__" (.ref x) [.str name tk, v] [] _ G.kind G.split isO three ?_)
  have mr : PySem.W.Looks (model prog w) hp (mroOf (.ref C)) cd.mro := (PySem.W.looks_clsIn KX cc).andThen .now
  have tk3 : PySem.W.Looks (model prog w) hp (storeTaker? none) none := .now
  have lc : PySem.W.Looks (model prog w) hp (classData C) cd := PySem.W.looks_clsIn KX cc
  rw [PySem.W.osa_eq, refuse_eq]
  refine wpAny_bind (wpAny_bind (J.type.at (wpAny_bind (mr.at ?_))))
  rw [lm.pass]
  refine wpAny_pure (wpAny_bind (J.type.at (wpAny_bind ((PySem.W.looks_findIn KX no).at (wpAny_bind (tk3.at ?_))))))
  show wpAny _ _ (storeInOwnDict (.ref x) (.ref C) (.str name tk) name v false) _ _ _
  obtain ⟨c1, c2, c3, c4, c5, c6, c7, c8, c9, c10, c11⟩ := cd
  dsimp only at dh; subst dh; unfold storeInOwnDict ownDictForStores
  repeat (first | with_reducible refine store_in_new ?_ ?_ | with_reducible refine wpAny_loadPart_at ox ?_ | with_reducible refine lc.at ?_ | wp_step)
  · exact ⟨_, #[], _, (Heap.get?_update_ne _ _ _ _ far.symm).trans (Heap.get?_push_at rfl rfl), rfl, fun e he => absurd he (by simp), fun _ => rfl⟩
  · intro h' tk' ns sb
    have ox1 : (hp.push { cls := .type "dict", data := .dict #[] }).get? x = some { cls := .ref C, data := .fields fv } := Heap.get?_push_of_some _ ox
    refine fin h' tk' hp.objs.size (fun b o hb ho => ?_) (Nat.le_refl _) far.symm ?_ ns
    · have nb := Nat.ne_of_lt (Heap.lt_size ho)
      exact (sb.2 b nb).trans ((Heap.get?_update_ne _ _ _ _ hb).trans (Heap.get?_push_of_some _ ho))
    · exact (sb.2 x far).trans (Heap.get?_update_self _ ox1 rfl)
end
/-- what the written part says of such a class -/
structure OexL (K : PySem.W.Frag) (C : Addr) : Prop where
  known : ∃ nm q N bs bm sn sub ab col dd k0 k1 k2 k3 k5, K.lookup C = some (excClassObj nm q C N bs bm true sn sub ab col dd k0 k1 k2 k3 k5 "LookupError.__new__") ∧ LE bm
  sets : PySem.W.findIn K (.ref C) "__setattr__" = some (some (.builtin "object.__setattr__"))
  isE : PySem.W.subIn K (.ref C) (.type "BaseException") = some true
  isT : PySem.W.typeIn K (.ref C) = some (.type "type")
  kept : PySem.W.keepIn K (.ref C) = true
section
variable {X : Cx} {pins : List (Addr × Obj)} {σ : L2.St} {H : Hp} {s : Shared} {a C dx : Addr} {f : Str} {y : V} {u : Value} {fs : List (Str × V)} {E : Value → Shared → Prop} {A : Around}
theorem ostL {Q : Unit → Shared → Prop} (T : OexL X.K C) (I : Inv X pins σ H s) (e : H a = some (exo a C none)) (no : PySem.W.findIn X.K (.ref C) f = some none) (ry : RelV y u)
    (h : ∀ dx s', H dx = none → dx ≠ a → Inv X pins σ (upd (upd H dx (exd dx [(f, y)])) a (exo a C (some dx))) s' → Q () s') : wpAny (model X.prog X.w) A (setAttr (.ref a) f u) Q E s := by
  obtain ⟨nm, q, N, bs, bm, sn, sub, ab, col, dd, k0, k1, k2, k3, k5, hC, hbm⟩ := T.known
  have cc : PySem.W.clsIn X.K C = some { name := nm, bases := bs, mro := .ref C :: bm, ns := N, qualname := q, hasDict := true, slotNames := sn, subclasses := sub, abstract := ab, collection := col, hasDel := false } := by
    unfold PySem.W.clsIn; rw [hC] <;> rfl
  obtain ⟨t1, ho⟩ := exo_at I.hok e
  obtain ⟨hp, g, d, t, os⟩ := s
  refine PySem.W.set_plain I.kIn (ox := { cls := .ref C, dict := none, data := .fields #[.ref t1, .none, .none, .none, .bool false, .none] }) (od := none) ⟨ho, rfl, rfl, trivial⟩ T.sets ?_
  refine le_osa I.kIn ho cc (hbm.cons C) rfl no (fun h' tk' dx k dn dne hx hn => ?_)
  have hnd : H dx = none := I.hok.fresh dn
  have nd : ∀ {b : Addr} {o : Obj}, hp.get? b = some o → b ≠ dx := fun {b o} q => Nat.ne_of_lt (Nat.lt_of_lt_of_le (Heap.lt_size q) dn)
  have na : ∀ {b : Addr}, H b = none → b ≠ a := fun {b} n z => by rw [z, e] at n; cases n
  have U : Un X.fs [] H (upd (upd H dx (exd dx [(f, y)])) a (exo a C (some dx))) hp h' := {
    keep := fun b o q n _ _ => k b o (na n) q
    slot := fun b o q n _ _ => ⟨o.slots, k b o (na n) q⟩
    free := fun b o q n _ => by rw [upd_ne (na n), upd_ne (nd q)]; exact n
    there := fun b o q _ => by
      by_cases hb : b = a
      · exact ⟨_, by rw [hb]; exact hx⟩
      · exact ⟨o, k b o hb q⟩
    tups := fun b xs q => by rw [upd_ne (at_ne e q exo_tup), upd_ne (ne_of_none q hnd)]; exact q
    frzs := fun b o v q => by rw [upd_ne (at_ne e q exo_frz), upd_ne (ne_of_none q hnd)]; exact q
    tbls := fun b ps q => ⟨#[], by rw [upd_ne (at_ne e q exo_tbl), upd_ne (ne_of_none q hnd), q]; simp⟩ }
  refine h dx _ hnd dne (I.un (t' := tk') U fun b o q => ?_)
  by_cases hb : b = a
  · subst hb
    rw [upd_same] at q
    cases q
    exact exo_ok hx
  · rw [upd_ne hb] at q
    by_cases hd : b = dx
    · subst hd
      rw [upd_same] at q
      cases q
      exact exd_ok hn (relO_put (fs := []) ry fun g => True.intro)
    · rw [upd_ne hd] at q
      have stays : ∀ (c : Addr), (c = b ∨ H c = some (.own b)) → c ≠ a := fun c hc => by
        rcases hc with hc | hc
        · rw [hc]; exact hb
        · exact at_ne e hc exo_own
      exact (I.hok b o q).stay (fun c v hc z => k c v (stays c hc) z) (fun c hc => by rw [upd_ne (at_ne e hc exo_own), upd_ne (ne_of_none hc hnd)]; exact hc) (fun c xs hc => by rw [upd_ne (at_ne e hc exo_tup), upd_ne (ne_of_none hc hnd)]; exact hc)
/-- super().__init__, bound at u, called: nothing of it is told -/
theorem mw_callL {us : List Value} {Q : Value → Shared → Prop} {u : Addr} (T : OexL X.K C) (I : Inv X pins σ H s) (hu : s.heap.get? u = some (PySem.W.kxs_mw "LookupError.__init__" a)) (e : H a = some (exo a C (some dx))) (hl : us.length ≤ sizeLine)
    (h : ∀ s', Inv X pins σ H s' → Q .none s') : wpAny (model X.prog X.w) A (call (.ref u) us) Q E s := by
  obtain ⟨nm, q, N, bs, bm, sn, sub, ab, col, dd, k0, k1, k2, k3, k5, hC, hbm⟩ := T.known
  obtain ⟨t1, ho⟩ := exo_at I.hok e
  have fin : ∀ h', (∀ b o, b ≠ a → s.heap.get? b = some o → h'.get? b = some o) → h'.get? a = some ({ cls := .ref C, dict := some dx, data := .fields #[.ref s.heap.objs.size, .none, .none, .none, .bool false, .none] } : Obj) → Inv X pins σ H { s with heap := h', toks := s.toks } := fun h' k e' => by
    have J := I.write (t' := s.toks) (x := a) (e := a) (o := exo a C (some dx)) (by rw [e]; exact True.intro) (.inl rfl) k ⟨_, e'⟩ (exo_ok e')
    have eu : upd H a (exo a C (some dx)) = H := by
      funext b
      by_cases hb : b = a
      · rw [hb, upd_same, e]
      · rw [upd_ne hb]
    rw [eu] at J
    exact J
  have hCC := I.kIn _ _ hC
  obtain ⟨hp, g, d, t, os⟩ := s
  refine wpAny_call (codeAny_of_tree ?_)
  show wpAny _ A.in1 (callAny (.ref u) ⟨us, []⟩) _ _ _
  simp only [callAny]
  refine wpAny_bind (wpAny_load hu ?_)
  simp only [PySem.W.kxs_mw, show (Value.type "method-wrapper" == Value.type "method" || Value.type "method-wrapper" == Value.type "builtin_function_or_method" || Value.type "method-wrapper" == Value.type "method-wrapper") = true by decide, if_true]
  refine PySem.W.KFB.if_so (by decide) ?_
  refine wpAny_bind (PySem.W.check_bound_init F.excBase_LookupError.toExcCallFacts hCC ho rfl ?_)
  refine wpAny_bind (wpAny_pure (wpAny_pure ?_))
  refine ⟨plainId_quiet F.excBase_LookupError.init.plain _, codeAny_builtin F.excBase_LookupError.initEntry ?_⟩
  exact PySem.W.exc_init_tree (cls := .ref C) (t0 := t1) (dv := some dx) (c2 := .none) (c3 := .none) (b4 := .bool false) ho hl fun h' k e' _ => h _ (fin h' k e')
end
/-- self.f = e, the first field -/
def tOstL (K : PySem.W.Frag) (f : Str) (to te : TE) : TS := fun D σ H => te σ H fun y H1 => to σ H1 fun x H2 => ∃ a C : Addr, x = .ref a ∧ OexL K C ∧ PySem.W.findIn K (.ref C) f = some none ∧ H2 a = some (exo a C none) ∧
  ∀ dx, H2 dx = none → dx ≠ a → D.nx σ (upd (upd H2 dx (exd dx [(f, y)])) a (exo a C (some dx)))
section
variable {X : Cx} {o e : Expr} {es : List Expr} {to te : TE} {ta : TA} {f : Str} {p p' p1 p2 pos : Pos}
theorem ps_ostL (ho : PE X o to) (he : PE X e te) (hs : swapsWith e (some (.Attribute o f p')) pos.line X.env = pure false := by rfl) : PS X (.Assign [.Attribute o f p'] e pos) (tOstL X.K f to te) := by
  refine ⟨fun pins s σ H D I h => ?_⟩
  refine plainObj_wpAny_Assign_Attribute (thn (he.run pins s σ H _ I h) fun v s1 ⟨y, H1, I1, r1, q1⟩ => ?_) hs
  refine thn (ho.run pins s1 σ H1 _ I1 q1) fun u s2 ⟨x, H2, I2, r2, a, C, ex, T, no, ea, q⟩ => ?_
  subst ex
  obtain rfl : u = Value.ref a := r2
  exact ostL T I2 ea no r1 fun dx s' n ne J => ⟨σ, _, J, q dx n ne⟩
/-- C(e, ..) of such a class -/
theorem pmk_oexL {CX : CXT} {x : Str} {C fI : Addr} {k : Nat} {fd : FuncData} {ps : List Str} {sp : Sp} (T : OexL X.K C) (iC : PySem.W.findIn X.K (.ref C) "__init__" = some (some (.ref fI))) (tI : PySem.W.typeIn X.K (.ref fI) = some (.type "function"))
    (G : FnOk X.prog X.w X.K X.mg X.base CX k fI fd ps sp) (hr : Room (k + 1) X.A) (hb : Binds X.K fd ps []) (hx : Passes CX X (fun _ _ _ => False)) (hg : Gl X x) (hm : X.mg x = some (.ref C)) (ha : PA X (e :: es) ta)
    (hdb : (x == ("__debug__" : Str)) = false := by decide) (hst : starEach (e :: es) X.env = (false, eval e X.env) :: starEach es X.env := by rfl) (hpl : (backTo pos (starEach es X.env)).any (·.1) = false := by rfl) :
    PMk X (.Call (.Name x p) (e :: es) [] pos) (tMkO C sp [] ta) := by
  intro pins s σ H Q I h
  obtain ⟨nm, q, N, bs, bm, sn, sub, ab, col, dd, k0, k1, k2, k3, k5, hC, hbm⟩ := T.known
  refine wpAny_Call_Name_kw (ld_glob I hg hm ?_ hdb)
  refine PySem.W.callWith_K (h₀ := X.base) I.ok.mod.kin T.kept (thn (ha.run pos pins s σ H _ I h) fun us s1 ⟨vs, H1, I1, r1, hz, q1⟩ => ⟨I1.kIn, ?_⟩) hst hpl
  show wpAny _ _ (call (.ref C) us) _ _ _
  obtain ⟨hp, g, dr, tk, os⟩ := s1
  have up : hp.objs.size ≤ hp.objs.size + 1 := Nat.le_succ _
  have new : H1 (hp.objs.size + 1) = none := I1.hok.fresh up
  have hq := q1 (hp.objs.size + 1) new
  have kk : ∀ b o, hp.get? b = some o → ((hp.push (PySem.W.kdv_tup us)).push (PySem.HandSPX.excO C hp.objs.size)).get? b = some o := fun b o z => Heap.get?_push_of_some _ (Heap.get?_push_of_some _ z)
  have laid : ((hp.push (PySem.W.kdv_tup us)).push (PySem.HandSPX.excO C hp.objs.size)).get? (hp.objs.size + 1) = some (PySem.HandSPX.excO C hp.objs.size) := by heap_get
  have I2 : Inv X pins σ (upd H1 (hp.objs.size + 1) (exo (hp.objs.size + 1) C none)) ⟨(hp.push (PySem.W.kdv_tup us)).push (PySem.HandSPX.excO C hp.objs.size), g, dr, tk, os⟩ := by
    exact I1.laid (t' := tk) (a := hp.objs.size + 1) (o := exo (hp.objs.size + 1) C none) (h' := (hp.push (PySem.W.kdv_tup us)).push (PySem.HandSPX.excO C hp.objs.size)) kk up (exo_ok laid)
  have r2 : Vals (V.ref (hp.objs.size + 1) :: (vs ++ [])) (Value.ref (hp.objs.size + 1) :: (us ++ [])) := .cons rfl (r1.append .nil)
  have hl : (Value.ref (hp.objs.size + 1) :: us ++ []).length = ps.length := by
    have z := r2.length
    rw [G.len _ _ _ _ hq] at z
    exact z.symm
  have short : us.length ≤ sizeLine := by rw [← Paired.length r1, sizeLine_eq]; omega
  have bnd := hb (⟨(hp.push (PySem.W.kdv_tup us)).push (PySem.HandSPX.excO C hp.objs.size), g, dr, tk, os⟩ : Shared) (Value.ref (hp.objs.size + 1) :: us) I2.kIn hl
  rw [List.cons_append] at bnd
  have body := G.run _ X.stack _ _ ⟨Value.ref (hp.objs.size + 1) :: us, []⟩ (Value.ref (hp.objs.size + 1) :: (us ++ [])) _ _ (fun _ _ _ => False) (hr.make C us []) (I2.env0.make C us []) bnd r2 hq
  refine wpAny_call (PySem.HandSPX.call_own F.excBase_LookupError (fun Y => hbm.has Y) (I1.kIn _ _ hC) (PySem.W.looks_findIn I1.kIn iC) (fun self => PySem.W.bind_fn I1.kIn self tI) short (codeAny_mono body fun r s' hq' => ?_))
  cases r with
  | error er => exact hx pins σ _ _ er s' I2 hq'
  | ok fl =>
    cases fl with
    | ret u =>
      obtain ⟨v, H2, os2, bare2, un2, hok2, rv, ev, d, fs, ea, ed, hd1, q2⟩ := hq'
      subst ev
      obtain ⟨h2, g2, d2, t2, os'⟩ := s'
      exact ⟨rv, mk_end (raises_own T.isE T.isT) I1 up kk un2 hok2 os2 bare2 ea ed hd1 q2⟩
    | next => exact False.elim hq'
    | brk => exact False.elim hq'
    | cont => exact False.elim hq'
end
end Nm
set_option autoImplicit true
set_option maxRecDepth 100000
set_option maxHeartbeats 4000000
/-! super().__init__(e) in the __init__ of an own exception over LookupError -/
namespace Nm
open PySem PySem.Spec PyProof.Rows L2
/-- what the written part says of the class at C, its __init__ at f, the code at cda, the cell __class__ at cc -/
structure SupL (P : Program) (K : PySem.W.Frag) (C f cda cc : Addr) (fd : FuncData) (qual : Str) (st : Stmt) (a0 : Str) : Prop where
  oex : OexL K C
  lk : ∃ oc od kV doc pm an ct osl, fd = PySem.W.ksFn "__init__" qual (defArgs st) (defBody st) (defScope st) .none kV doc pm an (.ref cda) ct cc ∧ K.lookup f = some ⟨oc, od, .func fd, osl⟩
  hd : ∃ ar, ((defArgs st).posonlyargs ++ (defArgs st).args).head? = some ar ∧ ar.arg = a0
  code : ∃ ccl cdd vs ccs file tf, K.lookup cda = some ⟨ccl, cdd, .fields vs, ccs⟩ ∧ vs[2]? = some (.str file tf) ∧ ((P.main.file : Str) == file) = true
  recd : PySem.W.codeIn K (.ref cda) qual = true
  cell : ∃ cl cld csl, K.lookup cc = some ⟨cl, cld, .cell (some (.ref C)), csl⟩
  cd : ∃ cd, PySem.W.clsIn K C = some cd
  sub : PySem.W.mroIn K C (.ref C) = some true
  subV : PySem.W.subIn K (.ref C) (.type "LookupError") = some true
  sup : PySem.W.ks_superIn K C C "__init__" = some (some (.builtin "LookupError.__init__"))
  opq : PySem.W.nsIn K cStatics "thirdparty.any" = some none
  top : (P.main.scope.names.lookup ("super" : Str)).isSome = false
section
variable {X : Cx} {pins : List (Addr × Obj)} {σ : L2.St} {H : Hp} {s : Shared} {a C dx f cda cc L : Addr} {fd : FuncData} {qual a0 : Str} {st : Stmt}
/-- super().__init__(e ..), the code known -/
theorem sup_exprL {body : List Stmt} {e : Expr} {es : List Expr} {ta : TA} {i : Nat} {p0 p1 p2 pos : Pos} {Q : Value → Shared → Prop} {pl : Sem Bool} (F : SupL X.prog X.K C f cda cc fd qual st a0)
    (hX : X.env = PySem.W.ksEnv qual (defScope st) L f (.ref cda) cc) (hms : X.mg "super" = none)
    (hks : (defScope st).names.lookup ("super" : Str) = some .globalImplicit) (hkc : (defScope st).names.lookup ("__class__" : Str) = some .free) (hN : X.N[i]? = some a0) (hka : (defScope st).names.lookup a0 = some .local) (ha : PA X (e :: es) ta)
    (I : Inv X pins σ H s) (hσ : σ[i]? = some (some (.ref a))) (hH : H a = some (exo a C (some dx)))
    (q : ta σ H fun vs H1 => vs.length ≤ 1000 ∧ H1 a = some (exo a C (some dx)) ∧ ∀ s', Inv X pins σ H1 s' → Q .none s')
    (he : starEach (e :: es) X.env = (false, eval e X.env) :: starEach es X.env := by rfl) (hpl : (backTo pos (starEach es X.env)).any (·.1) = false := by rfl)
    (hc : eval (.Call (.Attribute (.Call (.Name "super" p0) [] [] p1) "__init__" p2) (e :: es) [] pos) X.env = (do
      let ov ← attributeBase (.Call (.Name "super" p0) [] [] p1) "__init__" X.env (eval (.Call (.Name "super" p0) [] [] p1) X.env)
      standAt p2.atName
      let (f, first) ← holding [ov] (getMethod ov "__init__" pl)
      callWith pos f first (backTo pos (starEach (e :: es) X.env)) []) := by rfl) :
    _root_.PySem.wpAt (model X.prog X.w) X.A (.func body X.env) (eval (.Call (.Attribute (.Call (.Name "super" p0) [] [] p1) "__init__" p2) (e :: es) [] pos) X.env) Q X.xe s := by
  have KX := I.kIn
  obtain ⟨oc, od, kV, doc, pm, an, ct, osl, rfl, lk⟩ := F.lk
  obtain ⟨ar, har, hara⟩ := F.hd
  obtain ⟨ccl, cdd, vs, ccs, file, tf, hcode, hvs, hfile⟩ := F.code
  obtain ⟨cl, cld, csl, hcell⟩ := F.cell
  obtain ⟨cd, hcd⟩ := F.cd
  obtain ⟨oD, hD1, hD2⟩ : ∃ oD, s.heap.get? C = some oD ∧ oD.data = .cls cd := by
    unfold PySem.W.clsIn at hcd
    split at hcd
    · rename_i c d cd' sl ho
      cases hcd
      exact ⟨_, KX _ _ ho, rfl⟩
    · cases hcd
  obtain ⟨t1, ho⟩ := exo_at I.hok hH
  obtain ⟨mb, hmb, hmv⟩ := I.mod.blt
  have naC : a ≠ C := fun z => by
    rw [z, hD1] at ho
    cases ho
    cases hD2
  refine PySem.ks_wpAt_MethodCall (pl := pl) ?_ hc
  rw [hX]
  obtain ⟨hp, g, d, t, os⟩ := s
  refine PySem.ks_wpAt_super_base (env := PySem.W.ksEnv qual (defScope st) L f (.ref cda) cc) hks hkc (by decide) rfl (KX _ _ lk) rfl har rfl (KX _ _ hcode) rfl hvs hfile F.top ?_
  have hk : (defScope st).kind = .function := by
    have z := I.ok.kind
    rw [hX] at z
    exact z
  refine PySem.W.ks_loadName_global (env := PySem.W.ksEnv qual (defScope st) L f (.ref cda) cc) hk hks (PySem.Calls.loadGlobal_builtin (env := PySem.W.ksEnv qual (defScope st) L f (.ref cda) cc) (I.mod.glob.keeps I.bk) hms (hmb.keeps I.bk) ((hmv _ (by decide)).trans PyProof.Rows.Boot.«super») ⟨rfl, ?_⟩)
  refine wpAny_loadName_free (env := PySem.W.ksEnv qual (defScope st) L f (.ref cda) cc) hk hkc rfl ⟨_, KX _ _ hcell, rfl⟩ ?_
  obtain ⟨m, hn, hl⟩ := I.loc
  obtain ⟨u0, r0, l0⟩ := hl i a0 (.ref a) hN hσ (by rw [hX]; exact .inl hka)
  obtain rfl : u0 = Value.ref a := r0
  rw [hX] at l0 hn
  have hm0 : m a0 = some (.ref a) := by
    rcases l0 with ⟨_, z⟩ | ⟨z, _⟩
    · exact z
    · have z' : (defScope st).names.lookup a0 = some .cell ∨ (defScope st).names.lookup a0 = some .free := z
      rw [hka] at z'
      rcases z' with z' | z' <;> cases z'
  rw [hara]
  refine wpAny_loadName_local (env := PySem.W.ksEnv qual (defScope st) L f (.ref cda) cc) hk hka hn hm0 ?_
  refine PySem.ks_wpAny_isType_cls hD1 hD2 ⟨rfl, ?_⟩
  refine PySem.ks_wpAny_call_super hD1 hD2 ho rfl (fun c z => by cases z) (PySem.W.looks_mroIn KX F.sub) (fun h' e' k => ?_)
  have I1 : Inv X pins σ H ⟨h', g, d, t, os⟩ := I.kept (t' := t) k
  have KX1 := I1.kIn
  have ho1 := k _ _ ho
  have LT : PySem.W.Looks (model X.prog X.w) h' (typeOf (.ref a)) (.ref C) := fun A Q E s k q => wpAny_typeOf_ref (k _ _ ho1) q
  have hfs := F.sup
  unfold PySem.W.ks_superIn at hfs
  rw [hcd] at hfs
  refine PySem.W.kxs_getMethod PySem.W.kxs_LookupError e' (PySem.W.looks_opaque KX1 F.opq) (l₀ := cd.mro) (fun A Q E s k q => wpAny_bind ((PySem.W.looks_clsIn KX1 hcd) A _ E s k (wpAny_pure q))) rfl KX1 hfs (LT.andThen (PySem.W.looks_subIn KX1 F.subV)) naC (by decide) ?_
  have I2 : Inv X pins σ H ⟨h'.push (PySem.W.kxs_mw "LookupError.__init__" a), g, d, t + 1, os⟩ := I1.kept (t' := t + 1) fun b o z => Heap.get?_push_of_some _ z
  have I3 : Inv X ((h'.objs.size, PySem.W.kxs_mw "LookupError.__init__" a) :: pins) σ H ⟨h'.push (PySem.W.kxs_mw "LookupError.__init__" a), g, d, t + 1, os⟩ := I2.pins_of fun p hp => by
    rcases List.mem_cons.mp hp with z | z
    · subst z
      exact ⟨Heap.get?_push_at rfl rfl, I1.hok.fresh (Nat.le_refl _), Nat.ne_of_gt I1.lt, I1.nofs (Nat.le_refl _), fun v z => by cases z⟩
    · exact I2.pin p (List.mem_append_right _ z)
  show wpAny _ _ (callWith pos (.ref h'.objs.size) [] (backTo pos (starEach (e :: es) (PySem.W.ksEnv qual (defScope st) L f (.ref cda) cc))) []) _ _ _
  rw [← hX]
  have HA : wpAny (model X.prog X.w) X.A (spliced (backTo pos (starEach (e :: es) X.env))) (fun us s1 => PySem.W.KxsAt "LookupError.__init__" h'.objs.size a s1.heap ∧ wpAny (model X.prog X.w) X.A (call (.ref h'.objs.size) us) Q X.xe s1) X.xe ⟨h'.push (PySem.W.kxs_mw "LookupError.__init__" a), g, d, t + 1, os⟩ := by
    refine thn (ha.run pos _ _ σ H _ I3 q) fun us s1 hs1 => ?_
    obtain ⟨vs, H1, I4, r, hl1, hH1, kq⟩ := hs1
    have pu := (I4.pin (h'.objs.size, PySem.W.kxs_mw "LookupError.__init__" a) (List.mem_append_right _ List.mem_cons_self)).1
    exact ⟨pu, mw_callL F.oex I4 pu hH1 (by rw [← Paired.length r, sizeLine_eq]; omega) fun s' J => kq s' (J.pins_of fun p hp => J.pin p (List.mem_append_right _ (List.mem_cons_of_mem _ hp)))⟩
  rw [he] at HA ⊢
  refine PySem.W.kxs_callWith (i := "LookupError.__init__") (x := a) (by show (false || (backTo pos (starEach es X.env)).any (·.1)) = false; rw [hpl]; rfl) ?_
  exact PySem.Calls.evalArgs_plain HA
end
section
variable {P : Program} {w : World} {K : PySem.W.Frag} {mg : Str → Option Value} {base : Heap} {A : Around} {outer : List Env} {s : Shared} {H : Hp} {E : XK} {C f cda cc : Addr} {fd : FuncData} {qual p0 p1 : Str} {st : Stmt}
/-- THE RULE: def __init__(p0, p1): one statement; super().__init__(e ..) -/
theorem sup_defL {sp : Sp} {k : Nat} {s1 : Stmt} {e : Expr} {es : List Expr} {q0 q1 q2 q3 q4 : Pos} (F : SupL P K C f cda cc fd qual st p0) (S : SupS p0 p1 (defScope st)) (hms : mg "super" = none)
    (hb : defBody st = [s1, .Expr (.Call (.Attribute (.Call (.Name "super" q0) [] [] q1) "__init__" q2) (e :: es) [] q3) q4]) (len : ∀ vs H Q E, sp vs H Q E → vs.length = 2)
    (hbody : ∀ (A : Around) (outer : List Env) (s : Shared) (H : Hp) (vs : List V) (Q : VK) (E : XK), Room k (A.deeper (PySem.W.ksEnv qual (defScope st) s.heap.objs.size f (.ref cda) cc)) → sp vs H Q E →
      ∃ (a : Addr) (t : TS) (ta : TA), PS (supCx P w K mg base [p0, p1] qual (defScope st) f cda cc A outer s H E) s1 t ∧ PA (supCx P w K mg base [p0, p1] qual (defScope st) f cda cc A outer s H E) (e :: es) ta ∧
        t { nx := fun σ H' => σ[0]? = some (some (.ref a)) ∧ ∃ dx, H' a = some (exo a C (some dx)) ∧ ∀ R : List V → Hp → Prop, (∀ vs H1, vs.length ≤ 1000 → H1 a = some (exo a C (some dx)) → Q .non H1 → R vs H1) → ta σ H' R, rt := fun _ _ => False } (start [p0, p1] vs) H)
    (hsw : ∀ env : Env, swapsWith (.Call (.Attribute (.Call (.Name "super" q0) [] [] q1) "__init__" q2) (e :: es) [] q3) none q4.line env = pure false := by intro env; rfl)
    {pl : Sem Bool} (he : ∀ env : Env, starEach (e :: es) env = (false, eval e env) :: starEach es env := by intro env; rfl) (hpl : ∀ env : Env, (backTo q3 (starEach es env)).any (·.1) = false := by intro env; rfl)
    (hc : ∀ env : Env, eval (.Call (.Attribute (.Call (.Name "super" q0) [] [] q1) "__init__" q2) (e :: es) [] q3) env = (do
      let ov ← attributeBase (.Call (.Name "super" q0) [] [] q1) "__init__" env (eval (.Call (.Name "super" q0) [] [] q1) env)
      standAt q2.atName
      let (f, first) ← holding [ov] (getMethod ov "__init__" pl)
      callWith q3 f first (backTo q3 (starEach (e :: es) env)) []) := by intro env; rfl) : FnOk P w K mg base CX0 (k + 1) f fd [p0, p1] sp := by
  refine ⟨len, fun A outer s H args us vs Q E hr e0 hbd r hsp => ?_⟩
  have F' := F
  obtain ⟨oc, od, kV, doc, pm, an, ct, osl, rfl, lk⟩ := F'.lk
  have KX : K.In s.heap := e0.mod.kin.keeps fun b o e => (e0.bs b o e).1
  have lim : s.heap.NoLimit := e0.mod.nolimit.keeps fun b o e => (e0.bs b o e).1
  have hl2 := len _ _ _ _ hsp
  obtain ⟨a, t, ta, h1, h2, hq⟩ := hbody A outer s H vs Q E (hr.deeper _) hsp
  match vs, us, r, hl2 with
  | [x0, x1], [u0, u1], .cons r0 (.cons r1 .nil), _ =>
    refine PySem.ks_codeAny_call_defAt (binds := [(p0, u0), (p1, u1)]) hr.depth (KX _ _ lk) rfl lim (PySem.W.codeRec_of KX F.recd) rfl hbd S.nocell (fun x hx => ?_) (fun h₁ hns hk₁ => ?_) S.co S.gen S.kind
    · rcases List.mem_cons.mp hx with z | z
      · subst z
        exact S.l0
      · rw [List.mem_singleton] at z
        subst z
        exact S.l1
    · have I := sup_start (qual := qual) (f := f) (cda := cda) (E := E) (tk := s.toks + 2) S hr.hd e0 F.cell r0 r1 hns hk₁
      have hrun := h1.run [] _ _ H _ I hq
      show _root_.PySem.wpAt (model P w) (A.deeper (PySem.W.ksEnv qual (defScope st) s.heap.objs.size f (.ref cda) cc)) (.func (defBody st) (PySem.W.ksEnv qual (defScope st) s.heap.objs.size f (.ref cda) cc)) (execs (defBody st) (PySem.W.ksEnv qual (defScope st) s.heap.objs.size f (.ref cda) cc)) _ _ _
      generalize defBody st = bd at hb ⊢
      rw [show execs bd (PySem.W.ksEnv qual (defScope st) s.heap.objs.size f (.ref cda) cc) = execs [s1, .Expr (.Call (.Attribute (.Call (.Name "super" q0) [] [] q1) "__init__" q2) (e :: es) [] q3) q4] (PySem.W.ksEnv qual (defScope st) s.heap.objs.size f (.ref cda) cc) from by rw [hb]]
      refine PySem.ks_wpAt_execs_cons (PySem.wpAt_of_wpAny (wpAny_mono hrun (fun fl s' hs => ?_) fun e s' hs => hs))
      cases fl with
      | next =>
        obtain ⟨σ', H', J, hσ, dx, hH, hta⟩ := hs
        refine PySem.ks_wpAt_execs_cons (PySem.ks_wpAt_Expr_any (sup_exprL (pl := pl) F rfl hms S.sup S.cls (i := 0) rfl S.l0 h2 J hσ hH (hta _ fun vs H1 hl hH1 q => ⟨hl, hH1, fun s2 J2 => ?_⟩) (he _) (hpl _) (hc _)) (hi := J.quiet) (hs := hsw _))
        exact PySem.wpAt_of_wpAny (wpAny_execs_nil ⟨.non, H1, J2.os, J2.bare, J2.base, J2.hok, rfl, q⟩)
      | brk =>
        obtain ⟨_, _, _, z⟩ := hs
        exact False.elim z
      | cont =>
        obtain ⟨_, _, _, z⟩ := hs
        exact False.elim z
      | ret u =>
        obtain ⟨_, _, _, _, _, z⟩ := hs
        exact False.elim z
end
end Nm
set_option autoImplicit true
set_option maxRecDepth 100000
set_option maxHeartbeats 4000000
/-! repr of lists, tuples and dicts, where no repr is under way -/
namespace Nm
open PySem PySem.Spec PyProof.Rows L2
/-- a key as a datum -/
def keyD : Key → PyData
  | .inl i => .int i
  | .inr z => .str z
mutual
/-- the value shows this datum -/
inductive Sh (H : Hp) : V → PyData → Prop
  | non : Sh H .non .none
  | bl (b : Bool) : Sh H (.bl b) (.bool b)
  | int (i : Int) : Sh H (.int i) (.int i)
  | str (z : Str) : Sh H (.str z) (.str z)
  | lst {a : Addr} {xs : List V} {ds : List PyData} (e : H a = some (.lst xs)) (h : ShAll H xs ds) : Sh H (.ref a) (.list ds)
  | tup {a : Addr} {xs : List V} {ds : List PyData} (e : H a = some (.tup xs)) (h : ShAll H xs ds) : Sh H (.ref a) (.tuple ds)
inductive ShAll (H : Hp) : List V → List PyData → Prop
  | nil : ShAll H [] []
  | cons {x : V} {d : PyData} {xs : List V} {ds : List PyData} (h : Sh H x d) (t : ShAll H xs ds) : ShAll H (x :: xs) (d :: ds)
end
section
variable {H H' : Hp}
mutual
theorem Sh.ext {x : V} {d : PyData} (s : ∀ b o, H b = some o → H' b = some o) : Sh H x d → Sh H' x d
  | .non => .non
  | .bl b => .bl b
  | .int i => .int i
  | .str z => .str z
  | .lst e h => .lst (s _ _ e) (ShAll.ext s h)
  | .tup e h => .tup (s _ _ e) (ShAll.ext s h)
theorem ShAll.ext {xs : List V} {ds : List PyData} (s : ∀ b o, H b = some o → H' b = some o) : ShAll H xs ds → ShAll H' xs ds
  | .nil => .nil
  | .cons h t => .cons (Sh.ext s h) (ShAll.ext s t)
end
end
section
variable {X : Cx} {pins : List (Addr × Obj)} {σ : L2.St} {H : Hp} {s : Shared}
mutual
theorem sh_reads (I : Inv X pins σ H s) {x : V} {d : PyData} {u : Value} (r : RelV x u) : Sh H x d → ∃ as, Reads s.heap u d as
  | .non => by
    cases (show u = Value.none from r)
    exact ⟨_, .none⟩
  | .bl b => by
    cases (show u = Value.bool b from r)
    exact ⟨_, .bool b⟩
  | .int i => by
    obtain ⟨t, rfl⟩ := (show ∃ t, u = Value.int i t from r)
    exact ⟨_, .int i t⟩
  | .str z => by
    obtain ⟨t, rfl⟩ := (show ∃ t, u = Value.str z t from r)
    exact ⟨_, .str z t⟩
  | .lst (a := a) e h => by
    cases (show u = Value.ref a from r)
    obtain ⟨its, rv, p, hz⟩ := I.list (SqL.of e)
    obtain ⟨o, n, ho, hc, hd, hdat⟩ := p
    obtain ⟨as, ra⟩ := sh_readsAll I (us := its) rv h
    exact ⟨_, .list ho hc hdat (by simpa using ra)⟩
  | .tup (a := a) e h => by
    cases (show u = Value.ref a from r)
    obtain ⟨its, rv, p, hz⟩ := I.tuple (SqT.of e)
    obtain ⟨o, ho, hc, n, hdat⟩ := p
    obtain ⟨as, ra⟩ := sh_readsAll I (us := its) rv h
    exact ⟨_, .tuple ho hc hdat (by simpa using ra)⟩
theorem sh_readsAll (I : Inv X pins σ H s) {xs : List V} {ds : List PyData} {us : List Value} (r : Vals xs us) : ShAll H xs ds → ∃ as, ReadsAll s.heap us ds as
  | .nil => by
    cases r
    exact ⟨_, .nil⟩
  | .cons h t => by
    cases r with
    | cons r1 r2 =>
      obtain ⟨as, ra⟩ := sh_reads I r1 h
      obtain ⟨bs, rb⟩ := sh_readsAll I r2 t
      exact ⟨_, .cons ra rb⟩
end
/-- repr(x) of a list or a tuple: the text that shows it -/
def rRepr : List V → Hp → VK → Prop := fun xs H Q => ∃ (a : Addr) (d : PyData), xs = [.ref a] ∧ Sh H (.ref a) d ∧ d.showable = true ∧ d.hasDict = false ∧ d.depth ≤ 50 ∧ d.shown.length ≤ sizeLine ∧ Q (.str d.shown) H
theorem call_repr (hg : X.A.guards = some []) (hu : X.A.units + 64 < cLine) : CallR X (.builtin "repr") rRepr := by
  intro pins s σ H xs us Q I r h
  obtain ⟨a, d, rfl, hs, h1, h2, h3, h4, q⟩ := h
  obtain ⟨u, rfl, ru⟩ := vals1 r
  obtain ⟨as, hr⟩ := sh_reads I ru hs
  obtain rfl : u = Value.ref a := ru
  exact repr_of_reads' hr h1 (fun z => by rw [h2] at z; cases z) hg (by omega) (fun _ _ e => e) (fun h' u tk k => ⟨.str d.shown, H, I.kept (t' := tk) k, ⟨u, rfl⟩, q⟩) h4
end
end Nm
set_option autoImplicit true
set_option maxRecDepth 100000
set_option maxHeartbeats 4000000
/-! repr of a list of texts where nothing is known of what is under way: some text -/
namespace Nm
open PySem PySem.Sem PySem.Spec PyProof.Rows L2
section
variable {prog : Program} {w : World} {A : Around} {E : Value → Shared → Prop} {s : Shared} {a : Addr} {oa : Obj} {x : Value} {l : List Value} {na : Nat} {ts : List Str}
/-- it either says what the list holds or that it is under way -/
theorem any_head {M : Model} {Q : PySem.Fin → Shared → Prop} {o : Obj} {n b : Nat} (ho : s.heap.get? a = some o) (hod : o.data = .seq (x :: l).toArray n)
    (told : wpAny M A (do again (.builtin "list.__repr__.loop" ⟨[.ref a, rawInt 0, ← newList [], rawInt b], []⟩)) Q E s) (dots : wpAny M A (do rule "list.__repr__.in-itself"; retStr "[...]") Q E s) :
    wpAny M A (Builtin.listReprAt b ⟨[.ref a], []⟩) Q E s := by
  intro Γ p hΓ
  have a1 := told Γ p hΓ
  have a2 := dots Γ p hΓ
  unfold Builtin.listReprAt
  simp [slotArgs, Builtin.List.listItems, seqItems?, wp_load_of (h := ho), hod, PySem.stack]
  show wp M Γ (if (Γ.below.any _) = true then _ else _) _ _ p s
  split
  · exact a2
  · exact a1
end
end Nm
set_option autoImplicit true
set_option maxRecDepth 100000
set_option maxHeartbeats 4000000
/-! {x!r} in an f-string where nothing is known of what is under way: some short text -/
namespace Nm
open PySem PySem.Spec PyProof.Rows L2
open PySem.Sem (wp)
/-- what a list of shown items may say of itself: its text, or three dots -/
def MaySay (ws : List Str) (z : Str) : Prop := z = listText ws ∨ z = "[...]"
/-- the items and what each shows -/
def ShowsAll (P : Program) (w : World) (us : List Value) (ws : List Str) : Prop := ws.length = us.toArray.size ∧ ∀ (j : Nat) (v : Value), us.toArray[j]? = some v → ∃ z, ws[j]? = some z ∧ ReprIs P w v z
theorem obj_any {P : Program} {w : World} {B : Around} {Er : Value → Shared → Prop} {s : Shared} {at_ : Addr} {ob : Obj} {u : Value} {us : List Value} {n : Nat} {ws : List Str} {Q : Value → Shared → Prop}
    (ty : s.TypeIs (.ref at_) "list") (room : B.units < cLine) (get : s.heap.get? at_ = some ob) (dat : ob.data = .seq (u :: us).toArray n) (sh : ShowsAll P w (u :: us) ws) (sz : (listText ws).length ≤ sizeLine)
    (k : ∀ hp tk0 tk z, MaySay ws z → (∀ b o, s.heap.get? b = some o → hp.get? b = some o) → Q (.str z tk0) { s with heap := hp, toks := tk }) :
    wpAny (model P w) B (pyReprObj (.ref at_)) Q Er s := by
  unfold pyReprObj
  refine wpAny_bind (wpAny_cRoomFor room (wpAny_bind (wpAny_specialOf (name := Str.ofString "__repr__") ty PySem.F.slot_list_repr.lookup ?_)))
  refine wpAny_bind (m := callSpecialIfBound? (.ref at_) (Str.ofString "__repr__")) (wpAny_callSpecialIfBound?_slot (name := Str.ofString "__repr__") ty PySem.F.slot_list_repr ?_)
  refine wpAny_call (codeAny_call_builtin PySem.F.slot_list_repr.plain PySem.F.entry_list_repr ?_)
  refine PySem.F.slot_list_repr.check _ _ _ _ _ _ _ _ ty (PySem.F.args_list_repr_1 _) ?_
  refine any_head (M := model P w) (A := B.in1) (b := 0) get dat ?_ ?_
  · refine wpAny_bind (m := newList []) (wpAny_newObj_type (wpAny_pure ⟨PySem.F.quiet_list_repr_loop _, ?_⟩))
    have far : at_ ≠ s.heap.objs.size := Nat.ne_of_lt (Heap.lt_size get)
    refine codeAny_list_repr_start far sh.1 sh.2 (Heap.get?_push_of_some _ get) dat (Heap.get?_push_size _ rfl) (fun hp tk0 tk kp => ?_) (by omega)
    exact wpAny_bind (wpAny_isInstance (T := "str") (b := true) rfl isSubtype_str_str (wpAny_pure (k hp tk0 tk _ (.inl rfl) fun b o e => kp b o (Nat.ne_of_lt (Heap.lt_size e)) (Heap.get?_push_of_some _ e))))
  · refine wpAny_bind (wpAny_rule (wpAny_bind (m := mkStr _) (wpAny_mkStr ?_)))
    exact wpAny_pure (wpAny_bind (wpAny_isInstance (T := "str") (b := true) rfl isSubtype_str_str (wpAny_pure (k s.heap _ _ _ (.inr rfl) fun _ _ e => e))))
/-- what may be told as a name that is not there -/
inductive Told (H : Hp) : V → Prop
  | str {z : Str} (h : (reprText z).length ≤ 1000) : Told H (.str z)
  | int {i : Int} (h : i.natAbs.log2 < 200) : Told H (.int i)
  | non : Told H .non
  | one {a : Addr} (h : H a = some (.lst [.str "a"])) : Told H (.ref a)
section
variable {X : Cx}
/-- {x!r} of such a value -/
def tFmtA (te : TE) : TE := fun σ H Q => te σ H fun x H1 => Told H1 x ∧ ∀ y : Str, y.length ≤ 1000 → Q (.str y) H1
theorem pe_fmtA (hu : X.A.units + 64 < cLine) {e : Expr} {te : TE} {pos : Pos} (he : PE X e te) : PE X (.FormattedValue e 114 none pos) (tFmtA te) := by
  refine ⟨fun pins s σ H Q I h => ?_⟩
  refine wpAny_FormattedValue_repr (thn (he.run pins s σ H _ I h) fun v s1 hv => ?_)
  obtain ⟨x, H1, I1, r1, q0, q⟩ := hv
  have hs : (1000 : Nat) ≤ sizeLine := by rw [sizeLine_eq]; decide
  cases q0 with
  | str hz =>
    obtain ⟨t, rfl⟩ := r1
    exact pyReprObj_str (wpAny_formatField_str ⟨.str _, H1, I1.tok _, ⟨_, rfl⟩, q _ hz⟩ ⟨.str _, H1, I1.tok _, ⟨_, rfl⟩, q _ hz⟩ (Nat.le_trans hz hs)) (Nat.le_trans hz hs)
  | @int i hi =>
    obtain ⟨t, rfl⟩ := r1
    have hz : ((toString i : String) : Str).length ≤ 1000 := by
      have e := PySem.int_text_length_le (a := i) (k := 200) (by decide) hi
      rw [PySem.ofString_length]
      omega
    have hi2 : i.natAbs.log2 < 1920 := by omega
    exact pyReprObj_int hi2 (wpAny_formatField_str ⟨.str _, H1, I1.tok _, ⟨_, rfl⟩, q _ hz⟩ ⟨.str _, H1, I1.tok _, ⟨_, rfl⟩, q _ hz⟩ (int_text_fits hi2))
  | non =>
    obtain rfl : v = Value.none := r1
    exact pyReprObj_none (wpAny_formatField_str ⟨.str _, H1, I1.tok _, ⟨_, rfl⟩, q _ (by decide +kernel)⟩ ⟨.str _, H1, I1.tok _, ⟨_, rfl⟩, q _ (by decide +kernel)⟩ (by decide +kernel))
  | @one a e =>
    obtain rfl : v = Value.ref a := r1
    obtain ⟨its, rv, p, hz⟩ := I1.list (SqL.of e)
    obtain ⟨o, n, ho, hc, hd, hdat⟩ := p
    obtain ⟨u, rfl, tk, rfl⟩ := vals1 (us := its) rv
    refine obj_any (ws := [reprText "a"]) ⟨o, ho, hc⟩ (by omega) ho (by simpa using hdat) ⟨rfl, fun i y hy => ?_⟩ (by decide +kernel) (fun h' u tk z hz hk => ?_)
    · match i, hy with
      | 0, hy =>
        simp at hy
        subst hy
        exact ⟨_, rfl, ReprIs.str _ _ (by decide +kernel)⟩
      | i + 1, hy => simp at hy
    · have hl : z.length ≤ 1000 := by
        rcases hz with rfl | rfl
        · decide +kernel
        · decide +kernel
      exact wpAny_formatField_str ⟨.str _, H1, I1.kept (t' := tk) hk, ⟨_, rfl⟩, q _ hl⟩ ⟨.str _, H1, (I1.kept (t' := tk) hk).tok _, ⟨_, rfl⟩, q _ hl⟩ (Nat.le_trans hl hs)
end
end Nm
set_option autoImplicit true
set_option maxRecDepth 100000
set_option maxHeartbeats 4000000
/-! kept of what is told; BadTie.__init__; UnknownName.__init__ of a text, a number, None or a list -/
namespace Nm
open PySem PySem.Spec PyProof.Rows L2
/-- y keeps x -/
def KeptAs (H' : Hp) (x y : V) : Prop := (y = x ∧ ∀ a, x ≠ .ref a) ∨ ∃ p r, x = .ref p ∧ y = .ref r ∧ H' r = some (.lst [.str "a"])
theorem KeptAs.same {H H' : Hp} {x y : V} (h : KeptAs H x y) (s : Same H H') : KeptAs H' x y := h.imp id fun ⟨p, r, e1, e2, e3⟩ => ⟨p, r, e1, e2, s _ _ e3⟩
theorem Told.same {H H' : Hp} {x : V} (h : Told H x) (s : Same H H') : Told H' x := by
  cases h with
  | str z => exact .str z
  | int z => exact .int z
  | non => exact .non
  | one e => exact .one (s _ _ e)
theorem KeptAs.told {H0 H : Hp} {x y : V} (h : KeptAs H x y) (t : Told H0 x) : Told H y := by
  rcases h with ⟨rfl, n⟩ | ⟨p, r, _, rfl, e⟩
  · cases t with
    | str z => exact .str z
    | int z => exact .int z
    | non => exact .non
    | one e => exact absurd rfl (n _)
  · exact .one e
section
variable {P : Program} {w : World} {K : PySem.W.Frag} {mg : Str → Option Value} {base : Heap}
def spKeptT : Sp := fun vs H Q _ => ∃ x : V, vs = [x] ∧ Told H x ∧ ∀ (y : V) (H' : Hp), KeptAs H' x y → Same H H' → Q y H'
theorem scKe2 : FnScope nKe ["value"] (defScope sKept) := ⟨rfl, rfl, rfl, by decide +kernel, rfl, by decide +kernel, by decide +kernel⟩
theorem ok_keptT {f : Addr} {fd : FuncData} (F : Fun K "kept" "kept" sKept f fd) (T : TxtKe mg) (Gk : Def P w K mg base "kept" ["value"] 1 spKept) : FnOk P w K mg base CX0 2 f fd ["value"] spKeptT := by
  obtain ⟨fk, fdk, Gk, mk, kk, bk⟩ := Gk.ex
  refine F.ok scKe2 (fun vs H Q E h => ?_) (fun cdv A outer s H vs Q E hr h => ?_)
  · obtain ⟨_, rfl, _⟩ := h
    rfl
  · obtain ⟨x, rfl, hx, k⟩ := h
    refine ⟨_, pss_cons (ps_if (pt_val (pe_callB call_isi (by rfl) T.isinstance (by decide +kernel) (pa_cons (pv 0) (pa_cons (pe_bltn (v := .ty "list") (by rfl) T.list (by decide +kernel) rfl) pa_nil))))
        (pss_one (ps_ret (pe_lc (own := [("part", 1)]) (g := gName 1) (tt := tYes) (te := tCall spKept [] E0 (tCons (tVar 1) tNil)) rfl scKe2.nd (pi_list (pv 0)) (blkOk_by (N := nKe) (sc := defScope sKept) (by decide +kernel)) (fun _ _ _ _ _ => pg_name (i := 1) scKe2.nd rfl (Or.inl rfl)) (fun _ _ _ _ _ => pts_nil)
          (fun _ _ _ _ _ => by exact pe_call Gk (hr.mono (by decide)) (by rfl) mk kk bk .nil pass0 (pa_cons (pv 1) pa_nil))))) pss_nil)
      (pss_cons (ps_if (pt_val (pe_callB call_isi (by rfl) T.isinstance (by decide +kernel) (pa_cons (pv 0) (pa_cons (pe_bltn (v := .ty "tuple") (by rfl) T.tuple (by decide +kernel) rfl) pa_nil)))) pss_no pss_nil)
      (pss_cons (ps_if (pt_val (pe_callB call_isi (by rfl) T.isinstance (by decide +kernel) (pa_cons (pv 0) (pa_cons (pe_bltn (v := .ty "dict") (by rfl) T.dict (by decide +kernel) rfl) pa_nil)))) pss_no pss_nil)
      (pss_one (ps_ret (pv 0))))), ?_⟩
    cases hx with
    | @str z hz =>
      refine ⟨_, rfl, _, _, _, _, false, rfl, ClsV.ty "list", TyX.base (TyOf.str z), kit_ty (by decide +kernel), _, rfl, iteF ?_⟩
      refine ⟨_, rfl, _, _, _, _, false, rfl, ClsV.ty "tuple", TyX.base (TyOf.str z), kit_ty (by decide +kernel), _, rfl, iteF ?_⟩
      refine ⟨_, rfl, _, _, _, _, false, rfl, ClsV.ty "dict", TyX.base (TyOf.str z), kit_ty (by decide +kernel), _, rfl, iteF ?_⟩
      exact ⟨_, rfl, k _ _ (.inl ⟨rfl, fun _ e => by cases e⟩) fun _ _ e => e⟩
    | @int i hi =>
      refine ⟨_, rfl, _, _, _, _, false, rfl, ClsV.ty "list", TyX.base (TyOf.int i), kit_ty (by decide +kernel), _, rfl, iteF ?_⟩
      refine ⟨_, rfl, _, _, _, _, false, rfl, ClsV.ty "tuple", TyX.base (TyOf.int i), kit_ty (by decide +kernel), _, rfl, iteF ?_⟩
      refine ⟨_, rfl, _, _, _, _, false, rfl, ClsV.ty "dict", TyX.base (TyOf.int i), kit_ty (by decide +kernel), _, rfl, iteF ?_⟩
      exact ⟨_, rfl, k _ _ (.inl ⟨rfl, fun _ e => by cases e⟩) fun _ _ e => e⟩
    | non =>
      refine ⟨_, rfl, _, _, _, _, false, rfl, ClsV.ty "list", TyX.base TyOf.non, kit_ty (by decide +kernel), _, rfl, iteF ?_⟩
      refine ⟨_, rfl, _, _, _, _, false, rfl, ClsV.ty "tuple", TyX.base TyOf.non, kit_ty (by decide +kernel), _, rfl, iteF ?_⟩
      refine ⟨_, rfl, _, _, _, _, false, rfl, ClsV.ty "dict", TyX.base TyOf.non, kit_ty (by decide +kernel), _, rfl, iteF ?_⟩
      exact ⟨_, rfl, k _ _ (.inl ⟨rfl, fun _ e => by cases e⟩) fun _ _ e => e⟩
    | @one a e =>
      refine ⟨_, rfl, _, _, _, _, true, rfl, ClsV.ty "list", TyX.base (TyOf.lst e), kit_ty (by decide +kernel), _, rfl, iteT ?_⟩
      refine ⟨_, rfl, a, rfl, ⟨_, SqL.of e⟩, fun D hD => ?_⟩
      refine lc_list (xs := [V.str "a"]) (fun i H1 => H1 D = some (.lst (([V.str "a"] : List V).take i)) ∧ Same H H1) ⟨upd_same, same_new hD⟩ (fun i H1 _ ⟨_, h⟩ => SqL.of (h _ _ e)) ?_ ?_
      · rintro i v H1 hi ⟨hD1, s1⟩
        match i, hi with
        | 0, hi =>
          obtain rfl : V.str "a" = v := Option.some.inj hi
          refine ⟨rfl, tyes ?_⟩
          refine ⟨_, rfl, _, rfl, .inr ⟨_, rfl⟩, _, hD1, Evl.sz_lt (by decide), upd_same, same_off s1 hD⟩
        | i + 1, hi => simp at hi
      · rintro H1 ⟨hD1, s1⟩
        exact k _ _ (.inr ⟨a, D, rfl, rfl, hD1⟩) s1
/-! ### BadTie.__init__ -/
theorem ssTie : SupS "self" "number" (defScope sBadTieInit) := ⟨rfl, rfl, rfl, by decide, rfl, rfl, by decide +kernel, by decide +kernel, rfl, rfl⟩
theorem ok_tieI {C f cda cc : Addr} {fd : FuncData} (F : SupF P K C f cda cc fd "BadTie.__init__" sBadTieInit "self") (X0 : XfC K C) (nN : PySem.W.findIn K (.ref C) "number" = some none) (hms : mg "super" = none)
    (Gk : Def P w K mg base "kept" ["value"] 1 spKept) : FnOk P w K mg base CX0 2 f fd ["self", "number"] (spBadI C) := by
  obtain ⟨fk, fdk, Gk, mk, kk, bk⟩ := Gk.ex
  refine sup_def (k := 1) F ssTie hms rfl (fun vs H Q E h => ?_) (fun A outer s H vs Q E hr h => ?_)
  · obtain ⟨_, _, rfl, _⟩ := h
    rfl
  · obtain ⟨a, n, rfl, hn, ha, k⟩ := h
    refine ⟨a, _, _, ps_ost (pv 0) (pe_call Gk hr (by rfl) mk kk bk .nil pass0 (pa_cons (pv 1) pa_nil)), pa_cons (pe_joined (PJ.cons pe_str (PJ.cons (pe_fmtR (pe_exoF (pv 0))) PJ.nil))) pa_nil, ?_⟩
    refine ⟨_, rfl, _, rfl, .inl ⟨_, rfl⟩, _, rfl, a, C, rfl, F.oex, nN, .inl ⟨ha, fun d hd hda => ⟨rfl, d, upd_same, fun R hR => ?_⟩⟩⟩
    have hd2 : (upd (upd H d (exd d [("number", .int (n : Int))])) a (exo a C (some d))) d = some (exd d [("number", .int (n : Int))]) := by
      rw [upd_ne hda]
      exact upd_same
    refine ⟨_, rfl, (by decide +kernel), _, rfl, a, C, d, _, _, rfl, X0, nN, upd_same, hd2, rfl, .inr ⟨(n : Int), rfl, num_log hn, _, rfl, ?_, ?_⟩⟩
    · have := num_text hn
      rw [strLen_append, strLen_append, sizeLine_eq]
      have e1 : Str.empty.length = 0 := rfl
      have e2 : ("no such tie can stand: " : Str).length = 23 := by decide +kernel
      omega
    · exact hR _ _ (by show (1 : Nat) ≤ 1000; decide) upd_same (k d hd hda)
structure TxtTie (P : Program) (w : World) (K : PySem.W.Frag) (mg : Str → Option Value) (base : Heap) (CB : Addr) : Prop where
  mB : mg "BadTie" = some (.ref CB)
  oex : OexC K CB
  xf : XfC K CB
  nNu : PySem.W.findIn K (.ref CB) "number" = some none
  ini : ∃ f fd, PySem.W.findIn K (.ref CB) "__init__" = some (some (.ref f)) ∧ PySem.W.typeIn K (.ref f) = some (.type "function") ∧ FnOk P w K mg base CX0 2 f fd ["self", "number"] (spBadI CB) ∧ Binds K fd ["self", "number"] []
/-! ### UnknownName.__init__ -/
def spUnkT (C : Addr) : Sp := fun vs H Q _ => ∃ (a : Addr) (x : V), vs = [.ref a, x] ∧ Told H x ∧ H a = some (exo a C none) ∧ ∀ (y : V) (H1 : Hp) (d : Addr), KeptAs H1 x y → Same H H1 → H1 d = none → d ≠ a → Q .non (upd (upd H1 d (exd d [("name", y)])) a (exo a C (some d)))
theorem ssUnk : SupS "self" "name" (defScope sUnknownInit) := ⟨rfl, rfl, rfl, by decide, rfl, rfl, by decide +kernel, by decide +kernel, rfl, rfl⟩
theorem ok_unkT {C f cda cc : Addr} {fd : FuncData} (F : SupL P K C f cda cc fd "UnknownName.__init__" sUnknownInit "self") (X0 : XfC K C) (nN : PySem.W.findIn K (.ref C) "name" = some none) (hms : mg "super" = none)
    (Gk : Def P w K mg base "kept" ["value"] 2 spKeptT) : FnOk P w K mg base CX0 3 f fd ["self", "name"] (spUnkT C) := by
  obtain ⟨fk, fdk, Gk, mk, kk, bk⟩ := Gk.ex
  refine sup_defL (k := 2) F ssUnk hms rfl (fun vs H Q E h => ?_) (fun A outer s H vs Q E hr h => ?_)
  · obtain ⟨_, _, rfl, _⟩ := h
    rfl
  · obtain ⟨a, x, rfl, hx, ha, k⟩ := h
    refine ⟨a, _, _, ps_ostL (pv 0) (pe_call Gk hr (by rfl) mk kk bk .nil pass0 (pa_cons (pv 1) pa_nil)), pa_cons (pe_joined (PJ.cons pe_str (PJ.cons (pe_fmtA hr.units (pe_exoF (pv 0))) PJ.nil))) pa_nil, ?_⟩
    refine ⟨_, rfl, x, rfl, hx, fun y H1 ky s1 => ?_⟩
    refine ⟨_, rfl, a, C, rfl, F.oex, nN, s1 _ _ ha, fun d hd hda => ⟨rfl, d, upd_same, fun R hR => ?_⟩⟩
    have hd2 : (upd (upd H1 d (exd d [("name", y)])) a (exo a C (some d))) d = some (exd d [("name", y)]) := by
      rw [upd_ne hda]
      exact upd_same
    have ty : Told (upd (upd H1 d (exd d [("name", y)])) a (exo a C (some d))) y := by
      have t := ky.told hx
      cases t with
      | str z => exact .str z
      | int z => exact .int z
      | non => exact .non
      | @one b e =>
        refine .one ?_
        rw [upd_ne (ne_of e (s1 _ _ ha) (by intro z; cases z)), upd_ne (ne_of_none e hd)]
        exact e
    refine ⟨_, rfl, (by decide +kernel), _, rfl, a, C, d, _, _, rfl, X0, nN, upd_same, hd2, rfl, ty, fun z hz => ⟨_, rfl, ?_, ?_⟩⟩
    · rw [strLen_append, strLen_append, sizeLine_eq]
      have e1 : Str.empty.length = 0 := rfl
      have e2 : ("nothing has this name: " : Str).length = 23 := by decide +kernel
      omega
    · exact hR _ _ (by show (1 : Nat) ≤ 1000; decide) upd_same (k y H1 d ky s1 hd hda)
structure TxtUnkT (P : Program) (w : World) (K : PySem.W.Frag) (mg : Str → Option Value) (base : Heap) (CU : Addr) : Prop where
  mU : mg "UnknownName" = some (.ref CU)
  oex : OexL K CU
  xf : XfC K CU
  nNa : PySem.W.findIn K (.ref CU) "name" = some none
  ini : ∃ f fd, PySem.W.findIn K (.ref CU) "__init__" = some (some (.ref f)) ∧ PySem.W.typeIn K (.ref f) = some (.type "function") ∧ FnOk P w K mg base CX0 3 f fd ["self", "name"] (spUnkT CU) ∧ Binds K fd ["self", "name"] []
theorem raise_unkT {CU : Addr} {H H4 : Hp} {a : Addr} {x : V} {E : XK} (hx : Told H4 x) (ha : H4 a = none) (s : Same H H4) (ke : ∀ (d : Addr) (y : V) (H' : Hp), H' d = some (.xd [("name", y)]) → KeptAs H' x y → Same H H' → E (.ref CU) (some d) H') :
    spUnkT CU (V.ref a :: ([x] ++ [])) (upd H4 a (exo a CU none)) (fun v H2 => v = .non ∧ ∃ (d : Addr) (fs : List (Str × V)), H2 a = some (exo a CU (some d)) ∧ H2 d = some (exd d fs) ∧ H4 d = none ∧ E (.ref CU) (some d) (upd (del H2 a) d (.xd fs))) (fun _ _ _ => False) := by
  have sa := same_new (o := exo a CU none) ha
  refine ⟨a, x, rfl, hx.same sa, upd_same, fun y H1 d ky s1 hd hda => ?_⟩
  have s2 : Same H4 H1 := sa.trans s1
  have hd4 : H4 d = none := s2.free hd
  refine ⟨rfl, d, _, upd_same, by rw [upd_ne hda]; exact upd_same, hd4, ke d y _ upd_same ?_ fun b o e => ?_⟩
  · refine ky.imp id fun ⟨p, r, e1, e2, e3⟩ => ⟨p, r, e1, e2, ?_⟩
    have n1 : r ≠ a := ne_of e3 (s1 _ _ upd_same) (by intro z; cases z)
    have n2 : r ≠ d := ne_of_none e3 hd
    rw [upd_ne n2, del_ne n1, upd_ne n1, upd_ne n2]
    exact e3
  · have e4 := s _ _ e
    have n1 : b ≠ a := ne_of_none e4 ha
    have e1 := s2 _ _ e4
    have n2 : b ≠ d := ne_of_none e1 hd
    rw [upd_ne n2, del_ne n1, upd_ne n1, upd_ne n2]
    exact e1
end
end Nm
set_option autoImplicit false
set_option maxRecDepth 100000
set_option maxHeartbeats 8000000
/-! behind, of any two dicts of texts -/
namespace Nm
open PySem PySem.Spec PyProof.Rows L2
/-- what is thrown while a thing is locked is told of the unlocked thing -/
theorem takes_unlock {X : Cx} {W : WX} (t : Takes X W) : Takes X (fun cls d σ H => ∃ a od u, H a = some (.frz od u) ∧ (∀ o' u', X.H_0 a ≠ some (.frz o' u')) ∧ W cls d σ (upd H a u)) :=
  fun u s' ⟨e0, B, sI, pins, σ, H, cls, d, e, I, nb, up, sky, na, os, ag, a, od, v, h, hn, w⟩ => t u s' ⟨e0, B, sI, pins, σ, upd H a v, cls, d, e, I.unlock h hn, nb, up, sky, (by
    rw [upd_ne fun z => by rw [z, h] at na; cases na]
    exact na), os, ag, w⟩
/-- the first value that is no key -/
def badL (nm : List Str) (f : Str → Str) (nm2 : List Str) : Option Str := (nm.map f).find? fun y => !decide (y ∈ nm2)
theorem badL_none {nm : List Str} {f : Str → Str} {nm2 : List Str} (h : badL nm f nm2 = none) : ∀ x ∈ nm, f x ∈ nm2 := fun x hx => by
  have := List.find?_eq_none.mp h (f x) (List.mem_map.mpr ⟨x, hx, rfl⟩)
  simpa using this
theorem badL_at : ∀ {nm : List Str} {f : Str → Str} {nm2 : List Str} {i : Nat} {x : Str}, (∀ (j : Nat) (z : Str), j < i → nm[j]? = some z → f z ∈ nm2) → nm[i]? = some x → f x ∉ nm2 → badL nm f nm2 = some (f x)
  | z :: nm, f, nm2, 0, x, _, hx, hb => by
    cases hx
    unfold badL
    rw [List.map_cons, List.find?_cons, decide_eq_false hb]
    rfl
  | z :: nm, f, nm2, i + 1, x, hj, hx, hb => by
    have ih := badL_at (nm := nm) (f := f) (nm2 := nm2) (i := i) (x := x) (fun j y h e => hj (j + 1) y (by omega) e) hx hb
    unfold badL at ih ⊢
    rw [List.map_cons, List.find?_cons, decide_eq_true (hj 0 z (by omega) rfl)]
    exact ih
  | [], _, _, _, _, _, hx, _ => by simp at hx
theorem ledK_is {nm : List Str} {f : Str → Str} (z : Str) : (valV (ledK nm f) (Sum.inr z)).isSome = decide (z ∈ nm) := key_in (ledK_keys nm f) z
section
variable {P : Program} {w : World} {K : PySem.W.Frag} {mg : Str → Option Value} {base : Heap}
def spBehind (CU : Addr) : Sp := fun vs H Q E => ∃ (a b : Addr) (nm : List Str) (f : Str → Str) (nm2 : List Str) (g : Str → Str), vs = [.ref a, .ref b] ∧ a ≠ b ∧ H a = some (.dK (ledK nm f)) ∧ H b = some (.dK (ledK nm2 g)) ∧ nm.Nodup ∧ nm2.Nodup ∧ nm.length ≤ 1000 ∧ (∀ y, badL nm f nm2 = some y → (reprText y).length ≤ 1000) ∧
  (badL nm f nm2 = none → ∀ (D : Addr) (H' : Hp), H D = none → H' D = some (.dK (ledK nm (g ∘ f))) → Same H H' → Q (.ref D) H') ∧
  ∀ y, badL nm f nm2 = some y → ∀ (d : Addr) (H' : Hp), H' d = some (.xd [("name", .str y)]) → Same H H' → E (.ref CU) (some d) H'
abbrev nBe : List Str := ["first", "last", "key"]
theorem scBe : FnScope nBe ["first", "last"] (defScope sBehind) := ⟨rfl, rfl, rfl, by decide +kernel, rfl, by decide +kernel, by decide +kernel⟩
theorem ok_behind {fa CU : Addr} {fd : FuncData} (F : Fun K "behind" "behind" sBehind fa fd) (U : TxtUnkT P w K mg base CU) : FnOk P w K mg base (L2.CX P w) 5 fa fd ["first", "last"] (spBehind CU) := by
  obtain ⟨fi, fdi, iC, tI, Gi, bi⟩ := U.ini
  refine okX (k := 4) F scBe (fun vs H Q E h => ?_) (fun cdv A outer s H vs Q E hr h => ?_)
  · obtain ⟨_, _, _, _, _, _, rfl, _⟩ := h
    rfl
  · obtain ⟨a, b, nm, f, nm2, g, rfl, nab, ha, hb, nd, nd2, hl, hyl, k, ke⟩ := h
    have hu := hu_of hr
    have tk := takes_of (X := cxOf (L2.CX P w) P w K mg base nBe "behind" (defScope sBehind) fa cdv A outer s H E) (E := E) rfl rfl rfl rfl
    refine ⟨_, Evl.pss_cut (ps_lock (ps_for (passes_of rfl) rfl (pi_keys (pv 0)) (pg_name (i := 2) scBe.nd rfl (Or.inl rfl))
        (pss_one (ps_if (pt_cmp (pc_dnotin hu (pe_dget hu (pv 0) (pv 2) (fun _ _ => rfl)) (pv 1))) (pss_one (ps_raise rfl (takes_unlock tk) (pmk_oexL U.oex iC tI Gi hr bi pass0 (by rfl) U.mU (pa_cons (pe_dget hu (pv 0) (pv 2) (fun _ _ => rfl)) pa_nil)))) pss_nil))))
      (pss_one (ps_ret (pe_lock (pe_dc (own := [("key", 2)]) (g := gName 2) (tt := tYes) (tk := tVar 2) (tv := tDGet (tVar 1) (tDGet (tVar 0) (tVar 2))) rfl scBe.nd (pi_keys (pv 0)) (blkOk_by (N := nBe) (sc := defScope sBehind) (by decide +kernel))
        (fun _ _ _ _ _ => pg_name (i := 2) scBe.nd rfl (Or.inl rfl)) (fun _ _ _ _ _ => pts_nil) (fun _ _ _ _ _ => pv 2) (fun _ _ _ _ _ => by exact pe_dget hu (pv 1) (pe_dget hu (pv 0) (pv 2) (fun _ _ => rfl)) (fun _ _ => rfl)))))), ?_⟩
    have gets : ∀ (od : Obj) (H1 : Hp), H1 a = some (.frz od (.dK (ledK nm f))) → ∀ x ∈ nm, DGet H1 a (V.str x) (some (V.str (f x))) := fun od H1 h1 x hx => .inl ⟨ledK nm f, Sum.inr x, .inr ⟨od, h1⟩, rfl, (ledK_at nd hx).symm⟩
    have back : ∀ (od : Obj) (H1 : Hp), Same (upd H a (.frz od (.dK (ledK nm f)))) H1 → Same H (upd H1 a (.dK (ledK nm f))) := fun od H1 s1 c o e => by
      by_cases ec : c = a
      · subst ec
        rw [upd_same, ← ha]
        exact e
      · rw [upd_ne ec]
        exact s1 _ _ (by rw [upd_ne ec]; exact e)
    have hb0 : ∀ od : Obj, (upd H a (.frz od (.dK (ledK nm f)))) b = some (.dK (ledK nm2 g)) := fun od => by rw [upd_ne nab.symm]; exact hb
    have keyAt : ∀ {i : Nat} {key : Key} {v : V}, (ledK nm f)[i]? = some (key, v) → ∃ x, nm[i]? = some x ∧ key = Sum.inr x ∧ v = V.str (f x) := fun {i key v} h => by
      unfold ledK at h
      rw [List.getElem?_map] at h
      obtain ⟨x, hx, e⟩ := Option.map_eq_some_iff.mp h
      cases e
      exact ⟨x, hx, rfl, rfl⟩
    refine ⟨fun σ H1 => (∀ x ∈ nm, f x ∈ nm2) ∧ ∃ v2, σ = [some (.ref a), some (.ref b), v2] ∧ Same H H1, ?_, ?_⟩
    · refine ⟨a, _, ha, trivial, fun od => ?_⟩
      refine ⟨_, rfl, a, od, rfl, .inl ⟨ledK nm f, upd_same, ?_⟩⟩
      refine for_it walk_keys (fun i σ H1 => (∀ (j : Nat) (z : Str), j < i → nm[j]? = some z → f z ∈ nm2) ∧ ∃ v2, σ = [some (.ref a), some (.ref b), v2] ∧ H1 = upd H a (.frz od (.dK (ledK nm f)))) ⟨fun j z hj => absurd hj (Nat.not_lt_zero j), none, rfl, rfl⟩ (fun i σ H1 _ ⟨_, _, _, h⟩ => by rw [h]; exact upd_same) ?_ ?_
      · rintro i x σ H1 H2 hi ⟨hj, v2, rfl, rfl⟩ ⟨rfl, key, v, hkv, rfl⟩
        obtain ⟨x, hx, rfl, rfl⟩ := keyAt hkv
        have hxm := List.mem_of_getElem? hx
        have got : DGet (upd H a (.frz od (.dK (ledK nm f)))) b (V.str (f x)) (valV (ledK nm2 g) (Sum.inr (f x))) := DGet.k (k := Sum.inr (f x)) (hb0 od)
        refine ⟨_, rfl, _, rfl, a, V.str (f x), rfl, gets od _ upd_same x hxm, _, rfl, b, _, rfl, got, ?_⟩
        rw [ledK_is]
        refine ⟨_, rfl, ?_⟩
        by_cases c : f x ∈ nm2
        · rw [decide_eq_true c]
          refine iteF ⟨fun j z hjl hz => ?_, some (.str x), rfl, rfl⟩
          rcases Nat.lt_or_ge j i with h | h
          · exact hj j z h hz
          · have : j = i := by omega
            subst this
            rw [hx] at hz
            cases hz
            exact c
        · rw [decide_eq_false c]
          have hbad := badL_at hj hx c
          refine iteT ?_
          refine ⟨_, rfl, _, rfl, a, V.str (f x), rfl, gets od _ upd_same x hxm, (by show (1 : Nat) ≤ 1000; decide), fun e0 he0 => ?_⟩
          refine raise_unkT (H := upd H a (.frz od (.dK (ledK nm f)))) (E := fun cls d H' => ∃ a od u, H' a = some (.frz od u) ∧ (∀ o' u', H a ≠ some (.frz o' u')) ∧ E cls d (upd H' a u)) (.str (hyl _ hbad)) he0 (fun _ _ e => e) fun d y H' hd ky s1 => ?_
          obtain ⟨rfl, _⟩ : y = V.str (f x) ∧ True := by
            rcases ky with ⟨e, _⟩ | ⟨p, r, e, _⟩
            · exact ⟨e, trivial⟩
            · cases e
          refine ⟨a, od, .dK (ledK nm f), s1 _ _ upd_same, fun o' u' e => ?_, ?_⟩
          · have e : H a = some (.frz o' u') := e
            rw [ha] at e
            cases e
          · refine ke _ hbad d _ ?_ (back od _ s1)
            rw [upd_ne fun z => by rw [z, s1 _ _ upd_same] at hd; cases hd]
            exact hd
      · rintro σ H1 ⟨hj, v2, rfl, rfl⟩
        refine ⟨upd_same, fun x hx => ?_, v2, rfl, back od _ fun _ _ e => e⟩
        obtain ⟨j, hj'⟩ := List.getElem?_of_mem hx
        exact hj j x (by have := (List.getElem?_eq_some_iff.mp hj').1; rw [ledK_len]; exact this) hj'
    rintro σ H1 ⟨all, v2, rfl, s1⟩
    have hg : ∀ x ∈ nm, valV (ledK nm2 g) (Sum.inr (f x)) = some (V.str (g (f x))) := fun x hx => ledK_at nd2 (all x hx)
    have hno : badL nm f nm2 = none := List.find?_eq_none.mpr fun y hy => by
      obtain ⟨x, hx, rfl⟩ := List.mem_map.mp hy
      rw [decide_eq_true (all x hx)]
      decide
    have ha1 := s1 _ _ ha
    have hb1 := s1 _ _ hb
    refine ⟨a, _, ha1, trivial, fun od => ?_⟩
    refine ⟨_, rfl, a, od, rfl, .inl ⟨ledK nm f, upd_same, fun D hD => ?_⟩⟩
    have nDa : D ≠ a := fun e => by subst e; rw [upd_same] at hD; cases hD
    have hb2 : (upd H1 a (.frz od (.dK (ledK nm f)))) b = some (.dK (ledK nm2 g)) := by rw [upd_ne nab.symm]; exact hb1
    have ha2 : (upd H1 a (.frz od (.dK (ledK nm f)))) a = some (.frz od (.dK (ledK nm f))) := upd_same
    have hD1 : H1 D = none := by rw [upd_ne nDa] at hD; exact hD
    have back1 : ∀ H2, Same (upd H1 a (.frz od (.dK (ledK nm f)))) H2 → Same H1 (upd H2 a (.dK (ledK nm f))) := fun H2 s2 c o e => by
      by_cases ec : c = a
      · subst ec
        rw [upd_same, ← ha1]
        exact e
      · rw [upd_ne ec]
        exact s2 _ _ (by rw [upd_ne ec]; exact e)
    generalize upd H1 a (.frz od (.dK (ledK nm f))) = Hl at *
    refine dc_walk walk_keys (fun i H2 => H2 D = some (.dK (ledK (nm.take i) (g ∘ f))) ∧ Same Hl H2) ⟨upd_same, same_new hD⟩ (fun i H2 _ ⟨_, h⟩ => h _ _ ha2) ?_ ?_
    · rintro i x H2 H3 hi ⟨hD2, s2⟩ ⟨rfl, key, v, hkv, rfl⟩
      obtain ⟨x, hx, rfl, rfl⟩ := keyAt hkv
      have hxm := List.mem_of_getElem? hx
      refine ⟨rfl, tyes ?_⟩
      refine ⟨_, rfl, _, rfl, _, rfl, _, rfl, a, V.str (f x), rfl, gets od _ (s2 _ _ ha2) x hxm, b, V.str (g (f x)), rfl, (by rw [← hg x hxm]; exact DGet.k (k := Sum.inr (f x)) (s2 _ _ hb2)), ?_⟩
      refine ⟨_, Sum.inr x, rfl, hD2, Evl.sz_lt (by rw [ledK_len, List.length_take]; omega), ?_, same_off s2 hD⟩
      have hnew : valV (ledK (nm.take i) (g ∘ f)) (Sum.inr x) = none := nm_new nd hx (ledK_keys _ _)
      rw [upd_same, putK_new _ hnew, List.take_add_one, hx]
      unfold ledK
      rw [Option.toList_some, List.map_append]
      rfl
    · rintro H2 ⟨hD2, s2⟩
      rw [ledK_len, List.take_length] at hD2
      exact ⟨s2 _ _ ha2, k hno D _ (s1.free hD1) (by rw [upd_ne nDa]; exact hD2) (s1.trans (back1 H2 s2))⟩
end
end Nm
set_option autoImplicit true
set_option maxRecDepth 100000
set_option maxHeartbeats 4000000
/-! repr of anything that shows a datum; `not in` a list of texts, of anything -/
namespace Nm
open PySem PySem.Spec PyProof.Rows L2
section
variable {X : Cx}
/-- repr(v), v a leaf, a list or a tuple -/
def rReprA : List V → Hp → VK → Prop := fun xs H Q => ∃ (v : V) (d : PyData), xs = [v] ∧ Sh H v d ∧ d.showable = true ∧ d.hasDict = false ∧ d.depth ≤ 50 ∧ d.shown.length ≤ sizeLine ∧ Q (.str d.shown) H
theorem call_reprA (hg : X.A.guards = some []) (hu : X.A.units + 64 < cLine) : CallR X (.builtin "repr") rReprA := by
  intro pins s σ H xs us Q I r h
  obtain ⟨v, d, rfl, hs, h1, h2, h3, h4, q⟩ := h
  cases hs with
  | lst e t => exact call_repr hg hu pins s σ H _ us Q I r ⟨_, _, rfl, .lst e t, h1, h2, h3, h4, q⟩
  | tup e t => exact call_repr hg hu pins s σ H _ us Q I r ⟨_, _, rfl, .tup e t, h1, h2, h3, h4, q⟩
  | int i => exact SkE.call_repr_int pins s σ H _ us Q I r ⟨i, rfl, of_decide_eq_true h1, q⟩
  | bl b => exact call_reprB pins s σ H _ us Q I r ⟨b, rfl, q⟩
  | str z =>
    obtain ⟨u, rfl, t, rfl⟩ := vals1 r
    exact PySem.P.repr_of_str ⟨.str _, H, I.tok _, ⟨_, rfl⟩, q⟩ h4
  | non =>
    obtain ⟨u, rfl, ru⟩ := vals1 r
    obtain rfl : u = Value.none := ru
    exact PySem.P.repr_of_none ⟨.str _, H, I.tok _, ⟨_, rfl⟩, q⟩
/-- x not in ys, ys a list of texts -/
def rNotInT (K : PySem.W.Frag) : R2 := fun x y H Q => ∃ (p : Addr) (nm : List Str), y = .ref p ∧ SqL K H p (nm.map V.str) ∧ ((flatV x = true ∧ Q (.bl (!inV x (nm.map V.str))) H) ∨ ∃ (a : Addr) (xs : List V), x = .ref a ∧ SqL K H a xs ∧ Q (.bl true) H)
theorem op_notInT (hu : X.A.units + 64 < cLine) : OpR X (compareOp .NotIn) (rNotInT X.K) := by
  intro pins s σ H x y v u Q I rx ry h
  obtain ⟨p, nm, rfl, hp, ⟨fx, q⟩ | ⟨a, xs, rfl, ha, q⟩⟩ := h
  · exact op_notIn_seq pins s σ H x _ v u Q I rx ry ⟨p, _, rfl, .inl hp, fx, List.all_eq_true.mpr fun z hz => by obtain ⟨t, _, rfl⟩ := List.mem_map.mp hz; rfl, q⟩
  · cases ry
    obtain rfl : v = Value.ref a := rx
    obtain ⟨its, r, pl, hz⟩ := I.list hp
    obtain ⟨its2, r2, pl2, hz2⟩ := I.list ha
    refine SeqAt.notIn_listAt (fun _ => false) pl.isList (fun z hz => ?_) ⟨.bl true, H, I, (by show Value.bool (!its.toArray.any fun _ => false) = Value.bool true; rw [show (its.toArray.any fun _ => false) = false from by simp]; rfl), q⟩
    have hz : z ∈ its := by simpa using hz
    have each : ∀ {zs : List Str} {us : List Value}, Vals (zs.map V.str) us → ∀ z ∈ us, ∃ t k, z = Value.str t k := by
      intro zs
      induction zs with
      | nil =>
        intro us r z hz
        cases r
        cases hz
      | cons z0 zs ih =>
        intro us r z hz
        cases r with
        | cons r1 r2 =>
          rcases List.mem_cons.mp hz with rfl | hz
          · obtain ⟨k, e⟩ := (show ∃ k, z = Value.str z0 k from r1)
            exact ⟨z0, k, e⟩
          · exact ih r2 z hz
    obtain ⟨t, k, rfl⟩ := each r z hz
    exact SeqAt.EqAt.str_list t k pl2.isList (by show X.A.units + 1 < cLine; omega)
end
end Nm
set_option autoImplicit true
set_option maxRecDepth 100000
set_option maxHeartbeats 4000000
/-! the end of a law whose promise is told at the caller alone (so that no repr is under way) -/
namespace Nm
open PySem PySem.Spec PyProof.Rows L2 LamX
/-- the promise at the caller -/
def RunC (P : Program) (w : World) (K : PySem.W.Frag) (mg : Str → Option Value) (base : Heap) (CX : CXT) (fa : Addr) (fd : FuncData) (x : Str) (sp : Sp) : Prop :=
  ∀ (s : Shared) (H : Hp) (u : Value) (v : V) (Q : VK) (E : XK), Env0 P w K mg base callerA [] s H → BindsTo s fd ⟨[u], []⟩ [(x, u)] → RelV v u → sp [v] H Q E → codeAny (model P w) callerA (.call (.ref fa) ⟨[u], []⟩) (CR CX [] P w H s Q E) s
/-- the heap at the law's call: the tables, and the script where it is not written -/
def hpL (K : PySem.W.Frag) (cs : List (Addr × Addr)) (a : Addr) (vs : List Value) (ns : List Int) : Hp := fun b =>
  if b ∈ cs.map (·.2) then some (.tbl #[]) else if b = a ∧ K.lookup a = none then some (.frz { cls := .type "list", data := .seq vs.toArray } (.lst (ns.map V.int))) else none
section
variable {P : Program} {w : World} {K : PySem.W.Frag} {mg mb : Str → Option Value} {CX : CXT} {fa a : Addr} {cs : List (Addr × Addr)} {fd : FuncData} {x : Str} {sp : Sp} {s : Shared} {vs : List Value} {ns : List Int}
theorem hpL_tab {b : Addr} (h : b ∈ cs.map (·.2)) : hpL K cs a vs ns b = some (.tbl #[]) := if_pos h
theorem hpL_or (b : Addr) : hpL K cs a vs ns b = none ∨ (b ∈ cs.map (·.2) ∧ hpL K cs a vs ns b = some (.tbl #[])) ∨ (b ∉ cs.map (·.2) ∧ b = a ∧ K.lookup a = none ∧ hpL K cs a vs ns b = some (.frz { cls := .type "list", data := .seq vs.toArray } (.lst (ns.map V.int)))) := by
  by_cases h1 : b ∈ cs.map (·.2)
  · exact .inr (.inl ⟨h1, if_pos h1⟩)
  · by_cases h2 : b = a ∧ K.lookup a = none
    · exact .inr (.inr ⟨h1, h2.1, h2.2, (if_neg h1).trans (if_pos h2)⟩)
    · exact .inl ((if_neg h1).trans (if_neg h2))
theorem law_callG (KX : K.In s.heap) (hns : s.heap.Ns mainGlobals mg) (hb : s.heap.Ns builtinsNs mb) (hbb : ∀ x : Str, x ≠ "__name__" → mb x = bootBuiltins x) (hlim : s.heap.NoLimit) (hg : s.gens = #[])
    (hT : ∀ p ∈ cs, s.heap.get? p.2 = some { cls := .none, data := .fields #[] }) (nT : ∀ p ∈ cs, K.lookup p.2 = none) (C : ∀ p ∈ cs, PySem.W.CodeHd s.heap p.1 p.2)
    (hbm : ∃ (bm : Addr) (ob : Obj), mg "__builtins__" = some (.ref bm) ∧ bm ≠ builtinsNs ∧ s.heap.get? bm = some ob ∧ ob.cls = .type "module" ∧ ob.dict = some builtinsNs ∧ ob.data = .plain)
    (ha : s.heap.get? a = some { cls := .type "list", data := .seq vs.toArray }) (hi : IntsAre vs ns) (hl : ns.length ≤ sizeLine)
    (F : ∀ base : Heap, K.In base → base.Ns mainGlobals mg → (∀ p ∈ cs, TabB base mg p.1 p.2) → RunC P w K mg base CX fa fd x sp) (hbind : ∀ (s : Shared) (u : Value), BindsTo s fd ⟨[u], []⟩ [(x, u)])
    (hsp : ∀ H : Hp, (∀ p ∈ cs, H p.2 = some (.tbl #[])) → SqL K H a (ns.map V.int) → sp [.ref a] H (fun v _ => v = .bl true) fun _ _ _ => False)
    (hCX : ∀ H e s', CX [] H s (fun _ _ _ => False) e s' → False) :
    codeAny (model P w) callerA (.call (.ref fa) ⟨[.ref a], []⟩) (fun r s' => r = .ok (.ret (.bool true)) ∧ OldK s.heap s'.heap ∧ s'.os = s.os ∧ AllBare s'.gens) s := by
  have rv := vals_ints hi
  have tabAt : ∀ {b : Addr}, b ∈ cs.map (·.2) → s.heap.get? b = some { cls := .none, data := .fields #[] } ∧ K.lookup b = none := fun {b} hb => by
    obtain ⟨p, hp, rfl⟩ := List.mem_map.mp hb
    exact ⟨hT p hp, nT p hp⟩
  have inT : ∀ p ∈ cs, p.2 ∈ cs.map (·.2) := fun p hp => List.mem_map.mpr ⟨p, hp, rfl⟩
  generalize hH : hpL K cs a vs ns = H
  have orH : ∀ b, H b = none ∨ (b ∈ cs.map (·.2) ∧ H b = some (.tbl #[])) ∨ (b ∉ cs.map (·.2) ∧ b = a ∧ K.lookup a = none ∧ H b = some (.frz { cls := .type "list", data := .seq vs.toArray } (.lst (ns.map V.int)))) := by
    rw [← hH]
    exact hpL_or
  have tabH : ∀ p ∈ cs, H p.2 = some (.tbl #[]) := fun p hp => by
    rw [← hH]
    exact hpL_tab (inT p hp)
  -- what is tracked is no dict and nothing that is written
  have free : ∀ {b : Addr} {o : Obj}, s.heap.get? b = some o → (∀ vs n, o.data ≠ .seq vs n) → o.data ≠ .fields #[] → H b = none := fun {b o} e n1 n2 => by
    rcases orH b with z | ⟨z, _⟩ | ⟨_, z, _, _⟩
    · exact z
    · rw [(tabAt z).1] at e
      cases e
      exact absurd rfl n2
    · rw [z, ha] at e
      cases e
      exact absurd rfl (n1 _ _)
  have freeD : ∀ {b : Addr} {o : Obj} {es : Array DictEntry} {ep : Nat}, s.heap.get? b = some o → o.data = .dict es ep → H b = none := fun e q => free e (fun _ _ z => by rw [q] at z; cases z) fun z => by rw [q] at z; cases z
  have freeK : ∀ {b : Addr} {o : Obj}, K.lookup b = some o → H b = none := fun {b o} e => by
    rcases orH b with z | ⟨z, _⟩ | ⟨_, z, z2, _⟩
    · exact z
    · rw [(tabAt z).2] at e
      cases e
    · rw [z, z2] at e
      cases e
  have under : ∀ {b : Addr} {o : Obj}, s.heap.get? b = some o → H b = none → (hidT s.heap H).get? b = some o := fun e n => hidT_get e n
  have nsU : ∀ {b : Addr} {m : Str → Option Value}, s.heap.Ns b m → (hidT s.heap H).Ns b m := fun {b m} ⟨o, es, ep, e, q, r⟩ => ⟨o, es, ep, under e (freeD e q), q, r⟩
  have KU : K.In (hidT s.heap H) := fun b o e => under (KX b o e) (freeK e)
  have ok : HOk P w H s.heap := fun b o z => by
    rcases orH b with q | ⟨q, q'⟩ | ⟨_, q, _, q'⟩
    · rw [q] at z
      cases z
    · rw [q'] at z
      cases z
      exact (tabAt q).1
    · rw [q'] at z
      cases z
      subst q
      exact ⟨ha, by rw [List.length_map]; exact hl, vs, _, rv, ha⟩
  have sq : SqL K H a (ns.map V.int) := by
    cases hk : K.lookup a with
    | some o =>
      have e := KX a o hk
      rw [ha] at e
      cases e
      exact .inr ⟨_, vs.toArray, _, hk, rfl, rfl, rfl, by rw [List.size_toArray, hi.length]; exact hl, by simpa using rv⟩
    | none =>
      refine .inl (.inr ⟨{ cls := .type "list", data := .seq vs.toArray }, ?_⟩)
      rcases orH a with z | ⟨z, _⟩ | ⟨_, _, _, z⟩
      · rw [← hH] at z
        unfold hpL at z
        split at z
        · cases z
        · rw [if_pos ⟨rfl, hk⟩] at z
          cases z
      · have := (tabAt z).1
        rw [ha] at this
        cases this
      · exact z
  have mod : L2.Mod K mg (hidT s.heap H) := ⟨KU, nsU hns, ⟨mb, nsU hb, hbb⟩, let ⟨mc, h1, h2⟩ := hlim; ⟨mc, nsU h1, h2⟩⟩
  have TB : ∀ p ∈ cs, TabB (hidT s.heap H) mg p.1 p.2 := fun p hp => by
    obtain ⟨oG, esG, epG, eG, dG, _⟩ := id hns
    refine ⟨?_, ?_, fun z => ?_⟩
    · obtain ⟨o, us, file, tf, flags, tg, inF, text, tt, e1, r1, r2, r3, r⟩ := C p hp
      refine ⟨o, us, file, tf, flags, tg, inF, text, tt, under e1 (free e1 (fun _ _ z => by rw [r2] at z; cases z) fun z => ?_), r1, r2, r3, r⟩
      rw [r2] at z
      cases z
      simp at r3
    · obtain ⟨bm, ob, b1, b2, b3, b4, b5, b6⟩ := hbm
      refine ⟨bm, ob, b1, b2, fun q => ?_, fun q => ?_, under b3 (free b3 (fun _ _ z => by rw [b6] at z; cases z) fun z => by rw [b6] at z; cases z), b4, b5, b6⟩
      · rw [q, eG] at b3
        cases b3
        rw [dG] at b6
        cases b6
      · rw [q, hT p hp] at b3
        cases b3
        cases b6
    · rw [z, hT p hp] at eG
      cases eG
      cases dG
  have e0 : Env0 P w K mg (hidT s.heap H) callerA [] s H := ⟨rfl, mod, fun b o e => of_hidT e, Nat.le_of_eq (hidT_size _ _), trivial, fun b z => absurd (show b ∈ ([] : List Addr) from z) (by simp), ok, .of_eq hg⟩
  refine codeAny_mono (F _ KU (nsU hns) TB s H (.ref a) (.ref a) _ _ e0 (hbind s (.ref a)) rfl (hsp H tabH sq)) fun r s' h => ?_
  cases r with
  | error e => exact (hCX H e s' h).elim
  | ok fl =>
    cases fl with
    | next => exact False.elim h
    | brk => exact False.elim h
    | cont => exact False.elim h
    | ret u =>
      obtain ⟨v, H', os, bare, un, ok', r', q⟩ := h
      obtain rfl : v = .bl true := q
      obtain rfl : u = Value.bool true := r'
      have grown : ∀ p ∈ cs, ∃ more : Array Value, s'.heap.get? p.2 = some { cls := .none, data := .fields more } := fun p hp => by
        obtain ⟨more, z⟩ := un.tbls p.2 #[] (tabH p hp)
        exact ⟨_, ok' p.2 _ z⟩
      have rest : ∀ b o, b ∉ cs.map (·.2) → s.heap.get? b = some o → s'.heap.get? b = some o := fun b o nb e => by
        rcases orH b with z | ⟨z, _⟩ | ⟨_, _, _, z⟩
        · exact un.keep b o e z (by intro y; exact absurd (show b ∈ ([] : List Addr) from y) (by simp)) (by simp)
        · exact absurd z nb
        · obtain ⟨e1, _⟩ := ok b _ z
          obtain ⟨e2, _⟩ := ok' b _ (un.frzs b _ _ z)
          rw [e] at e1
          cases e1
          exact e2
      refine ⟨rfl, ⟨fun b o e => ?_, fun b o e => ?_⟩, os, bare⟩
      · by_cases hm : b ∈ cs.map (·.2)
        · obtain ⟨p, hp, rfl⟩ := List.mem_map.mp hm
          obtain ⟨more, hq⟩ := grown p hp
          rw [hT p hp] at e
          cases e
          exact .inr (.inl ⟨((C p hp).tab (hT p hp)).isCodeTable, rfl, #[], more, rfl, by rw [Array.empty_append]; exact hq⟩)
        · exact .inl (rest b o hm e)
      · by_cases hm : b ∈ cs.map (·.2)
        · obtain ⟨p, hp, rfl⟩ := List.mem_map.mp hm
          obtain ⟨more, hq⟩ := grown p hp
          exact ⟨_, hq⟩
        · exact ⟨o, rest b o hm e⟩
end
/-- what is known of the law's promise at the head's heap h, told at the caller -/
def LawAtG (l : PySem.W.OpenLaw) (w : World) (K : PySem.W.Frag) (CX : CXT) (n : Nat) (x : Str) (mg : Str → Option Value) (fa : Addr) (h : Heap) : Prop :=
  ∃ (fd : FuncData) (cs : List (Addr × Addr)) (sp : Sp), (∀ p ∈ cs, h.get? p.2 = some { cls := .none, data := .fields #[] }) ∧ (∀ p ∈ cs, K.lookup p.2 = none) ∧ (∀ p ∈ cs, PySem.W.CodeHd h p.1 p.2) ∧ (∀ (s : Shared) (u : Value), BindsTo s fd ⟨[u], []⟩ [(x, u)]) ∧
    (∀ (H : Hp) (a : Addr) (ns : List Int), ns.length ≤ n → (∀ p ∈ cs, H p.2 = some (.tbl #[])) → SqL K H a (ns.map V.int) → sp [.ref a] H (fun v _ => v = .bl true) fun _ _ _ => False) ∧
    ∀ base : Heap, K.In base → base.Ns mainGlobals mg → (∀ p ∈ cs, TabB base mg p.1 p.2) → RunC l.prog w K mg base CX fa fd x sp
theorem walk_G {l : PySem.W.OpenLaw} {n : Nat} {q : Program} {loose : List Str} {XP : (Str → Option Value) → Heap → Prop} {YP : World → Heap → Prop} {d : DefRec} {K : Params → PySem.W.Frag} {CX : World → CXT} {x : Str}
    (hn : l.most = some n) (hn2 : n ≤ sizeLine) (hdf : d.params.defaults = []) (hrec : ((recsOf q).any fun e => e.name == d.name) = true) (hY : ∀ (w : World) (h : Heap), YP w h → (K w.params).In h)
    (F : ∀ (w : World) (mg : Str → Option Value) (fa : Addr) (h : Heap), YP w h → (K w.params).In h → h.Ns mainGlobals mg → mg d.name = some (.ref fa) → OwnTab (K w.params) fa h → LawAtG l w (K w.params) (CX w) n x mg fa h)
    (hCX : ∀ (w : World) (H : Hp) (s : Shared) (e : Value) (s' : Shared), CX w [] H s (fun _ _ _ => False) e s' → False) :
    PySem.W.WalkO q loose XP YP l.row.toRowW d [] (fun f vs => PySem.call f vs) := by
  refine Att.attach_callB hn hdf fun w s₀ s₁ mg mb fa o pm cd doc a vs ns G Y ho hd hcd hmg hobj hints hlen _ hg => ?_
  have KX := hY w _ Y
  have own : OwnTab (K w.params) fa s₁.heap := fun c T o1 fd1 e dd us sl q1 q2 q3 q4 q5 => by
    obtain ⟨dL, hm, hnm⟩ := List.any_eq_true.mp hrec
    obtain ⟨fa', of, fdf, cf, Tf, p1, p2, p3, p4, _, p6⟩ := G.T.tab dL hm
    rw [beq_iff_eq.mp hnm, hmg] at p1
    cases p1
    have there := KX _ _ q1
    rw [there] at p2
    cases p2
    rw [q2] at p3
    cases p3
    rw [q3] at p4
    cases p4
    obtain ⟨⟨oc, ws, f1, _, f3, f4⟩, fT⟩ := p6
    have code := KX _ _ q4
    rw [code] at f1
    cases f1
    cases f3
    rw [q5] at f4
    cases f4
    exact fT
  obtain ⟨fd, cs, sp, hT, nT, C, hb, hsp, hF⟩ := F w mg fa _ Y KX G.T.g hmg own
  exact law_callG KX G.T.g G.T.b G.T.builtins G.T.nolimit hg hT nT C G.T.bmain hobj hints (Nat.le_trans hlen hn2) hF hb (fun H hH hS => hsp H a ns hlen hH hS) fun H e s' => hCX w H s₁ e s'
/-- a def's promise at the caller, from its body there -/
theorem runC_of {P : Program} {w : World} {K : PySem.W.Frag} {mg : Str → Option Value} {base : Heap} {CX : CXT} {f : Addr} {fd : FuncData} {x : Str} {st : Stmt} {qual : Str} {N : List Str} {sp : Sp} {nm : Str} (F : Fun K nm qual st f fd) (S : FnScope N [x] (defScope st))
    (hbody : ∀ (cdv : Value) (s : Shared) (H : Hp) (v : V) (Q : VK) (E : XK), (∃ oc od kV doc pm an ct osl, K.lookup f = some ⟨oc, od, .func (PySem.W.fnOf nm qual (defArgs st) (defBody st) (defScope st) .none kV doc pm an cdv ct), osl⟩) → sp [v] H Q E →
      ∃ t, PSs (cxOf CX P w K mg base N qual (defScope st) f cdv callerA [] s H E) (defBody st) t ∧ t { nx := fun _ H' => Q .non H', rt := Q } (start N [v]) H) : RunC P w K mg base CX f fd x sp := by
  obtain ⟨oc, od, kV, doc, pm, an, cdv, ct, osl, rfl, lk, hcd⟩ := F.ex
  intro s H u v Q E e0 hb r hsp
  have hr : Room 1 callerA := ⟨rfl, by decide +kernel, by decide +kernel⟩
  exact run_ofS (k := 0) (ps := [x]) (us := [u]) (vs := [v]) lk hcd S hr e0 hb (.cons r .nil) rfl fun _ => hbody cdv s H v Q E ⟨oc, od, kV, doc, pm, an, ct, osl, lk⟩ hsp
end Nm
set_option autoImplicit true
set_option maxRecDepth 100000
set_option maxHeartbeats 4000000
/-! a def that keeps its promise where no repr is under way -/
namespace Nm
open PySem PySem.Spec PyProof.Rows L2 LamX
section
variable {P : Program} {w : World} {K : PySem.W.Frag} {mg : Str → Option Value} {base : Heap}
structure QOk (P : Program) (w : World) (K : PySem.W.Frag) (mg : Str → Option Value) (base : Heap) (k : Nat) (g : Addr) (fd : FuncData) (names : List Str) (told : Sp) : Prop where
  many : ∀ {xs : List V} {H : Hp} {R : VK} {E : XK}, told xs H R E → xs.length = names.length
  go : ∀ {B : Around} {under : List Env} {t : Shared} {H : Hp} {given : Args} {bs : List Value} {xs : List V} {R : VK} {E : XK}, B.guards = some [] → Room k B → Env0 P w K mg base B under t H → BindsTo t fd given (names.zip bs) → Vals xs bs → told xs H R E →
    codeAny (model P w) B (.call (.ref g) given) (CR CX0 under P w H t R E) t
theorem qok_of {x qual : Str} {st : Stmt} {g : Addr} {fd : FuncData} {N ps : List Str} {k : Nat} {told : Sp} (F : Fun K x qual st g fd) (S : FnScope N ps (defScope st)) (many : ∀ xs H R E, told xs H R E → xs.length = ps.length)
    (body : ∀ (cdv : Value) (B : Around) (under : List Env) (t : Shared) (H : Hp) (xs : List V) (R : VK) (E : XK), B.guards = some [] → Room k (B.deeper (envOfC qual (defScope st) t.heap.objs.size g cdv)) → told xs H R E →
      ∃ ts, PSs (cxOf CX0 P w K mg base N qual (defScope st) g cdv B under t H E) (defBody st) ts ∧ ts { nx := fun _ H' => R .non H', rt := R } (start N xs) H) : QOk P w K mg base (k + 1) g fd ps told := by
  obtain ⟨oc, od, kV, doc, pm, an, cdv, ct, osl, rfl, lk, hcd⟩ := F.ex
  refine ⟨fun h => many _ _ _ _ h, fun {B under t H given bs xs R E} hg hr e0 hb r h => ?_⟩
  exact run_ofS (k := k) lk hcd S hr e0 hb r (many _ _ _ _ h) fun room => body cdv B under t H xs R E hg room h
/-- it stands under a name of the module -/
structure DefQ (P : Program) (w : World) (K : PySem.W.Frag) (mg : Str → Option Value) (base : Heap) (x : Str) (ps : List Str) (k : Nat) (told : Sp) : Prop where
  ex : ∃ f fd, QOk P w K mg base k f fd ps told ∧ mg x = some (.ref f) ∧ PySem.W.keepIn K (.ref f) = true ∧ Binds K fd ps []
end
section
variable {X : Cx} {k : Nat} {g : Addr} {fd : FuncData} {names : List Str} {told : Sp} {E : XK} {x : Str} {p pos : Pos} {e : Expr} {es : List Expr} {ta : TA}
/-- such a def, called -/
theorem pe_callQ (F : QOk X.prog X.w X.K X.mg X.base k g fd names told) (quiet : X.A.guards = some []) (hr : Room k X.A) (hg : Gl X x) (hm : X.mg x = some (.ref g)) (hk : PySem.W.keepIn X.K (.ref g) = true) (hb : Binds X.K fd names []) (hx : Passes CX0 X E)
    (ha : PA X (e :: es) ta) (hdb : (x == ("__debug__" : Str)) = false := by decide) (he : starEach (e :: es) X.env = (false, eval e X.env) :: starEach es X.env := by rfl) (hpl : (backTo pos (starEach es X.env)).any (·.1) = false := by rfl) :
    PE X (.Call (.Name x p) (e :: es) [] pos) (fun σ H Q => ta σ H fun xs H1 => told xs H1 Q E) := by
  refine ⟨fun pins s σ H Q I h => wpAny_Call_Name_kw (ld_glob I hg hm ?_ hdb)⟩
  refine PySem.W.callWith_K (h₀ := X.base) I.ok.mod.kin hk (thn (ha.run pos pins s σ H _ I h) fun us s1 got => ?_) he hpl
  obtain ⟨vs, H1, J, r, q⟩ := got
  refine ⟨J.kIn, ?_⟩
  have same : (us ++ ([] : List Value)).length = names.length := by rw [List.append_nil, ← r.length]; exact F.many q
  have bind := hb s1 us J.kIn same
  rw [List.append_nil] at bind
  refine wpAny_call (codeAny_mono (F.go quiet hr J.env0 bind r q) fun res s2 end_ => ?_)
  match res, end_ with
  | .error ex, end_ => exact hx pins σ H1 s1 ex s2 J end_
  | .ok (.ret u), end_ => exact J.after end_
end
end Nm
set_option autoImplicit false
set_option maxRecDepth 100000
set_option maxHeartbeats 8000000
/-! _law_led_on -/
namespace Nm
open PySem PySem.Spec PyProof.Rows L2
def unkT (y : Str) : List V := [.str "UnknownName", .str (reprText y)]
theorem ledK_take (nm : List Str) (f : Str → Str) (i : Nat) : (ledK nm f).take i = ledK (nm.take i) f := by unfold ledK; rw [List.map_take]
section
variable {P : Program} {w : World} {K : PySem.W.Frag} {mg : Str → Option Value} {base : Heap}
def spLedOn : Sp := fun vs H Q _ => ∃ (a b : Addr) (nm : List Str) (f : Str → Str) (nm2 : List Str) (g : Str → Str), vs = [.ref a, .ref b] ∧ a ≠ b ∧ H a = some (.dK (ledK nm f)) ∧ H b = some (.dK (ledK nm2 g)) ∧ nm.Nodup ∧ nm2.Nodup ∧ nm.length ≤ 1000 ∧ (∀ y, badL nm f nm2 = some y → (reprText y).length ≤ 1000) ∧
  (badL nm f nm2 = none → ∀ (D : Addr) (H' : Hp), H D = none → H' D = some (.dK (ledK nm (g ∘ f))) → Same H H' → Q (.ref D) H') ∧
  ∀ y, badL nm f nm2 = some y → ∀ (r : Addr) (H' : Hp), H r = none → H' r = some (.lst (unkT y)) → Same H H' → Q (.ref r) H'
abbrev nLO : List Str := ["_law_first", "_law_last", "_law_key"]
theorem scLO : FnScope nLO ["_law_first", "_law_last"] (defScope sLedOn) := ⟨rfl, rfl, rfl, by decide +kernel, rfl, by decide +kernel, by decide +kernel⟩
theorem q_ledOn {fa : Addr} {fd : FuncData} (F : Fun K "_law_led_on" "_law_led_on" sLedOn fa fd) (T : TxtF mg) (mr : mg "repr" = none) : QOk P w K mg base 1 fa fd ["_law_first", "_law_last"] spLedOn := by
  refine qok_of (k := 0) F scLO (fun vs H Q E h => ?_) (fun cdv Bd outer s H vs Q E quiet hr h => ?_)
  · obtain ⟨_, _, _, _, _, _, rfl, _⟩ := h
    rfl
  · obtain ⟨a, b, nm, f, nm2, g, rfl, nab, ha, hb, nd, nd2, hl, hyl, k, ke⟩ := h
    have hu := hu_of hr
    have lim : sizeLine = 16777216 := sizeLine_eq
    have hg : (cxOf CX0 P w K mg base nLO "_law_led_on" (defScope sLedOn) fa cdv Bd outer s H E).A.guards = some [] := quiet
    refine ⟨_, Evl.pss_cut (ps_lock (ps_for (passes_of rfl) rfl (pi_keys (pv 0)) (pg_name (i := 2) scLO.nd rfl (Or.inl rfl))
        (pss_one (ps_if (pt_cmp (pc_dnotin hu (pe_dget hu (pv 0) (pv 2) (fun _ _ => rfl)) (pv 1))) (pss_one (ps_ret (pe_lst (pa_cons pe_str (pa_cons (pe_callB (call_reprA hg hr.units) (by rfl) mr (by decide +kernel) (pa_cons (pe_dget hu (pv 0) (pv 2) (fun _ _ => rfl)) pa_nil)) pa_nil))))) pss_nil))))
      (pss_one (ps_ret (pe_callTy (call_dictP rfl) (by rfl) T.dict (by decide +kernel) (pa_cons (pe_lock (pe_lc (own := [("_law_key", 2)]) (g := gName 2) (tt := tYes) (te := tTup (tCons (tVar 2) (tCons (tDGet (tVar 1) (tDGet (tVar 0) (tVar 2))) tNil))) rfl scLO.nd (pi_keys (pv 0)) (blkOk_by (N := nLO) (sc := defScope sLedOn) (by decide +kernel))
        (fun _ _ _ _ _ => pg_name (i := 2) scLO.nd rfl (Or.inl rfl)) (fun _ _ _ _ _ => pts_nil) (fun _ _ _ _ _ => by exact pe_tup (pa_cons (pv 2) (pa_cons (pe_dget hu (pv 1) (pe_dget hu (pv 0) (pv 2) (fun _ _ => rfl)) (fun _ _ => rfl)) pa_nil))))) pa_nil)))), ?_⟩
    have gets : ∀ (od : Obj) (H1 : Hp), H1 a = some (.frz od (.dK (ledK nm f))) → ∀ x ∈ nm, DGet H1 a (V.str x) (some (V.str (f x))) := fun od H1 h1 x hx => .inl ⟨ledK nm f, Sum.inr x, .inr ⟨od, h1⟩, rfl, (ledK_at nd hx).symm⟩
    have back : ∀ (od : Obj) (H1 : Hp), Same (upd H a (.frz od (.dK (ledK nm f)))) H1 → Same H (upd H1 a (.dK (ledK nm f))) := fun od H1 s1 c o e => by
      by_cases ec : c = a
      · subst ec
        rw [upd_same, ← ha]
        exact e
      · rw [upd_ne ec]
        exact s1 _ _ (by rw [upd_ne ec]; exact e)
    have hb0 : ∀ od : Obj, (upd H a (.frz od (.dK (ledK nm f)))) b = some (.dK (ledK nm2 g)) := fun od => by rw [upd_ne nab.symm]; exact hb
    have keyAt : ∀ {i : Nat} {key : Key} {v : V}, (ledK nm f)[i]? = some (key, v) → ∃ x, nm[i]? = some x ∧ key = Sum.inr x ∧ v = V.str (f x) := fun {i key v} h => by
      unfold ledK at h
      rw [List.getElem?_map] at h
      obtain ⟨x, hx, e⟩ := Option.map_eq_some_iff.mp h
      cases e
      exact ⟨x, hx, rfl, rfl⟩
    refine ⟨fun σ H1 => (∀ x ∈ nm, f x ∈ nm2) ∧ ∃ v2, σ = [some (.ref a), some (.ref b), v2] ∧ Same H H1, ?_, ?_⟩
    · refine ⟨a, _, ha, trivial, fun od => ?_⟩
      refine ⟨_, rfl, a, od, rfl, .inl ⟨ledK nm f, upd_same, ?_⟩⟩
      refine for_it walk_keys (fun i σ H1 => (∀ (j : Nat) (z : Str), j < i → nm[j]? = some z → f z ∈ nm2) ∧ ∃ v2, σ = [some (.ref a), some (.ref b), v2] ∧ H1 = upd H a (.frz od (.dK (ledK nm f)))) ⟨fun j z hj => absurd hj (Nat.not_lt_zero j), none, rfl, rfl⟩ (fun i σ H1 _ ⟨_, _, _, h⟩ => by rw [h]; exact upd_same) ?_ ?_
      · rintro i x σ H1 H2 hi ⟨hj, v2, rfl, rfl⟩ ⟨rfl, key, v, hkv, rfl⟩
        obtain ⟨x, hx, rfl, rfl⟩ := keyAt hkv
        have hxm := List.mem_of_getElem? hx
        have got : DGet (upd H a (.frz od (.dK (ledK nm f)))) b (V.str (f x)) (valV (ledK nm2 g) (Sum.inr (f x))) := DGet.k (k := Sum.inr (f x)) (hb0 od)
        refine ⟨_, rfl, _, rfl, a, V.str (f x), rfl, gets od _ upd_same x hxm, _, rfl, b, _, rfl, got, ?_⟩
        rw [ledK_is]
        refine ⟨_, rfl, ?_⟩
        by_cases c : f x ∈ nm2
        · rw [decide_eq_true c]
          refine iteF ⟨fun j z hjl hz => ?_, some (.str x), rfl, rfl⟩
          rcases Nat.lt_or_ge j i with h | h
          · exact hj j z h hz
          · have : j = i := by omega
            subst this
            rw [hx] at hz
            cases hz
            exact c
        · rw [decide_eq_false c]
          have hbad := badL_at hj hx c
          have hy := hyl _ hbad
          refine iteT ?_
          refine ⟨_, rfl, _, rfl, a, V.str (f x), rfl, gets od _ upd_same x hxm, V.str (f x), .str (f x), rfl, .str (f x), rfl, rfl, by simp [PyData.depth], by show (reprText (f x)).length ≤ sizeLine; omega, (by show (2 : Nat) ≤ sizeLine; decide), fun r hr0 => ?_⟩
          have s1 := same_new (o := .lst [.str "UnknownName", .str (reprText (f x))]) hr0
          have nra : r ≠ a := fun z => by rw [z, upd_same] at hr0; cases hr0
          refine ⟨s1 _ _ upd_same, ke _ hbad r _ ?_ ?_ (back od _ s1)⟩
          · rw [upd_ne nra] at hr0
            exact hr0
          · rw [upd_ne nra]
            exact upd_same
      · rintro σ H1 ⟨hj, v2, rfl, rfl⟩
        refine ⟨upd_same, fun x hx => ?_, v2, rfl, back od _ fun _ _ e => e⟩
        obtain ⟨j, hj'⟩ := List.getElem?_of_mem hx
        exact hj j x (by have := (List.getElem?_eq_some_iff.mp hj').1; rw [ledK_len]; exact this) hj'
    rintro σ H1 ⟨all, v2, rfl, s1⟩
    have hg : ∀ x ∈ nm, valV (ledK nm2 g) (Sum.inr (f x)) = some (V.str (g (f x))) := fun x hx => ledK_at nd2 (all x hx)
    have hno : badL nm f nm2 = none := List.find?_eq_none.mpr fun y hy => by
      obtain ⟨x, hx, rfl⟩ := List.mem_map.mp hy
      rw [decide_eq_true (all x hx)]
      decide
    have ha1 := s1 _ _ ha
    have hb1 := s1 _ _ hb
    refine ⟨a, _, ha1, trivial, fun od => ?_⟩
    refine ⟨_, rfl, a, od, rfl, .inl ⟨ledK nm f, upd_same, fun D hD => ?_⟩⟩
    have nDa : D ≠ a := fun e => by subst e; rw [upd_same] at hD; cases hD
    have hb2 : (upd H1 a (.frz od (.dK (ledK nm f)))) b = some (.dK (ledK nm2 g)) := by rw [upd_ne nab.symm]; exact hb1
    have ha2 : (upd H1 a (.frz od (.dK (ledK nm f)))) a = some (.frz od (.dK (ledK nm f))) := upd_same
    have hD1 : H1 D = none := by rw [upd_ne nDa] at hD; exact hD
    have back1 : ∀ H2, Same (upd H1 a (.frz od (.dK (ledK nm f)))) H2 → Same H1 (upd H2 a (.dK (ledK nm f))) := fun H2 s2 c o e => by
      by_cases ec : c = a
      · subst ec
        rw [upd_same, ← ha1]
        exact e
      · rw [upd_ne ec]
        exact s2 _ _ (by rw [upd_ne ec]; exact e)
    generalize upd H1 a (.frz od (.dK (ledK nm f))) = Hl at *
    refine walkW walk_keys (fun i H2 => ∃ ps : List Addr, H2 D = some (.lst (ps.map V.ref)) ∧ ps.length = i ∧ Paired (fun p kv => H2 p = some (.tup [kV kv.1, kv.2])) ps ((ledK nm (g ∘ f)).take i) ∧ Same Hl H2) ⟨[], upd_same, rfl, .nil, same_new hD⟩ (fun i H2 _ ⟨_, _, _, _, h⟩ => h _ _ ha2) ?_ ?_
    · rintro i x H2 H3 hi ⟨ps, hD2, hpsl, pr, s2⟩ ⟨rfl, key, v, hkv, rfl⟩
      obtain ⟨x, hx, rfl, rfl⟩ := keyAt hkv
      have hxm := List.mem_of_getElem? hx
      rw [ledK_len] at hi
      refine ⟨rfl, tyes ?_⟩
      refine ⟨_, rfl, _, rfl, _, rfl, _, rfl, a, V.str (f x), rfl, gets od _ (s2 _ _ ha2) x hxm, b, V.str (g (f x)), rfl, (by rw [← hg x hxm]; exact DGet.k (k := Sum.inr (f x)) (s2 _ _ hb2)), (by show 2 ≤ sizeLine; decide), fun u hu => ?_⟩
      have su := same_new (o := .tup [V.str x, V.str (g (f x))]) hu
      have nDu : u ≠ D := fun e => by subst e; rw [hD2] at hu; cases hu
      refine ⟨_, su _ _ hD2, Evl.sz_lt (by rw [List.length_map]; omega), ps ++ [u], by rw [upd_same, List.map_append]; rfl, by simp [hpsl], ?_, fun b o e => ?_⟩
      · have e : (ledK nm (g ∘ f))[i]? = some (Sum.inr x, V.str (g (f x))) := by unfold ledK; rw [List.getElem?_map, hx]; rfl
        rw [List.take_add_one, e]
        refine paired_snoc (Paired.mapP pr fun p kv h => ?_) ?_
        · rw [upd_ne (ne_of h hD2 (by intro z; cases z))]
          exact su _ _ h
        · rw [upd_ne nDu]
          exact upd_same
      · rw [upd_ne (ne_of_none e hD)]
        exact su _ _ (s2 b o e)
    · rintro H2 ⟨ps, hD2, hpsl, pr, s2⟩
      rw [ledK_len, List.take_of_length_le (by rw [ledK_len]; exact Nat.le_refl _)] at pr
      have s3 := back1 H2 s2
      refine ⟨s2 _ _ ha2, D, ps, ledK nm (g ∘ f), rfl, SqL.of (by rw [upd_ne nDa]; exact hD2), Paired.mapP pr fun p kv h => SqT.of (by rw [upd_ne (ne_of h (s2 _ _ ha2) (by intro z; cases z))]; exact h), fun r hr => ?_⟩
      refine k hno r _ (s1.free (s3.free hr)) ?_ ((s1.trans s3).trans (same_new hr))
      rw [upd_same, merge_nd (acc := []) (by simpa using ledK_nd nd)]
      rfl
end
end Nm
set_option autoImplicit false
set_option maxRecDepth 100000
set_option maxHeartbeats 8000000
/-! _law_words_dict -/
namespace Nm
open PySem PySem.Spec PyProof.Rows L2
theorem colK_led {nm ys : List Str} (nd : nm.Nodup) (h : nm.length = ys.length) : colK nm ys = ledK nm (leadG (colK nm ys)) ∧ ∀ x ∈ nm, leadG (colK nm ys) x ∈ ys := by
  have at_ : ∀ (i : Nat) (x y : Str), nm[i]? = some x → ys[i]? = some y → leadG (colK nm ys) x = y := fun i x y hx hy => by
    unfold leadG
    rw [colK_at (by omega) nd hx hy]
  refine ⟨List.ext_getElem? fun i => ?_, fun x hx => ?_⟩
  · unfold ledK
    rw [List.getElem?_map]
    cases hx : nm[i]? with
    | none =>
      have := List.getElem?_eq_none_iff.mp hx
      rw [Option.map_none, List.getElem?_eq_none (by unfold colK; rw [List.length_map, List.length_zip]; omega)]
    | some x =>
      obtain ⟨y, hy⟩ : ∃ y, ys[i]? = some y := ⟨_, List.getElem?_eq_getElem (by have := (List.getElem?_eq_some_iff.mp hx).1; omega)⟩
      rw [Option.map_some, at_ i x y hx hy]
      unfold colK
      rw [List.getElem?_map, show (nm.zip ys)[i]? = some (x, y) by rw [List.getElem?_zip_eq_some]; exact ⟨hx, hy⟩]
      rfl
  · obtain ⟨i, hi⟩ := List.getElem?_of_mem hx
    obtain ⟨y, hy⟩ : ∃ y, ys[i]? = some y := ⟨_, List.getElem?_eq_getElem (by have := (List.getElem?_eq_some_iff.mp hi).1; omega)⟩
    rw [at_ i x y hi hy]
    exact List.mem_of_getElem? hy
section
variable {P : Program} {w : World} {K : PySem.W.Frag} {mg : Str → Option Value} {base : Heap}
def spWords : Sp := fun vs H Q _ => ∃ (s c a b : Addr) (ns ms : List Str), vs = [.ref s, .ref a, .ref b] ∧ Src H s c ∧ (a ≠ s ∧ a ≠ c) ∧ (b ≠ s ∧ b ≠ c) ∧ H a = some (.lst (ns.map V.str)) ∧ H b = some (.lst (ms.map V.str)) ∧ ns.Nodup ∧ ns.length ≤ 100 ∧ 1 ≤ ms.length ∧ ms.length ≤ 100 ∧
  ∀ (D : Addr) (nm : List Str) (f : Str → Str) (H' : Hp), H D = none → H' D = some (.dK (ledK nm f)) → nm.Nodup → nm.length ≤ ns.length → (∀ x ∈ nm, x ∈ ns ∧ f x ∈ ms) → Src H' s c → Kp s c H H' → Q (.ref D) H'
abbrev nWd : List Str := ["_law_source", "_law_keys", "_law_values", "_law_some", "_law_key"]
theorem scWd : FnScope nWd ["_law_source", "_law_keys", "_law_values"] (defScope sWordsDict) := ⟨rfl, rfl, rfl, by decide +kernel, rfl, by decide +kernel, by decide +kernel⟩
theorem ok_words {fa : Addr} {fd : FuncData} (F : Fun K "_law_words_dict" "_law_words_dict" sWordsDict fa fd) (T : TxtF mg) (Gp : Def P w K mg base "_law_pick" ["_law_source", "_law_many"] 1 spPick) (Ga : Def P w K mg base "_law_any_order" ["_law_source", "_law_items"] 2 (spAny K)) (Gc : Def P w K mg base "_law_choice_of" ["_law_source", "_law_items"] 2 (spChoice K)) :
    FnOk P w K mg base CX0 3 fa fd ["_law_source", "_law_keys", "_law_values"] spWords := by
  obtain ⟨fp, fdp, Gp, mp, kp, bp⟩ := Gp.ex
  obtain ⟨fo, fdo, Ga, ma, ka, ba⟩ := Ga.ex
  obtain ⟨fc, fdc, Gc, mc, kc, bc⟩ := Gc.ex
  refine F.ok scWd (fun vs H Q E h => ?_) (fun cdv A outer s H vs Q E hr h => ?_)
  · obtain ⟨_, _, _, _, _, _, rfl, _⟩ := h
    rfl
  · obtain ⟨sa, ca, a, b, ns, ms, rfl, S, ⟨na1, na2⟩, ⟨nb1, nb2⟩, ha, hb, nd, hn, hm1, hm, k⟩ := h
    have hu := hu_of hr
    have hr1 := hr.mono (by decide : 1 ≤ 2)
    refine ⟨_, Evl.pss_cut (ps_set (i := 3) scWd.nd rfl (Or.inl rfl) (pe_slice sl_list (pe_call Ga hr (by rfl) ma ka ba .nil pass0 (pa_cons (pv 0) (pa_cons (pv 1) pa_nil))) po_none (po_some (pe_call Gp hr1 (by rfl) mp kp bp .nil pass0 (pa_cons (pv 0) (pa_cons (pe_op op_add (pe_callB call_len_seq (by rfl) T.len PySem.boot_len (pa_cons (pv 1) pa_nil)) pe_int) pa_nil))))))
      (pss_one (ps_ret (pe_callTy (call_dictP rfl) (by rfl) T.dict (by decide +kernel) (pa_cons (pe_lc (own := [("_law_key", 4)]) (g := gName 4) (tt := tYes) (te := tTup (tCons (tVar 4) (tCons (tCall (spChoice K) [] E0 (tCons (tVar 0) (tCons (tVar 2) tNil))) tNil))) rfl scWd.nd (pi_list (pv 3)) (blkOk_by (N := nWd) (sc := defScope sWordsDict) (by decide +kernel))
        (fun _ _ _ _ _ => pg_name (i := 4) scWd.nd rfl (Or.inl rfl)) (fun _ _ _ _ _ => pts_nil) (fun _ _ _ _ _ => by exact pe_tup (pa_cons (pv 4) (pa_cons (pe_call Gc hr (by rfl) mc kc bc .nil pass0 (pa_cons (pv 0) (pa_cons (pv 2) pa_nil))) pa_nil)))) pa_nil)))), ?_⟩
    refine ⟨fun σ H1 => ∃ (q : Addr) (nm : List Str), σ = [some (.ref sa), some (.ref a), some (.ref b), some (.ref q), none] ∧ H1 q = some (.lst (nm.map V.str)) ∧ nm.Nodup ∧ nm.length ≤ ns.length ∧ (∀ x ∈ nm, x ∈ ns) ∧ (q ≠ sa ∧ q ≠ ca) ∧ Src H1 sa ca ∧ Kp sa ca H H1, ?_, ?_⟩
    · refine ⟨_, rfl, _, rfl, sa, ca, a, _, rfl, S, SqL.of ha, by rw [List.length_map]; omega, fun p ys H1 hp pm hpl S1 kp1 => ?_⟩
      obtain ⟨zs, rfl, pz⟩ := perm_str pm
      have ha1 := kp1 _ _ ha na1 na2
      refine ⟨_, rfl, _, rfl, a, _, rfl, .inl (SqL.of ha1), _, _, rfl, rfl, ?_⟩
      refine ⟨sa, ca, _, rfl, S1, by rw [List.length_map]; omega, by rw [List.length_map]; omega, fun kk H2 k0 k1 S2 kp2 => ⟨kk, rfl, ?_⟩⟩
      have np := S.ne hp
      have hp2 := kp2 _ _ hpl np.1 np.2
      refine ⟨p, _, rfl, SqL.of hp2, fun q hq => ?_⟩
      obtain ⟨n, rfl⟩ : ∃ n : Nat, kk = (n : Int) := ⟨kk.toNat, (Int.toNat_of_nonneg k0).symm⟩
      have zl := pz.length_eq
      refine ⟨q, zs.take n, rfl, by rw [upd_same, cut_upto, ← List.map_take], (List.take_sublist n zs).nodup (pz.nodup_iff.mpr nd), by rw [List.length_take]; omega, fun x hx => pz.subset ((List.take_sublist n zs).subset hx), S2.ne hq, S2.new hq, (kp1.trans kp2).trans (Kp.same (same_new hq))⟩
    rintro σ H1 ⟨q, nm, rfl, hq, ndn, hln, hmem, nq, S1, kp1⟩
    have hb1 := kp1 _ _ hb nb1 nb2
    refine ⟨_, rfl, q, rfl, ⟨_, SqL.of hq⟩, fun D hD => ?_⟩
    have nD := S1.ne hD
    refine lc_list (xs := nm.map V.str) (fun i H2 => ∃ (ps : List Addr) (ys : List Str), H2 D = some (.lst (ps.map V.ref)) ∧ ps.length = i ∧ ys.length = i ∧ (∀ y ∈ ys, y ∈ ms) ∧ Paired (fun p (kv : Key × V) => H2 p = some (.tup [kV kv.1, kv.2])) ps (colK (nm.take i) ys) ∧ Src H2 sa ca ∧ Kp sa ca H1 H2)
      ⟨[], [], upd_same, rfl, rfl, (fun y h => (List.not_mem_nil h).elim), .nil, S1.new hD, Kp.same (same_new hD)⟩ (fun i H2 _ ⟨_, _, _, _, _, _, _, _, h⟩ => SqL.of (h _ _ hq nq.1 nq.2)) ?_ ?_
    · rintro i x H2 hi ⟨ps, ys, hD2, hpsl, hysl, hym, pr, S2, kp2⟩
      have hil := (List.getElem?_eq_some_iff.mp hi).1
      rw [List.length_map] at hil
      rw [List.getElem?_map] at hi
      obtain ⟨z, hz, rfl⟩ := Option.map_eq_some_iff.mp hi
      refine ⟨rfl, tyes ?_⟩
      refine ⟨_, rfl, _, rfl, _, rfl, sa, ca, b, _, rfl, S2, nb1, nb2, SqL.of (kp2 _ _ hb1 nb1 nb2), by rw [List.length_map]; exact hm1, by rw [List.length_map]; omega, fun v H3 hv S3 kp3 => ?_⟩
      obtain ⟨y, hy, rfl⟩ := List.mem_map.mp hv
      have hD3 := kp3 _ _ hD2 nD.1 nD.2
      refine ⟨(by show 2 ≤ sizeLine; decide), fun u hu => ?_⟩
      have su := same_new (o := .tup [V.str z, V.str y]) hu
      have nDu : u ≠ D := fun e => by subst e; rw [hD3] at hu; cases hu
      refine ⟨_, su _ _ hD3, Evl.sz_lt (by rw [List.length_map]; omega), ps ++ [u], ys ++ [y], by rw [upd_same, List.map_append]; rfl, by simp [hpsl], by simp [hysl], ?_, ?_, ?_, ?_⟩
      · intro y' hy'
        rcases List.mem_append.mp hy' with h | h
        · exact hym y' h
        · rw [List.mem_singleton.mp h]
          exact hy
      · have e : colK (nm.take (i + 1)) (ys ++ [y]) = colK (nm.take i) ys ++ [(Sum.inr z, V.str y)] := by
          unfold colK
          rw [List.take_add_one, hz, Option.toList_some, List.zip_append (by rw [List.length_take]; omega), List.map_append]
          rfl
        rw [e]
        have keep : ∀ (p : Addr) (o : List V), H2 p = some (.tup o) → H3 p = some (.tup o) := fun p o e => by
          obtain ⟨cs, l0, m, tt, S0⟩ := S2
          exact kp3 _ _ e (ne_of e S0.ds (by intro z; cases z)) (ne_of e S0.dc (by intro z; cases z))
        refine paired_snoc (Paired.mapP pr fun p kv h => ?_) ?_
        · rw [upd_ne (ne_of h hD2 (by intro z; cases z))]
          exact su _ _ (keep _ _ h)
        · rw [upd_ne nDu]
          exact upd_same
      · exact (S3.new hu).upd nD.1 nD.2
      · exact ((kp2.trans kp3).trans (Kp.same su)).off hD
    · rintro H2 ⟨ps, ys, hD2, hpsl, hysl, hym, pr, S2, kp2⟩
      rw [List.length_map] at hpsl hysl pr
      rw [List.take_length] at pr
      obtain ⟨e1, e2⟩ := colK_led ndn hysl.symm
      refine ⟨D, ps, colK nm ys, rfl, SqL.of hD2, Paired.mapP pr fun p kv h => SqT.of h, fun r hr => ?_⟩
      have kp12 := kp1.trans kp2
      refine k r nm (leadG (colK nm ys)) _ (kp12.free S2 hr) ?_ ndn hln (fun x hx => ⟨hmem x hx, hym _ (e2 x hx)⟩) (S2.new hr) (kp12.trans (Kp.same (same_new hr)))
      rw [upd_same, merge_nd (acc := []) (by simpa using colK_nd (by omega) ndn), ← e1]
      rfl
end
end Nm
set_option autoImplicit true
set_option maxRecDepth 100000
set_option maxHeartbeats 4000000
/-! try with several clauses, some of them with a name -/
namespace Nm
open PySem PySem.Spec PyProof.Rows L2
/-- an exception of the body, as the clauses find it -/
structure Cght (X : Cx) (pins : List (Addr × Obj)) (a : Addr) (B : Heap) (sI : Shared) (σ : L2.St) (H : Hp) (cls : Value) (d : Option Addr) (s : Shared) : Prop where
  inv : Inv X pins σ H sI
  nb : ∀ (b : Addr) (o : Obj), sI.heap.get? b = some o → ¬b ∈ frs X.stack → B.get? b = some o
  up : sI.heap.UpToSlots s.heap
  fl : HandSPX.FlyingZ B (X.env :: X.outer) a (Zc cls d) s.heap
  na : H a = none
  os : s.os = sI.os
  ag : AllBare s.gens
section
variable {X : Cx} {pins : List (Addr × Obj)} {a : Addr} {B : Heap} {sI s : Shared} {σ : L2.St} {H : Hp} {cls : Value} {d : Option Addr}
theorem Cght.here (c : Cght X pins a B sI σ H cls d s) : Inv X pins σ H s := c.inv.landed c.nb c.fl.1 c.up c.os c.ag
/-- the suite's own state -/
theorem Cght.inside (c : Cght X pins a B sI σ H cls d s) (hf : X.env.frame = some X.env.locals) : ∃ oe vs, s.heap.get? a = some oe ∧ Zc cls d oe ∧ oe.data = .fields vs ∧ Inv (X.suite a ((a, oe) :: (X.pn ++ pins))) [] σ H s := by
  obtain ⟨oe, vs, he, hz, hd⟩ := c.fl.there
  have away : a ∉ frs (X.env :: X.outer) := fun m => by
    obtain ⟨_, o', e', no⟩ := c.fl.2.2.1.mem m
    rw [he] at e'
    cases e'
    exact no _ hd
  refine ⟨oe, vs, he, hz, hd, c.here.suite he hd c.na (fun z => away (List.mem_filterMap.mpr ⟨X.env, List.mem_cons_self, by rw [hf, z]⟩)) fun m => ?_⟩
  obtain ⟨e, he', q⟩ := List.mem_filterMap.mp m
  exact away (List.mem_filterMap.mpr ⟨e, List.mem_cons_of_mem _ he', q⟩)
end
/-- these clauses do as w wishes -/
def Serves (X : Cx) (hds : List ExceptHandler) (D : Ends) (w : WX) : Prop := ∀ (pins : List (Addr × Obj)) (a : Addr) (B : Heap) (sI s : Shared) (σ : L2.St) (H : Hp) (cls : Value) (d : Option Addr), Cght X pins a B sI σ H cls d s → w cls d σ H →
  wpAny (model X.prog X.w) X.A (handleBy (.ref a) X.env hds) (SP X pins D) X.xe s
section
variable {X : Cx} {hds : List ExceptHandler} {D : Ends} {w : WX} {x n : Str} {c : Value} {i : Nat} {suite : List Stmt} {b₀ : Stmt} {np pos pos' : Pos} {ts : Addr → Value → Option Addr → TS}
theorem serves_nil (hs : X.stack = X.env :: X.outer) (hf : X.env.frame = some X.env.locals) (tk : Takes X w) : Serves X [] D w := by
  intro pins a B sI s σ H cls d c h
  refine wpAny_handleBy_nil ?_
  obtain ⟨_, _, _, oe, vs, T, oT, ts', he, hz, hd, h1, _⟩ := id c.fl
  have out : wpAny (model X.prog X.w) X.A (setFlight (.ref a) X.env.frame) (fun _ s4 => wpAny (model X.prog X.w) X.A (throw (.ref a) : Sem Flow) (SP X pins D) X.xe s4) X.xe s := by
    rw [hf]
    exact HandSPX.setFlight_upZ c.fl fun h4 hh4 up4 => wpAny_throw (tk _ _ ⟨a, B, sI, pins, σ, H, cls, d, rfl, c.inv, c.nb, c.up.trans up4, .inr (.inr (by rw [hs]; exact hh4)), c.na, c.os, c.ag, h⟩)
  unfold PySem.passOn
  refine wpAny_bind (wpAny_field he hd h1 ?_)
  rw [if_neg (show ¬ ((Value.ref T == Value.none) = true) from by simp)]
  first
    | exact wpAny_bind (wpAny_pure (wpAny_bind out))
    | exact wpAny_bind out
/-- the class of a clause, asked for -/
theorem clause_test {b : Bool} {pins : List (Addr × Obj)} {a : Addr} {B : Heap} {sI s : Shared} {σ : L2.St} {H : Hp} {cls : Value} {d : Option Addr} (k : Cght X pins a B sI σ H cls d s) (hf : X.env.frame = some X.env.locals) (hc : Names X x c) (hb : PySem.W.exmOne X.K cls c = some b)
    {R : Result → Shared → Prop} (h : R (.ok (if b = true then Flow.brk else Flow.next)) s) : codeAny (model X.prog X.w) (X.A.mark (some (.ref a))) (Code.handlers (.ref a) [.ExceptHandler (some (.Name x np)) none [] pos] X.env) R s := by
  obtain ⟨oe, vs, he, hz, hd, J⟩ := k.inside hf
  have at_ : PySem.W.Looks (model X.prog X.w) s.heap (typeOf (.ref a)) cls := fun A Q E s k q => wpAny_typeOf_ref (k _ _ he) (by rw [hz.1]; exact q)
  refine codeAny_handlers_test ?_
  have fin := (PySem.W.exm_one (M := model X.prog X.w) k.here.kIn at_ hb).here (A := X.A.mark (some (.ref a))) (s := s) (Q := fun b s₂ => R (Except.ok (if b = true then Flow.brk else Flow.next)) s₂) (E := notedBy (model X.prog X.w) (X.A.mark (some (.ref a))) X.env fun x s₂ => R (Except.error x) s₂) h
  obtain ⟨hg, hdbg, hm | ⟨hm, hv, hnn⟩⟩ := hc
  · exact ld_glob (X := X.suite a ((a, oe) :: (X.pn ++ pins))) J hg hm fin hdbg
  · exact ld_blt (X := X.suite a ((a, oe) :: (X.pn ++ pins))) J hg hm hv fin hnn hdbg
theorem serves_as (hf : X.env.frame = some X.env.locals) (hN : X.N.Nodup) (hi : X.N[i]? = some n) (hln : X.env.kindOf n = some .local) (hc : Names X x c)
    (hsu : ∀ (a : Addr) (oe : Obj) (cls : Value) (d : Option Addr) (pn : List (Addr × Obj)), Zc cls d oe → (∃ vs, oe.data = .fields vs) → PSs (X.suite a ((a, oe) :: pn)) (b₀ :: suite) (ts a cls d))
    (r : Serves X hds D w) : Serves X (.ExceptHandler (some (.Name x np)) (some n) (b₀ :: suite) pos' :: hds) D (wAs X.K c i ts w D) := by
  intro pins a B sI s σ H cls d k h
  obtain ⟨b, hb, hyes, hno⟩ := h
  refine wpAny_handleBy_cons (clause_test k hf hc hb ?_) (by intro q; cases q)
  cases b with
  | false => exact r pins a B sI s σ H cls d k (hno rfl)
  | true =>
    refine codeAny_handlers_suite_as ?_
    refine HandSPX.lands_againZ k.fl fun h4 fl4 up4 => ?_
    have k4 : Cght X pins a B sI σ H cls d { s with heap := h4 } := ⟨k.inv, k.nb, k.up.trans up4, fl4, k.na, k.os, k.ag⟩
    obtain ⟨oe, vs, he, hz, hd, J⟩ := k4.inside hf
    refine store_ok (X := X.suite a ((a, oe) :: (X.pn ++ pins))) (v := .ref a) J hN hi (.inl hln) rfl (fun s5 J5 => ?_) (.inr hln)
    refine wpAny_mono ((hsu a oe cls d (X.pn ++ pins) hz ⟨_, hd⟩).run [] s5 _ H _ J5 (hyes rfl a k.na)) (fun f s6 hsp => ?_) (fun _ _ z => False.elim z)
    have ok := k.inv.ok
    have gone : ∀ {σ6 : L2.St} {H6 : Hp} {Q : Shared → Prop}, Inv (X.suite a ((a, oe) :: (X.pn ++ pins))) [] σ6 H6 s6 → (∀ s7, Inv X pins (σ6.set i none) H6 s7 → Q s7) →
        wpAny (model X.prog X.w) X.A (do bindName X.env n .none; unbindBehindTheSuite X.env n pos') (fun _ s7 => Q s7) X.xe s6 := fun {σ6 H6 Q} J6 hq => gone_ok (J6.unsuite ok) hN hi hln hq
    cases f with
    | ret u =>
      obtain ⟨v6, σ6, H6, J6, r6, q6⟩ := hsp
      exact gone J6 fun s7 J7 => ⟨_, _, _, J7, r6, q6⟩
    | next =>
      obtain ⟨σ6, H6, J6, q6⟩ := hsp
      exact gone J6 fun s7 J7 => ⟨_, _, J7, q6⟩
    | brk =>
      obtain ⟨σ6, H6, J6, q6⟩ := hsp
      exact gone J6 fun s7 J7 => ⟨_, _, J7, q6⟩
    | cont =>
      obtain ⟨σ6, H6, J6, q6⟩ := hsp
      exact gone J6 fun s7 J7 => ⟨_, _, J7, q6⟩
theorem serves_only (hf : X.env.frame = some X.env.locals) (hc : Names X x c)
    (hsu : ∀ (a : Addr) (oe : Obj) (cls : Value) (d : Option Addr) (pn : List (Addr × Obj)), Zc cls d oe → (∃ vs, oe.data = .fields vs) → PSs (X.suite a ((a, oe) :: pn)) (b₀ :: suite) (ts a cls d))
    (r : Serves X hds D w) : Serves X (.ExceptHandler (some (.Name x np)) none (b₀ :: suite) pos' :: hds) D (fun cls d σ H => ∃ b, PySem.W.exmOne X.K cls c = some b ∧ (b = true → ∀ a, H a = none → ts a cls d D σ H) ∧ (b = false → w cls d σ H)) := by
  intro pins a B sI s σ H cls d k h
  obtain ⟨b, hb, hyes, hno⟩ := h
  refine wpAny_handleBy_cons (clause_test k hf hc hb ?_) (by intro q; cases q)
  cases b with
  | false => exact r pins a B sI s σ H cls d k (hno rfl)
  | true =>
    refine codeAny_handlers_suite ?_
    refine HandSPX.lands_againZ k.fl fun h4 fl4 up4 => ?_
    have k4 : Cght X pins a B sI σ H cls d { s with heap := h4 } := ⟨k.inv, k.nb, k.up.trans up4, fl4, k.na, k.os, k.ag⟩
    obtain ⟨oe, vs, he, hz, hd, J⟩ := k4.inside hf
    have ok := k.inv.ok
    refine wpAny_mono ((hsu a oe cls d (X.pn ++ pins) hz ⟨_, hd⟩).run [] _ _ H _ J (hyes rfl a k.na)) (fun f s6 hsp => ?_) (fun _ _ z => False.elim z)
    cases f with
    | ret u =>
      obtain ⟨v6, σ6, H6, J6, r6, q6⟩ := hsp
      exact ⟨_, _, _, J6.unsuite ok, r6, q6⟩
    | next =>
      obtain ⟨σ6, H6, J6, q6⟩ := hsp
      exact ⟨_, _, J6.unsuite ok, q6⟩
    | brk =>
      obtain ⟨σ6, H6, J6, q6⟩ := hsp
      exact ⟨_, _, J6.unsuite ok, q6⟩
    | cont =>
      obtain ⟨σ6, H6, J6, q6⟩ := hsp
      exact ⟨_, _, J6.unsuite ok, q6⟩
end
/-- THE RULE -/
theorem ps_try_serves {X : Cx} {body : List Stmt} {h₀ : ExceptHandler} {hds : List ExceptHandler} {pos : Pos} {tb : WX → TS} {w : Ends → WX} (hs : X.stack = X.env :: X.outer) (hf : X.env.frame = some X.env.locals)
    (hb : ∀ (W : WX) (pn : List (Addr × Obj)) (xe : Value → Shared → Prop), Takes (X.tr pn xe) W → PassesOwn (model X.prog X.w) X.A X.env xe → PSs (X.tr pn xe) body (tb W))
    (S : ∀ D, Serves X (h₀ :: hds) D (w D)) : PS X (.Try body (h₀ :: hds) [] [] pos) (fun D σ H => tb (w D) D σ H) := by
  refine ⟨fun pins s σ H D I h => wpAny_Try_except ?_⟩
  have ok := I.ok
  have hfr : X.A.frames = some (X.env :: X.outer) := by rw [ok.frames, hs]
  refine wpAny_mono ((hb (w D) (X.pn ++ pins) (fun e s₁ => wpAny (model X.prog X.w) X.A (noteFrame e X.env) (fun _ s₂ => wpAny (model X.prog X.w) X.A (setFlight e none) (fun _ s₃ =>
    wpAny (model X.prog X.w) X.A (handleBy e X.env (h₀ :: hds)) (SP X pins D) X.xe s₃) X.xe s₂) X.xe s₁) (fun u s' xx => ?_) PassesOwn.looking).run [] s σ H D (I.toTry _) h) (fun f s1 hsp => ?_) (fun e s1 he => he)
  · obtain ⟨a, B, sI, pins', σ', H', cls, d, rfl, J', nb, up, sky, na, os, ag, q⟩ := xx
    have sky' : Sky B (X.env :: X.outer) a (Zc cls d) X.env.locals s'.heap := by rw [← hs]; exact sky
    show wpAny (model X.prog X.w) X.A (noteFrame (.ref a) X.env) _ _ _
    exact Sky.land Zc.steady hfr hf sky' fun h3 fl3 up3 => S D pins a B sI _ σ' H' cls d ⟨J'.ofTry ok, nb, up.trans up3, fl3, na, os, ag⟩ q
  · cases f with
    | ret u =>
      obtain ⟨v, σ', H', J', r, q⟩ := hsp
      exact ⟨v, σ', H', J'.ofTry ok, r, q⟩
    | next =>
      obtain ⟨σ', H', J', q⟩ := hsp
      exact wpAny_execs_nil ⟨σ', H', J'.ofTry ok, q⟩
    | brk =>
      obtain ⟨σ', H', J', q⟩ := hsp
      exact ⟨σ', H', J'.ofTry ok, q⟩
    | cont =>
      obtain ⟨σ', H', J', q⟩ := hsp
      exact ⟨σ', H', J'.ofTry ok, q⟩
end Nm
set_option autoImplicit true
set_option maxRecDepth 100000
set_option maxHeartbeats 4000000
/-! _law_caught(lambda: ..) with one clause -/
namespace Nm
open PySem PySem.Spec PyProof.Rows L2 LamX
/-- told: try: return ask() / except UnknownName as e: return ["UnknownName", repr(e.name)] -/
def TCaughtN (CU : Addr) : (XK → Hp → VK → Prop) → Hp → VK → Prop := fun tl H Q =>
  tl (fun cls d H' => cls = .ref CU ∧ ∃ (y : Str) (dd : Addr), d = some dd ∧ H' dd = some (.xd [("name", .str y)]) ∧ (reprText y).length ≤ 1000 ∧ ∀ r, H' r = none → Q (.ref r) (upd H' r (.lst (unkT y)))) H Q
abbrev nCt : List Str := ["_law_ask", "e"]
theorem scCt : FnScope nCt ["_law_ask"] (defScope sCaught) := ⟨rfl, rfl, rfl, by decide +kernel, rfl, by decide +kernel, by decide +kernel⟩
theorem takes_len {X : Cx} {W : WX} (t : Takes X W) : Takes X (fun cls d σ H => σ.length = X.N.length → W cls d σ H) := fun u s' ⟨a, B, sI, pins, σ, H, cls, d, e, I, nb, up, sky, na, os, ag, w⟩ => t u s' ⟨a, B, sI, pins, σ, H, cls, d, e, I, nb, up, sky, na, os, ag, w I.len⟩
theorem caught_givesN {X : Cx} {g CU : Addr} {cdg : Value} {q : Str} (quiet : X.A.guards = some []) (hu : X.A.units + 100 < cLine) (xfU : XfC X.K CU) (nNa : PySem.W.findIn X.K (.ref CU) "name" = some none) (mU : X.mg "UnknownName" = some (.ref CU)) (mr : X.mg "repr" = none) (ex : PySem.W.exmOne X.K (.ref CU) (.ref CU) = some true) :
    GivesTo X nCt "_law_caught" (defScope sCaught) g cdg (defBody sCaught) "_law_ask" q (TCaughtN CU) := by
  intro f c' s H Q tl act hc h
  have hg : ((cxOf C8.CX0 X.prog X.w X.K X.mg X.base nCt "_law_caught" (defScope sCaught) g cdg X.A X.stack s H C8.E0).nox).A.guards = some [] := quiet
  have hu' : ((cxOf C8.CX0 X.prog X.w X.K X.mg X.base nCt "_law_caught" (defScope sCaught) g cdg X.A X.stack s H C8.E0).nox).A.units + 64 < cLine := by
    show X.A.units + 3 + 64 < cLine
    omega
  refine ⟨_, pss_one (ps_try_serves (X := (cxOf C8.CX0 X.prog X.w X.K X.mg X.base nCt "_law_caught" (defScope sCaught) g cdg X.A X.stack s H C8.E0).nox)
      (tb := fun W D σ H => ∃ Ech : XK, (∀ cls d σ' H', Ech cls d H' → σ'.length = 2 → W cls d σ' H') ∧ σ[0]? = some (some (.ref f)) ∧ H c' = some (CodeO c' q) ∧ tl Ech H D.rt)
      rfl rfl (fun W pn xe tk _ => ?_) (fun D => serves_as (i := 1) (c := .ref CU) rfl scCt.nd rfl rfl ⟨rfl, by decide, .inl mU⟩
          (fun a oe cls d pn hz hf => pss_one (ps_ret (pe_lst (pa_cons pe_str (pa_cons (pe_callB (call_reprA hg hu') (by rfl) mr (by decide +kernel) (pa_cons (pe_xf (C := CU) xfU nNa hz hf (pv 1)) pa_nil)) pa_nil)))))
          (serves_nil rfl rfl takes0))), ?_⟩
  · refine ⟨fun pins s' σ H' D I h' => ?_⟩
    obtain ⟨Ech, hW, h1, h2, h3⟩ := h'
    exact (pss_one (ps_ret (act (fun cls d σ H => σ.length = 2 → W cls d σ H) pn xe Ech _ _ (takes_len tk) hW))).run pins s' σ H' D I ⟨h1, h2, h3⟩
  · refine ⟨_, fun cls d σ' H' e hlen => ?_, rfl, hc, h⟩
    obtain ⟨rfl, y, dd, rfl, hx, hy, k⟩ := e
    refine ⟨true, ex, fun _ a ha => ?_, (by intro z; cases z)⟩
    have lim : sizeLine = 16777216 := sizeLine_eq
    refine ⟨_, by rw [List.getElem?_set_self (by omega)], rfl, rfl, dd, _, _, rfl, hx, rfl, V.str y, .str y, rfl, .str y, rfl, rfl, by simp [PyData.depth], by show (reprText y).length ≤ sizeLine; omega, ?_⟩
    exact ⟨(by show (2 : Nat) ≤ sizeLine; decide), fun r hr0 => k r hr0⟩
end Nm
set_option autoImplicit true
set_option maxRecDepth 100000
set_option maxHeartbeats 4000000
/-! words are short and plain; how long their texts are -/
namespace Nm
open PySem PySem.Spec PyProof.Rows L2
theorem alpha_small : ∀ c ∈ ("abcdefghijklmnopqrstuvwxyz" : Str).cps.toList, c < 128 := by decide +kernel
theorem digit_small : ∀ c ∈ ("0123456789" : Str).cps.toList, c < 128 := by decide +kernel
theorem word_al {z : Str} (h : isWordB z = true) : z.length ≤ 100 ∧ ∀ c ∈ z.cps.toList, c < 128 := by
  unfold isWordB at h
  simp only [Bool.and_eq_true, decide_eq_true_eq] at h
  obtain ⟨⟨⟨⟨h1, _⟩, _⟩, _⟩, hall⟩ := h
  refine ⟨h1, fun c hc => ?_⟩
  have e : letB z = Builtin.Str.strSub z 0 (stripHi ("0123456789" : Str).cps.contains true z 0) := by
    unfold letB Txt.rstripChars
    rw [stripBy_eq]
    rfl
  obtain ⟨_, f2, f3, _⟩ := hi_facts ("0123456789" : Str).cps.contains z 0 (Nat.zero_le _)
  generalize stripHi ("0123456789" : Str).cps.contains true z 0 = hi at *
  obtain ⟨k, hk⟩ := List.getElem?_of_mem hc
  have hkl := (List.getElem?_eq_some_iff.mp hk).1
  have hkn : k < z.length := by simpa [Str.length] using hkl
  have hg : z.cps.getD k 0 = c := by
    rw [← getD_list, List.getD_eq_getElem?_getD, hk]
    rfl
  by_cases lt : k < hi
  · have hm : c ∈ (letB z).cps.toList := by
      rw [e]
      show c ∈ (z.cps.extract 0 hi).toList
      rw [Array.toList_extract]
      refine List.mem_of_getElem? (i := k) ?_
      simp only [List.extract_eq_drop_take, List.drop_zero, Nat.sub_zero]
      rw [List.getElem?_take, if_pos lt, hk]
    have := List.all_eq_true.mp hall c hm
    exact alpha_small c (of_decide_eq_true this)
  · have z1 := f3 k (by omega) hkn
    rw [hg] at z1
    exact digit_small c (by simpa using z1)
theorem hex_small (c w : Nat) : ∀ d ∈ List.replicate w 48 ++ (Nat.toDigits 16 c).map Char.toNat, d < 16 ^ 8 := fun d hd => by
  rcases List.mem_append.mp hd with h | h
  · rw [List.eq_of_mem_replicate h]
    decide
  · obtain ⟨ch, _, rfl⟩ := List.mem_map.mp h
    exact UInt32.toNat_lt ch.val
theorem reprChar_small {q c : Nat} (hc : c < 16 ^ 8) : ∀ d ∈ Builtin.Str.reprChar q c, d < 16 ^ 8 := fun d hd => by
  unfold Builtin.Str.reprChar at hd
  dsimp only at hd
  repeat' split at hd
  all_goals first
    | (simp only [List.mem_cons, List.not_mem_nil, or_false] at hd
       rcases hd with rfl | rfl
       · decide
       · first | decide | exact hc)
    | (simp only [List.mem_cons, List.not_mem_nil, or_false] at hd
       rw [hd]
       exact hc)
    | (rcases List.mem_append.mp hd with h | h
       · simp only [List.mem_cons, List.not_mem_nil, or_false] at h
         rcases h with rfl | rfl <;> decide
       · exact hex_small _ _ d h)
theorem fold_small {q : Nat} : ∀ (l : List Nat) (acc : Array Nat), (∀ c ∈ l, c < 16 ^ 8) → (∀ c ∈ acc.toList, c < 16 ^ 8) → ∀ c ∈ (l.foldl (fun out c => out ++ (Builtin.Str.reprChar q c).toArray) acc).toList, c < 16 ^ 8
  | [], _, _, h => h
  | x :: l, acc, hl, h => fold_small l _ (fun c hc => hl c (List.mem_cons_of_mem _ hc)) fun c hc => by
    rw [Array.toList_append, List.mem_append] at hc
    rcases hc with z | z
    · exact h c z
    · exact reprChar_small (hl x List.mem_cons_self) c (by simpa using z)
theorem quote_small (x : Str) : reprQuote x < 16 ^ 8 := by
  unfold reprQuote
  split <;> decide
theorem reprText_small {x : Str} (h : ∀ c ∈ x.cps.toList, c < 16 ^ 8) : ∀ c ∈ (reprText x).cps.toList, c < 16 ^ 8 := fun c hc => by
  unfold reprText at hc
  rw [Array.toList_push, List.mem_append, ← Array.foldl_toList] at hc
  rcases hc with z | z
  · exact fold_small _ _ h (fun d hd => by
      rw [show d = reprQuote x from by simpa using hd]
      exact quote_small x) c z
  · rw [List.mem_singleton.mp z]
    exact quote_small x
/-- a plain text of at most this length -/
def Al (n : Nat) (z : Str) : Prop := z.length ≤ n ∧ ∀ c ∈ z.cps.toList, c < 16 ^ 8
theorem Al.word {z : Str} (h : isWordB z = true) : Al 100 z := ⟨(word_al h).1, fun c hc => Nat.lt_trans ((word_al h).2 c hc) (by decide)⟩
theorem Al.repr {n : Nat} {z : Str} (h : Al n z) : Al (10 * n + 2) (reprText z) := ⟨Nat.le_trans (PySem.StrLaws.reprText_len z h.2) (by have := h.1; omega), reprText_small h.2⟩
end Nm
set_option autoImplicit false
set_option maxRecDepth 100000
set_option maxHeartbeats 4000000
/-! repr of a dict of texts, and of a list of two such dicts -/
namespace Nm
open PySem PySem.Spec PyProof.Rows L2
def dtD (nm : List Str) (f : Str → Str) : List (PyData × PyData) := nm.map fun x => (.str x, .str (f x))
/-- its text -/
def shD (nm : List Str) (f : Str → Str) : Str := (PyData.dict (dtD nm f)).shown
def shDD (nm : List Str) (f : Str → Str) (nm2 : List Str) (f2 : Str → Str) : Str := (PyData.list [.dict (dtD nm f), .dict (dtD nm2 f2)]).shown
/-- few and short -/
def FewD (nm : List Str) (f : Str → Str) : Prop := nm.length ≤ 100 ∧ ∀ x ∈ nm, Al 20 x ∧ Al 20 (f x)
theorem dtD_fine {f : Str → Str} : ∀ {nm : List Str}, (∀ x ∈ nm, Al 20 x ∧ Al 20 (f x)) → PyData.showableKv (dtD nm f) = true ∧ PyData.depthKv (dtD nm f) ≤ 3 ∧ PyData.leavesShortKv 20 (dtD nm f) = true ∧ PyData.bulkKv (dtD nm f) ≤ 42 * nm.length
  | [], _ => ⟨rfl, by simp [dtD, PyData.depthKv], rfl, by simp [dtD, PyData.bulkKv]⟩
  | z :: zs, h => by
    obtain ⟨a1, a2, a3, a4⟩ := dtD_fine (nm := zs) fun y hy => h y (List.mem_cons_of_mem _ hy)
    obtain ⟨hz, hf⟩ := h z List.mem_cons_self
    have e : dtD (z :: zs) f = (.str z, .str (f z)) :: dtD zs f := rfl
    rw [e]
    have s1 : PyData.leavesShort 20 (.str z) = true := List.all_eq_true.mpr fun c hc => decide_eq_true (hz.2 c hc)
    have s2 : PyData.leavesShort 20 (.str (f z)) = true := List.all_eq_true.mpr fun c hc => decide_eq_true (hf.2 c hc)
    refine ⟨?_, ?_, ?_, ?_⟩
    · simp only [PyData.showableKv, PyData.showable, a1, Bool.and_self]
    · simp only [PyData.depthKv, PyData.depth]
      omega
    · simp only [PyData.leavesShortKv, s1, s2, a3, Bool.and_self]
    · simp only [PyData.bulkKv, PyData.bulk, List.length_cons]
      have h1 : z.cps.size ≤ 20 := hz.1
      have h2 : (f z).cps.size ≤ 20 := hf.1
      omega
section
variable {X : Cx} {pins : List (Addr × Obj)} {σ : L2.St} {H : Hp} {s : Shared}
theorem led_reads {h : Heap} {P : Program} {w : World} : ∀ {es : List DictEntry} {nm : List Str} {f : Str → Str} {vs : List (Key × Value)}, Pairs (mixKind P w) es vs → KV (ledK nm f) vs → ReadsAll h (es.map (·.key)) ((dtD nm f).map (·.1)) [] ∧ ReadsAll h (es.map (·.val)) ((dtD nm f).map (·.2)) []
  | _, [], f, _, hp, hk => by
    cases hk
    cases hp
    exact ⟨.nil, .nil⟩
  | _, z :: zs, f, _, hp, hk => by
    cases hk with
    | @cons p q ps qs r t =>
      cases hp with
      | @cons e kv es' kvs' h1 h2 h3 =>
        obtain ⟨r1, r2⟩ := r
        obtain ⟨i1, i2⟩ := led_reads (h := h) (nm := zs) (f := f) h3 t
        obtain ⟨k, v⟩ := q
        obtain rfl : Sum.inr z = k := r1
        obtain ⟨t1, et⟩ := (show ∃ t, v = Value.str (f z) t from r2)
        have h1 : keyIs (Sum.inr z) e.key = true := h1
        have h2 : e.val = v := h2
        obtain ⟨t2, ek⟩ : ∃ t, e.key = Value.str z t := by
          rcases keyIs_shape h1 with ⟨i, u, e1, e2⟩ | ⟨y, u, e1, e2⟩
          · cases e1
          · cases e1
            exact ⟨u, e2⟩
        refine ⟨?_, ?_⟩
        · show ReadsAll h (e.key :: es'.map (·.key)) (.str z :: (dtD zs f).map (·.1)) ([] ++ [])
          rw [ek]
          exact .cons (.str z t2) i1
        · show ReadsAll h (e.val :: es'.map (·.val)) (.str (f z) :: (dtD zs f).map (·.2)) ([] ++ [])
          rw [h2, et]
          exact .cons (.str _ t1) i2
theorem led_read (I : Inv X pins σ H s) {a : Addr} {nm : List Str} {f : Str → Str} (ha : H a = some (.dK (ledK nm f))) : (a == sysModules) = false ∧ Reads s.heap (.ref a) (.dict (dtD nm f)) [a] := by
  obtain ⟨_, hs, vs, r, o, es, ep, h1, h2, h3, _, h4, _⟩ := dk_of I.hok ha
  obtain ⟨r1, r2⟩ := led_reads (h := s.heap) h4 r
  exact ⟨hs, .dict h1 h2.1 h3 r1 r2⟩
theorem led_fine {nm : List Str} {f : Str → Str} (h : FewD nm f) : (PyData.dict (dtD nm f)).showable = true ∧ (PyData.dict (dtD nm f)).depth ≤ 4 ∧ (shD nm f).length ≤ 100000 := by
  obtain ⟨a1, a2, a3, a4⟩ := dtD_fine h.2
  refine ⟨by simpa only [PyData.showable] using a1, by simp only [PyData.depth]; omega, ?_⟩
  have := PyData.shown_le_bulk 20 (by decide) (PyData.dict (dtD nm f)) (by simpa only [PyData.leavesShort] using a3)
  have hb : (PyData.dict (dtD nm f)).bulk ≤ 42 * nm.length := by simpa only [PyData.bulk] using a4
  have := h.1
  unfold shD
  omega
def rReprD : List V → Hp → VK → Prop := fun xs H Q => rReprA xs H Q ∨ (∃ (a : Addr) (nm : List Str) (f : Str → Str), xs = [.ref a] ∧ H a = some (.dK (ledK nm f)) ∧ FewD nm f ∧ Q (.str (shD nm f)) H) ∨
  ∃ (l a b : Addr) (nm nm2 : List Str) (f f2 : Str → Str), xs = [.ref l] ∧ H l = some (.lst [.ref a, .ref b]) ∧ H a = some (.dK (ledK nm f)) ∧ H b = some (.dK (ledK nm2 f2)) ∧ FewD nm f ∧ FewD nm2 f2 ∧ Q (.str (shDD nm f nm2 f2)) H
theorem call_reprD (hg : X.A.guards = some []) (hu : X.A.units + 64 < cLine) : CallR X (.builtin "repr") rReprD := by
  intro pins s σ H xs us Q I r h
  have lim : sizeLine = 16777216 := sizeLine_eq
  rcases h with h | ⟨a, nm, f, rfl, ha, fw, q⟩ | ⟨l, a, b, nm, nm2, f, f2, rfl, hl, ha, hb, fw, fw2, q⟩
  · exact call_reprA hg hu pins s σ H _ us Q I r h
  · obtain ⟨u, rfl, ru⟩ := vals1 r
    obtain rfl : u = Value.ref a := ru
    obtain ⟨hs, hr⟩ := led_read I ha
    obtain ⟨b1, b2, b3⟩ := led_fine fw
    exact repr_of_reads' hr b1 (fun _ hm => by rw [List.mem_singleton.mp hm] at hs; simp at hs) hg (by omega) (fun _ _ e => e) (fun h' u tk k => ⟨.str (shD nm f), H, I.kept (t' := tk) k, ⟨u, rfl⟩, q⟩) (by unfold shD at b3; omega)
  · obtain ⟨u, rfl, ru⟩ := vals1 r
    obtain rfl : u = Value.ref l := ru
    obtain ⟨hs, hr⟩ := led_read I ha
    obtain ⟨hs2, hr2⟩ := led_read I hb
    obtain ⟨b1, b2, b3⟩ := led_fine fw
    obtain ⟨c1, c2, c3⟩ := led_fine fw2
    obtain ⟨its, rv, p, hz⟩ := I.list (SqL.of hl)
    obtain ⟨o, n, ho, hc, hd, hdat⟩ := p
    cases rv with
    | cons x1 x2 =>
      cases x2 with
      | cons y1 y2 =>
        cases y2
        cases (show _ = Value.ref a from x1)
        cases (show _ = Value.ref b from y1)
        have all : ReadsAll s.heap [.ref a, .ref b] [.dict (dtD nm f), .dict (dtD nm2 f2)] ([a] ++ ([b] ++ [])) := .cons hr (.cons hr2 .nil)
        have rl : Reads s.heap (.ref l) (.list [.dict (dtD nm f), .dict (dtD nm2 f2)]) (l :: ([a] ++ ([b] ++ []))) := .list ho hc hdat all
        have len : (shDD nm f nm2 f2).length ≤ 300000 := by
          have e : shDD nm f nm2 f2 = listText [shD nm f, shD nm2 f2] := rfl
          rw [e]
          have e2 : listText [shD nm f, shD nm2 f2] = ("[" : Str) ++ shD nm f ++ ", " ++ shD nm2 f2 ++ "]" := rfl
          rw [e2, strLen_append, strLen_append, strLen_append, strLen_append]
          have z1 : (("[" : String) : Str).length = 1 := rfl
          have z2 : ((", " : String) : Str).length = 2 := rfl
          have z3 : (("]" : String) : Str).length = 1 := rfl
          omega
        have e2 : (PyData.list [.dict (dtD nm f), .dict (dtD nm2 f2)]).shown = listText (PyData.shownAll [.dict (dtD nm f), .dict (dtD nm2 f2)]) := by simp only [PyData.shown]
        have hz' : (listText (PyData.shownAll [.dict (dtD nm f), .dict (dtD nm2 f2)])).length ≤ sizeLine := by
          rw [← e2]
          unfold shDD at len
          omega
        have dep : PyData.depthAll [.dict (dtD nm f), .dict (dtD nm2 f2)] ≤ 4 := by simp only [PyData.depthAll]; omega
        obtain ⟨bs, hbs, hk⟩ := ReprAllK.of_readsAll (prog := X.prog) (w := X.w) all (by simp only [PyData.showableAll, b1, c1, Bool.and_self]) (fun _ hm => by
            rcases List.mem_cons.mp (by simpa using hm : sysModules ∈ [a, b]) with e | e
            · rw [← e] at hs; simp at hs
            · rw [← List.mem_singleton.mp e] at hs2; simp at hs2) (fun t ht => Nat.le_trans (listText_mem_le ht) hz')
        have hna : l ∉ bs := not_mem_of_deeper rl (by simp only [PyData.depth]; omega) hbs
        refine call_repr_slot (by omega) ⟨o, ho, hc⟩ F.slot_list_repr.toG (call_list_reprK (as := bs) (x := .ref a) (l := [.ref b]) (ts := PyData.shownAll [.dict (dtD nm f), .dict (dtD nm2 f2)]) ho hc hdat hna (by simpa using hk.length_eq) (fun i y e => hk.item i y (by simpa using e)) (g := []) hg (fun b _ => Clear.nil b) (by show X.A.units + 1 + _ < cLine; omega) (fun _ _ e => e) (fun h' u tk k => ⟨_, _, rfl, ?_⟩) hz')
        exact ⟨.str (shDD nm f nm2 f2), H, I.kept (t' := tk) k, ⟨u, rfl⟩, q⟩
end
end Nm
set_option autoImplicit false
set_option maxRecDepth 100000
set_option maxHeartbeats 8000000
/-! what a turn of the law stands on -/
namespace Nm
open PySem PySem.Spec PyProof.Rows L2 LamX
def lamQ : Str := (envOfC "law" (defScope sLaw) 0 0 .none).qual ++ "<lambda>"
theorem ne_sameI {x : V} {A B : Prop} (h : B) : if (!decide (x = x)) = true then A else B := by
  rw [decide_eq_true rfl]
  exact h
theorem pass_nothing {X : Cx} : Passes (L2.CX X.prog X.w) X E0 := fun _ _ _ _ _ _ _ ⟨_, _, _, _, _, _, _, _, _, _, _, _, z⟩ => z.elim
theorem Src.extN {H H' : Hp} {s c : Addr} (S : Src H s c) (e : ExtN H H') : Src H' s c := by
  obtain ⟨cs, l, m, t, S⟩ := S
  exact ⟨cs, l, m, t, { S with ds := e _ _ S.ds (fun _ z => by cases z), dc := e _ _ S.dc (fun _ z => by cases z) }⟩
theorem tabS_kp {s c : Addr} {H H' : Hp} {PT : Addr} {q : Str} (t : TabS H PT q) (S : Src H s c) (k : Kp s c H H') : TabS H' PT q := by
  obtain ⟨cs, l, m, tt, S⟩ := S
  obtain ⟨ps, h1, h2, h3⟩ := t
  refine ⟨ps, k _ _ h1 (fun z => ?_) (fun z => ?_), h2, fun pos cv hc => ?_⟩
  · rw [z, S.ds] at h1
    cases h1
  · rw [z, S.dc] at h1
    cases h1
  · obtain ⟨c', e1, e2⟩ := h3 pos cv hc
    refine ⟨c', e1, k _ _ e2 (fun z => ?_) (fun z => ?_)⟩
    · rw [z, S.ds] at e2
      cases e2
    · rw [z, S.dc] at e2
      cases e2
theorem tabs_kp {s c : Addr} {H H' : Hp} {T : List (Addr × Str)} (t : Tabs T H) (S : Src H s c) (k : Kp s c H H') : Tabs T H' := fun p hp => tabS_kp (t p hp) S k
/-! ### bounds -/
theorem sum_le {α : Type} {f g : α → Nat} : ∀ {l : List α}, (∀ a ∈ l, f a ≤ g a) → (l.map f).sum ≤ (l.map g).sum
  | [], _ => Nat.le_refl _
  | a :: l, h => by
    rw [List.map_cons, List.sum_cons, List.map_cons, List.sum_cons]
    exact Nat.add_le_add (h a List.mem_cons_self) (sum_le fun b hb => h b (List.mem_cons_of_mem _ hb))
theorem wN_tot {nm : List Str} {n m : Nat} {kvs : List (List Key × V)} {rs : List RowV} (T : Ties n m kvs) (R : RowsOf kvs rs) (a b kd : Str) : wN nm rs a b kd ≤ totW kvs := by
  unfold wN totW
  rw [(R.1.map _).sum_nat, List.map_map]
  refine sum_le fun kv hm => ?_
  obtain ⟨i, j, kd', e1, _⟩ := T.key kv hm
  obtain ⟨x, e2, _⟩ := T.val kv hm
  obtain ⟨ke, v⟩ := kv
  have e1 : ke = [Sum.inl (i : Int), Sum.inl (j : Int), Sum.inr kd'] := e1
  have e2 : v = V.int (x : Int) := e2
  subst e1 e2
  show (if _ then (x : Int).toNat else 0) ≤ (x : Int).toNat
  split
  · exact Nat.le_refl _
  · exact Nat.zero_le _
theorem rows_len {kvs : List (List Key × V)} {rs : List RowV} (R : RowsOf kvs rs) : rs.length = kvs.length := by
  have h := R.1.length_eq
  rwa [List.length_map] at h
/-- a web, apart from the source -/
structure NetS (C : Addr) (H : Hp) (s c p : Addr) (nm cl : List Str) (rs : List RowV) : Prop where
  ex : ∃ q dc r wd : Addr, WebX C H p q dc r wd nm cl rs ∧ (p ≠ s ∧ p ≠ c) ∧ (q ≠ s ∧ q ≠ c) ∧ (dc ≠ s ∧ dc ≠ c) ∧ (r ≠ s ∧ r ≠ c) ∧ (wd ≠ s ∧ wd ≠ c)
  cn : cl.length = nm.length
  fit : RowsFit nm.length rs
  nd : nm.Nodup
  le : nm.length ≤ 240
  two : ∀ a b k, wN nm rs a b k ≤ 1000000
section
variable {C : Addr} {H H' : Hp} {s c p : Addr} {nm cl : List Str} {rs : List RowV}
theorem NetS.net (N : NetS C H s c p nm cl rs) : Net C H p nm (wN nm rs) := by
  obtain ⟨q, dc, r, wd, X, _⟩ := N.ex
  exact ⟨⟨q, dc, r, wd, cl, rs, X, by rw [N.cn]; exact Nat.le_refl _, N.fit, rfl⟩, N.nd, N.le, N.two⟩
theorem NetS.kp (N : NetS C H s c p nm cl rs) (S : Src H s c) (k : Kp s c H H') : NetS C H' s c p nm cl rs := by
  obtain ⟨cs, l, m, tt, S0⟩ := S
  obtain ⟨q, dc, r, wd, ⟨⟨dx, h1⟩, h2, h3, ⟨ts, h4, h5⟩, h6⟩, n1, n2, n3, n4, n5⟩ := N.ex
  exact ⟨⟨q, dc, r, wd, ⟨⟨dx, k _ _ h1 n1.1 n1.2⟩, k _ _ h2 n2.1 n2.2, k _ _ h3 n3.1 n3.2, ⟨ts, k _ _ h4 n4.1 n4.2, Paired.mapP h5 fun u v ⟨x, y, a1, b1, z⟩ => ⟨x, y, a1, b1, k _ _ z (ne_of z S0.ds (by intro z; cases z)) (ne_of z S0.dc (by intro z; cases z))⟩⟩, k _ _ h6 n5.1 n5.2⟩, n1, n2, n3, n4, n5⟩,
    N.cn, N.fit, N.nd, N.le, N.two⟩
end
/-- the key as a name -/
def keyS : Key → Str
  | .inr x => x
  | _ => ""
/-- any dict of names by names is of this form -/
theorem ledK_of {kvs : List (Key × V)} (nd : (kvs.map (·.1)).Nodup) (h : ∀ kv ∈ kvs, ∃ x y, kv = (Sum.inr x, V.str y)) : kvs = ledK (kvs.map fun kv => keyS kv.1) (leadG kvs) := by
  unfold ledK
  rw [List.map_map]
  conv => lhs; rw [← List.map_id kvs]
  refine List.map_congr_left fun kv hm => ?_
  obtain ⟨x, y, rfl⟩ := h kv hm
  show (Sum.inr x, V.str y) = (Sum.inr x, V.str (leadG kvs x))
  unfold leadG
  rw [val_of_mem nd hm]
/-- what _law_dict tells, as such -/
theorem lead_led {nm' nm : List Str} {led : List Nat} {fkv : List (Key × V)} (L : Lead nm' nm led fkv) : ∃ (ks : List Str), ks.Perm nm' ∧ fkv = ledK ks (leadG fkv) := by
  have pm : fkv.Perm (leadKV nm' nm led) := L.pm
  have hk := lead_keys (nm := nm) L.len
  have nd : (fkv.map (·.1)).Nodup := (pm.map (·.1)).nodup_iff.mpr (lead_nd L.len L.nd')
  refine ⟨fkv.map fun kv => keyS kv.1, ?_, ledK_of nd fun kv hm => ?_⟩
  · have h := pm.map fun kv => keyS kv.1
    have e : (leadKV nm' nm led).map (fun kv => keyS kv.1) = nm' := by
      have : ((leadKV nm' nm led).map (·.1)).map keyS = nm' := by
        rw [hk, List.map_map]
        conv => rhs; rw [← List.map_id nm']
        rfl
      rw [List.map_map] at this
      exact this
    rwa [e] at h
  · have := pm.mem_iff.mp hm
    unfold leadKV at this
    obtain ⟨p, _, rfl⟩ := List.mem_map.mp this
    exact ⟨_, _, rfl⟩
theorem in_strs (nm : List Str) (z : Str) : inV (.str z) (nm.map V.str) = decide (z ∈ nm) := by
  unfold inV
  rw [List.any_map]
  have e : ((fun y => eqV y (.str z)) ∘ V.str) = fun y : Str => y == z := by
    funext y
    rfl
  rw [e]
  induction nm with
  | nil => rfl
  | cons a l ih =>
    rw [List.any_cons, ih]
    by_cases c : a = z
    · subst c
      simp
    · simp [c, Ne.symm c]
theorem in_over {M : List Str} {g : Str → Str} {y z : Str} (h : z ∈ M) : inV (.str z) ((overL M g y).map V.str) = decide (g z = y) := by
  rw [in_strs]
  unfold overL
  simp [List.mem_filter, h]
def six : List Str := ["a", "b", "c", "", "A b", "n1"]
theorem six_nd : six.Nodup := by decide +kernel
theorem six_al : ∀ y ∈ six, Al 20 y := by
  intro y hy
  unfold six at hy
  simp only [List.mem_cons, List.not_mem_nil, or_false] at hy
  rcases hy with rfl | rfl | rfl | rfl | rfl | rfl <;> exact ⟨by decide +kernel, by decide +kernel⟩
theorem six_len : ∀ y ∈ six, (reprText y).length ≤ 1000 := by
  intro y hy
  unfold six at hy
  simp only [List.mem_cons, List.not_mem_nil, or_false] at hy
  rcases hy with rfl | rfl | rfl | rfl | rfl | rfl <;> decide +kernel
theorem badL_mem {nm : List Str} {f : Str → Str} {nm2 : List Str} {y : Str} (h : badL nm f nm2 = some y) : ∃ x ∈ nm, y = f x := by
  obtain ⟨x, hx, e⟩ := List.mem_map.mp (List.mem_of_find?_eq_some h)
  exact ⟨x, hx, e.symm⟩
theorem badL_no {nm : List Str} {f : Str → Str} {nm2 : List Str} (h : ∀ x ∈ nm, f x ∈ nm2) : badL nm f nm2 = none := List.find?_eq_none.mpr fun y hy => by
  obtain ⟨x, hx, rfl⟩ := List.mem_map.mp hy
  rw [decide_eq_true (h x hx)]
  decide
end Nm
set_option autoImplicit false
set_option maxRecDepth 100000
set_option maxHeartbeats 8000000
/-! three webs, each over the one before: what is led, what covers -/
namespace Nm
open PySem PySem.Spec PyProof.Rows L2 LamX
theorem stepP_ok {n : Nat} (h1 : 1 ≤ n) (ps : List Nat) (k : List Key) (hl : ps.length = n) (hp : ∀ x ∈ ps, x < n) : (stepP ps k).length = n ∧ ∀ x ∈ stepP ps k, x < n := by
  have g : ∀ i : Nat, (ps[i]?).getD 0 < n := fun i => by
    cases e : ps[i]? with
    | none => exact h1
    | some y => exact hp y (List.mem_of_getElem? e)
  unfold stepP
  split
  · refine ⟨by rw [List.length_map, hl], fun x hx => ?_⟩
    obtain ⟨y, hy, rfl⟩ := List.mem_map.mp hx
    split
    · exact g _
    · exact hp y hy
  · exact ⟨hl, hp⟩
theorem foldP_ok {n : Nat} (h1 : 1 ≤ n) : ∀ (ks : List (List Key)) (ps : List Nat), ps.length = n → (∀ x ∈ ps, x < n) → (ks.foldl stepP ps).length = n ∧ ∀ x ∈ ks.foldl stepP ps, x < n
  | [], ps, hl, hp => ⟨hl, hp⟩
  | k :: ks, ps, hl, hp => by
    obtain ⟨a, b⟩ := stepP_ok h1 ps k hl hp
    exact foldP_ok h1 ks _ a b
theorem PartsRel.ok {n : Nat} {kvs : List (List Key × V)} {ps : List Nat} (h1 : 1 ≤ n) (h : PartsRel n kvs ps) : ps.length = n ∧ ∀ x ∈ ps, x < n := by
  obtain ⟨ks, _, _, rfl⟩ := h
  exact foldP_ok h1 ks _ List.length_range fun x hx => List.mem_range.mp hx
/-- the same number everywhere, and enough of them -/
theorem parts_hit {n m k : Nat} {kvs : List (List Key × V)} (h1 : 1 ≤ n) (hm : n ≤ m) (hk : 1 ≤ k) : ∀ ps, PartsRel n kvs ps → ∃ p ∈ ps, ∃ x, (List.replicate m k)[p]? = some x ∧ 1 ≤ x := fun ps hps => by
  obtain ⟨pl, pn⟩ := hps.ok h1
  obtain ⟨p, hp⟩ : ∃ p, ps[0]? = some p := ⟨_, List.getElem?_eq_getElem (by omega)⟩
  have hpm := List.mem_of_getElem? hp
  have := pn p hpm
  exact ⟨p, hpm, _, by rw [List.getElem?_replicate, if_pos (by omega)], hk⟩
theorem rows_ex (kvs : List (List Key × V)) : ∃ rs, RowsOf kvs rs := by
  refine ⟨(kvs.map tieRow).mergeSort (fun x y => !lexK (rowK y.key) (rowK x.key)), List.mergeSort_perm _ _, ?_⟩
  have h := List.pairwise_mergeSort (le := fun x y : RowV => !lexK (rowK y.key) (rowK x.key)) (fun a b c h1 h2 => by
      simp only [Bool.not_eq_true'] at h1 h2 ⊢
      exact lexK_tr h1 h2) (fun a b => by
      cases e : lexK (rowK b.key) (rowK a.key) with
      | false => rfl
      | true => simp [lexK_asym e]) (kvs.map tieRow)
  exact h.imp fun h => by simpa using h
section
variable {nm' nm : List Str} {led : List Nat} {fkv : List (Key × V)} {kvs kvs' : List (List Key × V)} {cl cl' : List Str}
theorem lead_lf (L : Lead nm' nm led fkv) : ∀ i < nm'.length, leadG fkv (nmA nm' i) = nmA nm (lf led i) := fun i hi => by
  have hl := L.len
  obtain ⟨q, hq⟩ : ∃ q, led[i]? = some q := ⟨_, List.getElem?_eq_getElem (by omega)⟩
  rw [lf_of hq]
  exact L.g (nmA_get hi) hq (nmA_get (L.lt q (List.mem_of_getElem? hq)))
theorem lead_cvr {m m' : Nat} {rs rs' : List RowV} (L : Lead nm' nm led fkv) (C : Cov kvs cl kvs' led cl') (T' : Ties nm'.length m' kvs') (T : Ties nm.length m kvs) (R' : RowsOf kvs' rs') (R : RowsOf kvs rs) : Cvr nm' (wN nm' rs') nm (wN nm rs) (leadG fkv) :=
  cvr_of L.nd' L.nd T' T R' R C L.len L.lt (lead_lf L)
theorem lead_step (L : Lead nm' nm led fkv) (C : Cov kvs cl kvs' led cl') {i : Nat} {x : Str} (hx : nm'[i]? = some x) : ∃ q : Nat, nm[q]? = some (leadG fkv x) ∧ cl'[i]? = cl[q]? := by
  have hl := L.len
  have hi := (List.getElem?_eq_some_iff.mp hx).1
  obtain ⟨q, hq⟩ : ∃ q, led[i]? = some q := ⟨_, List.getElem?_eq_getElem (by omega)⟩
  have h2 := nmA_get (L.lt q (List.mem_of_getElem? hq))
  refine ⟨q, ?_, (C i q hq).1⟩
  rw [L.g hx hq h2]
  exact h2
end
/-- three webs and how they lie over one another -/
structure St3 (nm0 cl0 nm1 cl1 nm2 cl2 : List Str) (kv0 kv1 kv2 : List (List Key × V)) (n2 n1 : List Str) (f g : Str → Str) : Prop where
  ti0 : Ties nm0.length 2 kv0
  ti1 : Ties nm1.length 4000 kv1
  ti2 : Ties nm2.length 4000 kv2
  l0 : nm0.length ≤ 3
  l1 : nm1.length ≤ 100
  l2 : nm2.length ≤ 100
  w0 : totW kv0 ≤ 72
  w1 : totW kv1 ≤ 360
  w2 : totW kv2 ≤ 1800
  c0 : cl0.length = nm0.length
  c1 : cl1.length = nm1.length
  c2 : cl2.length = nm2.length
  nd0 : nm0.Nodup
  nd1 : nm1.Nodup
  nd2 : nm2.Nodup
  p2 : n2.Perm nm2
  p1 : n1.Perm nm1
  s2 : ∀ (i : Nat) (x : Str), nm2[i]? = some x → ∃ q : Nat, nm1[q]? = some (f x) ∧ cl2[i]? = cl1[q]?
  s1 : ∀ (i : Nat) (x : Str), nm1[i]? = some x → ∃ q : Nat, nm0[q]? = some (g x) ∧ cl1[i]? = cl0[q]?
  cv2 : ∀ r2 r1, RowsOf kv2 r2 → RowsOf kv1 r1 → Cvr nm2 (wN nm2 r2) nm1 (wN nm1 r1) f
  cv1 : ∀ r1 r0, RowsOf kv1 r1 → RowsOf kv0 r0 → Cvr nm1 (wN nm1 r1) nm0 (wN nm0 r0) g
section
variable {nm0 cl0 nm1 cl1 nm2 cl2 : List Str} {kv0 kv1 kv2 : List (List Key × V)} {n2 n1 : List Str} {f g : Str → Str}
theorem St3.nn2 (Z : St3 nm0 cl0 nm1 cl1 nm2 cl2 kv0 kv1 kv2 n2 n1 f g) : n2.Nodup := Z.p2.nodup_iff.mpr Z.nd2
theorem St3.nn1 (Z : St3 nm0 cl0 nm1 cl1 nm2 cl2 kv0 kv1 kv2 n2 n1 f g) : n1.Nodup := Z.p1.nodup_iff.mpr Z.nd1
theorem St3.to1 (Z : St3 nm0 cl0 nm1 cl1 nm2 cl2 kv0 kv1 kv2 n2 n1 f g) {x : Str} (h : x ∈ nm2) : f x ∈ nm1 := by
  obtain ⟨i, hi⟩ := List.getElem?_of_mem h
  obtain ⟨q, hq, _⟩ := Z.s2 i x hi
  exact List.mem_of_getElem? hq
theorem St3.to0 (Z : St3 nm0 cl0 nm1 cl1 nm2 cl2 kv0 kv1 kv2 n2 n1 f g) {x : Str} (h : x ∈ nm1) : g x ∈ nm0 := by
  obtain ⟨i, hi⟩ := List.getElem?_of_mem h
  obtain ⟨q, hq, _⟩ := Z.s1 i x hi
  exact List.mem_of_getElem? hq
theorem St3.ok (Z : St3 nm0 cl0 nm1 cl1 nm2 cl2 kv0 kv1 kv2 n2 n1 f g) : badL n2 f n1 = none := badL_no fun x hx => Z.p1.mem_iff.mpr (Z.to1 (Z.p2.mem_iff.mp hx))
theorem St3.leads (Z : St3 nm0 cl0 nm1 cl1 nm2 cl2 kv0 kv1 kv2 n2 n1 f g) : Leads nm2 cl2 nm0 cl0 n2 (g ∘ f) := by
  have l2 := Z.l2
  refine ⟨Z.p2, Z.nd2, Z.nd0, by rw [Z.c2]; exact Nat.le_refl _, by rw [Z.c0]; exact Nat.le_refl _, by omega, fun i x hx => ?_⟩
  obtain ⟨q, hq, e1⟩ := Z.s2 i x hx
  obtain ⟨p, hp, e0⟩ := Z.s1 q (f x) hq
  have hi := (List.getElem?_eq_some_iff.mp hx).1
  have hc := Z.c2
  have e : cl2[i]? = some (cl2[i]'(by omega)) := List.getElem?_eq_getElem _
  exact ⟨p, _, hp, e, by rw [← e0, ← e1]; exact e⟩
theorem St3.cv (Z : St3 nm0 cl0 nm1 cl1 nm2 cl2 kv0 kv1 kv2 n2 n1 f g) {r2 r0 : List RowV} (h2 : RowsOf kv2 r2) (h0 : RowsOf kv0 r0) : Cvr nm2 (wN nm2 r2) nm0 (wN nm0 r0) (g ∘ f) := by
  obtain ⟨r1, h1⟩ := rows_ex kv1
  exact (Z.cv2 r2 r1 h2 h1).trans (Z.cv1 r1 r0 h1 h0)
end
/-- what a turn's heap holds of them -/
structure Wl3 (PT : Addr) (H : Hp) (s c wd a0 b0 t0 wm a1 b1 t1 wo a2 b2 t2 fa la : Addr) (nm0 cl0 nm1 cl1 nm2 cl2 : List Str) (kv0 kv1 kv2 : List (List Key × V)) (n2 n1 : List Str) (f g : Str → Str) : Prop where
  S : Src H s c
  T : Tabs [(PT, lamQ)] H
  W0 : WorldOk H s c wd a0 b0 t0 nm0 cl0 kv0
  W1 : WorldOk H s c wm a1 b1 t1 nm1 cl1 kv1
  W2 : WorldOk H s c wo a2 b2 t2 nm2 cl2 kv2
  nf : fa ≠ s ∧ fa ≠ c
  nl : la ≠ s ∧ la ≠ c
  fl : fa ≠ la
  hf : H fa = some (.dK (ledK n2 f))
  hl : H la = some (.dK (ledK n1 g))
section
variable {PT : Addr} {H H' : Hp} {s c wd a0 b0 t0 wm a1 b1 t1 wo a2 b2 t2 fa la : Addr} {nm0 cl0 nm1 cl1 nm2 cl2 : List Str} {kv0 kv1 kv2 : List (List Key × V)} {n2 n1 : List Str} {f g : Str → Str}
theorem Wl3.kp (X : Wl3 PT H s c wd a0 b0 t0 wm a1 b1 t1 wo a2 b2 t2 fa la nm0 cl0 nm1 cl1 nm2 cl2 kv0 kv1 kv2 n2 n1 f g) (k : Kp s c H H') (S' : Src H' s c) : Wl3 PT H' s c wd a0 b0 t0 wm a1 b1 t1 wo a2 b2 t2 fa la nm0 cl0 nm1 cl1 nm2 cl2 kv0 kv1 kv2 n2 n1 f g :=
  ⟨S', tabs_kp X.T X.S k, X.W0.kp k, X.W1.kp k, X.W2.kp k, X.nf, X.nl, X.fl, k _ _ X.hf X.nf.1 X.nf.2, k _ _ X.hl X.nl.1 X.nl.2⟩
theorem Wl3.same (X : Wl3 PT H s c wd a0 b0 t0 wm a1 b1 t1 wo a2 b2 t2 fa la nm0 cl0 nm1 cl1 nm2 cl2 kv0 kv1 kv2 n2 n1 f g) (e : Same H H') : Wl3 PT H' s c wd a0 b0 t0 wm a1 b1 t1 wo a2 b2 t2 fa la nm0 cl0 nm1 cl1 nm2 cl2 kv0 kv1 kv2 n2 n1 f g := X.kp (Kp.same e) (X.S.same e)
end
/-! ### small things of the law's turn -/
theorem rep_nat {n : Nat} {kk : Int} (h : 0 ≤ kk) : (List.replicate n [V.int (1 + kk)]).flatten = natV (List.replicate n (1 + kk).toNat) := by
  rw [List.flatten_replicate_singleton]
  unfold natV
  rw [List.map_replicate, Int.toNat_of_nonneg (by omega)]
theorem ledK_kv (nm : List Str) (f : Str → Str) : ((ledK nm f).map fun kv => kV kv.1) = nm.map V.str := by
  unfold ledK
  rw [List.map_map]
  rfl
theorem strs_flat {nm : List Str} : ∀ x ∈ nm.map V.str, flatB x = true := fun x hx => by
  obtain ⟨y, _, rfl⟩ := List.mem_map.mp hx
  rfl
theorem strs_flatV {nm : List Str} : (nm.map V.str).all flatV = true := List.all_eq_true.mpr fun x hx => by
  obtain ⟨y, _, rfl⟩ := List.mem_map.mp hx
  rfl
theorem ledK_hits {nm : List Str} {f : Str → Str} (nd : nm.Nodup) : ∀ p ∈ ledK nm f, valV (ledK nm f) p.1 = some p.2 ∧ flatB p.2 = true := fun p hp => by
  obtain ⟨x, hx, rfl⟩ := List.mem_map.mp hp
  exact ⟨ledK_at nd hx, rfl⟩
theorem webX_kp {C : Addr} {H H' : Hp} {s c p q dc r wd : Addr} {nm cl : List Str} {rs : List RowV} (X : WebX C H p q dc r wd nm cl rs) (n1 : p ≠ s ∧ p ≠ c) (n2 : q ≠ s ∧ q ≠ c) (n3 : dc ≠ s ∧ dc ≠ c) (n4 : r ≠ s ∧ r ≠ c) (n5 : wd ≠ s ∧ wd ≠ c) (S : Src H s c) (k : Kp s c H H') : WebX C H' p q dc r wd nm cl rs := by
  obtain ⟨cs, l, m, tt, S0⟩ := S
  obtain ⟨⟨dx, h1⟩, h2, h3, ⟨ts, h4, h5⟩, h6⟩ := X
  exact ⟨⟨dx, k _ _ h1 n1.1 n1.2⟩, k _ _ h2 n2.1 n2.2, k _ _ h3 n3.1 n3.2, ⟨ts, k _ _ h4 n4.1 n4.2, Paired.mapP h5 fun u v ⟨x, y, a1, b1, z⟩ => ⟨x, y, a1, b1, k _ _ z (ne_of z S0.ds (by intro z; cases z)) (ne_of z S0.dc (by intro z; cases z))⟩⟩, k _ _ h6 n5.1 n5.2⟩
theorem six_shown : ∀ y ∈ six, (PyData.list [.str "UnknownName", .str (reprText y)]).shown.length ≤ 1000 := by
  intro y hy
  unfold six at hy
  simp only [List.mem_cons, List.not_mem_nil, or_false] at hy
  rcases hy with rfl | rfl | rfl | rfl | rfl | rfl <;> decide +kernel
/-- what the law's caught tells of two dicts behind one another -/
def ToldB (H : Hp) (t : Addr) (m1 : List Str) (h1 : Str → Str) (m2 : List Str) (h2 : Str → Str) : Prop :=
  (badL m1 h1 m2 = none ∧ H t = some (.dK (ledK m1 (h2 ∘ h1)))) ∨ ∃ y, badL m1 h1 m2 = some y ∧ H t = some (.lst (unkT y))
/-- the text of either -/
def toldS (m1 : List Str) (h1 : Str → Str) (m2 : List Str) (h2 : Str → Str) : Str := match badL m1 h1 m2 with
  | none => shD m1 (h2 ∘ h1)
  | some y => (PyData.list [.str "UnknownName", .str (reprText y)]).shown
/-- two dicts drawn over the six words -/
structure Two6 (H : Hp) (s c oa ob : Addr) (m1 m2 : List Str) (h1 h2 : Str → Str) : Prop where
  na : oa ≠ s ∧ oa ≠ c
  nb : ob ≠ s ∧ ob ≠ c
  ab : oa ≠ ob
  ha : H oa = some (.dK (ledK m1 h1))
  hb : H ob = some (.dK (ledK m2 h2))
  nd1 : m1.Nodup
  nd2 : m2.Nodup
  l1 : m1.length ≤ 6
  l2 : m2.length ≤ 6
  e1 : ∀ x ∈ m1, x ∈ six ∧ h1 x ∈ six
  e2 : ∀ x ∈ m2, x ∈ six ∧ h2 x ∈ six
section
variable {H H' : Hp} {s c oa ob : Addr} {m1 m2 : List Str} {h1 h2 : Str → Str}
theorem Two6.extN (X : Two6 H s c oa ob m1 m2 h1 h2) (e : ExtN H H') : Two6 H' s c oa ob m1 m2 h1 h2 :=
  ⟨X.na, X.nb, X.ab, e _ _ X.ha (fun _ z => by cases z), e _ _ X.hb (fun _ z => by cases z), X.nd1, X.nd2, X.l1, X.l2, X.e1, X.e2⟩
theorem Two6.same (X : Two6 H s c oa ob m1 m2 h1 h2) (e : Same H H') : Two6 H' s c oa ob m1 m2 h1 h2 := X.extN (ExtN.of e)
theorem Two6.few1 (X : Two6 H s c oa ob m1 m2 h1 h2) : FewD m1 h1 := ⟨by have := X.l1; omega, fun x hx => ⟨six_al _ (X.e1 x hx).1, six_al _ (X.e1 x hx).2⟩⟩
theorem Two6.few2 (X : Two6 H s c oa ob m1 m2 h1 h2) : FewD m2 h2 := ⟨by have := X.l2; omega, fun x hx => ⟨six_al _ (X.e2 x hx).1, six_al _ (X.e2 x hx).2⟩⟩
theorem Two6.bad (X : Two6 H s c oa ob m1 m2 h1 h2) {y : Str} (h : badL m1 h1 m2 = some y) : y ∈ six := by
  obtain ⟨x, hx, rfl⟩ := badL_mem h
  exact (X.e1 x hx).2
theorem Two6.len (X : Two6 H s c oa ob m1 m2 h1 h2) : ∀ y, badL m1 h1 m2 = some y → (reprText y).length ≤ 1000 := fun y h => six_len y (X.bad h)
theorem Two6.few (X : Two6 H s c oa ob m1 m2 h1 h2) (h : badL m1 h1 m2 = none) : FewD m1 (h2 ∘ h1) := ⟨by have := X.l1; omega, fun x hx => ⟨six_al _ (X.e1 x hx).1, six_al _ (X.e2 _ (badL_none h x hx)).2⟩⟩
/-- repr of what is told -/
theorem Two6.repr (X : Two6 H s c oa ob m1 m2 h1 h2) {H1 : Hp} {t : Addr} {Q : VK} (T : ToldB H1 t m1 h1 m2 h2) (q : Q (.str (toldS m1 h1 m2 h2)) H1) : rReprD [.ref t] H1 Q := by
  rcases T with ⟨e, h⟩ | ⟨y, e, h⟩
  · refine .inr (.inl ⟨t, m1, h2 ∘ h1, rfl, h, X.few e, ?_⟩)
    unfold toldS at q
    rw [e] at q
    exact q
  · unfold toldS at q
    rw [e] at q
    have l := six_shown y (X.bad e)
    have lim : sizeLine = 16777216 := sizeLine_eq
    exact .inl ⟨.ref t, .list [.str "UnknownName", .str (reprText y)], rfl, .lst h (.cons (.str _) (.cons (.str _) .nil)), rfl, rfl, by simp [PyData.depth, PyData.depthAll], by omega, q⟩
end
end Nm
set_option autoImplicit true
set_option maxRecDepth 100000
set_option maxHeartbeats 4000000
/-! != of two things that are equal: two Nones, two lists of the same numbers and texts -/
namespace Nm
open PySem PySem.Spec PyProof.Rows L2
section
variable {X : Cx} {s : Shared}
theorem flat_hit {A : Around} : ∀ {xs : List V} {us ws : List Value}, (∀ x ∈ xs, flatB x = true) → Vals xs us → Vals xs ws → us.length = ws.length ∧ ∀ j (h1 : j < us.length) (h2 : j < ws.length), SeqAt.EqAt A s us[j] ws[j] true
  | [], _, _, _, .nil, .nil => ⟨rfl, fun j h1 => absurd h1 (Nat.not_lt_zero j)⟩
  | x :: xs, _, _, hf, .cons r t, .cons r' t' => by
    obtain ⟨e, k⟩ := flat_hit (A := A) (fun y hy => hf y (List.mem_cons_of_mem _ hy)) t t'
    refine ⟨by simp [e], fun j h1 h2 => ?_⟩
    cases j with
    | zero => exact eqAt_same r r' (hf x List.mem_cons_self)
    | succ j => exact k j (Nat.lt_of_succ_lt_succ h1) (Nat.lt_of_succ_lt_succ h2)
def rNeF (K : PySem.W.Frag) : R2 := fun x y H Q => (x = .non ∧ y = .non ∧ Q (.bl false) H) ∨ ∃ (a b : Addr) (xs : List V), x = V.ref a ∧ y = V.ref b ∧ SqL K H a xs ∧ SqL K H b xs ∧ (∀ x ∈ xs, flatB x = true) ∧ Q (.bl false) H
theorem op_neF (hu : X.A.units + 1 < cLine) : OpR X (compareOp .NotEq) (rNeF X.K) := by
  intro pins s σ H x y v u Q I rx ry h
  rcases h with ⟨rfl, rfl, q⟩ | ⟨a, b, xs, rfl, rfl, ha, hb, hf, q⟩
  · exact op_ne pins s σ H _ _ v u Q I rx ry ⟨rfl, q⟩
  · cases (show v = Value.ref a from rx)
    cases (show u = Value.ref b from ry)
    obtain ⟨us, r1, p1, _⟩ := I.list ha
    obtain ⟨ws, r2, p2, _⟩ := I.list hb
    obtain ⟨sz, items⟩ := flat_hit (s := s) (A := X.A.in1) hf r1 r2
    have z := SeqAt.RcNeAt.lists (A := X.A) (e := fun _ => true) p1.isList p2.isList (by simpa using sz) (by omega) fun j h1 h2 => by simpa using items j (by simpa using h1) (by simpa using h2)
    rw [show ((List.range us.toArray.size).all fun _ => true) = true from List.all_eq_true.mpr fun _ _ => rfl] at z
    exact z X.prog X.w X.xe (EP X pins σ Q) ⟨.bl false, H, I, rfl, q⟩
end
end Nm
set_option maxRecDepth 100000
set_option maxHeartbeats 16000000
set_option autoImplicit false
/-! the law -/
namespace Nm
open PySem PySem.Spec PyProof.Rows L2 LamX
structure TxtL23 (P : Program) (w : World) (K : PySem.W.Frag) (mg : Str → Option Value) (base : Heap) (C fi CU : Addr) : Prop where
  M : TxtM K mg C fi
  repr : mg "repr" = none
  U : TxtUnkT P w K mg base CU
  exm : PySem.W.exmOne K (.ref CU) (.ref CU) = some true
section
variable {P : Program} {w : World} {K : PySem.W.Frag} {mg : Str → Option Value} {base : Heap}
def spLaw23 (K : PySem.W.Frag) (PT : Addr) : Sp := fun vs H Q _ => ∃ (a : Addr) (ns : List Int), vs = [.ref a] ∧ SqL K H a (ns.map V.int) ∧ ns.length ≤ 63 ∧ H PT = some (.tbl #[]) ∧ ∀ H', Q (.bl true) H'
abbrev n23 : List Str := ["_law_script", "_law_source", "_law_time", "_law_web", "_law_middle", "_law_low", "_law_over_here", "_law_high", "_law_first", "_law_last", "_law_both", "_law_top", "_law_bottom", "_law_above", "_law_told", "_law_beneath", "_law_place", "_law_names", "_law_kept", "_law_one", "_law_other", "_law_name"]
theorem sc23 : FnScope n23 ["_law_script"] (defScope sLaw) := ⟨rfl, rfl, rfl, by decide +kernel, rfl, by decide +kernel, by decide +kernel⟩
abbrev s23 (sa s0 : Addr) (i : Nat) (wd wm l1 wo l2 : Addr) (v8 v9 v10 v11 v12 v13 v14 v15 v16 v17 v18 v19 v20 : Option V) : L2.St := [some (.ref sa), some (.ref s0), some (.int (0 + (i : Int))), some (.ref wd), some (.ref wm), some (.ref l1), some (.ref wo), some (.ref l2), v8, v9, v10, v11, v12, v13, v14, v15, v16, v17, v18, v19, v20, none]
theorem run_law23 {f C fi CU c PT g : Addr} {fd fdc : FuncData} (F : Fun K "law" "law" sLaw f fd) (hcode : ∀ (cdv : Value) oc od kV doc pm an ct osl, K.lookup f = some ⟨oc, od, .func (PySem.W.fnOf "law" "law" (defArgs sLaw) (defBody sLaw) (defScope sLaw) .none kV doc pm an cdv ct), osl⟩ → cdv = .ref c) (T : TxtL23 P w K mg base C fi CU) (TB : TabB base mg c PT) (Fc : Fun K "_law_caught" "_law_caught" sCaught g fdc) (mg' : mg "_law_caught" = some (.ref g)) (bg : L2.Binds K fdc ["_law_ask"] [])
    (Gx : Def P w K mg base "_law_open_cells" ["_law_script"] 1 (spOpen K)) (Gp : Def P w K mg base "_law_pick" ["_law_source", "_law_many"] 1 spPick) (Gr : Def P w K mg base "_law_draw_world" ["_law_source", "_law_most"] 3 spDraw) (Gv : Def P w K mg base "_law_over" ["_law_source", "_law_world", "_law_numbers"] 4 spOver)
    (Gd : Def P w K mg base "_law_dict" ["_law_source", "_law_over_here", "_law_web", "_law_led"] 4 spDict) (Gm : Def P w K mg base "_law_made" ["_law_source", "_law_world"] 7 (spMade C)) (Gj : Def P w K mg base "judge_folding" ["over", "web", "value"] 4 (spJF C)) (Go : Def P w K mg base "places_over" ["over", "web", "folding"] 2 (spPO C))
    (Gw : Def P w K mg base "_law_words_dict" ["_law_source", "_law_keys", "_law_values"] 3 spWords) (Gq : DefQ P w K mg base "_law_led_on" ["_law_first", "_law_last"] 1 spLedOn)
    (Gb : ∃ f fd, FnOk P w K mg base (L2.CX P w) 5 f fd ["first", "last"] (spBehind CU) ∧ mg "behind" = some (.ref f) ∧ PySem.W.keepIn K (.ref f) = true ∧ Binds K fd ["first", "last"] []) :
    RunC P w K mg base CX0 f fd "_law_script" (spLaw23 K PT) := by
  refine runC_of F sc23 fun cdv s H v Q E hcd hsp => ?_
  obtain ⟨oc0, od0, kV0, doc0, pm0, an0, ct0, osl0, lk0⟩ := hcd
  obtain rfl := hcode _ _ _ _ _ _ _ _ _ lk0
  have hr : Room 10 (callerA.deeper (envOfC "law" (defScope sLaw) s.heap.objs.size f (.ref c))) := Room.deeper (k := 10) ⟨rfl, by decide +kernel, by decide +kernel⟩ _
  have hu := hu_of hr
  have hg : (cxOf CX0 P w K mg base n23 "law" (defScope sLaw) f (.ref c) callerA [] s H E).nox.A.guards = some [] := rfl
  have hu64 : (cxOf CX0 P w K mg base n23 "law" (defScope sLaw) f (.ref c) callerA [] s H E).nox.A.units + 64 < cLine := hr.units
  have hu100 : (cxOf CX0 P w K mg base n23 "law" (defScope sLaw) f (.ref c) callerA [] s H E).nox.A.units + 100 < cLine := by
    have h := hr.un
    show (callerA.deeper (envOfC "law" (defScope sLaw) s.heap.objs.size f (.ref c))).units + 100 < cLine
    omega
  obtain ⟨fx, fdx, Gx, mx, kx, bx⟩ := Gx.ex
  obtain ⟨fp, fdp, Gp, mp, kp, bp⟩ := Gp.ex
  obtain ⟨fr, fdr, Gr, mr, kr, br⟩ := Gr.ex
  obtain ⟨fv, fdv, Gv, mv, kv, bv⟩ := Gv.ex
  obtain ⟨fdd, fddd, Gd, md, kd, bd⟩ := Gd.ex
  obtain ⟨fm, fdm, Gm, mm, km, bm⟩ := Gm.ex
  obtain ⟨fj, fdj, Gj, mj, kj, bj⟩ := Gj.ex
  obtain ⟨fo, fdo, Go, mo, ko, bo⟩ := Go.ex
  obtain ⟨fw, fdw, Gw, mw, kw, bw⟩ := Gw.ex
  obtain ⟨fq, fdq, Gq, mq, kq, bq⟩ := Gq.ex
  obtain ⟨fb, fdb, Gb, mb, kb, bb⟩ := Gb
  obtain ⟨oc, od, kVc, doc, pm, an, cdc, ct, osl, rfl, lk, hcg⟩ := Fc.ex
  obtain ⟨sa, ns, hv, hs, hn, hPT, k⟩ := hsp
  cases hv
  refine ⟨_, PSs.nox (pss_cons (ps_set (i := 1) sc23.nd rfl (Or.inl rfl) (pe_call Gx (hr.mono (by decide)) (by rfl) mx kx bx .nil pass0 (pa_cons (pv 0) pa_nil)))
    (Evl.pss_cut (ps_for PassesOwn.never rfl (pi_range1 (by rfl) T.M.range (pa_cons pe_int pa_nil)) (pg_name (i := 2) sc23.nd rfl (Or.inl rfl))
      (pss_cons (ps_set (i := 3) sc23.nd rfl (Or.inl rfl) (pe_call Gr (hr.mono (by decide)) (by rfl) mr kr br .nil pass0 (pa_cons (pv 1) (pa_cons pe_int pa_nil))))
      (pss_cons (ps_asg (pe_call Gv (hr.mono (by decide)) (by rfl) mv kv bv .nil pass0 (pa_cons (pv 1) (pa_cons (pv 3) (pa_cons (pe_op op_rep (pe_lst (pa_cons (pe_op op_add pe_int (pe_call Gp (hr.mono (by decide)) (by rfl) mp kp bp .nil pass0 (pa_cons (pv 1) (pa_cons pe_int pa_nil)))) pa_nil)) pe_int) pa_nil)))) (pg_tup rfl (pgs_cons (pg_name (i := 4) sc23.nd rfl (.inl rfl)) (pgs_cons (pg_name (i := 5) sc23.nd rfl (.inl rfl)) pgs_nil))))
      (pss_cons (ps_asg (pe_call Gv (hr.mono (by decide)) (by rfl) mv kv bv .nil pass0 (pa_cons (pv 1) (pa_cons (pv 4) (pa_cons (pe_op op_rep (pe_lst (pa_cons (pe_op op_add pe_int (pe_call Gp (hr.mono (by decide)) (by rfl) mp kp bp .nil pass0 (pa_cons (pv 1) (pa_cons pe_int pa_nil)))) pa_nil)) (pe_callB call_len_seq (by rfl) T.M.len PySem.boot_len (pa_cons (pe_dget hu (pv 4) pe_str (fun _ _ => rfl)) pa_nil))) pa_nil)))) (pg_tup rfl (pgs_cons (pg_name (i := 6) sc23.nd rfl (.inl rfl)) (pgs_cons (pg_name (i := 7) sc23.nd rfl (.inl rfl)) pgs_nil))))
      (Evl.pss_cut (ps_asg (pe_tup (pa_cons (pe_call Gd (hr.mono (by decide)) (by rfl) md kd bd .nil pass0 (pa_cons (pv 1) (pa_cons (pv 6) (pa_cons (pv 4) (pa_cons (pv 7) pa_nil))))) (pa_cons (pe_call Gd (hr.mono (by decide)) (by rfl) md kd bd .nil pass0 (pa_cons (pv 1) (pa_cons (pv 4) (pa_cons (pv 3) (pa_cons (pv 5) pa_nil))))) pa_nil))) (pg_tup rfl (pgs_cons (pg_name (i := 8) sc23.nd rfl (.inr rfl)) (pgs_cons (pg_name (i := 9) sc23.nd rfl (.inl rfl)) pgs_nil))))
      (Evl.pss_cut (ps_set (i := 10) sc23.nd rfl (Or.inl rfl) (pe_call Gb (hr.mono (by decide)) (by rfl) mb kb bb .nil pass_nothing (pa_cons (pv 8) (pa_cons (pv 9) pa_nil))))
      (Evl.pss_cut (ps_if (PW.pt (pw_or (pt_cmpR (op_ne_dictA (Nat.lt_of_succ_lt hu)) (pv 10) (pe_callQ (E := E0) Gq hg (hr.mono (by decide)) (by rfl) mq kq bq pass0 (pa_cons (pv 8) (pa_cons (pv 9) pa_nil))) (nomark _)) (pw_or1 (pt_cmpR (op_neF hu) (pe_callTy (call_list_dK rfl) (by rfl) T.M.list (by decide +kernel) (pa_cons (pv 10) pa_nil)) (pe_callTy (call_list_dK rfl) (by rfl) T.M.list (by decide +kernel) (pa_cons (pv 8) pa_nil)) (nomark _))))) (pss_one (ps_ret pe_bl)) pss_nil)
      (Evl.pss_cut (ps_par (i := 11) (j := 12) (by rfl) sc23.nd rfl rfl (by decide) rfl rfl (pa_cons (pe_call Gm (hr.mono (by decide)) (by rfl) mm km bm .nil pass0 (pa_cons (pv 1) (pa_cons (pv 6) pa_nil))) (pa_cons (pe_call Gm (hr.mono (by decide)) (by rfl) mm km bm .nil pass0 (pa_cons (pv 1) (pa_cons (pv 3) pa_nil))) pa_nil)) (by rfl))
      (Evl.pss_cut (ps_if (pt_cmp (pc_notN (pe_call Gj (hr.mono (by decide)) (by rfl) mj kj bj .nil pass0 (pa_cons (pv 11) (pa_cons (pv 12) (pa_cons (pv 10) pa_nil)))))) (pss_one (ps_ret pe_bl)) pss_nil)
      (Evl.pss_cut (ps_par (i := 13) (j := 14) (by rfl) sc23.nd rfl rfl (by decide) rfl rfl (pa_cons (pe_call Go (hr.mono (by decide)) (by rfl) mo ko bo .nil pass0 (pa_cons (pv 11) (pa_cons (pv 12) (pa_cons (pv 10) pa_nil)))) (pa_cons (pe_lst pa_nil) pa_nil)) (by rfl))
      (Evl.pss_cut (ps_set (i := 15) sc23.nd rfl (Or.inr rfl) (pe_call Go (hr.mono (by decide)) (by rfl) mo ko bo .nil pass0 (pa_cons (pe_call Gm (hr.mono (by decide)) (by rfl) mm km bm .nil pass0 (pa_cons (pv 1) (pa_cons (pv 4) pa_nil))) (pa_cons (pv 12) (pa_cons (pv 9) pa_nil)))))
      (Evl.pss_cut (ps_for PassesOwn.never rfl (pi_list (pe_dget hu (pv 3) pe_str (fun _ _ => rfl))) (pg_name (i := 16) sc23.nd rfl (Or.inr rfl))
        (Evl.pss_cut (ps_setLc (i := 14) (own := [("_law_name", 21)]) (g := gName 21) (tt := tTest (tOp (rIn K false) (tDGet (tVar 8) (tVar 21)) (tDGet (tVar 15) (tVar 16)))) (te := tVar 21) rfl sc23.nd rfl rfl (sw_true rfl rfl rfl (by decide +kernel)) (pi_list (pe_dget hu (pv 6) pe_str (fun _ _ => rfl)))
            (blkOk_by (N := n23) (sc := defScope sLaw) (by decide +kernel)) (fun _ _ _ _ _ => pg_name (i := 21) sc23.nd rfl (Or.inl rfl)) (fun _ _ _ _ _ => by exact pts_one (pt_cmpR op_in_seq (pe_dget hu (pv 8) (pv 21) (fun _ _ => rfl)) (pe_dget hu (pv 15) (pv 16) (fun _ _ => rfl)) (by rfl))) (fun _ _ _ _ _ => pv 21))
        (pss_one (ps_if (pt_cmpR (op_neF hu) (pe_dget hu (pv 13) (pv 16) (fun _ _ => rfl)) (pv 14) (nomark _)) (pss_one (ps_ret pe_bl)) pss_nil))))
      (Evl.pss_cut (ps_set (i := 17) sc23.nd rfl (Or.inl rfl) (pe_lst (pa_cons pe_str (pa_cons pe_str (pa_cons pe_str (pa_cons pe_str (pa_cons pe_str (pa_cons pe_str pa_nil))))))))
      (Evl.pss_cut (ps_asg (pe_tup (pa_cons (pe_call Gw (hr.mono (by decide)) (by rfl) mw kw bw .nil pass0 (pa_cons (pv 1) (pa_cons (pv 17) (pa_cons (pv 17) pa_nil)))) (pa_cons (pe_call Gw (hr.mono (by decide)) (by rfl) mw kw bw .nil pass0 (pa_cons (pv 1) (pa_cons (pv 17) (pa_cons (pv 17) pa_nil)))) pa_nil))) (pg_tup rfl (pgs_cons (pg_name (i := 19) sc23.nd rfl (.inr rfl)) (pgs_cons (pg_name (i := 20) sc23.nd rfl (.inr rfl)) pgs_nil))))
      (Evl.pss_cut (ps_set (i := 18) sc23.nd rfl (Or.inl rfl) (pe_callB (call_reprD hg hu64) (by rfl) T.repr (by decide +kernel) (pa_cons (pe_lst (pa_cons (pv 19) (pa_cons (pv 20) pa_nil))) pa_nil)))
      (Evl.pss_cut (ps_set (i := 14) sc23.nd rfl (Or.inl rfl) (pe_lamcall (T := [(PT, (cxOf CX0 P w K mg base n23 "law" (defScope sLaw) f (.ref c) callerA [] s H E).nox.env.qual ++ "<lambda>")]) (k := 8) (t := fun E => tCall (spBehind CU) [] E (tCons (tVar 19) (tCons (tVar 20) tNil))) (by rfl) mg' Fc.kp lk hcg bg scCt rfl (.inl rfl) (caught_givesN hg hu100 T.U.xf T.U.nNa T.U.mU T.repr T.exm) TB rfl
            (List.mem_singleton.mpr rfl) (fun p hp _ => by rw [List.mem_singleton.mp hp]) hr (by show LamS (defScope sLaw) _; exact lamS_by (by decide +kernel)) rfl (fun _ _ _ _ _ => rfl)
            (fun A outer s H E f c' hr' => (pe_call Gb (hr'.mono (by decide)) (by rfl) mb kb bb .nil (passes_call (takes_of rfl rfl rfl rfl) fun _ _ _ _ h => h) (pa_cons (pv 19) (pa_cons (pv 20) pa_nil))))))
      (pss_one (ps_if (PW.pt (pw_or (pt_cmpR op_ne (pe_callB (call_reprD hg hu64) (by rfl) T.repr (by decide +kernel) (pa_cons (pv 14) pa_nil)) (pe_callB (call_reprD hg hu64) (by rfl) T.repr (by decide +kernel) (pa_cons (pe_callQ (E := E0) Gq hg (hr.mono (by decide)) (by rfl) mq kq bq pass0 (pa_cons (pv 19) (pa_cons (pv 20) pa_nil))) pa_nil)) (nomark _)) (pw_or1 (pt_cmpR op_ne (pe_callB (call_reprD hg hu64) (by rfl) T.repr (by decide +kernel) (pa_cons (pe_lst (pa_cons (pv 19) (pa_cons (pv 20) pa_nil))) pa_nil)) (pv 18) (nomark _))))) (pss_one (ps_ret pe_bl)) pss_nil))))))))))))))))))
    (pss_one (ps_ret pe_bl)))), ?_⟩
  have tab0 : Tabs [(PT, lamQ)] H := fun p hp => by
    rw [List.mem_singleton.mp hp]
    exact TabS.nil hPT
  have lim : sizeLine = 16777216 := sizeLine_eq
  refine ⟨_, rfl, sa, ns, rfl, hs, hn, fun s0 c0 H1 _ _ S1 s1 => ?_⟩
  refine ⟨fun σ H2 => True, ?_, fun σ H2 _ => k H2⟩
  refine ⟨_, rfl, by decide, by decide, ?_⟩
  refine for_range (lo := 0) (n := 3) (fun i σ H2 => Src H2 s0 c0 ∧ Tabs [(PT, lamQ)] H2 ∧ ∃ v2 v3 v4 v5 v6 v7 v8 v9 v10 v11 v12 v13 v14 v15 v16 v17 v18 v19 v20, σ = [some (.ref sa), some (.ref s0), v2, v3, v4, v5, v6, v7, v8, v9, v10, v11, v12, v13, v14, v15, v16, v17, v18, v19, v20, none])
    ⟨S1, Tabs.ext tab0 s1, none, none, none, none, none, none, none, none, none, none, none, none, none, none, none, none, none, none, none, rfl⟩ ?_ (fun _ _ _ => trivial)
  rintro i σ H2 hi ⟨S2, T2, v2, v3, v4, v5, v6, v7, v8, v9, v10, v11, v12, v13, v14, v15, v16, v17, v18, v19, v20, rfl⟩
  -- a web
  refine ⟨_, rfl, s0, c0, 3, rfl, S2, by decide, by decide, fun wd a0 b0 t0 nm0 cl0 kv0 H3 _ _ _ _ W3 n3 ti0 kl0 S3 kp3 => ?_⟩
  have n3 : nm0.length ≤ 3 := by omega
  have k36 : kv0.length ≤ 36 := by
    have h := kl0.2
    have : nm0.length = 0 ∨ nm0.length = 1 ∨ nm0.length = 2 ∨ nm0.length = 3 := by omega
    rcases this with e | e | e | e <;> rw [e] at h <;> omega
  have w72 : totW kv0 ≤ 72 := by have := tot_le_len ti0; omega
  have T3 := tabs_kp T2 S2 kp3
  -- the middle
  refine ⟨_, rfl, _, rfl, _, rfl, s0, c0, 2, rfl, S3, by decide, by decide, fun k1 H4 ka kb S4 kp4 => ⟨_, _, rfl, rfl, (by show 1 ≤ sizeLine; decide), fun l hl => ⟨l, 3, _, rfl, rfl, upd_same, by decide, by decide, (by show 1 * 3 ≤ sizeLine; decide), fun nu hnu => ?_⟩⟩⟩
  rw [show (List.replicate (3 : Int).toNat [V.int (1 + k1)]).flatten = natV (List.replicate 3 (1 + k1).toNat) from rep_nat ka] at *
  have sn := (same_new (o := .lst [V.int (1 + k1)]) hl).trans (same_new (o := .lst (natV (List.replicate 3 (1 + k1).toNat))) hnu)
  have hnu2 : (upd (upd H4 l (.lst [V.int (1 + k1)])) nu (.lst (natV (List.replicate 3 (1 + k1).toNat)))) nu = some (.lst (natV (List.replicate 3 (1 + k1).toNat))) := upd_same
  have nnc := (S4.ne ((same_new (o := .lst [V.int (1 + k1)]) hl).free hnu)).2
  generalize upd (upd H4 l (.lst [V.int (1 + k1)])) nu (.lst (natV (List.replicate 3 (1 + k1).toNat))) = H5 at *
  have kp35 : Kp s0 c0 H3 H5 := kp4.trans (Kp.same sn)
  have S5 := S4.same sn
  have W5 := W3.kp kp35
  refine ⟨s0, c0, wd, a0, b0, t0, nu, nm0, cl0, 2, kv0, List.replicate 3 (1 + k1).toNat, rfl, S5, W5, ti0, by omega, by omega, hnu2, nnc, by rw [List.length_replicate]; omega, fun x hx => by rw [List.eq_of_mem_replicate hx]; omega, parts_hit W5.n1 n3 (by omega), fun r wm a1 b1 t1 l1 nm1 cl1 kv1 led1 H6 _ _ _ _ f1 hr6 Y6 y100 ti1 kl1 tw1 hl1 ll1 cov1 lt1 lk1 _ S6 kp6 => ?_⟩
  refine ⟨r, _, rfl, SqT.of hr6, rfl, _, _, rfl, _, _, rfl, rfl, ?_⟩
  have T6 := tabs_kp T3 S3 (kp35.trans kp6)
  have W6 := W5.kp kp6
  have nl1 := S5.ne f1
  have y6 : nm1.length ≤ 6 := by
    have h := lk1 _ fun x hx => List.eq_of_mem_replicate hx
    have h : led1.length ≤ (1 + k1).toNat * nm0.length := h
    have h2 : (1 + k1).toNat * nm0.length ≤ 2 * 3 := Nat.mul_le_mul (by omega) n3
    omega
  have Y1 := Y6.n1
  clear W5 S5 hnu2 hr6 W3 S3 T3 S4 kp4 kp35 sn S2 T2
  -- the web over it
  refine ⟨_, rfl, _, rfl, _, rfl, s0, c0, 3, rfl, S6, by decide, by decide, fun k2 H7 kc kd' S7 kp7 => ⟨_, _, rfl, rfl, (by show 1 ≤ sizeLine; decide), fun l hl => ?_⟩⟩
  have Y7 := Y6.kp kp7
  have sl := same_new (o := .lst [V.int (1 + k2)]) hl
  refine ⟨_, rfl, wm, _, rfl, dg_names (sl _ _ Y7.d), a1, _, rfl, .inl (SqL.of (sl _ _ Y7.hn)), l, _, _, rfl, rfl, upd_same, by rw [List.length_map]; omega, by rw [List.length_map]; omega, by rw [List.length_map]; show 1 * _ ≤ _; omega, fun nu hnu => ?_⟩
  rw [List.length_map] at *
  rw [show (List.replicate (nm1.length : Int).toNat [V.int (1 + k2)]).flatten = natV (List.replicate nm1.length (1 + k2).toNat) from rep_nat kc] at *
  have sn := sl.trans (same_new (o := .lst (natV (List.replicate nm1.length (1 + k2).toNat))) hnu)
  have hnu2 : (upd (upd H7 l (.lst [V.int (1 + k2)])) nu (.lst (natV (List.replicate nm1.length (1 + k2).toNat)))) nu = some (.lst (natV (List.replicate nm1.length (1 + k2).toNat))) := upd_same
  have nnc := (S7.ne (sl.free hnu)).2
  generalize upd (upd H7 l (.lst [V.int (1 + k2)])) nu (.lst (natV (List.replicate nm1.length (1 + k2).toNat))) = H8 at *
  have kp68 : Kp s0 c0 H6 H8 := kp7.trans (Kp.same sn)
  have S8 := S7.same sn
  have Y8 := Y6.kp kp68
  refine ⟨s0, c0, wm, a1, b1, t1, nu, nm1, cl1, 4000, kv1, List.replicate nm1.length (1 + k2).toNat, rfl, S8, Y8, ti1, by omega, by omega, hnu2, nnc, by rw [List.length_replicate]; exact Nat.le_refl _, fun x hx => by rw [List.eq_of_mem_replicate hx]; omega, parts_hit Y1 (Nat.le_refl _) (by omega), fun r wo a2 b2 t2 l2 nm2 cl2 kv2 led2 H9 _ _ _ _ f2 hr9 Z9 z100 ti2 kl2 tw2 hl2 ll2 cov2 lt2 lk2 _ S9 kp9 => ?_⟩
  refine ⟨r, _, rfl, SqT.of hr9, rfl, _, _, rfl, _, _, rfl, rfl, ?_⟩
  have T9 := tabs_kp T6 S6 (kp68.trans kp9)
  have W9 := W6.kp (kp68.trans kp9)
  have Y9 := Y8.kp kp9
  have nl2 := S8.ne f2
  have hl1 := (kp68.trans kp9) _ _ hl1 nl1.1 nl1.2
  clear S8 Y8 hnu2 hr9 S7 Y7 Y6 S6 T6 W6 kp6 kp7 kp68 kp9 sn sl
  -- the dicts
  refine ⟨fun σ G => ∃ (fa la : Addr) (n2 n1 : List Str) (f g : Str → Str), σ = s23 sa s0 i wd wm l1 wo l2 (some (.ref fa)) (some (.ref la)) v10 v11 v12 v13 v14 v15 v16 v17 v18 v19 v20 ∧ St3 nm0 cl0 nm1 cl1 nm2 cl2 kv0 kv1 kv2 n2 n1 f g ∧ Wl3 PT G s0 c0 wd a0 b0 t0 wm a1 b1 t1 wo a2 b2 t2 fa la nm0 cl0 nm1 cl1 nm2 cl2 kv0 kv1 kv2 n2 n1 f g, ?_, ?_⟩
  · refine ⟨_, rfl, _, rfl, _, rfl, _, rfl, s0, c0, wo, a2, b2, t2, wm, a1, b1, t1, l2, nm2, nm1, led2, rfl, S9, Z9.d, Z9.hn, Y9.d, Y9.hn, hl2, ll2, lt2, Z9.nn, z100, fun fa fk2 Ha fa0 pm2 hfa Sa kpa => ?_⟩
    have Ya := Y9.kp kpa
    have Wa := W9.kp kpa
    refine ⟨_, rfl, _, rfl, _, rfl, _, rfl, s0, c0, wm, a1, b1, t1, wd, a0, b0, t0, l1, nm1, nm0, led1, rfl, Sa, Ya.d, Ya.hn, Wa.d, Wa.hn, kpa _ _ hl1 nl1.1 nl1.2, ll1, lt1, Ya.nn, by omega, fun la fk1 Hb la0 pm1 hla Sb kpb => ?_⟩
    refine ⟨(by show 2 ≤ sizeLine; decide), fun z hz => ⟨z, _, rfl, SqT.of upd_same, rfl, _, _, rfl, _, _, rfl, rfl, ?_⟩⟩
    have sz := same_new (o := .tup [V.ref fa, V.ref la]) hz
    have LA : Lead nm2 nm1 led2 fk2 := ⟨pm2, Z9.nn, Y9.nn, ll2, lt2⟩
    have LB : Lead nm1 nm0 led1 fk1 := ⟨pm1, Y9.nn, W9.nn, ll1, lt1⟩
    obtain ⟨m2, p2, e2⟩ := lead_led LA
    obtain ⟨m1, p1, e1⟩ := lead_led LB
    have nfa := S9.ne fa0
    have nla := Sa.ne la0
    have kpab := kpa.trans kpb
    have kpz : Kp s0 c0 H9 (upd Hb z (.tup [V.ref fa, V.ref la])) := kpab.trans (Kp.same sz)
    refine ⟨fa, la, m2, m1, leadG fk2, leadG fk1, rfl, ⟨ti0, ti1, ti2, n3, y100, z100, w72, by omega, by omega, W9.cn, Y9.cn, Z9.cn, W9.nn, Y9.nn, Z9.nn, p2, p1, fun i x hx => lead_step LA cov2 hx, fun i x hx => lead_step LB cov1 hx, fun r2 r1 h2 h1 => lead_cvr LA cov2 ti2 ti1 h2 h1, fun r1 r0 h1 h0 => lead_cvr LB cov1 ti1 ti0 h1 h0⟩, ?_⟩
    refine ⟨Sb.same sz, tabs_kp T9 S9 kpz, W9.kp kpz, Y9.kp kpz, Z9.kp kpz, nfa, nla, ne_of_none hfa la0, ?_, ?_⟩
    · rw [← e2]
      exact sz _ _ (kpb _ _ hfa nfa.1 nfa.2)
    · rw [← e1]
      exact sz _ _ hla
  clear S9 T9 W9 Y9 Z9 hl1 hl2
  rintro σ G0 ⟨fa, la, n2, n1, f', g', rfl, Z, X0⟩
  have lz2 := Z.l2
  have ln2 : n2.length = nm2.length := Z.p2.length_eq
  have nobad : ∀ y, badL n2 f' n1 = some y → False := fun y h => by
    rw [Z.ok] at h
    cases h
  -- one behind the other
  refine ⟨fun σ G => ∃ bo : Addr, σ = s23 sa s0 i wd wm l1 wo l2 (some (.ref fa)) (some (.ref la)) (some (.ref bo)) v11 v12 v13 v14 v15 v16 v17 v18 v19 v20 ∧ (bo ≠ s0 ∧ bo ≠ c0) ∧ G bo = some (.dK (ledK n2 (g' ∘ f'))) ∧ Wl3 PT G s0 c0 wd a0 b0 t0 wm a1 b1 t1 wo a2 b2 t2 fa la nm0 cl0 nm1 cl1 nm2 cl2 kv0 kv1 kv2 n2 n1 f' g', ?_, ?_⟩
  · refine ⟨_, rfl, _, rfl, fa, la, n2, f', n1, g', rfl, X0.fl, X0.hf, X0.hl, Z.nn2, Z.nn1, by omega, fun y hy => (nobad y hy).elim, fun _ D G hD hD' sD => ?_, fun y hy => (nobad y hy).elim⟩
    exact ⟨D, rfl, X0.S.ne hD, hD', X0.same sD⟩
  clear X0
  rintro σ G1 ⟨bo, rfl, nbo, hbo1, X1⟩
  -- compared
  refine ⟨fun σ G => σ = s23 sa s0 i wd wm l1 wo l2 (some (.ref fa)) (some (.ref la)) (some (.ref bo)) v11 v12 v13 v14 v15 v16 v17 v18 v19 v20 ∧ G bo = some (.dK (ledK n2 (g' ∘ f'))) ∧ Wl3 PT G s0 c0 wd a0 b0 t0 wm a1 b1 t1 wo a2 b2 t2 fa la nm0 cl0 nm1 cl1 nm2 cl2 kv0 kv1 kv2 n2 n1 f' g', ?_, ?_⟩
  · refine ⟨_, rfl, _, rfl, _, rfl, fa, la, n2, f', n1, g', rfl, X1.fl, X1.hf, X1.hl, Z.nn2, Z.nn1, by omega, fun y hy => (nobad y hy).elim, fun _ D G hD hD' sD => ?_, fun y hy => (nobad y hy).elim⟩
    refine ⟨bo, D, _, _, rfl, rfl, sD _ _ hbo1, hD', rfl, ledK_hits Z.nn2, _, rfl, iteF ?_⟩
    refine ⟨_, rfl, bo, _, rfl, sD _ _ hbo1, fun p hp => ?_⟩
    have sp := sD.trans (same_new (o := .lst ((ledK n2 (g' ∘ f')).map fun kv => kV kv.1)) hp)
    have hp2 : (upd G p (.lst ((ledK n2 (g' ∘ f')).map fun kv => kV kv.1))) p = some (.lst (n2.map V.str)) := by
      rw [upd_same, ledK_kv]
    generalize upd G p (.lst ((ledK n2 (g' ∘ f')).map fun kv => kV kv.1)) = Ga at *
    refine ⟨_, rfl, fa, _, rfl, sp _ _ X1.hf, fun q hq => ?_⟩
    have sq := same_new (o := .lst ((ledK n2 f').map fun kv => kV kv.1)) hq
    have hq2 : (upd Ga q (.lst ((ledK n2 f').map fun kv => kV kv.1))) q = some (.lst (n2.map V.str)) := by
      rw [upd_same, ledK_kv]
    have hp3 := sq _ _ hp2
    have sq' := sp.trans sq
    generalize upd Ga q (.lst ((ledK n2 f').map fun kv => kV kv.1)) = Gb at *
    exact .inr ⟨p, q, _, rfl, rfl, SqL.of hp3, SqL.of hq2, strs_flat, _, rfl, iteF ⟨rfl, sq' _ _ hbo1, X1.same sq'⟩⟩
  clear X1 hbo1
  rintro σ G2 ⟨rfl, hbo2, X2⟩
  -- both as webs
  refine ⟨fun σ G => ∃ (tp q1 d1 r1 w1 bt : Addr) (rs2 rs0 : List RowV), σ = s23 sa s0 i wd wm l1 wo l2 (some (.ref fa)) (some (.ref la)) (some (.ref bo)) (some (.ref tp)) (some (.ref bt)) v13 v14 v15 v16 v17 v18 v19 v20 ∧ G bo = some (.dK (ledK n2 (g' ∘ f'))) ∧ Wl3 PT G s0 c0 wd a0 b0 t0 wm a1 b1 t1 wo a2 b2 t2 fa la nm0 cl0 nm1 cl1 nm2 cl2 kv0 kv1 kv2 n2 n1 f' g' ∧ WebX C G tp q1 d1 r1 w1 nm2 cl2 rs2 ∧ bo ≠ d1 ∧ NetS C G s0 c0 tp nm2 cl2 rs2 ∧ NetS C G s0 c0 bt nm0 cl0 rs0 ∧ RowsOf kv2 rs2 ∧ RowsOf kv0 rs0, ?_, ?_⟩
  · have kl2' := ti2.len
    have kl0' := ti0.len
    refine ⟨_, rfl, _, rfl, s0, c0, wo, a2, b2, t2, nm2, cl2, kv2, 4000, rfl, X2.S, X2.W2, ti2, by omega, by omega, fun tp q1 d1 r1 w1 rs2 Ga u1 u2 u3 u4 u5 web2 ro2 Sa kpa => ?_⟩
    have n1' := X2.S.ne u1
    have n2' := X2.S.ne u2
    have n3' := X2.S.ne u3
    have n4' := X2.S.ne u4
    have n5' := X2.S.ne u5
    have nbd : bo ≠ d1 := ne_of_none hbo2 u3
    have N2 : NetS C Ga s0 c0 tp nm2 cl2 rs2 := ⟨⟨q1, d1, r1, w1, web2, n1', n2', n3', n4', n5'⟩, X2.W2.cn, rowsFit_of ti2 ro2, X2.W2.nn, by omega, fun a b k => Nat.le_trans (wN_tot ti2 ro2 a b k) (by omega)⟩
    have Xa := X2.kp kpa Sa
    refine ⟨_, rfl, _, rfl, s0, c0, wd, a0, b0, t0, nm0, cl0, kv0, 2, rfl, Sa, Xa.W0, ti0, by omega, by omega, fun bt q2 d2 r2 w2 rs0 Gb y1 y2 y3 y4 y5 web0 ro0 Sb kpb => ?_⟩
    have N0 : NetS C Gb s0 c0 bt nm0 cl0 rs0 := ⟨⟨q2, d2, r2, w2, web0, Sa.ne y1, Sa.ne y2, Sa.ne y3, Sa.ne y4, Sa.ne y5⟩, X2.W0.cn, rowsFit_of ti0 ro0, X2.W0.nn, by omega, fun a b k => Nat.le_trans (wN_tot ti0 ro0 a b k) (by omega)⟩
    refine ⟨_, _, rfl, ?_⟩
    exact ⟨tp, q1, d1, r1, w1, bt, rs2, rs0, rfl, (kpa.trans kpb) _ _ hbo2 nbo.1 nbo.2, Xa.kp kpb Sb, webX_kp web2 n1' n2' n3' n4' n5' Sa kpb, nbd, N2.kp Sa kpb, N0, ro2, ro0⟩
  clear X2 hbo2
  rintro σ G3 ⟨tp, q1, d1, r1, w1, bt, rs2, rs0, rfl, hbo3, X3, web3, nbd, N3, M3, ro2, ro0⟩
  -- judged
  refine ⟨fun σ G => σ = s23 sa s0 i wd wm l1 wo l2 (some (.ref fa)) (some (.ref la)) (some (.ref bo)) (some (.ref tp)) (some (.ref bt)) v13 v14 v15 v16 v17 v18 v19 v20 ∧ Same G3 G, ?_, ?_⟩
  · obtain ⟨q2, d2, r2, w2, web0, _⟩ := M3.ex
    have kl2' := ti2.len
    have kl0' := ti0.len
    have e2 := rows_len ro2
    have e0 := rows_len ro0
    refine ⟨_, rfl, _, rfl, _, rfl, tp, q1, d1, r1, w1, bt, q2, d2, r2, w2, bo, nm2, cl2, nm0, cl0, rs2, rs0, n2, g' ∘ f', rfl, web3, web0, N3.fit, M3.fit, by omega, by omega, by omega, hbo3, nbd, Z.leads, Z.cv ro2 ro0, fun G sG => ⟨false, rfl, iteF ⟨rfl, sG⟩⟩⟩
  rintro σ G4 ⟨rfl, s4⟩
  have X4 := X3.same s4
  have N4 := N3.kp X3.S (Kp.same s4)
  have M4 := M3.kp X3.S (Kp.same s4)
  have hbo4 := s4 _ _ hbo3
  clear X3 N3 M3 hbo3 web3 s4
  -- the places above
  refine ⟨fun σ G => ∃ (ab tl : Addr) (as : List Addr), σ = s23 sa s0 i wd wm l1 wo l2 (some (.ref fa)) (some (.ref la)) (some (.ref bo)) (some (.ref tp)) (some (.ref bt)) (some (.ref ab)) (some (.ref tl)) v15 v16 v17 v18 v19 v20 ∧ (ab ≠ s0 ∧ ab ≠ c0) ∧ G ab = some (.dK (poKV nm0 as)) ∧ as.length = nm0.length ∧ (∀ (q : Nat) (a : Addr) (y : Str), as[q]? = some a → nm0[q]? = some y → (a ≠ s0 ∧ a ≠ c0) ∧ G a = some (.lst ((overL nm2 (g' ∘ f') y).map V.str))) ∧ Wl3 PT G s0 c0 wd a0 b0 t0 wm a1 b1 t1 wo a2 b2 t2 fa la nm0 cl0 nm1 cl1 nm2 cl2 kv0 kv1 kv2 n2 n1 f' g' ∧ NetS C G s0 c0 bt nm0 cl0 rs0, ?_, ?_⟩
  · refine ⟨_, rfl, _, rfl, _, rfl, tp, bt, bo, nm2, nm0, wN nm2 rs2, wN nm0 rs0, ledK n2 (g' ∘ f'), g' ∘ f', rfl, N4.net, M4.net, hbo4, fun x hx => ⟨ledK_at Z.nn2 (Z.p2.mem_iff.mpr hx), Z.to0 (Z.to1 hx)⟩, fun D as G hD hD' hal has sG => ?_⟩
    refine ⟨(by show 0 ≤ sizeLine; decide), fun l hl => ⟨_, _, rfl, ?_⟩⟩
    have sl := same_new (o := .lst []) hl
    have s' := sG.trans sl
    exact ⟨D, l, as, rfl, X4.S.ne hD, sl _ _ hD', hal, fun q a y h1 h2 => ⟨X4.S.ne (has q a y h1 h2).1, sl _ _ (has q a y h1 h2).2⟩, X4.same s', M4.kp X4.S (Kp.same s')⟩
  clear X4 N4 M4 hbo4
  rintro σ G5 ⟨ab, tl, as, rfl, nab, hab5, hal, has5, X5, M5⟩
  -- the middle's places
  refine ⟨fun σ G => ∃ (be : Addr) (bs : List Addr), σ = s23 sa s0 i wd wm l1 wo l2 (some (.ref fa)) (some (.ref la)) (some (.ref bo)) (some (.ref tp)) (some (.ref bt)) (some (.ref ab)) (some (.ref tl)) (some (.ref be)) v16 v17 v18 v19 v20 ∧ G ab = some (.dK (poKV nm0 as)) ∧ (∀ (q : Nat) (a : Addr) (y : Str), as[q]? = some a → nm0[q]? = some y → G a = some (.lst ((overL nm2 (g' ∘ f') y).map V.str))) ∧ G be = some (.dK (poKV nm0 bs)) ∧ bs.length = nm0.length ∧ (∀ (q : Nat) (a : Addr) (y : Str), bs[q]? = some a → nm0[q]? = some y → G a = some (.lst ((overL nm1 g' y).map V.str))) ∧ Wl3 PT G s0 c0 wd a0 b0 t0 wm a1 b1 t1 wo a2 b2 t2 fa la nm0 cl0 nm1 cl1 nm2 cl2 kv0 kv1 kv2 n2 n1 f' g', ?_, ?_⟩
  · have kl1' := ti1.len
    refine ⟨_, rfl, _, rfl, s0, c0, wm, a1, b1, t1, nm1, cl1, kv1, 4000, rfl, X5.S, X5.W1, ti1, by omega, by omega, fun mp' q d r w' rs1 Ga u1 u2 u3 u4 u5 web1 ro1 Sa kpa => ?_⟩
    have N1 : NetS C Ga s0 c0 mp' nm1 cl1 rs1 := ⟨⟨q, d, r, w', web1, X5.S.ne u1, X5.S.ne u2, X5.S.ne u3, X5.S.ne u4, X5.S.ne u5⟩, X5.W1.cn, rowsFit_of ti1 ro1, X5.W1.nn, by omega, fun a b k => Nat.le_trans (wN_tot ti1 ro1 a b k) (by omega)⟩
    have Xa := X5.kp kpa Sa
    refine ⟨_, rfl, _, rfl, mp', bt, la, nm1, nm0, wN nm1 rs1, wN nm0 rs0, ledK n1 g', g', rfl, N1.net, (M5.kp X5.S kpa).net, Xa.hl, fun x hx => ⟨ledK_at Z.nn1 (Z.p1.mem_iff.mpr hx), Z.to0 hx⟩, fun D bs G hD hD' hbl hbs sG => ?_⟩
    exact ⟨D, bs, rfl, sG _ _ (kpa _ _ hab5 nab.1 nab.2), fun q a y h1 h2 => sG _ _ (kpa _ _ (has5 q a y h1 h2).2 (has5 q a y h1 h2).1.1 (has5 q a y h1 h2).1.2), hD', hbl, fun q a y h1 h2 => (hbs q a y h1 h2).2, Xa.same sG⟩
  clear X5 M5 hab5 has5
  rintro σ G6 ⟨be, bs, rfl, hab6, has6, hbe6, hbl, hbs6, X6⟩
  -- place by place
  refine ⟨fun σ G => ∃ (u14 u16 : Option V), σ = s23 sa s0 i wd wm l1 wo l2 (some (.ref fa)) (some (.ref la)) (some (.ref bo)) (some (.ref tp)) (some (.ref bt)) (some (.ref ab)) u14 (some (.ref be)) u16 v17 v18 v19 v20 ∧ Same G6 G, ?_, ?_⟩
  · refine ⟨_, rfl, wd, _, rfl, dg_names X6.W0.d, a0, rfl, ⟨_, SqL.of X6.W0.hn⟩, ?_⟩
    refine for_list (xs := nm0.map V.str) (fun j σ G => ∃ (u14 u16 : Option V), σ = s23 sa s0 i wd wm l1 wo l2 (some (.ref fa)) (some (.ref la)) (some (.ref bo)) (some (.ref tp)) (some (.ref bt)) (some (.ref ab)) u14 (some (.ref be)) u16 v17 v18 v19 v20 ∧ Same G6 G)
      ⟨_, _, rfl, fun _ _ h => h⟩ (fun j σ G _ ⟨_, _, _, h⟩ => SqL.of (h _ _ X6.W0.hn)) ?_ (fun σ G h => h)
    rintro j x σ G hj ⟨u14, u16, rfl, sG⟩
    rw [List.getElem?_map] at hj
    obtain ⟨y, hy, rfl⟩ := Option.map_eq_some_iff.mp hj
    have hjl := (List.getElem?_eq_some_iff.mp hy).1
    obtain ⟨aa, haa⟩ : ∃ a, as[j]? = some a := ⟨_, List.getElem?_eq_getElem (by omega)⟩
    obtain ⟨ba, hba⟩ : ∃ a, bs[j]? = some a := ⟨_, List.getElem?_eq_getElem (by omega)⟩
    -- the names above
    refine ⟨fun σ G' => ∃ tl' : Addr, σ = s23 sa s0 i wd wm l1 wo l2 (some (.ref fa)) (some (.ref la)) (some (.ref bo)) (some (.ref tp)) (some (.ref bt)) (some (.ref ab)) (some (.ref tl')) (some (.ref be)) (some (.str y)) v17 v18 v19 v20 ∧ G' tl' = some (.lst ((overL nm2 (g' ∘ f') y).map V.str)) ∧ Same G G', ?_, ?_⟩
    · refine ⟨_, rfl, wo, _, rfl, dg_names (sG _ _ X6.W2.d), a2, rfl, ⟨_, SqL.of (sG _ _ X6.W2.hn)⟩, fun D hD => ?_⟩
      refine lc_list (xs := nm2.map V.str) (fun j G' => G' D = some (.lst ((overL (nm2.take j) (g' ∘ f') y).map V.str)) ∧ Same G G') ⟨upd_same, same_new hD⟩ (fun j G' _ ⟨_, h⟩ => SqL.of (h _ _ (sG _ _ X6.W2.hn))) ?_ ?_
      · rintro k x G' hk ⟨hD', sG'⟩
        rw [List.getElem?_map] at hk
        obtain ⟨z, hz, rfl⟩ := Option.map_eq_some_iff.mp hk
        have hzm := List.mem_of_getElem? hz
        have sg := sG.trans sG'
        have lenk : (overL (nm2.take k) (g' ∘ f') y).length ≤ 100 := Nat.le_trans (List.length_filter_le _ _) (by rw [List.length_take]; omega)
        refine ⟨rfl, ?_⟩
        refine ⟨_, rfl, _, rfl, fa, _, rfl, (by rw [← ledK_at (f := f') Z.nn2 (Z.p2.mem_iff.mpr hzm)]; exact DGet.k (k := Sum.inr z) (sg _ _ X6.hf)), _, rfl, _, rfl, be, _, rfl, (by rw [← po_at hbl X6.W0.nn hy hba]; exact DGet.k (k := Sum.inr y) (sg _ _ hbe6)), ba, _, rfl, .inl (SqL.of (sg _ _ (hbs6 j ba y hba hy))), rfl, strs_flatV, decide (g' (f' z) = y), by show V.bl (inV _ _) = _; rw [in_over (Z.to1 hzm)], ?_⟩
        by_cases ez : g' (f' z) = y
        · rw [decide_eq_true ez]
          refine iteT ⟨_, rfl, _, hD', Evl.sz_lt (by rw [List.length_map]; omega), ?_, same_off sG' hD⟩
          rw [upd_same, overL_yes hz ez, List.map_append]
          rfl
        · rw [decide_eq_false ez]
          refine iteF ⟨?_, sG'⟩
          rw [overL_no hz ez]
          exact hD'
      · rintro G' ⟨hD', sG'⟩
        rw [List.length_map, List.take_length] at hD'
        exact ⟨D, rfl, hD', sG'⟩
    rintro σ G' ⟨tl', rfl, htl, sG'⟩
    have sg := sG.trans sG'
    exact ⟨_, rfl, _, rfl, ab, _, rfl, (by rw [← po_at hal X6.W0.nn hy haa]; exact DGet.k (k := Sum.inr y) (sg _ _ hab6)), _, rfl, .inr ⟨aa, tl', _, rfl, rfl, SqL.of (sg _ _ (has6 j aa y haa hy)), SqL.of htl, strs_flat, _, rfl, iteF ⟨_, _, rfl, sg⟩⟩⟩
  rintro σ G7 ⟨u14, u16, rfl, s7⟩
  have S7 := X6.S.same s7
  have T7 := Tabs.ext X6.T s7
  clear X6 hab6 has6 hbe6 hbs6 s7
  -- six words
  refine ⟨fun σ G => ∃ sx : Addr, σ = s23 sa s0 i wd wm l1 wo l2 (some (.ref fa)) (some (.ref la)) (some (.ref bo)) (some (.ref tp)) (some (.ref bt)) (some (.ref ab)) u14 (some (.ref be)) u16 (some (.ref sx)) v18 v19 v20 ∧ (sx ≠ s0 ∧ sx ≠ c0) ∧ G sx = some (.lst (six.map V.str)) ∧ Src G s0 c0 ∧ Tabs [(PT, lamQ)] G, ?_, ?_⟩
  · refine ⟨(by show 6 ≤ sizeLine; decide), fun sx hsx => ?_⟩
    have s8 := same_new (o := .lst [V.str "a", .str "b", .str "c", .str "", .str "A b", .str "n1"]) hsx
    exact ⟨sx, rfl, S7.ne hsx, upd_same, S7.same s8, Tabs.ext T7 s8⟩
  clear S7 T7
  rintro σ G8 ⟨sx, rfl, nsx, hsx, S8, T8⟩
  -- two dicts over them
  refine ⟨fun σ G => ∃ (oa ob : Addr) (m1 m2 : List Str) (h1 h2 : Str → Str), σ = s23 sa s0 i wd wm l1 wo l2 (some (.ref fa)) (some (.ref la)) (some (.ref bo)) (some (.ref tp)) (some (.ref bt)) (some (.ref ab)) u14 (some (.ref be)) u16 (some (.ref sx)) v18 (some (.ref oa)) (some (.ref ob)) ∧ Two6 G s0 c0 oa ob m1 m2 h1 h2 ∧ Src G s0 c0 ∧ Tabs [(PT, lamQ)] G, ?_, ?_⟩
  · refine ⟨_, rfl, _, rfl, _, rfl, s0, c0, sx, sx, six, six, rfl, S8, nsx, nsx, hsx, hsx, six_nd, (by decide), (by decide), (by decide), fun oa m1 h1 Ga oa0 hoa nd1 le1 e1 Sa kpa => ?_⟩
    have hsx' := kpa _ _ hsx nsx.1 nsx.2
    refine ⟨_, rfl, _, rfl, _, rfl, s0, c0, sx, sx, six, six, rfl, Sa, nsx, nsx, hsx', hsx', six_nd, (by decide), (by decide), (by decide), fun ob m2 h2 Gb ob0 hob nd2 le2 e2 Sb kpb => ?_⟩
    refine ⟨(by show 2 ≤ sizeLine; decide), fun z hz => ⟨z, _, rfl, SqT.of upd_same, rfl, _, _, rfl, _, _, rfl, rfl, ?_⟩⟩
    have sz := same_new (o := .tup [V.ref oa, V.ref ob]) hz
    have noa := S8.ne oa0
    refine ⟨oa, ob, m1, m2, h1, h2, rfl, ?_, Sb.same sz, Tabs.ext (tabs_kp T8 S8 (kpa.trans kpb)) sz⟩
    exact ⟨noa, Sa.ne ob0, ne_of_none hoa ob0, sz _ _ (kpb _ _ hoa noa.1 noa.2), sz _ _ hob, nd1, nd2, le1, le2, e1, e2⟩
  clear S8 T8 hsx
  rintro σ G9 ⟨oa, ob, m1, m2, h1, h2, rfl, B9, S9, T9⟩
  -- their text
  refine ⟨fun σ G => σ = s23 sa s0 i wd wm l1 wo l2 (some (.ref fa)) (some (.ref la)) (some (.ref bo)) (some (.ref tp)) (some (.ref bt)) (some (.ref ab)) u14 (some (.ref be)) u16 (some (.ref sx)) (some (.str (shDD m1 h1 m2 h2))) (some (.ref oa)) (some (.ref ob)) ∧ Two6 G s0 c0 oa ob m1 m2 h1 h2 ∧ Src G s0 c0 ∧ Tabs [(PT, lamQ)] G, ?_, ?_⟩
  · refine ⟨_, rfl, _, rfl, (by show 2 ≤ sizeLine; decide), fun l hl => ?_⟩
    have sl := same_new (o := .lst [V.ref oa, V.ref ob]) hl
    exact .inr (.inr ⟨l, oa, ob, m1, m2, h1, h2, rfl, upd_same, sl _ _ B9.ha, sl _ _ B9.hb, B9.few1, B9.few2, rfl, B9.same sl, S9.same sl, Tabs.ext T9 sl⟩)
  clear B9 S9 T9
  rintro σ G10 ⟨rfl, B10, S10, T10⟩
  -- one behind the other, told
  refine ⟨fun σ G => ∃ tl : Addr, σ = s23 sa s0 i wd wm l1 wo l2 (some (.ref fa)) (some (.ref la)) (some (.ref bo)) (some (.ref tp)) (some (.ref bt)) (some (.ref ab)) (some (.ref tl)) (some (.ref be)) u16 (some (.ref sx)) (some (.str (shDD m1 h1 m2 h2))) (some (.ref oa)) (some (.ref ob)) ∧ ToldB G tl m1 h1 m2 h2 ∧ Two6 G s0 c0 oa ob m1 m2 h1 h2 ∧ Src G s0 c0 ∧ Tabs [(PT, lamQ)] G, ?_, ?_⟩
  · refine ⟨T10, fun Ga ea Ta => ?_⟩
    have Ba := B10.extN ea
    have Sa := S10.extN ea
    have l1' := Ba.l1
    refine ⟨_, rfl, _, rfl, tNil_in ⟨oa, ob, m1, h1, m2, h2, rfl, Ba.ab, Ba.ha, Ba.hb, Ba.nd1, Ba.nd2, by omega, Ba.len, fun hno D G hD hD' sG => ?_, fun y hy d G hd sG => ?_⟩⟩
    · exact ⟨D, rfl, .inl ⟨hno, hD'⟩, Ba.same sG, Sa.same sG, Tabs.ext Ta sG⟩
    · refine ⟨rfl, y, d, rfl, hd, Ba.len y hy, fun r hr' => ?_⟩
      have sr := sG.trans (same_new (o := .lst (unkT y)) hr')
      exact ⟨r, rfl, .inr ⟨y, hy, upd_same⟩, Ba.same sr, Sa.same sr, Tabs.ext Ta sr⟩
  clear B10 S10 T10
  rintro σ G11 ⟨tl2, rfl, told, B11, S11, T11⟩
  -- compared
  have l1' := B11.l1
  have end_ : ∀ {G : Hp}, Same G11 G → Two6 G s0 c0 oa ob m1 m2 h1 h2 ∧ Src G s0 c0 ∧ Tabs [(PT, lamQ)] G := fun s => ⟨B11.same s, S11.same s, Tabs.ext T11 s⟩
  refine ⟨_, rfl, B11.repr told ⟨_, rfl, _, rfl, oa, ob, m1, h1, m2, h2, rfl, B11.ab, B11.ha, B11.hb, B11.nd1, B11.nd2, by omega, B11.len, fun hno D G hD hD' sG => ?_, fun y hy r G hr0 hr1 sG => ?_⟩⟩
  · refine (B11.same sG).repr (.inl ⟨hno, hD'⟩) ⟨rfl, _, rfl, ne_sameI ?_⟩
    refine ⟨_, rfl, _, rfl, (by show 2 ≤ sizeLine; decide), fun l hl => ?_⟩
    obtain ⟨Bz, Sz, Tz⟩ := end_ (sG.trans (same_new (o := .lst [V.ref oa, V.ref ob]) hl))
    exact .inr (.inr ⟨l, oa, ob, m1, m2, h1, h2, rfl, upd_same, Bz.ha, Bz.hb, Bz.few1, Bz.few2, _, rfl, rfl, _, rfl, ne_sameI ⟨Sz, Tz, _, _, _, _, _, _, _, _, _, _, _, _, _, _, _, _, _, _, _, rfl⟩⟩)
  · refine (B11.same sG).repr (.inr ⟨y, hy, hr1⟩) ⟨rfl, _, rfl, ne_sameI ?_⟩
    refine ⟨_, rfl, _, rfl, (by show 2 ≤ sizeLine; decide), fun l hl => ?_⟩
    obtain ⟨Bz, Sz, Tz⟩ := end_ (sG.trans (same_new (o := .lst [V.ref oa, V.ref ob]) hl))
    exact .inr (.inr ⟨l, oa, ob, m1, m2, h1, h2, rfl, upd_same, Bz.ha, Bz.hb, Bz.few1, Bz.few2, _, rfl, rfl, _, rfl, ne_sameI ⟨Sz, Tz, _, _, _, _, _, _, _, _, _, _, _, _, _, _, _, _, _, _, _, rfl⟩⟩)
end
end Nm
set_option autoImplicit true
set_option maxRecDepth 100000
set_option maxHeartbeats 8000000
/-! what the top has written, and the law -/
namespace Nm
open PySem PySem.Spec PyProof.Rows L2 LamX
section
variable {P : Program} {w : World} {K : PySem.W.Frag} {mg : Str → Option Value} {base : Heap}
theorem def_mk {x : Str} {ps : List Str} {k : Nat} {sp : Sp} {f : Addr} {fd : FuncData} (G : FnOk P w K mg base CX0 k f fd ps sp) (a : mg x = some (.ref f)) (kp : PySem.W.keepIn K (.ref f) = true) (b : Binds K fd ps []) : Def P w K mg base x ps k sp := ⟨f, fd, G, a, kp, b⟩
/-- a code object's fields as its head's word asks for them -/
def hdV (vs : Array Value) (c P : Addr) : Bool := (match (vs[11]? : Option Value) with | some (.ref P') => P' == P | _ => false) &&
  (match vs.getD 18 .none with | .str _ _ => true | _ => false) && (match vs.getD 7 .none with | .int _ _ => true | _ => false) &&
  (match vs.getD 9 .none with | .bool _ => true | _ => false) && (match vs.getD 10 .none with | .int _ _ => true | _ => false) && c != P
theorem hdV_ok {c PT : Addr} {dd : Option Addr} {vs : Array Value} {sl : Array (Option Value)} (l : K.lookup c = some ⟨.type "code", dd, .fields vs, sl⟩) (h : hdV vs c PT = true) : PySem.W.codeHdIn K c PT = true := by
  unfold PySem.W.codeHdIn
  rw [l]
  exact h
theorem exm_is {T C : Addr} {cd : PySem.ClassData} {k : Bool} (b : PySem.W.subIn K (.ref C) (.type "BaseException") = some true) (d : PySem.W.clsIn K C = some cd) (t : PySem.W.typeIn K (.ref C) = some (.type "type")) (s : PySem.W.subIn K (.ref T) (.ref C) = some k) : PySem.W.exmOne K (.ref T) (.ref C) = some k := by
  have kc : PySem.W.kitCls K (.ref T) (.ref C) = some k := by
    show (if ((PySem.W.clsIn K C).isSome && PySem.W.typeIn K (.ref C) == some (.type "type")) = true then PySem.W.subIn K (.ref T) (.ref C) else none) = some k
    rw [d, t, s]
    rfl
  unfold PySem.W.exmOne
  rw [b, kc]
  rfl
theorem hdV_11 {c PT : Addr} {vs : Array Value} (h : hdV vs c PT = true) : vs[11]? = some (.ref PT) := by
  unfold hdV at h
  simp only [Bool.and_eq_true] at h
  obtain ⟨⟨⟨⟨⟨e1, _⟩, _⟩, _⟩, _⟩, _⟩ := h
  split at e1
  · rename_i P' h11
    rw [h11, beq_iff_eq.mp e1]
  · cases e1
end
theorem all_mk {l : PySem.W.OpenLaw} {w : World} {K : PySem.W.Frag} {h : Heap} {mg : Str → Option Value} {fa C CU c PT : Addr} (X : K.In h) (G : h.Ns mainGlobals mg) (hfa : mg "law" = some (.ref fa)) (own : OwnTab K fa h)
    {f_isw : Addr} {kV_isw dc_isw pm_isw cd_isw ct_isw : Value} {an_isw : Option Addr} {oc_isw : Value} {od_isw : Option Addr} {sl_isw : Array (Option Value)} (a_isw : PySem.W.nsIn K mainGlobals "is_word" = some (some (.ref f_isw))) (l_isw : K.lookup f_isw = some ⟨oc_isw, od_isw, .func (PySem.W.fnOf "is_word" "is_word" (defArgs sIsWord) (defBody sIsWord) (defScope sIsWord) .none kV_isw dc_isw pm_isw an_isw cd_isw ct_isw), sl_isw⟩) (c_isw : PySem.W.codeIn K cd_isw "is_word" = true) (k_isw : PySem.W.keepIn K (.ref f_isw) = true)
    {f_isi : Addr} {kV_isi dc_isi pm_isi cd_isi ct_isi : Value} {an_isi : Option Addr} {oc_isi : Value} {od_isi : Option Addr} {sl_isi : Array (Option Value)} (a_isi : PySem.W.nsIn K mainGlobals "is_integer" = some (some (.ref f_isi))) (l_isi : K.lookup f_isi = some ⟨oc_isi, od_isi, .func (PySem.W.fnOf "is_integer" "is_integer" (defArgs sIsInteger) (defBody sIsInteger) (defScope sIsInteger) .none kV_isi dc_isi pm_isi an_isi cd_isi ct_isi), sl_isi⟩) (c_isi : PySem.W.codeIn K cd_isi "is_integer" = true) (k_isi : PySem.W.keepIn K (.ref f_isi) = true)
    {f_isn : Addr} {kV_isn dc_isn pm_isn cd_isn ct_isn : Value} {an_isn : Option Addr} {oc_isn : Value} {od_isn : Option Addr} {sl_isn : Array (Option Value)} (a_isn : PySem.W.nsIn K mainGlobals "is_number" = some (some (.ref f_isn))) (l_isn : K.lookup f_isn = some ⟨oc_isn, od_isn, .func (PySem.W.fnOf "is_number" "is_number" (defArgs sIsNumber) (defBody sIsNumber) (defScope sIsNumber) .none kV_isn dc_isn pm_isn an_isn cd_isn ct_isn), sl_isn⟩) (c_isn : PySem.W.codeIn K cd_isn "is_number" = true) (k_isn : PySem.W.keepIn K (.ref f_isn) = true)
    {f_ke : Addr} {kV_ke dc_ke pm_ke cd_ke ct_ke : Value} {an_ke : Option Addr} {oc_ke : Value} {od_ke : Option Addr} {sl_ke : Array (Option Value)} (a_ke : PySem.W.nsIn K mainGlobals "kept" = some (some (.ref f_ke))) (l_ke : K.lookup f_ke = some ⟨oc_ke, od_ke, .func (PySem.W.fnOf "kept" "kept" (defArgs sKept) (defBody sKept) (defScope sKept) .none kV_ke dc_ke pm_ke an_ke cd_ke ct_ke), sl_ke⟩) (c_ke : PySem.W.codeIn K cd_ke "kept" = true) (k_ke : PySem.W.keepIn K (.ref f_ke) = true)
    {f_le : Addr} {kV_le dc_le pm_le cd_le ct_le : Value} {an_le : Option Addr} {oc_le : Value} {od_le : Option Addr} {sl_le : Array (Option Value)} (a_le : PySem.W.nsIn K mainGlobals "is_leading" = some (some (.ref f_le))) (l_le : K.lookup f_le = some ⟨oc_le, od_le, .func (PySem.W.fnOf "is_leading" "is_leading" (defArgs sLeading) (defBody sLeading) (defScope sLeading) .none kV_le dc_le pm_le an_le cd_le ct_le), sl_le⟩) (c_le : PySem.W.codeIn K cd_le "is_leading" = true) (k_le : PySem.W.keepIn K (.ref f_le) = true)
    {f_jn : Addr} {kV_jn dc_jn pm_jn cd_jn ct_jn : Value} {an_jn : Option Addr} {oc_jn : Value} {od_jn : Option Addr} {sl_jn : Array (Option Value)} (a_jn : PySem.W.nsIn K mainGlobals "judge_names" = some (some (.ref f_jn))) (l_jn : K.lookup f_jn = some ⟨oc_jn, od_jn, .func (PySem.W.fnOf "judge_names" "judge_names" (defArgs sJudgeNames) (defBody sJudgeNames) (defScope sJudgeNames) .none kV_jn dc_jn pm_jn an_jn cd_jn ct_jn), sl_jn⟩) (c_jn : PySem.W.codeIn K cd_jn "judge_names" = true) (k_jn : PySem.W.keepIn K (.ref f_jn) = true)
    {f_we : Addr} {kV_we dc_we pm_we cd_we ct_we : Value} {an_we : Option Addr} {oc_we : Value} {od_we : Option Addr} {sl_we : Array (Option Value)} (a_we : PySem.W.nsIn K mainGlobals "widths_by_end" = some (some (.ref f_we))) (l_we : K.lookup f_we = some ⟨oc_we, od_we, .func (PySem.W.fnOf "widths_by_end" "widths_by_end" (defArgs sWidthsByEnd) (defBody sWidthsByEnd) (defScope sWidthsByEnd) .none kV_we dc_we pm_we an_we cd_we ct_we), sl_we⟩) (c_we : PySem.W.codeIn K cd_we "widths_by_end" = true) (k_we : PySem.W.keepIn K (.ref f_we) = true)
    {f_jw : Addr} {kV_jw dc_jw pm_jw cd_jw ct_jw : Value} {an_jw : Option Addr} {oc_jw : Value} {od_jw : Option Addr} {sl_jw : Array (Option Value)} (a_jw : PySem.W.nsIn K mainGlobals "judge_widths" = some (some (.ref f_jw))) (l_jw : K.lookup f_jw = some ⟨oc_jw, od_jw, .func (PySem.W.fnOf "judge_widths" "judge_widths" (defArgs sJudgeWidths) (defBody sJudgeWidths) (defScope sJudgeWidths) .none kV_jw dc_jw pm_jw an_jw cd_jw ct_jw), sl_jw⟩) (c_jw : PySem.W.codeIn K cd_jw "judge_widths" = true) (k_jw : PySem.W.keepIn K (.ref f_jw) = true)
    {f_jf : Addr} {kV_jf dc_jf pm_jf cd_jf ct_jf : Value} {an_jf : Option Addr} {oc_jf : Value} {od_jf : Option Addr} {sl_jf : Array (Option Value)} (a_jf : PySem.W.nsIn K mainGlobals "judge_folding" = some (some (.ref f_jf))) (l_jf : K.lookup f_jf = some ⟨oc_jf, od_jf, .func (PySem.W.fnOf "judge_folding" "judge_folding" (defArgs sJudgeFolding) (defBody sJudgeFolding) (defScope sJudgeFolding) .none kV_jf dc_jf pm_jf an_jf cd_jf ct_jf), sl_jf⟩) (c_jf : PySem.W.codeIn K cd_jf "judge_folding" = true) (k_jf : PySem.W.keepIn K (.ref f_jf) = true)
    {f_po : Addr} {kV_po dc_po pm_po cd_po ct_po : Value} {an_po : Option Addr} {oc_po : Value} {od_po : Option Addr} {sl_po : Array (Option Value)} (a_po : PySem.W.nsIn K mainGlobals "places_over" = some (some (.ref f_po))) (l_po : K.lookup f_po = some ⟨oc_po, od_po, .func (PySem.W.fnOf "places_over" "places_over" (defArgs sPlacesOver) (defBody sPlacesOver) (defScope sPlacesOver) .none kV_po dc_po pm_po an_po cd_po ct_po), sl_po⟩) (c_po : PySem.W.codeIn K cd_po "places_over" = true) (k_po : PySem.W.keepIn K (.ref f_po) = true)
    {f_be : Addr} {kV_be dc_be pm_be cd_be ct_be : Value} {an_be : Option Addr} {oc_be : Value} {od_be : Option Addr} {sl_be : Array (Option Value)} (a_be : PySem.W.nsIn K mainGlobals "behind" = some (some (.ref f_be))) (l_be : K.lookup f_be = some ⟨oc_be, od_be, .func (PySem.W.fnOf "behind" "behind" (defArgs sBehind) (defBody sBehind) (defScope sBehind) .none kV_be dc_be pm_be an_be cd_be ct_be), sl_be⟩) (c_be : PySem.W.codeIn K cd_be "behind" = true) (k_be : PySem.W.keepIn K (.ref f_be) = true)
    {f_nw : Addr} {kV_nw dc_nw pm_nw cd_nw ct_nw : Value} {an_nw : Option Addr} {oc_nw : Value} {od_nw : Option Addr} {sl_nw : Array (Option Value)} (a_nw : PySem.W.nsIn K mainGlobals "need_word" = some (some (.ref f_nw))) (l_nw : K.lookup f_nw = some ⟨oc_nw, od_nw, .func (PySem.W.fnOf "need_word" "need_word" (defArgs sNeedWord) (defBody sNeedWord) (defScope sNeedWord) .none kV_nw dc_nw pm_nw an_nw cd_nw ct_nw), sl_nw⟩) (c_nw : PySem.W.codeIn K cd_nw "need_word" = true) (k_nw : PySem.W.keepIn K (.ref f_nw) = true)
    {f_no : Addr} {kV_no dc_no pm_no cd_no ct_no : Value} {an_no : Option Addr} {oc_no : Value} {od_no : Option Addr} {sl_no : Array (Option Value)} (a_no : PySem.W.nsIn K mainGlobals "need_once" = some (some (.ref f_no))) (l_no : K.lookup f_no = some ⟨oc_no, od_no, .func (PySem.W.fnOf "need_once" "need_once" (defArgs sNeedOnce) (defBody sNeedOnce) (defScope sNeedOnce) .none kV_no dc_no pm_no an_no cd_no ct_no), sl_no⟩) (c_no : PySem.W.codeIn K cd_no "need_once" = true) (k_no : PySem.W.keepIn K (.ref f_no) = true)
    {f_np : Addr} {kV_np dc_np pm_np cd_np ct_np : Value} {an_np : Option Addr} {oc_np : Value} {od_np : Option Addr} {sl_np : Array (Option Value)} (a_np : PySem.W.nsIn K mainGlobals "need_places" = some (some (.ref f_np))) (l_np : K.lookup f_np = some ⟨oc_np, od_np, .func (PySem.W.fnOf "need_places" "need_places" (defArgs sNeedPlaces) (defBody sNeedPlaces) (defScope sNeedPlaces) .none kV_np dc_np pm_np an_np cd_np ct_np), sl_np⟩) (c_np : PySem.W.codeIn K cd_np "need_places" = true) (k_np : PySem.W.keepIn K (.ref f_np) = true)
    {f_ts : Addr} {kV_ts dc_ts pm_ts cd_ts ct_ts : Value} {an_ts : Option Addr} {oc_ts : Value} {od_ts : Option Addr} {sl_ts : Array (Option Value)} (a_ts : PySem.W.nsIn K mainGlobals "tie_spot" = some (some (.ref f_ts))) (l_ts : K.lookup f_ts = some ⟨oc_ts, od_ts, .func (PySem.W.fnOf "tie_spot" "tie_spot" (defArgs sTieSpot) (defBody sTieSpot) (defScope sTieSpot) .none kV_ts dc_ts pm_ts an_ts cd_ts ct_ts), sl_ts⟩) (c_ts : PySem.W.codeIn K cd_ts "tie_spot" = true) (k_ts : PySem.W.keepIn K (.ref f_ts) = true)
    {f_nt : Addr} {kV_nt dc_nt pm_nt cd_nt ct_nt : Value} {an_nt : Option Addr} {oc_nt : Value} {od_nt : Option Addr} {sl_nt : Array (Option Value)} (a_nt : PySem.W.nsIn K mainGlobals "need_ties" = some (some (.ref f_nt))) (l_nt : K.lookup f_nt = some ⟨oc_nt, od_nt, .func (PySem.W.fnOf "need_ties" "need_ties" (defArgs sNeedTies) (defBody sNeedTies) (defScope sNeedTies) .none kV_nt dc_nt pm_nt an_nt cd_nt ct_nt), sl_nt⟩) (c_nt : PySem.W.codeIn K cd_nt "need_ties" = true) (k_nt : PySem.W.keepIn K (.ref f_nt) = true)
    {f_ot : Addr} {kV_ot dc_ot pm_ot cd_ot ct_ot : Value} {an_ot : Option Addr} {oc_ot : Value} {od_ot : Option Addr} {sl_ot : Array (Option Value)} (a_ot : PySem.W.nsIn K mainGlobals "ordered_ties" = some (some (.ref f_ot))) (l_ot : K.lookup f_ot = some ⟨oc_ot, od_ot, .func (PySem.W.fnOf "ordered_ties" "ordered_ties" (defArgs sOrderedTies) (defBody sOrderedTies) (defScope sOrderedTies) .none kV_ot dc_ot pm_ot an_ot cd_ot ct_ot), sl_ot⟩) (c_ot : PySem.W.codeIn K cd_ot "ordered_ties" = true) (k_ot : PySem.W.keepIn K (.ref f_ot) = true)
    {f_oc : Addr} {kV_oc dc_oc pm_oc cd_oc ct_oc : Value} {an_oc : Option Addr} {oc_oc : Value} {od_oc : Option Addr} {sl_oc : Array (Option Value)} (a_oc : PySem.W.nsIn K mainGlobals "_law_open_cells" = some (some (.ref f_oc))) (l_oc : K.lookup f_oc = some ⟨oc_oc, od_oc, .func (PySem.W.fnOf "_law_open_cells" "_law_open_cells" (defArgs sOpenCells) (defBody sOpenCells) (defScope sOpenCells) .none kV_oc dc_oc pm_oc an_oc cd_oc ct_oc), sl_oc⟩) (c_oc : PySem.W.codeIn K cd_oc "_law_open_cells" = true) (k_oc : PySem.W.keepIn K (.ref f_oc) = true)
    {f_pk : Addr} {kV_pk dc_pk pm_pk cd_pk ct_pk : Value} {an_pk : Option Addr} {oc_pk : Value} {od_pk : Option Addr} {sl_pk : Array (Option Value)} (a_pk : PySem.W.nsIn K mainGlobals "_law_pick" = some (some (.ref f_pk))) (l_pk : K.lookup f_pk = some ⟨oc_pk, od_pk, .func (PySem.W.fnOf "_law_pick" "_law_pick" (defArgs sPick) (defBody sPick) (defScope sPick) .none kV_pk dc_pk pm_pk an_pk cd_pk ct_pk), sl_pk⟩) (c_pk : PySem.W.codeIn K cd_pk "_law_pick" = true) (k_pk : PySem.W.keepIn K (.ref f_pk) = true)
    {f_ao : Addr} {kV_ao dc_ao pm_ao cd_ao ct_ao : Value} {an_ao : Option Addr} {oc_ao : Value} {od_ao : Option Addr} {sl_ao : Array (Option Value)} (a_ao : PySem.W.nsIn K mainGlobals "_law_any_order" = some (some (.ref f_ao))) (l_ao : K.lookup f_ao = some ⟨oc_ao, od_ao, .func (PySem.W.fnOf "_law_any_order" "_law_any_order" (defArgs sAnyOrder) (defBody sAnyOrder) (defScope sAnyOrder) .none kV_ao dc_ao pm_ao an_ao cd_ao ct_ao), sl_ao⟩) (c_ao : PySem.W.codeIn K cd_ao "_law_any_order" = true) (k_ao : PySem.W.keepIn K (.ref f_ao) = true)
    {f_ch : Addr} {kV_ch dc_ch pm_ch cd_ch ct_ch : Value} {an_ch : Option Addr} {oc_ch : Value} {od_ch : Option Addr} {sl_ch : Array (Option Value)} (a_ch : PySem.W.nsIn K mainGlobals "_law_choice_of" = some (some (.ref f_ch))) (l_ch : K.lookup f_ch = some ⟨oc_ch, od_ch, .func (PySem.W.fnOf "_law_choice_of" "_law_choice_of" (defArgs sChoiceOf) (defBody sChoiceOf) (defScope sChoiceOf) .none kV_ch dc_ch pm_ch an_ch cd_ch ct_ch), sl_ch⟩) (c_ch : PySem.W.codeIn K cd_ch "_law_choice_of" = true) (k_ch : PySem.W.keepIn K (.ref f_ch) = true)
    {f_sh : Addr} {kV_sh dc_sh pm_sh cd_sh ct_sh : Value} {an_sh : Option Addr} {oc_sh : Value} {od_sh : Option Addr} {sl_sh : Array (Option Value)} (a_sh : PySem.W.nsIn K mainGlobals "_law_shape_pairs" = some (some (.ref f_sh))) (l_sh : K.lookup f_sh = some ⟨oc_sh, od_sh, .func (PySem.W.fnOf "_law_shape_pairs" "_law_shape_pairs" (defArgs sShapePairs) (defBody sShapePairs) (defScope sShapePairs) .none kV_sh dc_sh pm_sh an_sh cd_sh ct_sh), sl_sh⟩) (c_sh : PySem.W.codeIn K cd_sh "_law_shape_pairs" = true) (k_sh : PySem.W.keepIn K (.ref f_sh) = true)
    {f_dw : Addr} {kV_dw dc_dw pm_dw cd_dw ct_dw : Value} {an_dw : Option Addr} {oc_dw : Value} {od_dw : Option Addr} {sl_dw : Array (Option Value)} (a_dw : PySem.W.nsIn K mainGlobals "_law_draw_world" = some (some (.ref f_dw))) (l_dw : K.lookup f_dw = some ⟨oc_dw, od_dw, .func (PySem.W.fnOf "_law_draw_world" "_law_draw_world" (defArgs sDrawWorld) (defBody sDrawWorld) (defScope sDrawWorld) .none kV_dw dc_dw pm_dw an_dw cd_dw ct_dw), sl_dw⟩) (c_dw : PySem.W.codeIn K cd_dw "_law_draw_world" = true) (k_dw : PySem.W.keepIn K (.ref f_dw) = true)
    {f_ma : Addr} {kV_ma dc_ma pm_ma cd_ma ct_ma : Value} {an_ma : Option Addr} {oc_ma : Value} {od_ma : Option Addr} {sl_ma : Array (Option Value)} (a_ma : PySem.W.nsIn K mainGlobals "_law_made" = some (some (.ref f_ma))) (l_ma : K.lookup f_ma = some ⟨oc_ma, od_ma, .func (PySem.W.fnOf "_law_made" "_law_made" (defArgs sMade) (defBody sMade) (defScope sMade) .none kV_ma dc_ma pm_ma an_ma cd_ma ct_ma), sl_ma⟩) (c_ma : PySem.W.codeIn K cd_ma "_law_made" = true) (k_ma : PySem.W.keepIn K (.ref f_ma) = true)
    {f_pa : Addr} {kV_pa dc_pa pm_pa cd_pa ct_pa : Value} {an_pa : Option Addr} {oc_pa : Value} {od_pa : Option Addr} {sl_pa : Array (Option Value)} (a_pa : PySem.W.nsIn K mainGlobals "_law_parts" = some (some (.ref f_pa))) (l_pa : K.lookup f_pa = some ⟨oc_pa, od_pa, .func (PySem.W.fnOf "_law_parts" "_law_parts" (defArgs sParts) (defBody sParts) (defScope sParts) .none kV_pa dc_pa pm_pa an_pa cd_pa ct_pa), sl_pa⟩) (c_pa : PySem.W.codeIn K cd_pa "_law_parts" = true) (k_pa : PySem.W.keepIn K (.ref f_pa) = true)
    {f_se : Addr} {kV_se dc_se pm_se cd_se ct_se : Value} {an_se : Option Addr} {oc_se : Value} {od_se : Option Addr} {sl_se : Array (Option Value)} (a_se : PySem.W.nsIn K mainGlobals "_law_seated" = some (some (.ref f_se))) (l_se : K.lookup f_se = some ⟨oc_se, od_se, .func (PySem.W.fnOf "_law_seated" "_law_seated" (defArgs sSeated) (defBody sSeated) (defScope sSeated) .none kV_se dc_se pm_se an_se cd_se ct_se), sl_se⟩) (c_se : PySem.W.codeIn K cd_se "_law_seated" = true) (k_se : PySem.W.keepIn K (.ref f_se) = true)
    {f_ov : Addr} {kV_ov dc_ov pm_ov cd_ov ct_ov : Value} {an_ov : Option Addr} {oc_ov : Value} {od_ov : Option Addr} {sl_ov : Array (Option Value)} (a_ov : PySem.W.nsIn K mainGlobals "_law_over" = some (some (.ref f_ov))) (l_ov : K.lookup f_ov = some ⟨oc_ov, od_ov, .func (PySem.W.fnOf "_law_over" "_law_over" (defArgs sOver) (defBody sOver) (defScope sOver) .none kV_ov dc_ov pm_ov an_ov cd_ov ct_ov), sl_ov⟩) (c_ov : PySem.W.codeIn K cd_ov "_law_over" = true) (k_ov : PySem.W.keepIn K (.ref f_ov) = true)
    {f_di : Addr} {kV_di dc_di pm_di cd_di ct_di : Value} {an_di : Option Addr} {oc_di : Value} {od_di : Option Addr} {sl_di : Array (Option Value)} (a_di : PySem.W.nsIn K mainGlobals "_law_dict" = some (some (.ref f_di))) (l_di : K.lookup f_di = some ⟨oc_di, od_di, .func (PySem.W.fnOf "_law_dict" "_law_dict" (defArgs sDict) (defBody sDict) (defScope sDict) .none kV_di dc_di pm_di an_di cd_di ct_di), sl_di⟩) (c_di : PySem.W.codeIn K cd_di "_law_dict" = true) (k_di : PySem.W.keepIn K (.ref f_di) = true)
    {f_ad : Addr} {kV_ad dc_ad pm_ad cd_ad ct_ad : Value} {an_ad : Option Addr} {oc_ad : Value} {od_ad : Option Addr} {sl_ad : Array (Option Value)} (a_ad : PySem.W.nsIn K mainGlobals "_law_any_dict" = some (some (.ref f_ad))) (l_ad : K.lookup f_ad = some ⟨oc_ad, od_ad, .func (PySem.W.fnOf "_law_any_dict" "_law_any_dict" (defArgs sAnyDict) (defBody sAnyDict) (defScope sAnyDict) .none kV_ad dc_ad pm_ad an_ad cd_ad ct_ad), sl_ad⟩) (c_ad : PySem.W.codeIn K cd_ad "_law_any_dict" = true) (k_ad : PySem.W.keepIn K (.ref f_ad) = true)
    {f_ca : Addr} {kV_ca dc_ca pm_ca cd_ca ct_ca : Value} {an_ca : Option Addr} {oc_ca : Value} {od_ca : Option Addr} {sl_ca : Array (Option Value)} (a_ca : PySem.W.nsIn K mainGlobals "_law_caught" = some (some (.ref f_ca))) (l_ca : K.lookup f_ca = some ⟨oc_ca, od_ca, .func (PySem.W.fnOf "_law_caught" "_law_caught" (defArgs sCaught) (defBody sCaught) (defScope sCaught) .none kV_ca dc_ca pm_ca an_ca cd_ca ct_ca), sl_ca⟩) (c_ca : PySem.W.codeIn K cd_ca "_law_caught" = true) (k_ca : PySem.W.keepIn K (.ref f_ca) = true)
    {f_lo : Addr} {kV_lo dc_lo pm_lo cd_lo ct_lo : Value} {an_lo : Option Addr} {oc_lo : Value} {od_lo : Option Addr} {sl_lo : Array (Option Value)} (a_lo : PySem.W.nsIn K mainGlobals "_law_led_on" = some (some (.ref f_lo))) (l_lo : K.lookup f_lo = some ⟨oc_lo, od_lo, .func (PySem.W.fnOf "_law_led_on" "_law_led_on" (defArgs sLedOn) (defBody sLedOn) (defScope sLedOn) .none kV_lo dc_lo pm_lo an_lo cd_lo ct_lo), sl_lo⟩) (c_lo : PySem.W.codeIn K cd_lo "_law_led_on" = true) (k_lo : PySem.W.keepIn K (.ref f_lo) = true)
    {f_wd : Addr} {kV_wd dc_wd pm_wd cd_wd ct_wd : Value} {an_wd : Option Addr} {oc_wd : Value} {od_wd : Option Addr} {sl_wd : Array (Option Value)} (a_wd : PySem.W.nsIn K mainGlobals "_law_words_dict" = some (some (.ref f_wd))) (l_wd : K.lookup f_wd = some ⟨oc_wd, od_wd, .func (PySem.W.fnOf "_law_words_dict" "_law_words_dict" (defArgs sWordsDict) (defBody sWordsDict) (defScope sWordsDict) .none kV_wd dc_wd pm_wd an_wd cd_wd ct_wd), sl_wd⟩) (c_wd : PySem.W.codeIn K cd_wd "_law_words_dict" = true) (k_wd : PySem.W.keepIn K (.ref f_wd) = true)
    {f_mi : Addr} {kV_mi dc_mi pm_mi cd_mi ct_mi : Value} {an_mi : Option Addr} {oc_mi : Value} {od_mi : Option Addr} {sl_mi : Array (Option Value)} (a_mi : PySem.W.findIn K (.ref C) "__init__" = some (some (.ref f_mi))) (i_mi : PySem.W.isFn K (.ref f_mi) = true) (l_mi : K.lookup f_mi = some ⟨oc_mi, od_mi, .func (PySem.W.fnOf "__init__" "Web.__init__" (defArgs sWebInit) (defBody sWebInit) (defScope sWebInit) .none kV_mi dc_mi pm_mi an_mi cd_mi ct_mi), sl_mi⟩) (c_mi : PySem.W.codeIn K cd_mi "Web.__init__" = true) (k_mi : PySem.W.keepIn K (.ref f_mi) = true)
    {f_mp : Addr} {kV_mp dc_mp pm_mp cd_mp ct_mp : Value} {an_mp : Option Addr} {oc_mp : Value} {od_mp : Option Addr} {sl_mp : Array (Option Value)} (a_mp : PySem.W.findIn K (.ref C) "places" = some (some (.ref f_mp))) (i_mp : PySem.W.isFn K (.ref f_mp) = true) (l_mp : K.lookup f_mp = some ⟨oc_mp, od_mp, .func (PySem.W.fnOf "places" "Web.places" (defArgs sWebPlaces) (defBody sWebPlaces) (defScope sWebPlaces) .none kV_mp dc_mp pm_mp an_mp cd_mp ct_mp), sl_mp⟩) (c_mp : PySem.W.codeIn K cd_mp "Web.places" = true) (k_mp : PySem.W.keepIn K (.ref f_mp) = true)
    {f_mc : Addr} {kV_mc dc_mc pm_mc cd_mc ct_mc : Value} {an_mc : Option Addr} {oc_mc : Value} {od_mc : Option Addr} {sl_mc : Array (Option Value)} (a_mc : PySem.W.findIn K (.ref C) "colour" = some (some (.ref f_mc))) (i_mc : PySem.W.isFn K (.ref f_mc) = true) (l_mc : K.lookup f_mc = some ⟨oc_mc, od_mc, .func (PySem.W.fnOf "colour" "Web.colour" (defArgs sWebColour) (defBody sWebColour) (defScope sWebColour) .none kV_mc dc_mc pm_mc an_mc cd_mc ct_mc), sl_mc⟩) (c_mc : PySem.W.codeIn K cd_mc "Web.colour" = true) (k_mc : PySem.W.keepIn K (.ref f_mc) = true)
    {f_mt : Addr} {kV_mt dc_mt pm_mt cd_mt ct_mt : Value} {an_mt : Option Addr} {oc_mt : Value} {od_mt : Option Addr} {sl_mt : Array (Option Value)} (a_mt : PySem.W.findIn K (.ref C) "ties" = some (some (.ref f_mt))) (i_mt : PySem.W.isFn K (.ref f_mt) = true) (l_mt : K.lookup f_mt = some ⟨oc_mt, od_mt, .func (PySem.W.fnOf "ties" "Web.ties" (defArgs sWebTies) (defBody sWebTies) (defScope sWebTies) .none kV_mt dc_mt pm_mt an_mt cd_mt ct_mt), sl_mt⟩) (c_mt : PySem.W.codeIn K cd_mt "Web.ties" = true) (k_mt : PySem.W.keepIn K (.ref f_mt) = true)
    {f_mq : Addr} {kV_mq dc_mq pm_mq cd_mq ct_mq : Value} {an_mq : Option Addr} {oc_mq : Value} {od_mq : Option Addr} {sl_mq : Array (Option Value)} (a_mq : PySem.W.findIn K (.ref C) "kinds" = some (some (.ref f_mq))) (i_mq : PySem.W.isFn K (.ref f_mq) = true) (l_mq : K.lookup f_mq = some ⟨oc_mq, od_mq, .func (PySem.W.fnOf "kinds" "Web.kinds" (defArgs sWebKinds) (defBody sWebKinds) (defScope sWebKinds) .none kV_mq dc_mq pm_mq an_mq cd_mq ct_mq), sl_mq⟩) (c_mq : PySem.W.codeIn K cd_mq "Web.kinds" = true) (k_mq : PySem.W.keepIn K (.ref f_mq) = true)
    {f_mh : Addr} {kV_mh dc_mh pm_mh cd_mh ct_mh : Value} {an_mh : Option Addr} {oc_mh : Value} {od_mh : Option Addr} {sl_mh : Array (Option Value)} (a_mh : PySem.W.findIn K (.ref C) "__contains__" = some (some (.ref f_mh))) (i_mh : PySem.W.isFn K (.ref f_mh) = true) (l_mh : K.lookup f_mh = some ⟨oc_mh, od_mh, .func (PySem.W.fnOf "__contains__" "Web.__contains__" (defArgs sWebHas) (defBody sWebHas) (defScope sWebHas) .none kV_mh dc_mh pm_mh an_mh cd_mh ct_mh), sl_mh⟩) (c_mh : PySem.W.codeIn K cd_mh "Web.__contains__" = true) (k_mh : PySem.W.keepIn K (.ref f_mh) = true)
    {kV_la dc_la pm_la ct_la : Value} {an_la : Option Addr} {oc_la : Value} {od_la : Option Addr} {sl_la : Array (Option Value)} {f_la : Addr} (a_la : PySem.W.nsIn K mainGlobals "law" = some (some (.ref f_la))) (l_la : K.lookup f_la = some ⟨oc_la, od_la, .func (PySem.W.fnOf "law" "law" (defArgs sLaw) (defBody sLaw) (defScope sLaw) .none kV_la dc_la pm_la an_la (.ref c) ct_la), sl_la⟩) (c_la : PySem.W.codeIn K (.ref c) "law" = true) (k_la : PySem.W.keepIn K (.ref f_la) = true)
    {dd_c : Option Addr} {vs_c : Array Value} {sl_c : Array (Option Value)} (l_c : K.lookup c = some ⟨.type "code", dd_c, .fields vs_c, sl_c⟩) (v_11 : vs_c[11]? = some (.ref PT)) (hd_c : hdV vs_c c PT = true) (n_t : K.lookup PT = none)
    {f_Ui cdaU ccU : Addr} {kV_Ui dc_Ui pm_Ui ct_Ui : Value} {an_Ui : Option Addr} {oc_Ui : Value} {od_Ui : Option Addr} {sl_Ui : Array (Option Value)} (a_Ui : PySem.W.findIn K (.ref CU) "__init__" = some (some (.ref f_Ui))) (t_Ui : PySem.W.typeIn K (.ref f_Ui) = some (.type "function"))
    (l_Ui : K.lookup f_Ui = some ⟨oc_Ui, od_Ui, .func (PySem.W.ksFn "__init__" "UnknownName.__init__" (defArgs sUnknownInit) (defBody sUnknownInit) (defScope sUnknownInit) .none kV_Ui dc_Ui pm_Ui an_Ui (.ref cdaU) ct_Ui ccU), sl_Ui⟩) (c_Ui : PySem.W.codeIn K (.ref cdaU) "UnknownName.__init__" = true)
    {cclU : Value} {cddU : Option Addr} {vs_U : Array Value} {ccsU : Array (Option Value)} (l_Ub : K.lookup cdaU = some ⟨cclU, cddU, .fields vs_U, ccsU⟩) {fileU : Str} {tfU : Tok} (v_U : vs_U[2]? = some (.str fileU tfU)) (fi_U : ((l.prog.main.file : Str) == fileU) = true)
    {clU : Value} {cldU : Option Addr} {cslU : Array (Option Value)} (l_Ucc : K.lookup ccU = some ⟨clU, cldU, .cell (some (.ref CU)), cslU⟩) {cdU : PySem.ClassData} (d_U : PySem.W.clsIn K CU = some cdU) (m_U : PySem.W.mroIn K CU (.ref CU) = some true) (sV_U : PySem.W.subIn K (.ref CU) (.type "LookupError") = some true)
    (su_U : PySem.W.ks_superIn K CU CU "__init__" = some (some (.builtin "LookupError.__init__")))
    {nm_U q_U : Str} {N_U : Addr} {bs_U : List Value} {bm_U : List Value} {sn_U sub_U ab_U col_U dd_U k0_U k1_U k2_U k3_U k5_U : _} (l_U : K.lookup CU = some (excClassObj nm_U q_U CU N_U bs_U bm_U true sn_U sub_U ab_U col_U dd_U k0_U k1_U k2_U k3_U k5_U "LookupError.__new__")) (r_U : leB bm_U = true)
    (sa_U : PySem.W.findIn K (.ref CU) "__setattr__" = some (some (.builtin "object.__setattr__"))) (ex_U : PySem.W.subIn K (.ref CU) (.type "BaseException") = some true) (ty_U : PySem.W.typeIn K (.ref CU) = some (.type "type")) (kp_U : PySem.W.keepIn K (.ref CU) = true) (sb_U : PySem.W.subIn K (.ref CU) (.ref CU) = some true)
    (ga_U : PySem.W.findIn K (.ref CU) "__getattribute__" = some (some (.builtin "BaseException.__getattribute__"))) (gg_U : PySem.W.findIn K (.ref CU) "__getattr__" = some none) (hd_U : PySem.W.hasDictIn K CU = true) (nu_U : PySem.W.findIn K (.ref CU) "name" = some none) (z_U : PySem.W.nsIn K mainGlobals "UnknownName" = some (some (.ref CU)))
    (opq : PySem.W.nsIn K PySem.cStatics "thirdparty.any" = some none) (top_s : (l.prog.main.scope.names.lookup ("super" : Str)).isSome = false)
    (z_len : PySem.W.nsIn K mainGlobals "len" = some none)
    (z_int : PySem.W.nsIn K mainGlobals "int" = some none)
    (z_list : PySem.W.nsIn K mainGlobals "list" = some none)
    (z_range : PySem.W.nsIn K mainGlobals "range" = some none)
    (z_abs : PySem.W.nsIn K mainGlobals "abs" = some none)
    (z_sorted : PySem.W.nsIn K mainGlobals "sorted" = some none)
    (z_dict : PySem.W.nsIn K mainGlobals "dict" = some none)
    (z_enumerate : PySem.W.nsIn K mainGlobals "enumerate" = some none)
    (z_str : PySem.W.nsIn K mainGlobals "str" = some none)
    (z_max : PySem.W.nsIn K mainGlobals "max" = some none)
    (z_min : PySem.W.nsIn K mainGlobals "min" = some none)
    (z_set : PySem.W.nsIn K mainGlobals "set" = some none)
    (z_sum : PySem.W.nsIn K mainGlobals "sum" = some none)
    (z_zip : PySem.W.nsIn K mainGlobals "zip" = some none)
    (z_isinstance : PySem.W.nsIn K mainGlobals "isinstance" = some none)
    (z_all : PySem.W.nsIn K mainGlobals "all" = some none)
    (z_bool : PySem.W.nsIn K mainGlobals "bool" = some none)
    (z_tuple : PySem.W.nsIn K mainGlobals "tuple" = some none)
    (z_repr : PySem.W.nsIn K mainGlobals "repr" = some none)
    (z_super : PySem.W.nsIn K mainGlobals "super" = some none)
    {tl td : Tok} (z_letters : PySem.W.nsIn K mainGlobals "LETTERS" = some (some (.str "abcdefghijklmnopqrstuvwxyz" tl))) (z_digits : PySem.W.nsIn K mainGlobals "DIGITS" = some (some (.str "0123456789" td)))
    (z_C : PySem.W.nsIn K mainGlobals "Web" = some (some (.ref C))) (pg : PySem.W.plainGet K C Str.empty = true) (hd : PySem.W.hasDictIn K C = true) (po : PySem.W.plainOver K C = true) (sa : PySem.W.findIn K (.ref C) "__setattr__" = some (some (.builtin "object.__setattr__"))) (mk : PySem.W.makesIn K C = true) (kc : PySem.W.keepIn K (.ref C) = true)
    (nCo : PySem.W.findIn K (.ref C) "_colour_of" = some none) (nNa : PySem.W.findIn K (.ref C) "_names" = some none) (nTi : PySem.W.findIn K (.ref C) "_ties" = some none) (nWi : PySem.W.findIn K (.ref C) "_width_of" = some none) :
    LawAtG l w K CX0 63 "_law_script" mg fa h := by
  have e := hfa.symm.trans (PySem.W.mg_of X G a_la)
  cases e
  have none_ := fun {x : Str} (z : PySem.W.nsIn K mainGlobals x = some none) => PySem.W.mg_none_of X G z
  have TA : TxtA mg := ⟨none_ z_len, none_ z_int⟩
  have TB : TxtB mg := ⟨TA, none_ z_list, none_ z_range, none_ z_abs⟩
  have TC : TxtC mg := ⟨TB, none_ z_sorted⟩
  have TD : TxtD mg := ⟨TC, none_ z_dict, none_ z_enumerate, none_ z_str⟩
  have TE : TxtE mg := ⟨TD, none_ z_max, none_ z_min, none_ z_set, none_ z_sum⟩
  have TF : TxtF mg := ⟨TE, none_ z_zip⟩
  have TG : TxtG mg := ⟨TF, none_ z_isinstance, none_ z_all, none_ z_bool, ⟨tl, PySem.W.mg_of X G z_letters⟩, ⟨td, PySem.W.mg_of X G z_digits⟩⟩
  have TH : TxtH mg := ⟨TG, none_ z_tuple⟩
  have TW : TxtW K mg C := ⟨TH, ⟨pg, hd, po, sa⟩, nCo, nNa, nTi, nWi⟩
  have TM : TxtM K mg C f_mi := ⟨TW, PySem.W.mg_of X G z_C, ⟨mk, a_mi, i_mi, kc⟩⟩
  have TKe : TxtKe mg := ⟨none_ z_isinstance, none_ z_list, none_ z_tuple, none_ z_dict⟩
  have XU : XfC K CU := ⟨ga_U, gg_U, ex_U, hd_U⟩
  have mU := PySem.W.mg_of X G z_U
  have OU : OexL K CU := ⟨⟨_, _, _, _, _, _, _, _, _, _, _, _, _, _, _, l_U, le_of _ r_U⟩, sa_U, ex_U, ty_U, kp_U⟩
  have SU : SupL l.prog K CU f_Ui cdaU ccU _ "UnknownName.__init__" sUnknownInit "self" := ⟨OU, ⟨_, _, _, _, _, _, _, _, rfl, l_Ui⟩, ⟨_, rfl, rfl⟩, ⟨_, _, _, _, _, _, l_Ub, v_U, fi_U⟩, c_Ui, ⟨_, _, _, l_Ucc⟩, ⟨_, d_U⟩, m_U, sV_U, su_U, opq, top_s⟩
  have F_isw := fun_mk (st := sIsWord) l_isw c_isw k_isw
  have b_isw := F_isw.binds (ps := ["value"]) fun _ _ _ _ _ _ us hl => match us, hl with | [_], _ => rfl
  have m_isw := PySem.W.mg_of X G a_isw
  have F_isi := fun_mk (st := sIsInteger) l_isi c_isi k_isi
  have b_isi := F_isi.binds (ps := ["value"]) fun _ _ _ _ _ _ us hl => match us, hl with | [_], _ => rfl
  have m_isi := PySem.W.mg_of X G a_isi
  have F_isn := fun_mk (st := sIsNumber) l_isn c_isn k_isn
  have b_isn := F_isn.binds (ps := ["value", "least"]) fun _ _ _ _ _ _ us hl => match us, hl with | [_, _], _ => rfl
  have m_isn := PySem.W.mg_of X G a_isn
  have F_ke := fun_mk (st := sKept) l_ke c_ke k_ke
  have b_ke := F_ke.binds (ps := ["value"]) fun _ _ _ _ _ _ us hl => match us, hl with | [_], _ => rfl
  have m_ke := PySem.W.mg_of X G a_ke
  have F_le := fun_mk (st := sLeading) l_le c_le k_le
  have b_le := F_le.binds (ps := ["value"]) fun _ _ _ _ _ _ us hl => match us, hl with | [_], _ => rfl
  have m_le := PySem.W.mg_of X G a_le
  have F_jn := fun_mk (st := sJudgeNames) l_jn c_jn k_jn
  have b_jn := F_jn.binds (ps := ["over", "web", "value"]) fun _ _ _ _ _ _ us hl => match us, hl with | [_, _, _], _ => rfl
  have m_jn := PySem.W.mg_of X G a_jn
  have F_we := fun_mk (st := sWidthsByEnd) l_we c_we k_we
  have b_we := F_we.binds (ps := ["web", "led"]) fun _ _ _ _ _ _ us hl => match us, hl with | [_, _], _ => rfl
  have m_we := PySem.W.mg_of X G a_we
  have F_jw := fun_mk (st := sJudgeWidths) l_jw c_jw k_jw
  have b_jw := F_jw.binds (ps := ["over", "web", "folding"]) fun _ _ _ _ _ _ us hl => match us, hl with | [_, _, _], _ => rfl
  have m_jw := PySem.W.mg_of X G a_jw
  have F_jf := fun_mk (st := sJudgeFolding) l_jf c_jf k_jf
  have b_jf := F_jf.binds (ps := ["over", "web", "value"]) fun _ _ _ _ _ _ us hl => match us, hl with | [_, _, _], _ => rfl
  have m_jf := PySem.W.mg_of X G a_jf
  have F_po := fun_mk (st := sPlacesOver) l_po c_po k_po
  have b_po := F_po.binds (ps := ["over", "web", "folding"]) fun _ _ _ _ _ _ us hl => match us, hl with | [_, _, _], _ => rfl
  have m_po := PySem.W.mg_of X G a_po
  have F_be := fun_mk (st := sBehind) l_be c_be k_be
  have b_be := F_be.binds (ps := ["first", "last"]) fun _ _ _ _ _ _ us hl => match us, hl with | [_, _], _ => rfl
  have m_be := PySem.W.mg_of X G a_be
  have F_nw := fun_mk (st := sNeedWord) l_nw c_nw k_nw
  have b_nw := F_nw.binds (ps := ["value"]) fun _ _ _ _ _ _ us hl => match us, hl with | [_], _ => rfl
  have m_nw := PySem.W.mg_of X G a_nw
  have F_no := fun_mk (st := sNeedOnce) l_no c_no k_no
  have b_no := F_no.binds (ps := ["names"]) fun _ _ _ _ _ _ us hl => match us, hl with | [_], _ => rfl
  have m_no := PySem.W.mg_of X G a_no
  have F_np := fun_mk (st := sNeedPlaces) l_np c_np k_np
  have b_np := F_np.binds (ps := ["places"]) fun _ _ _ _ _ _ us hl => match us, hl with | [_], _ => rfl
  have m_np := PySem.W.mg_of X G a_np
  have F_ts := fun_mk (st := sTieSpot) l_ts c_ts k_ts
  have b_ts := F_ts.binds (ps := ["tie", "names"]) fun _ _ _ _ _ _ us hl => match us, hl with | [_, _], _ => rfl
  have m_ts := PySem.W.mg_of X G a_ts
  have F_nt := fun_mk (st := sNeedTies) l_nt c_nt k_nt
  have b_nt := F_nt.binds (ps := ["ties", "names"]) fun _ _ _ _ _ _ us hl => match us, hl with | [_, _], _ => rfl
  have m_nt := PySem.W.mg_of X G a_nt
  have F_ot := fun_mk (st := sOrderedTies) l_ot c_ot k_ot
  have b_ot := F_ot.binds (ps := ["ties", "names"]) fun _ _ _ _ _ _ us hl => match us, hl with | [_, _], _ => rfl
  have m_ot := PySem.W.mg_of X G a_ot
  have F_oc := fun_mk (st := sOpenCells) l_oc c_oc k_oc
  have b_oc := F_oc.binds (ps := ["_law_script"]) fun _ _ _ _ _ _ us hl => match us, hl with | [_], _ => rfl
  have m_oc := PySem.W.mg_of X G a_oc
  have F_pk := fun_mk (st := sPick) l_pk c_pk k_pk
  have b_pk := F_pk.binds (ps := ["_law_source", "_law_many"]) fun _ _ _ _ _ _ us hl => match us, hl with | [_, _], _ => rfl
  have m_pk := PySem.W.mg_of X G a_pk
  have F_ao := fun_mk (st := sAnyOrder) l_ao c_ao k_ao
  have b_ao := F_ao.binds (ps := ["_law_source", "_law_items"]) fun _ _ _ _ _ _ us hl => match us, hl with | [_, _], _ => rfl
  have m_ao := PySem.W.mg_of X G a_ao
  have F_ch := fun_mk (st := sChoiceOf) l_ch c_ch k_ch
  have b_ch := F_ch.binds (ps := ["_law_source", "_law_items"]) fun _ _ _ _ _ _ us hl => match us, hl with | [_, _], _ => rfl
  have m_ch := PySem.W.mg_of X G a_ch
  have F_sh := fun_mk (st := sShapePairs) l_sh c_sh k_sh
  have b_sh := F_sh.binds (ps := ["_law_source", "_law_count"]) fun _ _ _ _ _ _ us hl => match us, hl with | [_, _], _ => rfl
  have m_sh := PySem.W.mg_of X G a_sh
  have F_dw := fun_mk (st := sDrawWorld) l_dw c_dw k_dw
  have b_dw := F_dw.binds (ps := ["_law_source", "_law_most"]) fun _ _ _ _ _ _ us hl => match us, hl with | [_, _], _ => rfl
  have m_dw := PySem.W.mg_of X G a_dw
  have F_ma := fun_mk (st := sMade) l_ma c_ma k_ma
  have b_ma := F_ma.binds (ps := ["_law_source", "_law_world"]) fun _ _ _ _ _ _ us hl => match us, hl with | [_, _], _ => rfl
  have m_ma := PySem.W.mg_of X G a_ma
  have F_pa := fun_mk (st := sParts) l_pa c_pa k_pa
  have b_pa := F_pa.binds (ps := ["_law_world"]) fun _ _ _ _ _ _ us hl => match us, hl with | [_], _ => rfl
  have m_pa := PySem.W.mg_of X G a_pa
  have F_se := fun_mk (st := sSeated) l_se c_se k_se
  have b_se := F_se.binds (ps := ["_law_source", "_law_world", "_law_led"]) fun _ _ _ _ _ _ us hl => match us, hl with | [_, _, _], _ => rfl
  have m_se := PySem.W.mg_of X G a_se
  have F_ov := fun_mk (st := sOver) l_ov c_ov k_ov
  have b_ov := F_ov.binds (ps := ["_law_source", "_law_world", "_law_numbers"]) fun _ _ _ _ _ _ us hl => match us, hl with | [_, _, _], _ => rfl
  have m_ov := PySem.W.mg_of X G a_ov
  have F_di := fun_mk (st := sDict) l_di c_di k_di
  have b_di := F_di.binds (ps := ["_law_source", "_law_over_here", "_law_web", "_law_led"]) fun _ _ _ _ _ _ us hl => match us, hl with | [_, _, _, _], _ => rfl
  have m_di := PySem.W.mg_of X G a_di
  have F_ad := fun_mk (st := sAnyDict) l_ad c_ad k_ad
  have b_ad := F_ad.binds (ps := ["_law_source", "_law_told"]) fun _ _ _ _ _ _ us hl => match us, hl with | [_, _], _ => rfl
  have m_ad := PySem.W.mg_of X G a_ad
  have F_ca := fun_mk (st := sCaught) l_ca c_ca k_ca
  have b_ca := F_ca.binds (ps := ["_law_ask"]) fun _ _ _ _ _ _ us hl => match us, hl with | [_], _ => rfl
  have m_ca := PySem.W.mg_of X G a_ca
  have F_lo := fun_mk (st := sLedOn) l_lo c_lo k_lo
  have b_lo := F_lo.binds (ps := ["_law_first", "_law_last"]) fun _ _ _ _ _ _ us hl => match us, hl with | [_, _], _ => rfl
  have m_lo := PySem.W.mg_of X G a_lo
  have F_wd := fun_mk (st := sWordsDict) l_wd c_wd k_wd
  have b_wd := F_wd.binds (ps := ["_law_source", "_law_keys", "_law_values"]) fun _ _ _ _ _ _ us hl => match us, hl with | [_, _, _], _ => rfl
  have m_wd := PySem.W.mg_of X G a_wd
  have F_mi := fun_mk (st := sWebInit) l_mi c_mi k_mi
  have b_mi := F_mi.binds (ps := ["self", "places", "ties"]) fun _ _ _ _ _ _ us hl => match us, hl with | [_, _, _], _ => rfl
  have F_mp := fun_mk (st := sWebPlaces) l_mp c_mp k_mp
  have b_mp := F_mp.binds (ps := ["self"]) fun _ _ _ _ _ _ us hl => match us, hl with | [_], _ => rfl
  have F_mc := fun_mk (st := sWebColour) l_mc c_mc k_mc
  have b_mc := F_mc.binds (ps := ["self", "name"]) fun _ _ _ _ _ _ us hl => match us, hl with | [_, _], _ => rfl
  have F_mt := fun_mk (st := sWebTies) l_mt c_mt k_mt
  have b_mt := F_mt.binds (ps := ["self"]) fun _ _ _ _ _ _ us hl => match us, hl with | [_], _ => rfl
  have F_mq := fun_mk (st := sWebKinds) l_mq c_mq k_mq
  have b_mq := F_mq.binds (ps := ["self"]) fun _ _ _ _ _ _ us hl => match us, hl with | [_], _ => rfl
  have F_mh := fun_mk (st := sWebHas) l_mh c_mh k_mh
  have b_mh := F_mh.binds (ps := ["self", "name"]) fun _ _ _ _ _ _ us hl => match us, hl with | [_, _], _ => rfl
  have F_la := fun_mk (st := sLaw) l_la c_la k_la
  have b_Ui : Binds K (PySem.W.ksFn "__init__" "UnknownName.__init__" (defArgs sUnknownInit) (defBody sUnknownInit) (defScope sUnknownInit) .none kV_Ui dc_Ui pm_Ui an_Ui (.ref cdaU) ct_Ui ccU) ["self", "name"] [] := .all fun us hl => match us, hl with | [_, _], _ => rfl
  have ht := own c PT _ _ _ _ _ _ l_la rfl rfl l_c v_11
  refine ⟨PySem.W.fnOf "law" "law" (defArgs sLaw) (defBody sLaw) (defScope sLaw) .none kV_la dc_la pm_la an_la (.ref c) ct_la, [(c, PT)], spLaw23 K PT, fun p hp => by rw [List.mem_singleton.mp hp]; exact ht, fun p hp => by rw [List.mem_singleton.mp hp]; exact n_t, fun p hp => by rw [List.mem_singleton.mp hp]; exact PySem.W.codeHd_of_K X (hdV_ok l_c hd_c), (fun s v => .of_eq rfl), fun H a ns hl hT hS => ⟨a, ns, rfl, hS, hl, hT _ (List.mem_singleton.mpr rfl), fun _ => rfl⟩, fun base _ _ tb => ?_⟩
  have TBc := tb _ (List.mem_singleton.mpr rfl)
  have G_pk := def_mk (ok_pick (P := l.prog) (w := w) (base := base) F_pk TA) m_pk k_pk b_pk
  have G_ao := def_mk (ok_any F_ao TB G_pk) m_ao k_ao b_ao
  have G_ch := def_mk (ok_choice F_ch TB G_pk) m_ch k_ch b_ch
  have G_oc := def_mk (ok_open (P := l.prog) (w := w) (base := base) F_oc TB) m_oc k_oc b_oc
  have G_sh := def_mk (ok_shape F_sh TB G_pk) m_sh k_sh b_sh
  have G_dw := def_mk (ok_draw F_dw TB G_pk G_ao G_sh G_ch) m_dw k_dw b_dw
  have G_isw := def_mk (ok_word (P := l.prog) (w := w) (base := base) F_isw TG) m_isw k_isw b_isw
  have G_isi := def_mk (ok_integer (P := l.prog) (w := w) (base := base) F_isi TG) m_isi k_isi b_isi
  have G_isn := def_mk (ok_number F_isn G_isi) m_isn k_isn b_isn
  have G_nw := def_mk (ok_needW F_nw TG G_isw) m_nw k_nw b_nw
  have G_no := def_mk (ok_once (P := l.prog) (w := w) (base := base) F_no TG) m_no k_no b_no
  have G_np := def_mk (ok_needP F_np TG G_nw G_no) m_np k_np b_np
  have G_ts := def_mk (ok_spot F_ts TH G_isw G_isn) m_ts k_ts b_ts
  have G_nt := def_mk (ok_needT F_nt TH G_ts) m_nt k_nt b_nt
  have G_ot := def_mk (ok_ord (P := l.prog) (w := w) (base := base) F_ot TH) m_ot k_ot b_ot
  have O_mi := ok_webI F_mi TW G_np G_nt G_ot
  have Q_mp : MethD l.prog w K mg base C "places" ["self"] 1 (spPlaces C) := ⟨f_mp, _, ok_places F_mp TW, ⟨a_mp, i_mp, k_mp⟩, b_mp⟩
  have Q_mh : MethD l.prog w K mg base C "__contains__" ["self", "name"] 1 (spHas C) := ⟨f_mh, _, ok_has F_mh TW, ⟨a_mh, i_mh, k_mh⟩, b_mh⟩
  have Q_mc : MethD l.prog w K mg base C "colour" ["self", "name"] 2 (spColour C) := ⟨f_mc, _, ok_colour F_mc TW Q_mh, ⟨a_mc, i_mc, k_mc⟩, b_mc⟩
  have Q_mt : MethD l.prog w K mg base C "ties" ["self"] 1 (spTies C) := ⟨f_mt, _, ok_ties F_mt TW, ⟨a_mt, i_mt, k_mt⟩, b_mt⟩
  have Q_mq : MethD l.prog w K mg base C "kinds" ["self"] 1 (spKinds C) := ⟨f_mq, _, ok_kinds F_mq TW, ⟨a_mq, i_mq, k_mq⟩, b_mq⟩
  have G_ma := def_mk (ok_made F_ma TM G_pk G_ao O_mi b_mi) m_ma k_ma b_ma
  have G_ke := def_mk (ok_kept (P := l.prog) (w := w) (base := base) F_ke TKe) m_ke k_ke b_ke
  have G_kt := def_mk (ok_keptT F_ke TKe G_ke) m_ke k_ke b_ke
  have TUnk : TxtUnkT l.prog w K mg base CU := ⟨mU, OU, XU, nu_U, ⟨f_Ui, _, a_Ui, t_Ui, ok_unkT SU XU nu_U (none_ z_super) G_kt, b_Ui⟩⟩
  have TL : TxtL23 l.prog w K mg base C f_mi CU := ⟨TM, none_ z_repr, TUnk, exm_is ex_U d_U ty_U sb_U⟩
  have G_pz := def_mk (ok_pickZ (P := l.prog) (w := w) (base := base) F_pk TA) m_pk k_pk b_pk
  have G_pa := def_mk (ok_parts (P := l.prog) (w := w) (base := base) F_pa TC) m_pa k_pa b_pa
  have G_se := def_mk (ok_seat F_se TD G_ao) m_se k_se b_se
  have G_ov := def_mk (ok_over F_ov TD G_pz G_pa G_se) m_ov k_ov b_ov
  have G_ad := def_mk (ok_anyDict F_ad TF G_ao) m_ad k_ad b_ad
  have G_di := def_mk (ok_dict F_di TF G_ad) m_di k_di b_di
  have G_po := def_mk (ok_placesOver F_po TW Q_mp) m_po k_po b_po
  have G_le := def_mk (ok_leading (P := l.prog) (w := w) (base := base) F_le TH) m_le k_le b_le
  have G_jn := def_mk (ok_jn F_jn TW Q_mp Q_mh Q_mc) m_jn k_jn b_jn
  have G_we := def_mk (ok_widthsByEnd F_we TW Q_mp Q_mt) m_we k_we b_we
  have G_jw := def_mk (ok_jw F_jw TW Q_mp Q_mq G_we) m_jw k_jw b_jw
  have G_jf := def_mk (ok_jf F_jf G_le G_jn G_jw) m_jf k_jf b_jf
  have G_wd := def_mk (ok_words F_wd TF G_pk G_ao G_ch) m_wd k_wd b_wd
  have O_be := ok_behind F_be TUnk
  have G_lo : DefQ l.prog w K mg base "_law_led_on" ["_law_first", "_law_last"] 1 spLedOn := ⟨_, _, q_ledOn F_lo TF (none_ z_repr), m_lo, k_lo, b_lo⟩
  refine run_law23 F_la (fun cdv oc od kV doc pm an ct osl lk => ?_) TL TBc F_ca m_ca b_ca G_oc G_pk G_dw G_ov G_di G_ma G_jf G_po G_wd G_lo ⟨_, _, O_be, m_be, k_be, b_be⟩
  rw [l_la] at lk
  cases lk
  rfl
end Nm
set_option autoImplicit true
open PySem PySem.W PyProof.Rows in
set_option maxRecDepth 100000 in
set_option maxHeartbeats 0 in
theorem PySem.Challenge.cw_namelessly_k23_whole_foldings_behind_holds : PySem.Challenge.rw_namelessly_k23_whole_foldings_behind.Holds := by
  w_on; o_law; k_head; (case hw => w_witness2)
  k_fill
  refine Nm.walk_G (l := PySem.Challenge.rw_namelessly_k23_whole_foldings_behind) (n := 63) (x := "_law_script") (CX := fun _ => L2.CX0) rfl (by decide) rfl (by decide +kernel) (fun w h Y => PySem.W.km_in_of Y) ?F (fun _ _ _ _ _ z => z)
  case F =>
    intro w mg fa h _ KX G hmg own
    refine' Nm.all_mk KX G hmg own ?a_isw ?l_isw ?c_isw ?k_isw ?a_isi ?l_isi ?c_isi ?k_isi ?a_isn ?l_isn ?c_isn ?k_isn ?a_ke ?l_ke ?c_ke ?k_ke ?a_le ?l_le ?c_le ?k_le ?a_jn ?l_jn ?c_jn ?k_jn ?a_we ?l_we ?c_we ?k_we ?a_jw ?l_jw ?c_jw ?k_jw ?a_jf ?l_jf ?c_jf ?k_jf ?a_po ?l_po ?c_po ?k_po ?a_be ?l_be ?c_be ?k_be ?a_nw ?l_nw ?c_nw ?k_nw ?a_no ?l_no ?c_no ?k_no ?a_np ?l_np ?c_np ?k_np ?a_ts ?l_ts ?c_ts ?k_ts ?a_nt ?l_nt ?c_nt ?k_nt ?a_ot ?l_ot ?c_ot ?k_ot ?a_oc ?l_oc ?c_oc ?k_oc ?a_pk ?l_pk ?c_pk ?k_pk ?a_ao ?l_ao ?c_ao ?k_ao ?a_ch ?l_ch ?c_ch ?k_ch ?a_sh ?l_sh ?c_sh ?k_sh ?a_dw ?l_dw ?c_dw ?k_dw ?a_ma ?l_ma ?c_ma ?k_ma ?a_pa ?l_pa ?c_pa ?k_pa ?a_se ?l_se ?c_se ?k_se ?a_ov ?l_ov ?c_ov ?k_ov ?a_di ?l_di ?c_di ?k_di ?a_ad ?l_ad ?c_ad ?k_ad ?a_ca ?l_ca ?c_ca ?k_ca ?a_lo ?l_lo ?c_lo ?k_lo ?a_wd ?l_wd ?c_wd ?k_wd ?a_mi ?i_mi ?l_mi ?c_mi ?k_mi ?a_mp ?i_mp ?l_mp ?c_mp ?k_mp ?a_mc ?i_mc ?l_mc ?c_mc ?k_mc ?a_mt ?i_mt ?l_mt ?c_mt ?k_mt ?a_mq ?i_mq ?l_mq ?c_mq ?k_mq ?a_mh ?i_mh ?l_mh ?c_mh ?k_mh ?a_la ?l_la ?c_la ?k_la ?l_c ?v_11 ?hd_c ?n_t ?a_Ui ?t_Ui ?l_Ui ?c_Ui ?l_Ub ?v_U ?fi_U ?l_Ucc ?d_U ?m_U ?sV_U ?su_U ?l_U ?r_U ?sa_U ?ex_U ?ty_U ?kp_U ?sb_U ?ga_U ?gg_U ?hd_U ?nu_U ?z_U ?opq ?top_s ?z_len ?z_int ?z_list ?z_range ?z_abs ?z_sorted ?z_dict ?z_enumerate ?z_str ?z_max ?z_min ?z_set ?z_sum ?z_zip ?z_isinstance ?z_all ?z_bool ?z_tuple ?z_repr ?z_super ?z_letters ?z_digits ?z_C ?pg ?hd ?po ?sa ?mk ?kc ?nCo ?nNa ?nTi ?nWi
    (case z_C => k_is)
    (case z_U => k_is)
    (case a_isw => k_is)
    (case l_isw => k_is)
    (case c_isw => k_is)
    (case k_isw => k_is)
    (case a_isi => k_is)
    (case l_isi => k_is)
    (case c_isi => k_is)
    (case k_isi => k_is)
    (case a_isn => k_is)
    (case l_isn => k_is)
    (case c_isn => k_is)
    (case k_isn => k_is)
    (case a_ke => k_is)
    (case l_ke => k_is)
    (case c_ke => k_is)
    (case k_ke => k_is)
    (case a_le => k_is)
    (case l_le => k_is)
    (case c_le => k_is)
    (case k_le => k_is)
    (case a_jn => k_is)
    (case l_jn => k_is)
    (case c_jn => k_is)
    (case k_jn => k_is)
    (case a_we => k_is)
    (case l_we => k_is)
    (case c_we => k_is)
    (case k_we => k_is)
    (case a_jw => k_is)
    (case l_jw => k_is)
    (case c_jw => k_is)
    (case k_jw => k_is)
    (case a_jf => k_is)
    (case l_jf => k_is)
    (case c_jf => k_is)
    (case k_jf => k_is)
    (case a_po => k_is)
    (case l_po => k_is)
    (case c_po => k_is)
    (case k_po => k_is)
    (case a_be => k_is)
    (case l_be => k_is)
    (case c_be => k_is)
    (case k_be => k_is)
    (case a_nw => k_is)
    (case l_nw => k_is)
    (case c_nw => k_is)
    (case k_nw => k_is)
    (case a_no => k_is)
    (case l_no => k_is)
    (case c_no => k_is)
    (case k_no => k_is)
    (case a_np => k_is)
    (case l_np => k_is)
    (case c_np => k_is)
    (case k_np => k_is)
    (case a_ts => k_is)
    (case l_ts => k_is)
    (case c_ts => k_is)
    (case k_ts => k_is)
    (case a_nt => k_is)
    (case l_nt => k_is)
    (case c_nt => k_is)
    (case k_nt => k_is)
    (case a_ot => k_is)
    (case l_ot => k_is)
    (case c_ot => k_is)
    (case k_ot => k_is)
    (case a_oc => k_is)
    (case l_oc => k_is)
    (case c_oc => k_is)
    (case k_oc => k_is)
    (case a_pk => k_is)
    (case l_pk => k_is)
    (case c_pk => k_is)
    (case k_pk => k_is)
    (case a_ao => k_is)
    (case l_ao => k_is)
    (case c_ao => k_is)
    (case k_ao => k_is)
    (case a_ch => k_is)
    (case l_ch => k_is)
    (case c_ch => k_is)
    (case k_ch => k_is)
    (case a_sh => k_is)
    (case l_sh => k_is)
    (case c_sh => k_is)
    (case k_sh => k_is)
    (case a_dw => k_is)
    (case l_dw => k_is)
    (case c_dw => k_is)
    (case k_dw => k_is)
    (case a_ma => k_is)
    (case l_ma => k_is)
    (case c_ma => k_is)
    (case k_ma => k_is)
    (case a_pa => k_is)
    (case l_pa => k_is)
    (case c_pa => k_is)
    (case k_pa => k_is)
    (case a_se => k_is)
    (case l_se => k_is)
    (case c_se => k_is)
    (case k_se => k_is)
    (case a_ov => k_is)
    (case l_ov => k_is)
    (case c_ov => k_is)
    (case k_ov => k_is)
    (case a_di => k_is)
    (case l_di => k_is)
    (case c_di => k_is)
    (case k_di => k_is)
    (case a_ad => k_is)
    (case l_ad => k_is)
    (case c_ad => k_is)
    (case k_ad => k_is)
    (case a_ca => k_is)
    (case l_ca => k_is)
    (case c_ca => k_is)
    (case k_ca => k_is)
    (case a_lo => k_is)
    (case l_lo => k_is)
    (case c_lo => k_is)
    (case k_lo => k_is)
    (case a_wd => k_is)
    (case l_wd => k_is)
    (case c_wd => k_is)
    (case k_wd => k_is)
    (case a_mi => k_is)
    (case i_mi => k_is)
    (case l_mi => k_is)
    (case c_mi => k_is)
    (case k_mi => k_is)
    (case a_mp => k_is)
    (case i_mp => k_is)
    (case l_mp => k_is)
    (case c_mp => k_is)
    (case k_mp => k_is)
    (case a_mc => k_is)
    (case i_mc => k_is)
    (case l_mc => k_is)
    (case c_mc => k_is)
    (case k_mc => k_is)
    (case a_mt => k_is)
    (case i_mt => k_is)
    (case l_mt => k_is)
    (case c_mt => k_is)
    (case k_mt => k_is)
    (case a_mq => k_is)
    (case i_mq => k_is)
    (case l_mq => k_is)
    (case c_mq => k_is)
    (case k_mq => k_is)
    (case a_mh => k_is)
    (case i_mh => k_is)
    (case l_mh => k_is)
    (case c_mh => k_is)
    (case k_mh => k_is)
    (case a_la => k_is)
    (case l_la => k_is)
    (case c_la => k_is)
    (case k_la => k_is)
    (case l_c => k_is)
    (case v_11 => rfl)
    (case hd_c => rfl)
    (case n_t => kernel_rfl)
    (case a_Ui => k_is)
    (case t_Ui => k_is)
    (case l_Ui => k_is)
    (case c_Ui => k_is)
    (case l_Ub => k_is)
    (case v_U => rfl)
    (case fi_U => decide +kernel)
    (case l_Ucc => k_is)
    (case d_U => k_is)
    (case m_U => k_is)
    (case sV_U => k_is)
    (case su_U => ks_is)
    (case l_U => k_is)
    (case r_U => decide +kernel)
    (case sa_U => k_is)
    (case ex_U => k_is)
    (case ty_U => k_is)
    (case kp_U => k_is)
    (case sb_U => k_is)
    (case ga_U => k_is)
    (case gg_U => k_is)
    (case hd_U => k_is)
    (case nu_U => k_is)
    (case opq => k_is)
    (case top_s => decide +kernel)
    (case z_len => k_is)
    (case z_int => k_is)
    (case z_list => k_is)
    (case z_range => k_is)
    (case z_abs => k_is)
    (case z_sorted => k_is)
    (case z_dict => k_is)
    (case z_enumerate => k_is)
    (case z_str => k_is)
    (case z_max => k_is)
    (case z_min => k_is)
    (case z_set => k_is)
    (case z_sum => k_is)
    (case z_zip => k_is)
    (case z_isinstance => k_is)
    (case z_all => k_is)
    (case z_bool => k_is)
    (case z_tuple => k_is)
    (case z_repr => k_is)
    (case z_super => k_is)
    (case z_letters => k_is)
    (case z_digits => k_is)
    (case pg => k_is)
    (case hd => k_is)
    (case po => k_is)
    (case sa => k_is)
    (case mk => k_is)
    (case kc => k_is)
    (case nCo => k_is)
    (case nNa => k_is)
    (case nTi => k_is)
    (case nWi => k_is)
