import PyProof.Rows.All
import Wide.All
import OpenK.AllK
import Wide.FinOn
import HandS.ForMost
import PySem.Challenge.RW_namelessly_k27_whole_ways_products
import HandS.Evl
import HandS.Style
import HandS.StrMore
import HandS.Sort
import HandS.SortRule
import HandS.Walk
import HandS.Conv
import HandS.Zip
import HandS.IsInst
import HandS.SetKeys
import HandS.DictComp
import OpenK.KOps
import KE.KDictZip
import PyProof.ListNew
import HandS.TupSets
import HandS.ExcInit
import HandS.ExcField
import HandS.FStr
import KE.KExcSuper
import HandS.DeepEq
import KE.KEqDict
import PyProof.CallFns
import PyProof.NeKinds
import PyProof.InstEq
import HandS.OwnEq
import HandS.Codes
import HandS.Zip0
import HandS.TupAny
import HandS.Iter
import PyProof.ExcBaseAll.ValueError
import HandS.Defaults
import PyProof.EqAt
import KE.DataEq
set_option Elab.async false
set_option maxRecDepth 100000
set_option maxHeartbeats 4000000
/-! The text by places -/
namespace Nm
open PySem L2
def top (i : Nat) : Stmt := PySem.Challenge.pw_namelessly_k27_whole_ways_products.main.body.getD i (.Pass ⟨0, 0, 0, 0⟩)
abbrev sIsWord : Stmt := top 4
abbrev sIsInteger : Stmt := top 5
abbrev sIsNumber : Stmt := top 6
abbrev sKept : Stmt := top 7
abbrev sBadNumberInit : Stmt := inClass (top 14) 0
abbrev sUnknownInit : Stmt := inClass (top 16) 0
abbrev sNeedWord : Stmt := top 24
abbrev sNeedOnce : Stmt := top 25
abbrev sNeedPlaces : Stmt := top 26
abbrev sTieSpot : Stmt := top 27
abbrev sNeedTies : Stmt := top 28
abbrev sOrderedTies : Stmt := top 29
abbrev sWebInit : Stmt := inClass (top 30) 0
abbrev sWebPlaces : Stmt := inClass (top 30) 1
abbrev sWebColour : Stmt := inClass (top 30) 2
abbrev sWebTies : Stmt := inClass (top 30) 3
abbrev sWebWidth : Stmt := inClass (top 30) 6
abbrev sWebHas : Stmt := inClass (top 30) 7
abbrev sWebLen : Stmt := inClass (top 30) 8
abbrev sWebEq : Stmt := inClass (top 30) 9
abbrev sNeedTurns : Stmt := top 32
abbrev sTurnedCopies : Stmt := top 33
abbrev sPlacesOver : Stmt := top 18
abbrev sBehind : Stmt := top 19
abbrev sNeedWay : Stmt := top 20
abbrev sWayProduct : Stmt := top 21
abbrev sWaysUp : Stmt := top 22
abbrev sOpenCells : Stmt := top 35
abbrev sPick : Stmt := top 36
abbrev sAnyOrder : Stmt := top 37
abbrev sChoiceOf : Stmt := top 38
abbrev sShapePairs : Stmt := top 39
abbrev sDrawWorld : Stmt := top 40
abbrev sMade : Stmt := top 41
abbrev sLawWidth : Stmt := top 42
abbrev sParts : Stmt := top 43
abbrev sSeated : Stmt := top 44
abbrev sOver : Stmt := top 45
abbrev sDict : Stmt := top 46
abbrev sDrawnWay : Stmt := top 47
abbrev sNamed : Stmt := top 48
abbrev sProduct : Stmt := top 49
abbrev sBoundOver : Stmt := top 50
abbrev sAnyDict : Stmt := top 51
abbrev sLaw : Stmt := top 52
end Nm
set_option maxRecDepth 100000
set_option maxHeartbeats 4000000
namespace Nm
open PySem L2
/-! ### the source of draws -/
def srcD (c : Addr) (left mixed turn : Int) : List (Key × V) :=
  [(Sum.inr "cells", V.ref c), (Sum.inr "left", V.int left), (Sum.inr "mixed", V.int mixed), (Sum.inr "turn", V.int turn)]
structure SrcOk (H : Hp) (s c : Addr) (cs : List Int) (left mixed turn : Int) : Prop where
  ds : H s = some (.dK (srcD c left mixed turn))
  dc : H c = some (.lst (cs.map V.int))
  nn : ∀ x ∈ cs, 0 ≤ x
  len : cs.length ≤ 63
  l0 : 0 ≤ left
  m0 : 0 ≤ mixed
  m1 : mixed < 2147483629
  t0 : 0 ≤ turn
def Src (H : Hp) (s c : Addr) : Prop := ∃ cs left mixed turn, SrcOk H s c cs left mixed turn
/-- all but the source stays -/
def Kp (s c : Addr) (H H' : Hp) : Prop := ∀ b o, H b = some o → b ≠ s → b ≠ c → H' b = some o
theorem Kp.refl {s c : Addr} (H : Hp) : Kp s c H H := fun _ _ h _ _ => h
theorem Kp.trans {s c : Addr} {H H1 H2 : Hp} (a : Kp s c H H1) (b : Kp s c H1 H2) : Kp s c H H2 := fun x o h h1 h2 => b x o (a x o h h1 h2) h1 h2
theorem Kp.same {s c : Addr} {H H1 : Hp} (a : Same H H1) : Kp s c H H1 := fun x o h _ _ => a x o h
theorem Kp.new {s c : Addr} {H H1 : Hp} (a : Kp s c H H1) {p : Addr} {o : HO} (h : H1 p = none) : Kp s c H (upd H1 p o) := fun x u e h1 h2 => by
  have := a x u e h1 h2
  rw [upd_ne (ne_of_none this h)]
  exact this
theorem Src.upd {H : Hp} {s c p : Addr} {o : HO} (S : Src H s c) (h1 : p ≠ s) (h2 : p ≠ c) : Src (upd H p o) s c := by
  obtain ⟨cs, l, m, t, S⟩ := S
  exact ⟨cs, l, m, t, ⟨by rw [upd_ne h1.symm]; exact S.ds, by rw [upd_ne h2.symm]; exact S.dc, S.nn, S.len, S.l0, S.m0, S.m1, S.t0⟩⟩
theorem Src.same {H H' : Hp} {s c : Addr} (S : Src H s c) (e : Same H H') : Src H' s c := by
  obtain ⟨cs, l, m, t, S⟩ := S
  exact ⟨cs, l, m, t, ⟨e _ _ S.ds, e _ _ S.dc, S.nn, S.len, S.l0, S.m0, S.m1, S.t0⟩⟩
theorem Src.ne {H : Hp} {s c p : Addr} (S : Src H s c) (h : H p = none) : p ≠ s ∧ p ≠ c := by
  obtain ⟨cs, l, m, t, S⟩ := S
  exact ⟨(ne_of_none S.ds h).symm, (ne_of_none S.dc h).symm⟩
theorem Src.new {H : Hp} {s c p : Addr} {o : HO} (S : Src H s c) (h : H p = none) : Src (L2.upd H p o) s c := S.upd (S.ne h).1 (S.ne h).2
theorem tyes {σ : St} {H : Hp} {A B : Hp → Prop} (h : A H) : tYes σ H (fun b H3 => if b = true then A H3 else B H3) := by
  show (if true = true then A H else B H)
  rw [if_pos rfl]
  exact h
/-- what is new since H, and stays where only the source changes -/
theorem Kp.off {H H1 : Hp} {s c p : Addr} {o : HO} (a : Kp s c H H1) (h : H p = none) : Kp s c H (L2.upd H1 p o) := fun b u e h1 h2 => by
  rw [upd_ne (ne_of_none e h)]
  exact a b u e h1 h2
theorem Kp.free {H H1 : Hp} {s c p : Addr} (a : Kp s c H H1) (S : Src H1 s c) (h : H1 p = none) : H p = none := by
  cases q : H p with
  | none => rfl
  | some o =>
    obtain ⟨n1, n2⟩ := S.ne h
    rw [a p o q n1 n2] at h
    cases h
theorem same_new {H : Hp} {p : Addr} {o : HO} (h : H p = none) : Same H (upd H p o) := fun x u e => by
  rw [upd_ne (ne_of_none e h)]
  exact e
theorem k1 : ¬ (("cells" : Str) = "left") := by decide +kernel
theorem k2 : ¬ (("cells" : Str) = "mixed") := by decide +kernel
theorem k3 : ¬ (("cells" : Str) = "turn") := by decide +kernel
theorem k4 : ¬ (("left" : Str) = "mixed") := by decide +kernel
theorem k5 : ¬ (("left" : Str) = "turn") := by decide +kernel
theorem k6 : ¬ (("mixed" : Str) = "turn") := by decide +kernel
theorem k4' : ¬ (("mixed" : Str) = "left") := by decide +kernel
theorem k5' : ¬ (("turn" : Str) = "left") := by decide +kernel
section
variable {c : Addr} {l m t : Int}
theorem src_cells : valV (srcD c l m t) (Sum.inr "cells" : Key) = some (.ref c) := valV_pos rfl
theorem inr_ne {x y : Str} (h : ¬ x = y) : ¬ (Sum.inr x : Key) = Sum.inr y := fun e => h (Sum.inr.inj e)
theorem src_left : valV (srcD c l m t) (Sum.inr "left" : Key) = some (.int l) := by
  unfold srcD
  rw [valV_neg (inr_ne k1)]
  exact valV_pos rfl
theorem src_mixed : valV (srcD c l m t) (Sum.inr "mixed" : Key) = some (.int m) := by
  unfold srcD
  rw [valV_neg (inr_ne k2), valV_neg (inr_ne k4)]
  exact valV_pos rfl
theorem src_turn : valV (srcD c l m t) (Sum.inr "turn" : Key) = some (.int t) := by
  unfold srcD
  rw [valV_neg (inr_ne k3), valV_neg (inr_ne k5), valV_neg (inr_ne k6)]
  exact valV_pos rfl
theorem put_left {z : Int} : putK (srcD c l m t) (Sum.inr "left" : Key) (.int z) = srcD c z m t := by
  unfold putK srcD
  simp [k1, k4', k5']
theorem put_turn {z : Int} : putK (srcD c l m t) (Sum.inr "turn" : Key) (.int z) = srcD c l m z := by
  unfold putK srcD
  simp [k3, k5, k6]
theorem src_len : (srcD c l m t).length < sizeLine := by show 4 < sizeLine; decide
end
/-! ### _law_pick -/
def spPick : Sp := fun vs H Q _ => ∃ (s c : Addr) (n : Int), vs = [.ref s, .int n] ∧ Src H s c ∧ 1 ≤ n ∧ n < 1073741824 ∧
  ∀ (k : Int) (H' : Hp), 0 ≤ k → k < n → Src H' s c → Kp s c H H' → Q (.int k) H'
theorem scPick : FnScope ["_law_source", "_law_many", "_law_cells", "_law_left", "_law_turn", "_law_mixed"] ["_law_source", "_law_many"] (defScope sPick) := ⟨rfl, rfl, rfl, by decide +kernel, rfl, by decide +kernel, by decide +kernel⟩
structure TxtA (mg : Str → Option Value) : Prop where
  len : mg "len" = none
  int : mg "int" = none
section
variable {P : Program} {w : World} {K : PySem.W.Frag} {mg : Str → Option Value} {base : Heap}
theorem ok_pick {f : Addr} {fd : FuncData} (F : Fun K "_law_pick" "_law_pick" sPick f fd) (T : TxtA mg) : FnOk P w K mg base CX0 1 f fd ["_law_source", "_law_many"] spPick := by
  refine F.ok scPick (fun vs H Q E h => ?_) (fun cdv A outer s H vs Q E hr h => ?_)
  · obtain ⟨p, dx, n, rfl, _⟩ := h
    rfl
  · obtain ⟨sa, ca, n, rfl, ⟨cs, l, m, t, S⟩, n1, n2, k⟩ := h
    have hu := hu_of hr
    refine ⟨_, pss_cons (ps_if (pt_cmpR op_lt (pv 1) pe_int (nomark _)) (pss_one (ps_ret pe_int)) pss_nil)
      (pss_cons (ps_set (i := 2) scPick.nd rfl (Or.inl rfl) (pe_dget hu (pv 0) pe_str (fun _ _ => rfl)))
      (Evl.pss_cut (ps_while PassesOwn.never (PW.pt (pw_and (pt_cmpR op_lt (pe_dget hu (pv 0) pe_str (fun _ _ => rfl)) pe_int (nomark _)) (pw_and1 (pt_cmpR op_gt (pe_callB call_len_seq (by rfl) T.len PySem.boot_len (pa_cons (pv 2) pa_nil)) pe_int (nomark _)))))
        (pss_one (ps_dput hu (pv 0) pe_str (pe_bm0 PySem.F.plainAttrs_list PySem.F.slot_list_pop PySem.F.type_list_pop mt_pop (pv 2)) rfl)))
      (pss_cons (ps_set (i := 3) scPick.nd rfl (Or.inl rfl) (pe_dget hu (pv 0) pe_str (fun _ _ => rfl)))
      (pss_cons (ps_if (pt_cmpR op_gt (pv 3) pe_int (nomark _))
        (pss_cons (ps_dput hu (pv 0) pe_str (pe_op op_fdiv (pv 3) (pv 1)) rfl) (pss_one (ps_ret (pe_op op_mod (pe_callTy call_int1 (by rfl) T.int (by decide +kernel) (pa_cons (pv 3) pa_nil)) (pv 1))))) pss_nil)
      (pss_cons (ps_dput hu (pv 0) pe_str (pe_op op_add (pe_dget hu (pv 0) pe_str (fun _ _ => rfl)) pe_int) rfl)
      (pss_cons (ps_set (i := 4) scPick.nd rfl (Or.inl rfl) (pe_dget hu (pv 0) pe_str (fun _ _ => rfl)))
      (pss_cons (ps_set (i := 5) scPick.nd rfl (Or.inl rfl) (pe_op op_mod (pe_callTy call_int1 (by rfl) T.int (by decide +kernel) (pa_cons (pe_op op_add (pe_dget hu (pv 0) pe_str (fun _ _ => rfl)) (pe_op op_mul (pv 4) pe_int)) pa_nil)) pe_int))
      (pss_cons (ps_set (i := 5) scPick.nd rfl (Or.inl rfl) (pe_op op_mod (pe_callTy call_int1 (by rfl) T.int (by decide +kernel) (pa_cons (pe_op op_add (pe_op op_mul (pv 5) (pv 5)) (pe_op op_mul (pv 4) pe_int)) pa_nil)) pe_int))
      (pss_one (ps_ret (pe_op op_mod (pe_callTy call_int1 (by rfl) T.int (by decide +kernel) (pa_cons (pe_op op_fdiv (pv 5) pe_int) pa_nil)) (pv 1)))))))))))), ?_⟩
    -- if many < 2: return 0
    refine ⟨_, rfl, _, _, rfl, rfl, _, rfl, ?_⟩
    refine ite2 (fun h1 => k 0 H (by omega) (by omega) ⟨cs, l, m, t, S⟩ (Kp.refl H)) (fun h1 => ?_)
    have hn2 : 2 ≤ n := by
      have := of_decide_eq_false (Bool.eq_false_iff.mpr h1)
      omega
    have hsc : sa ≠ ca := ne_of S.ds S.dc (by intro z; cases z)
    -- cells
    refine ⟨_, rfl, sa, _, rfl, (by rw [← src_cells (l := l) (m := m) (t := t)]; exact DGet.k (k := Sum.inr "cells") S.ds), ?_⟩
    -- while
    refine ⟨fun σ H' => ∃ cs' l', σ = [some (.ref sa), some (.int n), some (.ref ca), none, none, none] ∧ SrcOk H' sa ca cs' l' m t ∧ Kp sa ca H H', ?_, ?_⟩
    · refine ⟨fun mm σ H' => ∃ cs' l', mm = cs'.length ∧ σ = [some (.ref sa), some (.int n), some (.ref ca), none, none, none] ∧ SrcOk H' sa ca cs' l' m t ∧ Kp sa ca H H', ⟨_, cs, l, rfl, rfl, S, Kp.refl H⟩, ?_⟩
      rintro mm σ H1 ⟨cs', l', rfl, rfl, S1, kp⟩
      have dl : DGet H1 sa (V.str "left") (some (.int l')) := by rw [← src_left (c := ca) (m := m) (t := t)]; exact DGet.k (k := Sum.inr "left") S1.ds
      refine ⟨_, rfl, sa, _, rfl, dl, _, _, rfl, rfl, _, rfl, ?_⟩
      refine ite2 (fun hl => ?_) (fun hl => iteF ⟨cs', l', rfl, S1, kp⟩)
      refine ⟨_, rfl, ca, _, rfl, .inl (SqL.of S1.dc), _, _, rfl, rfl, _, rfl, ?_⟩
      refine ite2 (fun hc => ?_) (fun hc => ⟨cs', l', rfl, S1, kp⟩)
      have hc' : 0 < cs'.length := by
        have := of_decide_eq_true hc
        rw [List.length_map] at this
        omega
      obtain ⟨y, hy⟩ : ∃ y, cs'[cs'.length - 1]? = some y := ⟨_, List.getElem?_eq_getElem (by omega)⟩
      have hym : y ∈ cs' := List.mem_of_getElem? hy
      refine ⟨fun σ H' => ∃ cs2 l2, cs2.length < cs'.length ∧ σ = [some (.ref sa), some (.int n), some (.ref ca), none, none, none] ∧ SrcOk H' sa ca cs2 l2 m t ∧ Kp sa ca H H', fun σ' H' ⟨cs2, l2, a1, a2, a3, a4⟩ => ⟨_, a1, cs2, l2, rfl, a2, a3, a4⟩, ?_⟩
      refine ⟨_, rfl, .inl ⟨rfl, _, SqL.of S1.dc⟩, ca, _, .int y, rfl, rfl, S1.dc, (by rw [List.length_map, List.getElem?_map, hy]; rfl), ?_⟩
      have ds2 : (upd H1 ca (.lst (cs'.map V.int).dropLast)) sa = some (.dK (srcD ca l' m t)) := by rw [upd_ne hsc]; exact S1.ds
      refine ⟨_, rfl, sa, _, rfl, DPut.k (k := Sum.inr "left") ds2 src_len, ?_⟩
      refine ⟨cs'.dropLast, y, (by rw [List.length_dropLast]; omega), rfl, ⟨by rw [upd_same, put_left], by rw [upd_ne hsc.symm, upd_same, List.map_dropLast], fun x hx => S1.nn x ((List.dropLast_sublist cs').subset hx), (by rw [List.length_dropLast]; have := S1.len; omega), S1.nn y hym, S1.m0, S1.m1, S1.t0⟩, fun b o e h1 h2 => ?_⟩
      rw [upd_ne h1, upd_ne h2]
      exact kp b o e h1 h2
    rintro σ H1 ⟨cs', l', rfl, S1, kp⟩
    have dl : DGet H1 sa (V.str "left") (some (.int l')) := by rw [← src_left (c := ca) (m := m) (t := t)]; exact DGet.k (k := Sum.inr "left") S1.ds
    refine ⟨_, rfl, sa, _, rfl, dl, ?_⟩
    refine ⟨_, rfl, _, _, rfl, rfl, _, rfl, ?_⟩
    refine ite2 (fun h2 => ?_) (fun h2 => ?_)
    · -- left // many
      have hl2 : 1 < l' := of_decide_eq_true h2
      refine ⟨_, rfl, _, rfl, _, _, rfl, rfl, ⟨by omega, by omega⟩, _, rfl, sa, _, rfl, DPut.k (k := Sum.inr "left") S1.ds src_len, ?_⟩
      refine ⟨_, rfl, .inl ⟨_, rfl, _, rfl, _, _, rfl, rfl, by omega, ?_⟩⟩
      refine k _ _ (Int.emod_nonneg _ (by omega)) (Int.emod_lt_of_pos _ (by omega)) ⟨cs', l' / n, m, t, ⟨by rw [upd_same, put_left], by rw [upd_ne hsc.symm]; exact S1.dc, S1.nn, S1.len, Int.ediv_nonneg (by omega) (by omega), S1.m0, S1.m1, S1.t0⟩⟩ fun b o e h1 h2 => ?_
      rw [upd_ne h1]
      exact kp b o e h1 h2
    · have dt : DGet H1 sa (V.str "turn") (some (.int t)) := by rw [← src_turn (c := ca) (m := m) (l := l')]; exact DGet.k (k := Sum.inr "turn") S1.ds
      refine ⟨_, rfl, sa, _, rfl, dt, _, _, rfl, rfl, _, rfl, sa, _, rfl, DPut.k (k := Sum.inr "turn") S1.ds src_len, ?_⟩
      rw [put_turn]
      have S2 : SrcOk (upd H1 sa (.dK (srcD ca l' m (t + 1)))) sa ca cs' l' m (t + 1) := ⟨upd_same, by rw [upd_ne hsc.symm]; exact S1.dc, S1.nn, S1.len, S1.l0, S1.m0, S1.m1, by have := S1.t0; omega⟩
      have dt2 : DGet (upd H1 sa (.dK (srcD ca l' m (t + 1)))) sa (V.str "turn") (some (.int (t + 1))) := by rw [← src_turn (c := ca) (m := m) (l := l')]; exact DGet.k (k := Sum.inr "turn") S2.ds
      have dm2 : DGet (upd H1 sa (.dK (srcD ca l' m (t + 1)))) sa (V.str "mixed") (some (.int m)) := by rw [← src_mixed (c := ca) (t := t + 1) (l := l')]; exact DGet.k (k := Sum.inr "mixed") S2.ds
      refine ⟨_, rfl, sa, _, rfl, dt2, ?_⟩
      have hm2 : 0 ≤ (m + (t + 1) * 104729) % 998244353 := Int.emod_nonneg _ (by decide)
      have hm3 : (m + (t + 1) * 104729) % 998244353 < 998244353 := Int.emod_lt_of_pos _ (by decide)
      refine ⟨_, rfl, sa, _, rfl, dm2, _, rfl, _, _, rfl, rfl, .inr ⟨by decide, by decide⟩, _, _, rfl, rfl, .inl ⟨_, rfl, _, _, rfl, rfl, (by show (0 : Int) < 998244353; decide), ?_⟩⟩
      refine ⟨_, rfl, _, rfl, _, _, rfl, rfl, .inl ⟨by show -(2 ^ 64 : Int) < _; omega, by show _ < (2 ^ 64 : Int); omega⟩, _, rfl, _, _, rfl, rfl, .inr ⟨by decide, by decide⟩, _, _, rfl, rfl, .inl ⟨_, rfl, _, _, rfl, rfl, (by show (0 : Int) < 2147483647; decide), ?_⟩⟩
      refine ⟨_, rfl, _, _, rfl, rfl, ⟨by decide, by decide⟩, .inl ⟨_, rfl, _, rfl, _, _, rfl, rfl, by show 0 < n; omega, ?_⟩⟩
      refine k _ _ (Int.emod_nonneg _ (by omega)) (Int.emod_lt_of_pos _ (by omega)) ⟨cs', l', m, t + 1, S2⟩ fun b o e h1 h2 => ?_
      rw [upd_ne h1]
      exact kp b o e h1 h2
end
end Nm
set_option maxRecDepth 100000
set_option maxHeartbeats 4000000
namespace Nm
open PySem L2
structure TxtB (mg : Str → Option Value) : Prop extends TxtA mg where
  list : mg "list" = none
  range : mg "range" = none
  abs : mg "abs" = none
/-- a def that stands under a name of the module, with its promise -/
structure Def (P : Program) (w : World) (K : PySem.W.Frag) (mg : Str → Option Value) (base : Heap) (x : Str) (ps : List Str) (k : Nat) (sp : Sp) : Prop where
  ex : ∃ f fd, FnOk P w K mg base CX0 k f fd ps sp ∧ mg x = some (.ref f) ∧ PySem.W.keepIn K (.ref f) = true ∧ Binds K fd ps []
section
variable {P : Program} {w : World} {K : PySem.W.Frag} {mg : Str → Option Value} {base : Heap}
theorem erase_perm {α : Type} {y : α} : ∀ {zs : List α} {i : Nat}, zs[i]? = some y → ([y] ++ zs.eraseIdx i).Perm zs
  | z :: zs, 0, h => by
    simp at h
    subst h
    exact List.Perm.refl _
  | z :: zs, i + 1, h => by
    simp at h
    have := erase_perm (zs := zs) (i := i) h
    show (y :: z :: zs.eraseIdx i).Perm (z :: zs)
    exact (List.Perm.swap z y _).trans (this.cons z)
/-! ### _law_any_order -/
def spAny (K : PySem.W.Frag) : Sp := fun vs H Q _ => ∃ (s c a : Addr) (xs : List V), vs = [.ref s, .ref a] ∧ Src H s c ∧ SqL K H a xs ∧ xs.length ≤ 10000 ∧
  ∀ (p : Addr) (ys : List V) (H' : Hp), H p = none → ys.Perm xs → H' p = some (.lst ys) → Src H' s c → Kp s c H H' → Q (.ref p) H'
theorem scAny : FnScope ["_law_source", "_law_items", "_law_rest", "_law_lap"] ["_law_source", "_law_items"] (defScope sAnyOrder) := ⟨rfl, rfl, rfl, by decide +kernel, rfl, by decide +kernel, by decide +kernel⟩
theorem ok_any {f : Addr} {fd : FuncData} (F : Fun K "_law_any_order" "_law_any_order" sAnyOrder f fd) (T : TxtB mg) (Gp : Def P w K mg base "_law_pick" ["_law_source", "_law_many"] 1 spPick) : FnOk P w K mg base CX0 2 f fd ["_law_source", "_law_items"] (spAny K) := by
  obtain ⟨fp, fdp, Gp, mp, kp, bp⟩ := Gp.ex
  refine F.ok scAny (fun vs H Q E h => ?_) (fun cdv A outer s H vs Q E hr h => ?_)
  · obtain ⟨p, dx, n, xs, rfl, _⟩ := h
    rfl
  · obtain ⟨sa, ca, ia, xs, rfl, S, hx, hl, k⟩ := h
    have hu := hu_of hr
    refine ⟨_, pss_cons (ps_set (i := 2) scAny.nd rfl (Or.inr rfl) (pe_callTy call_list_of (by rfl) T.list (by decide +kernel) (pa_cons (pv 1) pa_nil)))
      (pss_one (ps_ret (pe_lc (own := [("_law_lap", 3)]) (g := gName 3) (tt := tYes) (te := tBM K "list" rPopAt (tVar 2) (tCons (tCall spPick [] E0 (tCons (tVar 0) (tCons (tCB (Evl.rLenS K) (tCons (tVar 2) tNil)) tNil))) tNil)) rfl scAny.nd (pi_range1 (by rfl) T.range (pa_cons (pe_callB call_len_seq (by rfl) T.len PySem.boot_len (pa_cons (pv 2) pa_nil)) pa_nil))
        (blkOk_by (N := ["_law_source", "_law_items", "_law_rest", "_law_lap"]) (sc := defScope sAnyOrder) (by decide +kernel)) (fun _ _ _ _ _ => pg_name (i := 3) scAny.nd rfl (Or.inl rfl)) (fun _ _ _ _ _ => pts_nil)
        (fun _ _ _ _ _ => by exact pe_bm PySem.F.plainAttrs_list PySem.F.slot_list_pop PySem.F.type_list_pop mt_popAt (pv 2) (pa_cons (pe_call Gp hr (by rfl) mp kp bp .nil pass0 (pa_cons (pv 0) (pa_cons (pe_callB call_len_seq (by rfl) T.len PySem.boot_len (pa_cons (pv 2) pa_nil)) pa_nil))) pa_nil))))), ?_⟩
    refine ⟨_, rfl, ia, _, rfl, .inl hx, fun r hr0 => ?_⟩
    refine ⟨_, rfl, r, _, rfl, .inl (SqL.of upd_same), _, rfl, by omega, by omega, fun D hD => ?_⟩
    have hDr : D ≠ r := fun e => by subst e; rw [upd_same] at hD; cases hD
    have hD0 : H D = none := by rw [upd_ne hDr] at hD; exact hD
    obtain ⟨nrs, nrc⟩ := S.ne hr0
    obtain ⟨nDs, nDc⟩ := S.ne hD0
    refine lc_range (lo := 0) (n := xs.length) (fun i H' => ∃ ys zs, (ys ++ zs).Perm xs ∧ ys.length = i ∧ H' D = some (.lst ys) ∧ H' r = some (.lst zs) ∧ Src H' sa ca ∧ Kp sa ca H H') ?_ ?_ ?_
    · exact ⟨[], xs, List.Perm.refl _, rfl, upd_same, by rw [upd_ne hDr.symm, upd_same], (S.new hr0).upd nDs nDc, ((Kp.refl H).off hr0).off hD0⟩
    · rintro i H1 hi ⟨ys, zs, pm, hyl, hy, hz, S1, kp1⟩
      have hlen : ys.length + zs.length = xs.length := by rw [← List.length_append]; exact pm.length_eq
      refine ⟨rfl, tyes ?_⟩
      refine ⟨_, rfl, .inl ⟨rfl, _, SqL.of hz⟩, _, rfl, _, rfl, r, _, rfl, .inl (SqL.of hz), sa, ca, _, rfl, S1, by omega, by omega, fun kk H2 k0 k1 S2 kp2 => ?_⟩
      have hz2 := kp2 _ _ hz nrs nrc
      have hy2 := kp2 _ _ hy nDs nDc
      obtain ⟨y, hyy⟩ : ∃ y, zs[kk.toNat]? = some y := ⟨_, List.getElem?_eq_getElem (by omega)⟩
      refine ⟨r, zs, kk, kk.toNat, y, rfl, rfl, hz2, by omega, by omega, ?_, hyy, ?_⟩
      · exact seqIndex_of k0 k1
      · refine ⟨ys, by rw [upd_ne hDr]; exact hy2, Evl.sz_lt (by omega), ys ++ [y], zs.eraseIdx kk.toNat, ?_, by simp; omega, upd_same, by rw [upd_ne hDr.symm, upd_same], ?_, ?_⟩
        · refine List.Perm.trans ?_ pm
          rw [List.append_assoc]
          refine List.Perm.append_left ys ?_
          exact erase_perm hyy
        · exact (S2.upd nrs nrc).upd nDs nDc
        · exact ((kp1.trans kp2).off hr0).off hD0
    · rintro H1 ⟨ys, zs, pm, hyl, hy, hz, S1, kp1⟩
      have hlen : ys.length + zs.length = xs.length := by rw [← List.length_append]; exact pm.length_eq
      have hz0 : zs = [] := List.length_eq_zero_iff.mp (by omega)
      subst hz0
      rw [List.append_nil] at pm
      exact k D ys H1 hD0 pm hy S1 kp1
end
end Nm
set_option maxRecDepth 100000
set_option maxHeartbeats 4000000
/-! Rules that the layer lacks -/
namespace Nm
open PySem PySem.Spec PyProof.Rows L2
/-- the places that xs[::st] takes -/
def stepIx (st : Int) (n : Nat) : List Nat := sliceRange (sliceBounds none none (some st) n).1 (sliceBounds none none (some st) n).2.1 (sliceBounds none none (some st) n).2.2
def stepV (xs : List V) (st : Int) : List V := (stepIx st xs.length).filterMap (xs[·]?)
theorem stepV_mem {xs : List V} {st : Int} {v : V} (h : v ∈ stepV xs st) : v ∈ xs := by
  obtain ⟨i, _, e⟩ := List.mem_filterMap.mp h
  exact List.mem_of_getElem? e
theorem vals_filter : ∀ (is : List Nat) {xs : List V} {us : List Value}, Vals xs us → Vals (is.filterMap (xs[·]?)) (is.filterMap (us[·]?))
  | [], _, _, _ => .nil
  | i :: is, xs, us, r => by
    rw [List.filterMap_cons, List.filterMap_cons]
    cases e : xs[i]? with
    | none =>
      rw [r.none_of e]
      exact vals_filter is r
    | some x =>
      obtain ⟨u, e2, r2⟩ := r.get e
      rw [e2]
      exact .cons r2 (vals_filter is r)
theorem fm_len {α β : Type} : ∀ (is : List Nat) {xs : List α} {us : List β}, xs.length = us.length → (is.filterMap (xs[·]?)).length = (is.filterMap (us[·]?)).length
  | [], _, _, _ => rfl
  | i :: is, xs, us, h => by
    rw [List.filterMap_cons, List.filterMap_cons]
    have ih := fm_len is h
    by_cases hi : i < xs.length
    · rw [List.getElem?_eq_getElem hi, List.getElem?_eq_getElem (by omega)]
      simp only [List.length_cons]
      omega
    · rw [List.getElem?_eq_none (by omega), List.getElem?_eq_none (by omega)]
      exact ih
theorem stepV_len (xs : List V) (st : Int) : (stepV xs st).length ≤ xs.length := by
  have h := slicePick_size_le (List.replicate xs.length Value.none).toArray none none (some st)
  unfold slicePick at h
  rw [List.size_toArray, List.size_toArray, List.length_replicate] at h
  have e := fm_len (stepIx st xs.length) (xs := xs) (us := List.replicate xs.length Value.none) (by simp)
  unfold stepV
  rw [e]
  have e2 : (stepIx st xs.length).filterMap ((List.replicate xs.length Value.none)[·]?) = (stepIx st xs.length).filterMap ((List.replicate xs.length Value.none).toArray[·]?) := by simp only [List.getElem?_toArray]
  rw [e2]
  exact h
def tStepL (K : PySem.W.Frag) (te ts : TE) : TE := fun σ H Q => te σ H fun x H1 => ts σ H1 fun y H2 => ∃ st, y = .int st ∧ ∃ a xs, x = .ref a ∧ (some st).getD 1 ≠ 0 ∧ (some st).isSome = true ∧ SqL K H2 a xs ∧ ∀ p, H2 p = none → Q (.ref p) (upd H2 p (.lst (stepV xs ((some st).getD 1))))
section
variable {X : Cx}
theorem pe_stepL {e es : PySem.Expr} {te ts : TE} {p3 pos : Pos} (he : PE X e te) (hs : PE X es ts) : PE X (.Subscript e (.Slice none none (some es) p3) pos) (tStepL X.K te ts) := by
  refine ⟨fun pins s σ H Q I h => ?_⟩
  refine Subscript_ (thn (he.run pins s σ H _ I h) fun v s1 ⟨x, H1, I1, r1, q1⟩ => ?_)
  refine wpAny_Slice (thn (po_none.run pins s1 σ H1 (fun o H2 => o = none ∧ H2 = H1) I1 ⟨rfl, rfl⟩) fun vl s2 ⟨l, H2, I2, pl, el, e2⟩ => ?_)
  subst el e2
  refine thn (po_none.run pins s2 σ H2 (fun o H3 => o = none ∧ H3 = H2) I2 ⟨rfl, rfl⟩) fun vu s3 ⟨u, H3, I3, pu, eu, e3⟩ => ?_
  subst eu e3
  refine thn ((po_some hs).run pins s3 σ H3 (fun o H4 => ∃ a xs, x = .ref a ∧ o.getD 1 ≠ 0 ∧ o.isSome = true ∧ SqL X.K H4 a xs ∧ ∀ p, H4 p = none → Q (.ref p) (upd H4 p (.lst (stepV xs (o.getD 1))))) I3 ?_) fun vs s4 ⟨o, H4, I4, ps, a, xs, ex, hst, ho, hx, q⟩ => ?_
  · exact q1
  obtain ⟨st, rfl⟩ := Option.isSome_iff_exists.mp ho
  subst ex
  cases r1
  have I5 : Inv X pins σ H4 { s4 with heap := s4.heap.push { cls := .type "slice", data := .fields #[vl, vu, vs] } } := I4.kept (t' := s4.toks) fun b ob q => Heap.get?_push_of_some _ q
  obtain ⟨its, r, ht, hz⟩ := I5.list hx
  have hlen := r.length
  show wpAny (model X.prog X.w) X.A (subscriptTail e (.Slice none none (some es) p3) (.ref a) (.ref s4.heap.objs.size)) (EP X pins σ Q) X.xe { s4 with heap := s4.heap.push { cls := .type "slice", data := .fields #[vl, vu, vs] } }
  refine tail_any (ops := [.ref a, .ref s4.heap.objs.size]) ht.isList.typeIs (PySem.slot_list_getitem.lookup) ?_ (by with_unfolding_all rfl)
  refine wpAny_getItem_list_slice ht.isList (Heap.IsSliceOf.new _ vl vu vs) pl pu ps (fun z => hst (Option.some.inj z)) ?_ (by rw [List.size_toArray]; omega)
  refine ⟨.ref _, _, I5.laid (t' := s4.toks) (o := .lst (stepV xs st)) (fun b ob q => Heap.get?_push_of_some _ q) (Nat.le_refl _) ?_, rfl, q _ (I5.hok.fresh (Nat.le_refl _))⟩
  have r2 : Vals (stepV xs st) ((stepIx st xs.length).filterMap (its[·]?)) := vals_filter _ r
  refine ⟨?_, _, 0, r2, ?_⟩
  · have h1 := r2.length
    have h2 := slicePick_size_le its.toArray none none (some st)
    have h3 : slicePick its.toArray none none (some st) = ((stepIx st its.length).filterMap (its[·]?)).toArray := by
      unfold slicePick stepIx
      rw [List.size_toArray]
      simp
    rw [h3, List.size_toArray, List.size_toArray] at h2
    rw [hlen] at h1
    show (stepV xs st).length ≤ sizeLine
    omega
  · rw [Heap.get?_push_size _ rfl]
    have h3 : slicePick its.toArray none none (some st) = ((stepIx st its.length).filterMap (its[·]?)).toArray := by
      unfold slicePick stepIx
      rw [List.size_toArray]
      simp
    rw [h3, hlen]
end
end Nm
set_option maxRecDepth 100000
set_option maxHeartbeats 4000000
namespace Nm
open PySem L2
theorem Kp.seq {K : PySem.W.Frag} {s c a : Addr} {H H' : Hp} {xs : List V} (e : Kp s c H H') (h1 : a ≠ s) (h2 : a ≠ c) (h : SqL K H a xs) : SqL K H' a xs := by
  rcases h with (h | ⟨o, h⟩) | h
  · exact .inl (.inl (e _ _ h h1 h2))
  · exact .inl (.inr ⟨o, e _ _ h h1 h2⟩)
  · exact .inr h
theorem merge_src {c : Addr} {l m t : Int} : mergeK [] (srcD c l m t) = srcD c l m t := by
  unfold mergeK srcD
  simp [putK, k1, k2, k3, k4, k5, k6]
section
variable {P : Program} {w : World} {K : PySem.W.Frag} {mg : Str → Option Value} {base : Heap}
/-! ### _law_choice_of -/
def spChoice (K : PySem.W.Frag) : Sp := fun vs H Q _ => ∃ (s c a : Addr) (xs : List V), vs = [.ref s, .ref a] ∧ Src H s c ∧ a ≠ s ∧ a ≠ c ∧ SqL K H a xs ∧ 1 ≤ xs.length ∧ xs.length ≤ 1000 ∧
  ∀ (v : V) (H' : Hp), v ∈ xs → Src H' s c → Kp s c H H' → Q v H'
theorem scChoice : FnScope ["_law_source", "_law_items"] ["_law_source", "_law_items"] (defScope sChoiceOf) := ⟨rfl, rfl, rfl, by decide +kernel, rfl, by decide +kernel, by decide +kernel⟩
theorem ok_choice {f : Addr} {fd : FuncData} (F : Fun K "_law_choice_of" "_law_choice_of" sChoiceOf f fd) (T : TxtB mg) (Gp : Def P w K mg base "_law_pick" ["_law_source", "_law_many"] 1 spPick) : FnOk P w K mg base CX0 2 f fd ["_law_source", "_law_items"] (spChoice K) := by
  obtain ⟨fp, fdp, Gp, mp, kp, bp⟩ := Gp.ex
  refine F.ok scChoice (fun vs H Q E h => ?_) (fun cdv A outer s H vs Q E hr h => ?_)
  · obtain ⟨p, dx, n, xs, rfl, _⟩ := h
    rfl
  · obtain ⟨sa, ca, ia, xs, rfl, S, n1, n2, hx, hl1, hl, k⟩ := h
    refine ⟨_, pss_one (ps_ret (pe_ix ix_list (pv 1) (pe_call Gp hr (by rfl) mp kp bp .nil pass0 (pa_cons (pv 0) (pa_cons (pe_callB call_len_seq (by rfl) T.len PySem.boot_len (pa_cons (pv 1) pa_nil)) pa_nil))) (fun _ _ => rfl))), ?_⟩
    refine ⟨_, rfl, _, rfl, _, rfl, ia, _, rfl, .inl hx, sa, ca, _, rfl, S, by omega, by omega, fun kk H2 k0 k1 S2 kp2 => ?_⟩
    obtain ⟨v, hv⟩ : ∃ v, xs[kk.toNat]? = some v := ⟨_, List.getElem?_eq_getElem (by omega)⟩
    refine ⟨ia, xs, kk, v, rfl, rfl, kp2.seq n1 n2 hx, ?_, k v H2 (List.mem_of_getElem? hv) S2 kp2⟩
    have := atI_nat hv
    rw [Int.toNat_of_nonneg k0] at this
    exact this
/-! ### _law_open_cells -/
def spOpen (K : PySem.W.Frag) : Sp := fun vs H Q _ => ∃ (a : Addr) (ns : List Int), vs = [.ref a] ∧ SqL K H a (ns.map V.int) ∧ ns.length ≤ 63 ∧
  ∀ (s c : Addr) (H' : Hp), H s = none → H c = none → Src H' s c → Same H H' → Q (.ref s) H'
theorem scOpen : FnScope ["_law_script", "_law_mixed", "_law_cell", "_law_cells"] ["_law_script"] (defScope sOpenCells) := ⟨rfl, rfl, rfl, by decide +kernel, rfl, by decide +kernel, by decide +kernel⟩
theorem ok_open {f : Addr} {fd : FuncData} (F : Fun K "_law_open_cells" "_law_open_cells" sOpenCells f fd) (T : TxtB mg) : FnOk P w K mg base CX0 1 f fd ["_law_script"] (spOpen K) := by
  refine F.ok scOpen (fun vs H Q E h => ?_) (fun cdv A outer s H vs Q E hr h => ?_)
  · obtain ⟨p, dx, rfl, _⟩ := h
    rfl
  · obtain ⟨sa, ns, rfl, hx, hl, k⟩ := h
    refine ⟨_, pss_cons (ps_set (i := 1) scOpen.nd rfl (Or.inl rfl) pe_int)
      (pss_cons (ps_for PassesOwn.never rfl (pi_list (pv 0)) (pg_name (i := 2) scOpen.nd rfl (Or.inl rfl))
        (pss_one (ps_set (i := 1) scOpen.nd rfl (Or.inl rfl) (pe_op op_mod (pe_callTy call_int1 (by rfl) T.int (by decide +kernel) (pa_cons (pe_op op_add (pe_op op_add (pe_op op_mul (pv 1) pe_int) (pe_op op_mul (pv 2) pe_int)) pe_int) pa_nil)) pe_int))))
      (pss_cons (ps_setLc (i := 3) (own := [("_law_cell", 2)]) (g := gName 2) (tt := tYes) rfl scOpen.nd rfl rfl (sw_true rfl rfl rfl (by decide +kernel)) (pi_list (pv 0))
        (blkOk_by (N := ["_law_script", "_law_mixed", "_law_cell", "_law_cells"]) (sc := defScope sOpenCells) (by decide +kernel)) (fun _ _ _ _ _ => pg_name (i := 2) scOpen.nd rfl (Or.inl rfl)) (fun _ _ _ _ _ => pts_nil)
        (fun _ _ _ _ _ => pe_callB call_abs (by rfl) T.abs (by decide +kernel) (pa_cons (pv 2) pa_nil)))
      (pss_one (ps_ret (pe_disp (pps_cons pe_str (pe_revL (pv 3)) (pps_cons pe_str pe_int (pps_cons pe_str (pv 1) (pps_cons pe_str pe_int pps_nil)))) (by rfl) (by rfl) (fun z => by cases z) (by decide)))))), ?_⟩
    refine ⟨_, rfl, sa, rfl, ⟨_, hx⟩, ?_⟩
    refine for_list (xs := ns.map V.int) (fun i σ H' => H' = H ∧ ∃ (m : Int) (v : Option V), 0 ≤ m ∧ m < 2147483629 ∧ σ = [some (.ref sa), some (.int m), v, none]) ⟨rfl, 11, none, by decide, by decide, rfl⟩ (fun i σ H' _ h => by rw [h.1]; exact hx) ?_ ?_
    · rintro i x σ H' hi ⟨rfl, m, v, m0, m1, rfl⟩
      rw [List.getElem?_map] at hi
      obtain ⟨y, _, rfl⟩ := Option.map_eq_some_iff.mp hi
      refine ⟨_, rfl, _, _, rfl, rfl, .inr ⟨by decide, by decide⟩, _, rfl, _, _, rfl, rfl, .inr ⟨by decide, by decide⟩, _, _, rfl, rfl, _, _, rfl, rfl, .inl ⟨_, rfl, _, _, rfl, rfl, (by show (0 : Int) < 2147483629; decide), ?_⟩⟩
      exact ⟨rfl, _, some (.int y), Int.emod_nonneg _ (by decide), Int.emod_lt_of_pos _ (by decide), rfl⟩
    · rintro σ H' ⟨rfl, m, v, m0, m1, rfl⟩
      refine ⟨_, rfl, sa, rfl, ⟨_, hx⟩, fun D hD => ?_⟩
      refine lc_list (xs := ns.map V.int) (fun i H1 => Same H' H1 ∧ ∃ cs : List Int, cs.length = i ∧ (∀ x ∈ cs, 0 ≤ x) ∧ H1 D = some (.lst (cs.map V.int))) ⟨same_new hD, [], rfl, by simp, upd_same⟩ (fun i H1 _ h => h.1.seq hx) ?_ ?_
      · rintro i x H1 hi ⟨sm, cs, hcl, hc0, hcD⟩
        have hil := (List.getElem?_eq_some_iff.mp hi).1
        rw [List.length_map] at hil
        rw [List.getElem?_map] at hi
        obtain ⟨y, _, rfl⟩ := Option.map_eq_some_iff.mp hi
        refine ⟨rfl, tyes ?_⟩
        refine ⟨_, rfl, y, rfl, _, hcD, Evl.sz_lt (by rw [List.length_map]; omega), ?_, cs ++ [if y < 0 then -y else y], by simp [hcl], ?_, by rw [upd_same, List.map_append]; rfl⟩
        · intro b o e
          rw [upd_ne (ne_of_none e hD)]
          exact sm b o e
        · intro x hx
          rcases List.mem_append.mp hx with h | h
          · exact hc0 x h
          · rw [List.mem_singleton] at h
            subst h
            split <;> omega
      · rintro H1 ⟨sm, cs, hcl, hc0, hcD⟩
        rw [List.length_map] at hcl
        intro p hp
        have hp0 : H' p = none := sm.free hp
        refine ⟨_, rfl, D, _, rfl, SqL.of (by rw [upd_ne (ne_of_none hcD hp)]; exact hcD), fun q hq => ?_⟩
        have hqp : q ≠ p := fun e => by subst e; rw [upd_same] at hq; cases hq
        have hq1 : H1 q = none := by rw [upd_ne hqp] at hq; exact hq
        have hq0 : H' q = none := sm.free hq1
        refine ⟨_, rfl, by rw [upd_ne hqp.symm, upd_same], srcD q 1 m 0, rfl, (by show 4 ≤ 15; decide), ?_⟩
        rw [merge_src]
        refine k p q _ hp0 hq0 ⟨cs.reverse, 1, m, 0, ⟨upd_same, by rw [upd_ne hqp, upd_same, List.map_reverse], fun x hx => hc0 x (List.mem_reverse.mp hx), by rw [List.length_reverse]; omega, by decide, m0, m1, by decide⟩⟩ fun b o e => ?_
        rw [upd_ne (ne_of_none e hp0), upd_ne (ne_of_none e hq0), upd_ne (ne_of_none e hp0)]
        exact sm b o e
end
end Nm
set_option maxRecDepth 100000
set_option maxHeartbeats 4000000
namespace Nm
open PySem L2
/-- each of xs is a pair of numbers i < j below n -/
def PairsAt (n : Int) (H : Hp) (xs : List V) : Prop := ∀ v ∈ xs, ∃ t i j, v = V.ref t ∧ H t = some (.tup [.int i, .int j]) ∧ 0 ≤ i ∧ i < j ∧ j < n
theorem PairsAt.same {n : Int} {H H' : Hp} {xs : List V} (h : PairsAt n H xs) (e : Same H H') : PairsAt n H' xs := fun v hv => by
  obtain ⟨t, i, j, a, b, c⟩ := h v hv
  exact ⟨t, i, j, a, e _ _ b, c⟩
theorem PairsAt.kp {n : Int} {H H' : Hp} {xs : List V} {s c : Addr} (h : PairsAt n H xs) (S : Src H s c) (e : Kp s c H H') : PairsAt n H' xs := fun v hv => by
  obtain ⟨t, i, j, a, b, r⟩ := h v hv
  obtain ⟨cs, l, m, tt, S⟩ := S
  exact ⟨t, i, j, a, e _ _ b (ne_of b S.ds (by intro z; cases z)) (ne_of b S.dc (by intro z; cases z)), r⟩
theorem PairsAt.snoc {n : Int} {H : Hp} {xs : List V} {t : Addr} {i j : Int} (h : PairsAt n H xs) (e : H t = some (.tup [.int i, .int j])) (h0 : 0 ≤ i) (h1 : i < j) (h2 : j < n) : PairsAt n H (xs ++ [.ref t]) := fun v hv => by
  rcases List.mem_append.mp hv with q | q
  · exact h v q
  · rw [List.mem_singleton] at q
    exact ⟨t, i, j, q, e, h0, h1, h2⟩
theorem PairsAt.sub {n : Int} {H : Hp} {xs ys : List V} (h : PairsAt n H xs) (e : ∀ v ∈ ys, v ∈ xs) : PairsAt n H ys := fun v hv => h v (e v hv)
theorem sq_le {n : Int} (h1 : 1 ≤ n) (h2 : n ≤ 7) : 1 ≤ n * n ∧ n * n ≤ 49 := by
  have h : n = 1 ∨ n = 2 ∨ n = 3 ∨ n = 4 ∨ n = 5 ∨ n = 6 ∨ n = 7 := by omega
  rcases h with rfl | rfl | rfl | rfl | rfl | rfl | rfl <;> decide
section
variable {P : Program} {w : World} {K : PySem.W.Frag} {mg : Str → Option Value} {base : Heap}
/-! ### _law_shape_pairs -/
def spShape : Sp := fun vs H Q _ => ∃ (s c : Addr) (n : Int), vs = [.ref s, .int n] ∧ Src H s c ∧ 1 ≤ n ∧ n ≤ 7 ∧
  ∀ (p : Addr) (xs : List V) (H' : Hp), H p = none → H' p = some (.lst xs) → PairsAt n H' xs → (xs.length ≤ 100 ∧ ∀ N : Nat, n = (N : Int) → xs.length ≤ N * N + N) → Src H' s c → Kp s c H H' → Q (.ref p) H'
abbrev nShape : List Str := ["_law_source", "_law_count", "_law_every", "_law_road", "_law_rows", "_law_n", "_law_pair", "_law_k"]
theorem scShape : FnScope nShape ["_law_source", "_law_count"] (defScope sShapePairs) := ⟨rfl, rfl, rfl, by decide +kernel, rfl, by decide +kernel, by decide +kernel⟩
theorem ok_shape {f : Addr} {fd : FuncData} (F : Fun K "_law_shape_pairs" "_law_shape_pairs" sShapePairs f fd) (T : TxtB mg) (Gp : Def P w K mg base "_law_pick" ["_law_source", "_law_many"] 1 spPick) : FnOk P w K mg base CX0 2 f fd ["_law_source", "_law_count"] spShape := by
  obtain ⟨fp, fdp, Gp, mp, kp, bp⟩ := Gp.ex
  refine F.ok scShape (fun vs H Q E h => ?_) (fun cdv A outer s H vs Q E hr h => ?_)
  · obtain ⟨p, dx, n, rfl, _⟩ := h
    rfl
  · obtain ⟨sa, ca, n, rfl, S, n1, n2, k⟩ := h
    refine ⟨_, pss_cons (ps_setLc (i := 2) (own := [("_law_n", 5)]) (g := gName 5) rfl scShape.nd rfl rfl (sw_true rfl rfl rfl (by decide +kernel)) (pi_range1 (by rfl) T.range (pa_cons (pe_op op_mul (pv 1) (pv 1)) pa_nil))
        (blkOk_by (N := nShape) (sc := defScope sShapePairs) (by decide +kernel)) (fun _ _ _ _ _ => pg_name (i := 5) scShape.nd rfl (Or.inl rfl))
        (fun _ _ _ _ _ => pts_one (pt_cmpR op_lt (pe_callTy call_int1 (by rfl) T.int (by decide +kernel) (pa_cons (pe_op op_fdiv (pv 5) (pv 1)) pa_nil)) (pe_op op_mod (pe_callTy call_int1 (by rfl) T.int (by decide +kernel) (pa_cons (pv 5) pa_nil)) (pv 1)) (nomark _)))
        (fun _ _ _ _ _ => pe_tup (pa_cons (pe_callTy call_int1 (by rfl) T.int (by decide +kernel) (pa_cons (pe_op op_fdiv (pv 5) (pv 1)) pa_nil)) (pa_cons (pe_op op_mod (pe_callTy call_int1 (by rfl) T.int (by decide +kernel) (pa_cons (pv 5) pa_nil)) (pv 1)) pa_nil))))
      (pss_cons (ps_set (i := 3) scShape.nd rfl (Or.inl rfl) (pe_call Gp hr (by rfl) mp kp bp .nil pass0 (pa_cons (pv 0) (pa_cons pe_int pa_nil))))
      (pss_cons (ps_if (pt_cmpR op_eq (pv 3) pe_int (nomark _)) (pss_one (ps_ret (pe_lc (own := [("_law_pair", 6)]) (g := gName 6) rfl scShape.nd (pi_list (pv 2))
          (blkOk_by (N := nShape) (sc := defScope sShapePairs) (by decide +kernel)) (fun _ _ _ _ _ => pg_name (i := 6) scShape.nd rfl (Or.inl rfl))
          (fun _ _ _ _ _ => pts_one (by exact pt_cmpR op_eq (pe_call Gp hr (by rfl) mp kp bp .nil pass0 (pa_cons (pv 0) (pa_cons pe_int pa_nil))) pe_int (nomark _))) (fun _ _ _ _ _ => pv 6)))) pss_nil)
      (pss_cons (ps_if (pt_cmpR op_eq (pv 3) pe_int (nomark _)) (pss_one (ps_ret (pe_lc (own := [("_law_pair", 6)]) (g := gName 6) rfl scShape.nd (pi_list (pv 2))
          (blkOk_by (N := nShape) (sc := defScope sShapePairs) (by decide +kernel)) (fun _ _ _ _ _ => pg_name (i := 6) scShape.nd rfl (Or.inl rfl))
          (fun _ _ _ _ _ => pts_one (by exact pt_cmpR op_gt (pe_call Gp hr (by rfl) mp kp bp .nil pass0 (pa_cons (pv 0) (pa_cons pe_int pa_nil))) pe_int (nomark _))) (fun _ _ _ _ _ => pv 6)))) pss_nil)
      (pss_cons (ps_if (pt_cmpR op_eq (pv 3) pe_int (nomark _)) (pss_one (ps_ret (pv 2))) pss_nil)
      (pss_cons (ps_setLc (i := 4) (own := [("_law_k", 7)]) (g := gName 7) (tt := tYes) rfl scShape.nd rfl rfl (sw_true rfl rfl rfl (by decide +kernel)) (pi_range1 (by rfl) T.range (pa_cons (pe_op op_sub (pv 1) pe_int) pa_nil))
        (blkOk_by (N := nShape) (sc := defScope sShapePairs) (by decide +kernel)) (fun _ _ _ _ _ => pg_name (i := 7) scShape.nd rfl (Or.inl rfl)) (fun _ _ _ _ _ => pts_nil)
        (fun _ _ _ _ _ => pe_tup (pa_cons (pv 7) (pa_cons (pe_op op_add (pv 7) pe_int) pa_nil))))
      (Evl.pss_cut (ps_if (PW.pt (pw_and (pt_cmpR op_eq (pv 3) pe_int (nomark _)) (pw_and1 (pt_cmpR op_gt (pv 1) pe_int (nomark _))))) (pss_one (ps_ret (pe_op op_cat (pv 4) (pe_lst (pa_cons (pe_tup (pa_cons pe_int (pa_cons (pe_op op_sub (pv 1) pe_int) pa_nil))) pa_nil))))) pss_nil)
      (pss_cons (ps_if (pt_cmpR op_eq (pv 3) pe_int (nomark _)) (pss_one (ps_ret (pe_lc (own := [("_law_k", 7)]) (g := gName 7) (tt := tYes) rfl scShape.nd (pi_range2 (by rfl) T.range (pa_cons pe_int (pa_cons (pv 1) pa_nil)))
          (blkOk_by (N := nShape) (sc := defScope sShapePairs) (by decide +kernel)) (fun _ _ _ _ _ => pg_name (i := 7) scShape.nd rfl (Or.inl rfl)) (fun _ _ _ _ _ => pts_nil)
          (fun _ _ _ _ _ => pe_tup (pa_cons pe_int (pa_cons (pv 7) pa_nil)))))) pss_nil)
      (pss_one (ps_ret (pe_stepL (pv 4) (pe_op op_add pe_int (pe_callTy call_int1 (by rfl) T.int (by decide +kernel) (pa_cons (pe_cmpR op_eq (pv 3) pe_int (nomark _)) pa_nil))))))))))))), ?_⟩
    obtain ⟨q1, q2⟩ := sq_le n1 n2
    refine ⟨_, rfl, _, rfl, _, _, rfl, rfl, .inl ⟨by show -(2 ^ 64 : Int) < _; omega, by show _ < (2 ^ 64 : Int); omega⟩, _, rfl, by omega, by omega, fun D hD => ?_⟩
    refine lc_range (lo := 0) (n := (n * n).toNat) (fun i H' => ∃ xs, H' D = some (.lst xs) ∧ xs.length ≤ i ∧ PairsAt n H' xs ∧ Same H H') ⟨[], upd_same, Nat.le_refl _, (fun v hv => by cases hv), same_new hD⟩ ?_ ?_
    · rintro i H1 hi ⟨xs, hxD, hxl, hxp, sm⟩
      refine ⟨rfl, ?_⟩
      refine ⟨_, rfl, _, rfl, _, _, rfl, rfl, ⟨by omega, by omega⟩, .inl ⟨_, rfl, _, rfl, .inl ⟨_, rfl, _, rfl, _, _, rfl, rfl, by omega, _, _, rfl, rfl, _, rfl, ?_⟩⟩⟩
      refine ite2 (fun hlt => ?_) (fun hlt => ⟨xs, hxD, by omega, hxp, sm⟩)
      refine ⟨_, rfl, _, rfl, _, _, rfl, rfl, ⟨by omega, by omega⟩, .inl ⟨_, rfl, _, rfl, .inl ⟨_, rfl, _, rfl, _, _, rfl, rfl, by omega, (by show 2 ≤ sizeLine; decide), fun t ht => ?_⟩⟩⟩
      have hlt' := of_decide_eq_true hlt
      refine ⟨xs, by rw [upd_ne (ne_of_none hxD ht)]; exact hxD, Evl.sz_lt (by omega), xs ++ [.ref t], upd_same, by simp; omega, ?_, ?_⟩
      · have hDt : t ≠ D := fun e => by subst e; rw [ht] at hxD; cases hxD
        refine PairsAt.snoc (i := (0 + (i : Int)) / n) (j := (0 + (i : Int)) % n) ?_ (by rw [upd_ne hDt, upd_same]) (Int.ediv_nonneg (by omega) (by omega)) hlt' (Int.emod_lt_of_pos _ (by omega))
        refine fun v hv => ?_
        obtain ⟨u, i', j', a, b, r⟩ := hxp v hv
        refine ⟨u, i', j', a, ?_, r⟩
        rw [upd_ne (ne_of b hxD (by intro z; cases z)), upd_ne (ne_of_none b ht)]
        exact b
      · intro b o e
        have := sm b o e
        rw [upd_ne (ne_of_none e hD), upd_ne (ne_of_none this ht)]
        exact this
    rintro H1 ⟨xs, hxD, hxl, hxp, sm⟩
    have S1 := S.same sm
    have hxl' : xs.length ≤ 49 := by omega
    obtain ⟨nDs, nDc⟩ := S.ne hD
    -- road
    refine ⟨_, rfl, sa, ca, 7, rfl, S1, by decide, by decide, fun road H2 r0 r1 S2 kp2 => ?_⟩
    have hxD2 := kp2 _ _ hxD nDs nDc
    have hxp2 := hxp.kp S1 kp2
    have kp02 : Kp sa ca H H2 := (Kp.same sm).trans kp2
    -- a part of every, by draws
    refine ⟨_, rfl, rfl, _, rfl, ?_⟩
    refine ite2 (fun h0 => ?_) (fun h0 => ?_)
    · refine ⟨_, rfl, D, rfl, ⟨xs, SqL.of hxD2⟩, fun E hE => ?_⟩
      obtain ⟨nEs, nEc⟩ := S2.ne hE
      refine lc_list (xs := xs) (fun i H' => ∃ ys, H' E = some (.lst ys) ∧ ys.length ≤ i ∧ (∀ v ∈ ys, v ∈ xs) ∧ H' D = some (.lst xs) ∧ PairsAt n H' xs ∧ Src H' sa ca ∧ Kp sa ca H2 H') ⟨[], upd_same, Nat.le_refl _, (fun v hv => by cases hv), by rw [upd_ne (ne_of_none hxD2 hE)]; exact hxD2, hxp2.same (same_new hE), S2.new hE, (Kp.refl H2).off hE⟩ (fun i H' _ ⟨ys, _, _, _, h, _⟩ => SqL.of h) ?_ ?_
      · rintro i x H3 hi ⟨ys, hyE, hyl, hyx, hxD3, hxp3, S3, kp3⟩
        have hil := (List.getElem?_eq_some_iff.mp hi).1
        refine ⟨rfl, ?_⟩
        refine ⟨_, rfl, sa, ca, 3, rfl, S3, by decide, by decide, fun kk H4 k0 k1 S4 kp4 => ⟨rfl, _, rfl, ?_⟩⟩
        have hyE4 := kp4 _ _ hyE nEs nEc
        have hxD4 := kp4 _ _ hxD3 nDs nDc
        have hxp4 := hxp3.kp S3 kp4
        refine ite2 (fun _ => ?_) (fun _ => ⟨ys, hyE4, by omega, hyx, hxD4, hxp4, S4, kp3.trans kp4⟩)
        have hDE : D ≠ E := ne_of_none hxD2 hE
        refine ⟨_, rfl, ys, hyE4, Evl.sz_lt (by omega), ys ++ [x], upd_same, by simp; omega, ?_, by rw [upd_ne hDE]; exact hxD4, ?_, S4.upd nEs nEc, (kp3.trans kp4).off hE⟩
        · intro v hv
          rcases List.mem_append.mp hv with q | q
          · exact hyx v q
          · rw [List.mem_singleton] at q
            subst q
            exact List.mem_of_getElem? hi
        · refine fun v hv => ?_
          obtain ⟨u, i', j', a, b, r⟩ := hxp4 v hv
          refine ⟨u, i', j', a, ?_, r⟩
          rw [upd_ne (ne_of b hyE4 (by intro z; cases z))]
          exact b
      · rintro H3 ⟨ys, hyE, hyl, hyx, hxD3, hxp3, S3, kp3⟩
        exact k E ys H3 (kp02.free S2 hE) hyE (hxp3.sub hyx) ⟨by omega, fun N e => by subst e; omega⟩ S3 (kp02.trans kp3)
    refine ⟨_, rfl, rfl, _, rfl, ?_⟩
    refine ite2 (fun h1 => ?_) (fun h1 => ?_)
    · refine ⟨_, rfl, D, rfl, ⟨xs, SqL.of hxD2⟩, fun E hE => ?_⟩
      obtain ⟨nEs, nEc⟩ := S2.ne hE
      refine lc_list (xs := xs) (fun i H' => ∃ ys, H' E = some (.lst ys) ∧ ys.length ≤ i ∧ (∀ v ∈ ys, v ∈ xs) ∧ H' D = some (.lst xs) ∧ PairsAt n H' xs ∧ Src H' sa ca ∧ Kp sa ca H2 H') ⟨[], upd_same, Nat.le_refl _, (fun v hv => by cases hv), by rw [upd_ne (ne_of_none hxD2 hE)]; exact hxD2, hxp2.same (same_new hE), S2.new hE, (Kp.refl H2).off hE⟩ (fun i H' _ ⟨ys, _, _, _, h, _⟩ => SqL.of h) ?_ ?_
      · rintro i x H3 hi ⟨ys, hyE, hyl, hyx, hxD3, hxp3, S3, kp3⟩
        have hil := (List.getElem?_eq_some_iff.mp hi).1
        refine ⟨rfl, ?_⟩
        refine ⟨_, rfl, sa, ca, 3, rfl, S3, by decide, by decide, fun kk H4 k0 k1 S4 kp4 => ⟨_, _, rfl, rfl, _, rfl, ?_⟩⟩
        have hyE4 := kp4 _ _ hyE nEs nEc
        have hxD4 := kp4 _ _ hxD3 nDs nDc
        have hxp4 := hxp3.kp S3 kp4
        refine ite2 (fun _ => ?_) (fun _ => ⟨ys, hyE4, by omega, hyx, hxD4, hxp4, S4, kp3.trans kp4⟩)
        have hDE : D ≠ E := ne_of_none hxD2 hE
        refine ⟨_, rfl, ys, hyE4, Evl.sz_lt (by omega), ys ++ [x], upd_same, by simp; omega, ?_, by rw [upd_ne hDE]; exact hxD4, ?_, S4.upd nEs nEc, (kp3.trans kp4).off hE⟩
        · intro v hv
          rcases List.mem_append.mp hv with q | q
          · exact hyx v q
          · rw [List.mem_singleton] at q
            subst q
            exact List.mem_of_getElem? hi
        · refine fun v hv => ?_
          obtain ⟨u, i', j', a, b, r⟩ := hxp4 v hv
          refine ⟨u, i', j', a, ?_, r⟩
          rw [upd_ne (ne_of b hyE4 (by intro z; cases z))]
          exact b
      · rintro H3 ⟨ys, hyE, hyl, hyx, hxD3, hxp3, S3, kp3⟩
        exact k E ys H3 (kp02.free S2 hE) hyE (hxp3.sub hyx) ⟨by omega, fun N e => by subst e; omega⟩ S3 (kp02.trans kp3)
    refine ⟨_, rfl, rfl, _, rfl, ?_⟩
    refine ite2 (fun h2 => ?_) (fun h2 => ?_)
    · exact ⟨_, rfl, k D xs H2 hD hxD2 hxp2 ⟨by omega, fun N e => by subst e; omega⟩ S2 kp02⟩
    -- rows
    refine ⟨_, rfl, _, _, rfl, rfl, _, rfl, by omega, by omega, fun R hR => ?_⟩
    refine lc_range (lo := 0) (n := (n - 1).toNat) (fun i H' => ∃ ys, H' R = some (.lst ys) ∧ ys.length ≤ i ∧ PairsAt n H' ys ∧ Same H2 H') ⟨[], upd_same, Nat.le_refl _, (fun v hv => by cases hv), same_new hR⟩ ?_ ?_
    · rintro i H3 hi ⟨ys, hyR, hyl, hyp, sm3⟩
      refine ⟨rfl, tyes ?_⟩
      refine ⟨_, rfl, _, rfl, _, _, rfl, rfl, (by show 2 ≤ sizeLine; decide), fun t ht => ?_⟩
      refine ⟨ys, by rw [upd_ne (ne_of_none hyR ht)]; exact hyR, Evl.sz_lt (by omega), ys ++ [.ref t], upd_same, by simp; omega, ?_, ?_⟩
      · have hDt : t ≠ R := fun e => by subst e; rw [ht] at hyR; cases hyR
        refine PairsAt.snoc (i := 0 + (i : Int)) (j := 0 + (i : Int) + 1) ?_ (by rw [upd_ne hDt, upd_same]) (by omega) (by omega) (by omega)
        refine fun v hv => ?_
        obtain ⟨u, i', j', a, b, r⟩ := hyp v hv
        refine ⟨u, i', j', a, ?_, r⟩
        rw [upd_ne (ne_of b hyR (by intro z; cases z)), upd_ne (ne_of_none b ht)]
        exact b
      · intro b o e
        have := sm3 b o e
        rw [upd_ne (ne_of_none e hR), upd_ne (ne_of_none this ht)]
        exact this
    rintro H3 ⟨ys, hyR, hyl, hyp, sm3⟩
    have hR0 : H R = none := kp02.free S2 hR
    have S3 := S2.same sm3
    have kp03 : Kp sa ca H H3 := kp02.trans (Kp.same sm3)
    refine ⟨fun σ H' => σ = [some (.ref sa), some (.int n), some (.ref D), some (.int road), some (.ref R), none, none, none] ∧ H' = H3, ?_, ?_⟩
    · refine ⟨_, rfl, rfl, _, rfl, ?_⟩
      refine ite2 (fun h3 => ?_) (fun h3 => iteF ⟨rfl, rfl⟩)
      refine ⟨_, rfl, _, _, rfl, rfl, _, rfl, ?_⟩
      refine ite2 (fun h4 => ?_) (fun h4 => ⟨rfl, rfl⟩)
      have hn2 := of_decide_eq_true h4
      refine ⟨_, rfl, _, rfl, _, _, rfl, rfl, (by show 2 ≤ sizeLine; decide), fun t ht => ?_⟩
      refine ⟨(by show 1 ≤ sizeLine; decide), fun l hl => ?_⟩
      have hlt : l ≠ t := fun e => by subst e; rw [upd_same] at hl; cases hl
      have hRt : R ≠ t := ne_of_none hyR ht
      have hl3 : H3 l = none := by rw [upd_ne hlt] at hl; exact hl
      have hRl : R ≠ l := ne_of_none hyR hl3
      refine ⟨R, l, _, _, rfl, rfl, (by rw [upd_ne hRl, upd_ne hRt]; exact hyR), upd_same, ?_, fun p hp => ?_⟩
      · show ys.length + 1 ≤ sizeLine
        exact Evl.sz_of (by omega)
      · have hpl : p ≠ l := fun e => by subst e; rw [upd_same] at hp; cases hp
        rw [upd_ne hpl] at hp
        have hpt : p ≠ t := fun e => by subst e; rw [upd_same] at hp; cases hp
        rw [upd_ne hpt] at hp
        have sm4 : Same H3 (upd (upd (upd H3 t (.tup [.int 0, .int (n - 1)])) l (.lst [.ref t])) p (.lst (ys ++ [.ref t]))) := fun b o e => by
          rw [upd_ne (ne_of_none e hp), upd_ne (ne_of_none e hl3), upd_ne (ne_of_none e ht)]
          exact e
        refine k p _ _ (kp03.free S3 hp) upd_same ?_ ⟨by simp; omega, fun N e => by subst e; simp; omega⟩ (S3.same sm4) (kp03.trans (Kp.same sm4))
        refine PairsAt.snoc (i := 0) (j := n - 1) (hyp.same sm4) (by rw [upd_ne hpt.symm, upd_ne hlt.symm, upd_same]) (by omega) (by omega) (by omega)
    rintro σ H' ⟨rfl, rfl⟩
    refine ⟨_, rfl, rfl, _, rfl, ?_⟩
    refine ite2 (fun h3 => ?_) (fun h3 => ?_)
    · refine ⟨_, rfl, _, _, rfl, by omega, fun E hE => ?_⟩
      refine lc_range (lo := 1) (n := (n - 1).toNat) (fun i H3 => ∃ zs, H3 E = some (.lst zs) ∧ zs.length ≤ i ∧ PairsAt n H3 zs ∧ Same H' H3) ⟨[], upd_same, Nat.le_refl _, (fun v hv => by cases hv), same_new hE⟩ ?_ ?_
      · rintro i H4 hi ⟨zs, hzE, hzl, hzp, sm4⟩
        refine ⟨rfl, tyes ?_⟩
        refine ⟨_, rfl, (by show 2 ≤ sizeLine; decide), fun t ht => ?_⟩
        refine ⟨zs, by rw [upd_ne (ne_of_none hzE ht)]; exact hzE, Evl.sz_lt (by omega), zs ++ [.ref t], upd_same, by simp; omega, ?_, ?_⟩
        · have hDt : t ≠ E := fun e => by subst e; rw [ht] at hzE; cases hzE
          refine PairsAt.snoc (i := 0) (j := 1 + (i : Int)) ?_ (by rw [upd_ne hDt, upd_same]) (by omega) (by omega) (by omega)
          refine fun v hv => ?_
          obtain ⟨u, i', j', a, b, r⟩ := hzp v hv
          refine ⟨u, i', j', a, ?_, r⟩
          rw [upd_ne (ne_of b hzE (by intro z; cases z)), upd_ne (ne_of_none b ht)]
          exact b
        · intro b o e
          have := sm4 b o e
          rw [upd_ne (ne_of_none e hE), upd_ne (ne_of_none this ht)]
          exact this
      · rintro H4 ⟨zs, hzE, hzl, hzp, sm4⟩
        exact k E zs H4 (kp03.free S3 hE) hzE hzp ⟨by omega, fun N e => by subst e; omega⟩ (S3.same sm4) (kp03.trans (Kp.same sm4))
    · refine ⟨_, rfl, _, rfl, rfl, .inr ⟨_, rfl, _, _, rfl, rfl, _, rfl, R, ys, rfl, ?_, rfl, SqL.of hyR, fun p hp => ?_⟩⟩
      · show (1 + (if decide (V.int road = V.int 5) = true then (1 : Int) else 0)) ≠ 0
        split <;> decide
      · have sm4 := same_new (o := .lst (stepV ys ((some (1 + (if decide (V.int road = V.int 5) = true then (1 : Int) else 0))).getD 1))) hp
        refine k p _ _ (kp03.free S3 hp) upd_same ((hyp.same sm4).sub fun v hv => stepV_mem hv) ?_ (S3.same sm4) (kp03.trans (Kp.same sm4))
        exact ⟨Nat.le_trans (stepV_len _ _) (by omega), fun N e => Nat.le_trans (stepV_len _ _) (by subst e; omega)⟩
end
end Nm
set_option maxRecDepth 100000
set_option maxHeartbeats 4000000
namespace Nm
open PySem L2
theorem nx {H : Hp} {p q : Addr} {o : HO} (h : upd H p o q = none) : q ≠ p ∧ H q = none := by
  by_cases e : q = p
  · subst e; rw [upd_same] at h; cases h
  · rw [upd_ne e] at h; exact ⟨e, h⟩
def strOf : V → Str
  | .str x => x
  | _ => ""
def intOf : V → Int
  | .int x => x
  | _ => 0
theorem perm_str {ys : List V} {xs : List Str} (h : ys.Perm (xs.map V.str)) : ∃ zs : List Str, ys = zs.map V.str ∧ zs.Perm xs := by
  refine ⟨ys.map strOf, ?_, ?_⟩
  · rw [List.map_map]
    conv => lhs; rw [← List.map_id ys]
    refine List.map_congr_left fun v hv => ?_
    obtain ⟨x, _, rfl⟩ := List.mem_map.mp (h.subset hv)
    rfl
  · have := h.map strOf
    rw [List.map_map] at this
    have e : xs.map (strOf ∘ V.str) = xs := by
      conv => rhs; rw [← List.map_id xs]
      rfl
    rw [e] at this
    exact this
theorem perm_int {ys : List V} {xs : List Int} (h : ys.Perm (xs.map V.int)) : ∃ zs : List Int, ys = zs.map V.int ∧ zs.Perm xs := by
  refine ⟨ys.map intOf, ?_, ?_⟩
  · rw [List.map_map]
    conv => lhs; rw [← List.map_id ys]
    refine List.map_congr_left fun v hv => ?_
    obtain ⟨x, _, rfl⟩ := List.mem_map.mp (h.subset hv)
    rfl
  · have := h.map intOf
    rw [List.map_map] at this
    have e : xs.map (intOf ∘ V.int) = xs := by
      conv => rhs; rw [← List.map_id xs]
      rfl
    rw [e] at this
    exact this
theorem cut_upto (xs : List V) (n : Nat) : cutV xs none (some (n : Int)) = xs.take n := by
  unfold cutV
  have e1 : HT.sIx xs.length 0 none = 0 := rfl
  have e2 : HT.sIx xs.length xs.length (some (n : Int)) = min n xs.length := by
    unfold HT.sIx
    simp
    try omega
  rw [e1, e2]
  simp
section
variable {κ : Type} [DecidableEq κ]
theorem keys_put (kvs : List (κ × V)) (k : κ) (v : V) : (putK kvs k v).map (·.1) = if k ∈ kvs.map (·.1) then kvs.map (·.1) else kvs.map (·.1) ++ [k] := by
  unfold putK
  by_cases h : (kvs.any fun kv => decide (kv.1 = k)) = true
  · have hm : k ∈ kvs.map (·.1) := by
      obtain ⟨kv, h1, h2⟩ := List.any_eq_true.mp h
      exact List.mem_map.mpr ⟨kv, h1, of_decide_eq_true h2⟩
    rw [if_pos h, if_pos hm, List.map_map]
    refine List.map_congr_left fun kv _ => ?_
    show (if kv.1 = k then (kv.1, v) else kv).1 = kv.1
    split <;> rfl
  · have hm : ¬ k ∈ kvs.map (·.1) := fun hm => by
      obtain ⟨kv, h1, h2⟩ := List.mem_map.mp hm
      exact h (List.any_eq_true.mpr ⟨kv, h1, decide_eq_true h2⟩)
    rw [if_neg h, if_neg hm, List.map_append]
    rfl
theorem val_of_mem : ∀ {kvs : List (κ × V)} {k : κ} {v : V}, (kvs.map (·.1)).Nodup → (k, v) ∈ kvs → valV kvs k = some v
  | kv :: r, k, v, nd, h => by
    rw [List.map_cons, List.nodup_cons] at nd
    rcases List.mem_cons.mp h with e | e
    · subst e
      exact valV_pos rfl
    · have hne : ¬ kv.1 = k := fun z => nd.1 (z ▸ List.mem_map.mpr ⟨(k, v), e, rfl⟩)
      rw [valV_neg hne]
      exact val_of_mem nd.2 e
theorem nodup_put {kvs : List (κ × V)} (k : κ) (v : V) (h : (kvs.map (·.1)).Nodup) : ((putK kvs k v).map (·.1)).Nodup := by
  rw [keys_put]
  split
  · exact h
  · rename_i hn
    rw [List.nodup_append]
    refine ⟨h, by simp, fun a ha b hb => ?_⟩
    rw [List.mem_singleton] at hb
    subst hb
    exact fun e => hn (e ▸ ha)
theorem mem_put {kvs : List (κ × V)} {k : κ} {v : V} {p : κ × V} (h : p ∈ putK kvs k v) : p = (k, v) ∨ (p ∈ kvs ∧ p.1 ≠ k) := by
  unfold putK at h
  by_cases h0 : (kvs.any fun kv => decide (kv.1 = k)) = true
  · rw [if_pos h0] at h
    obtain ⟨kv, h1, h2⟩ := List.mem_map.mp h
    by_cases e : kv.1 = k
    · rw [if_pos e] at h2
      left
      rw [← h2, e]
    · rw [if_neg e] at h2
      right
      subst h2
      exact ⟨h1, e⟩
  · rw [if_neg h0] at h
    rcases List.mem_append.mp h with q | q
    · right
      refine ⟨q, fun e => h0 (List.any_eq_true.mpr ⟨p, q, decide_eq_true e⟩)⟩
    · left
      exact List.mem_singleton.mp q
end
end Nm
set_option maxRecDepth 100000
set_option maxHeartbeats 4000000
namespace Nm
open PySem L2
/-! ### words, ties, worlds -/
def letB (z : Str) : Str := Txt.rstripChars z "0123456789"
def isWordB (z : Str) : Bool := decide (z.length ≤ 100) && decide (1 ≤ (letB z).length) && decide ((letB z).length ≤ 8) && decide (z.length ≤ (letB z).length + 4) && (letB z).cps.toList.all (fun c => decide (c ∈ ("abcdefghijklmnopqrstuvwxyz" : Str).cps.toList))
def TieK (n : Nat) (k : List Key) : Prop := ∃ (i j : Nat) (kd : Str), k = [Sum.inl (i : Int), Sum.inl (j : Int), Sum.inr kd] ∧ i < j ∧ j < n ∧ isWordB kd = true
structure Ties (n m : Nat) (kvs : List (List Key × V)) : Prop where
  key : ∀ kv ∈ kvs, TieK n kv.1
  val : ∀ kv ∈ kvs, ∃ x : Nat, kv.2 = V.int (x : Int) ∧ 1 ≤ x ∧ x ≤ m
  nd : (kvs.map (·.1)).Nodup
theorem Ties.nil (n m : Nat) : Ties n m [] := ⟨fun _ h => (List.not_mem_nil h).elim, fun _ h => (List.not_mem_nil h).elim, List.nodup_nil⟩
theorem Ties.put {n m : Nat} {kvs : List (List Key × V)} (h : Ties n m kvs) {k : List Key} {x : Nat} (hk : TieK n k) (h1 : 1 ≤ x) (h2 : x ≤ m) : Ties n m (putK kvs k (V.int (x : Int))) := by
  refine ⟨fun kv hm => ?_, fun kv hm => ?_, nodup_put _ _ h.nd⟩
  · rcases mem_put hm with e | e
    · rw [e]; exact hk
    · exact h.key kv e.1
  · rcases mem_put hm with e | e
    · rw [e]; exact ⟨x, rfl, h1, h2⟩
    · exact h.val kv e.1
/-- all but the source and one thing more stays -/
def Kp3 (s c t : Addr) (H H' : Hp) : Prop := ∀ b o, H b = some o → b ≠ s → b ≠ c → b ≠ t → H' b = some o
theorem Kp3.refl {s c t : Addr} (H : Hp) : Kp3 s c t H H := fun _ _ h _ _ _ => h
theorem Kp3.kp {s c t : Addr} {H H1 H2 : Hp} (a : Kp3 s c t H H1) (b : Kp s c H1 H2) : Kp3 s c t H H2 := fun x o h h1 h2 h3 => b x o (a x o h h1 h2 h3) h1 h2
theorem Kp3.off {s c t : Addr} {H H1 : Hp} {p : Addr} {o : HO} (a : Kp3 s c t H H1) (h : H1 p = none) : Kp3 s c t H (upd H1 p o) := fun x u e h1 h2 h3 => by
  have := a x u e h1 h2 h3
  rw [upd_ne (ne_of_none this h)]
  exact this
theorem Kp3.put {s c t : Addr} {H H1 : Hp} {o : HO} (a : Kp3 s c t H H1) : Kp3 s c t H (upd H1 t o) := fun x u e h1 h2 h3 => by
  rw [upd_ne h3]
  exact a x u e h1 h2 h3
theorem PairsAt.put {n : Int} {H : Hp} {xs : List V} {t : Addr} {o u : HO} (h : PairsAt n H xs) (e : H t = some u) (hu : ∀ ys, u ≠ .tup ys) : PairsAt n (upd H t o) xs := fun v hv => by
  obtain ⟨q, i, j, a, b, r⟩ := h v hv
  refine ⟨q, i, j, a, ?_, r⟩
  rw [upd_ne (ne_of b e (fun z => hu _ z.symm))]
  exact b
/-- a list of one to three words, new since H -/
def WordL (H0 H : Hp) (v : V) : Prop := ∃ e es, v = V.ref e ∧ H0 e = none ∧ H e = some (.lst (List.map V.str es)) ∧ 1 ≤ es.length ∧ es.length ≤ 3 ∧ ∀ x ∈ es, isWordB x = true
theorem WordL.kp {H0 H H' : Hp} {s c : Addr} {v : V} (S : Src H0 s c) (h : WordL H0 H v) (k : Kp s c H H') : WordL H0 H' v := by
  obtain ⟨e, es, a, b, d, r⟩ := h
  obtain ⟨n1, n2⟩ := S.ne b
  exact ⟨e, es, a, b, k _ _ d n1 n2, r⟩
theorem WordL.same {H0 H H' : Hp} {v : V} (h : WordL H0 H v) (k : Same H H') : WordL H0 H' v := by
  obtain ⟨e, es, a, b, d, r⟩ := h
  exact ⟨e, es, a, b, k _ _ d, r⟩
theorem WordL.mk {H0 H : Hp} {l : Addr} (es : List Str) (h0 : Same H0 H) (h : H l = none) (h1 : (decide (1 ≤ es.length) && decide (es.length ≤ 3) && es.all isWordB) = true) : WordL H0 (upd H l (.lst (es.map V.str))) (.ref l) := by
  simp only [Bool.and_eq_true, decide_eq_true_eq, List.all_eq_true] at h1
  exact ⟨l, es, rfl, h0.free h, upd_same, h1.1.1, h1.1.2, h1.2⟩
def seven : List Str := ["a", "b", "c", "d", "e", "p0", "north"]
theorem seven_nd : seven.Nodup := by decide +kernel
theorem seven_w : ∀ x ∈ seven, isWordB x = true := by decide +kernel
def worldD (a b t : Addr) : List (Key × V) := [(Sum.inr "names", V.ref a), (Sum.inr "colours", V.ref b), (Sum.inr "ties", V.ref t)]
structure WorldOk (H : Hp) (s c wd a b t : Addr) (nm cl : List Str) (kvs : List (List Key × V)) : Prop where
  d : H wd = some (.dK (worldD a b t))
  hn : H a = some (.lst (nm.map V.str))
  hc : H b = some (.lst (cl.map V.str))
  ht : H t = some (.dT kvs)
  ds : wd ≠ s ∧ wd ≠ c
  as : a ≠ s ∧ a ≠ c
  bs : b ≠ s ∧ b ≠ c
  ts : t ≠ s ∧ t ≠ c
  nn : nm.Nodup
  nw : ∀ x ∈ nm, isWordB x = true
  cw : ∀ x ∈ cl, isWordB x = true
  cn : cl.length = nm.length
  n1 : 1 ≤ nm.length
theorem WorldOk.kp {H H' : Hp} {s c wd a b t : Addr} {nm cl : List Str} {kvs : List (List Key × V)} (W : WorldOk H s c wd a b t nm cl kvs) (e : Kp s c H H') : WorldOk H' s c wd a b t nm cl kvs :=
  ⟨e _ _ W.d W.ds.1 W.ds.2, e _ _ W.hn W.as.1 W.as.2, e _ _ W.hc W.bs.1 W.bs.2, e _ _ W.ht W.ts.1 W.ts.2, W.ds, W.as, W.bs, W.ts, W.nn, W.nw, W.cw, W.cn, W.n1⟩
theorem WorldOk.same {H H' : Hp} {s c wd a b t : Addr} {nm cl : List Str} {kvs : List (List Key × V)} (W : WorldOk H s c wd a b t nm cl kvs) (e : Same H H') : WorldOk H' s c wd a b t nm cl kvs := W.kp (Kp.same e)
theorem w1 : ¬ (("names" : Str) = "colours") := by decide +kernel
theorem w2 : ¬ (("names" : Str) = "ties") := by decide +kernel
theorem w3 : ¬ (("colours" : Str) = "ties") := by decide +kernel
section
variable {a b t : Addr}
theorem wd_names : valV (worldD a b t) (Sum.inr "names" : Key) = some (.ref a) := valV_pos rfl
theorem wd_colours : valV (worldD a b t) (Sum.inr "colours" : Key) = some (.ref b) := by
  unfold worldD
  rw [valV_neg (inr_ne w1)]
  exact valV_pos rfl
theorem wd_ties : valV (worldD a b t) (Sum.inr "ties" : Key) = some (.ref t) := by
  unfold worldD
  rw [valV_neg (inr_ne w2), valV_neg (inr_ne w3)]
  exact valV_pos rfl
theorem merge_wd : mergeK [] (worldD a b t) = worldD a b t := by
  unfold mergeK worldD
  simp [putK, w1, w2, w3]
theorem dg_names {H : Hp} {wd : Addr} (h : H wd = some (.dK (worldD a b t))) : DGet H wd (V.str "names") (some (.ref a)) := by rw [← wd_names (a := a) (b := b) (t := t)]; exact DGet.k (k := Sum.inr "names") h
theorem dg_colours {H : Hp} {wd : Addr} (h : H wd = some (.dK (worldD a b t))) : DGet H wd (V.str "colours") (some (.ref b)) := by rw [← wd_colours (a := a) (b := b) (t := t)]; exact DGet.k (k := Sum.inr "colours") h
theorem dg_ties {H : Hp} {wd : Addr} (h : H wd = some (.dK (worldD a b t))) : DGet H wd (V.str "ties") (some (.ref t)) := by rw [← wd_ties (a := a) (b := b) (t := t)]; exact DGet.k (k := Sum.inr "ties") h
end
section
variable {P : Program} {w : World} {K : PySem.W.Frag} {mg : Str → Option Value} {base : Heap}
/-! ### _law_draw_world -/
def spDraw : Sp := fun vs H Q _ => ∃ (s c : Addr) (m : Int), vs = [.ref s, .int m] ∧ Src H s c ∧ 1 ≤ m ∧ m ≤ 7 ∧
  ∀ (wd a b t : Addr) (nm cl : List Str) (kvs : List (List Key × V)) (H' : Hp), H wd = none → H a = none → H b = none → H t = none → WorldOk H' s c wd a b t nm cl kvs → (nm.length : Int) ≤ m → Ties nm.length 2 kvs → (kvs.length ≤ 300 ∧ kvs.length ≤ 3 * (nm.length * nm.length + nm.length)) → Src H' s c → Kp s c H H' → Q (.ref wd) H'
abbrev nDraw : List Str := ["_law_source", "_law_most", "_law_count", "_law_names", "_law_every", "_law_kinds", "_law_ties", "_law_wide", "_law_kind", "_law_one", "_law_other", "_law_name"]
theorem scDraw : FnScope nDraw ["_law_source", "_law_most"] (defScope sDrawWorld) := ⟨rfl, rfl, rfl, by decide +kernel, rfl, by decide +kernel, by decide +kernel⟩
theorem ok_draw {f : Addr} {fd : FuncData} (F : Fun K "_law_draw_world" "_law_draw_world" sDrawWorld f fd) (T : TxtB mg) (Gp : Def P w K mg base "_law_pick" ["_law_source", "_law_many"] 1 spPick)
    (Ga : Def P w K mg base "_law_any_order" ["_law_source", "_law_items"] 2 (spAny K)) (Gs : Def P w K mg base "_law_shape_pairs" ["_law_source", "_law_count"] 2 spShape) (Gc : Def P w K mg base "_law_choice_of" ["_law_source", "_law_items"] 2 (spChoice K)) :
    FnOk P w K mg base CX0 3 f fd ["_law_source", "_law_most"] spDraw := by
  obtain ⟨fp, fdp, Gp, mp, kp, bp⟩ := Gp.ex
  obtain ⟨fa, fda, Ga, ma, ka, ba⟩ := Ga.ex
  obtain ⟨fs, fds, Gs, ms, ks, bs⟩ := Gs.ex
  obtain ⟨fc, fdc, Gc, mc, kc, bc⟩ := Gc.ex
  refine F.ok scDraw (fun vs H Q E h => ?_) (fun cdv A outer s H vs Q E hr h => ?_)
  · obtain ⟨p, dx, n, rfl, _⟩ := h
    rfl
  · obtain ⟨sa, ca, m, rfl, S, n1, n2, k⟩ := h
    have hu := hu_of hr
    have hr1 := hr.mono (by decide : 1 ≤ 2)
    refine ⟨_, Evl.pss_cut (ps_set (i := 2) scDraw.nd rfl (Or.inl rfl) (pe_op op_add pe_int (pe_call Gp hr1 (by rfl) mp kp bp .nil pass0 (pa_cons (pv 0) (pa_cons (pv 1) pa_nil)))))
      (Evl.pss_cut (ps_set (i := 3) scDraw.nd rfl (Or.inl rfl) (pe_slice sl_list (pe_call Ga hr (by rfl) ma ka ba .nil pass0 (pa_cons (pv 0) (pa_cons (pe_lst (pa_cons pe_str (pa_cons pe_str (pa_cons pe_str (pa_cons pe_str (pa_cons pe_str (pa_cons pe_str (pa_cons pe_str pa_nil)))))))) pa_nil))) po_none (po_some (pv 2))))
      (Evl.pss_cut (ps_set (i := 4) scDraw.nd rfl (Or.inr rfl) (pe_ix ix_list (pe_lst (pa_cons (pe_lst (pa_cons pe_str pa_nil)) (pa_cons (pe_lst (pa_cons pe_str pa_nil)) (pa_cons (pe_lst (pa_cons pe_str (pa_cons pe_str pa_nil))) (pa_cons (pe_lst (pa_cons pe_str (pa_cons pe_str (pa_cons pe_str pa_nil)))) (pa_cons (pe_lst (pa_cons pe_str (pa_cons pe_str pa_nil))) pa_nil)))))) (pe_call Gp hr1 (by rfl) mp kp bp .nil pass0 (pa_cons (pv 0) (pa_cons pe_int pa_nil))) (fun _ _ => rfl)))
      (Evl.pss_cut (ps_set (i := 5) scDraw.nd rfl (Or.inl rfl) (pe_ix ix_list (pe_lst (pa_cons (pe_lst (pa_cons pe_str pa_nil)) (pa_cons (pe_lst (pa_cons pe_str pa_nil)) (pa_cons (pe_lst (pa_cons pe_str (pa_cons pe_str pa_nil))) (pa_cons (pe_lst (pa_cons pe_str (pa_cons pe_str pa_nil))) pa_nil))))) (pe_call Gp hr1 (by rfl) mp kp bp .nil pass0 (pa_cons (pv 0) (pa_cons pe_int pa_nil))) (fun _ _ => rfl)))
      (Evl.pss_cut (ps_par (i := 6) (j := 7) (by rfl) scDraw.nd rfl rfl (by decide) rfl rfl (pa_cons pe_dnewT (pa_cons (pe_call Gp hr1 (by rfl) mp kp bp .nil pass0 (pa_cons (pv 0) (pa_cons pe_int pa_nil))) pa_nil)) (by rfl))
      (Evl.pss_cut (ps_for PassesOwn.never rfl (pi_list (pv 5)) (pg_name (i := 8) scDraw.nd rfl (Or.inl rfl))
        (pss_one (ps_for PassesOwn.never rfl (pi_list (pe_call Gs hr (by rfl) ms ks bs .nil pass0 (pa_cons (pv 0) (pa_cons (pv 2) pa_nil)))) (pg_tup rfl (pgs_cons (pg_name (i := 9) scDraw.nd rfl (.inl rfl)) (pgs_cons (pg_name (i := 10) scDraw.nd rfl (.inl rfl)) pgs_nil)))
          (pss_one (ps_dput hu (pv 6) (pe_tup (pa_cons (pv 9) (pa_cons (pv 10) (pa_cons (pv 8) pa_nil)))) (pe_ix ix_list (pe_lst (pa_cons pe_int (pa_cons pe_int (pa_cons (pe_op op_add pe_int (pe_call Gp hr1 (by rfl) mp kp bp .nil pass0 (pa_cons (pv 0) (pa_cons pe_int pa_nil)))) pa_nil)))) (pv 7) (fun _ _ => rfl)) rfl)))))
      (pss_one (ps_ret (pe_disp (pps_cons pe_str (pv 3) (pps_cons pe_str (pe_lc (own := [("_law_name", 11)]) (g := gName 11) (tt := tYes) (te := tCall (spChoice K) [] E0 (tCons (tVar 0) (tCons (tVar 4) tNil))) rfl scDraw.nd (pi_list (pv 3))
          (blkOk_by (N := nDraw) (sc := defScope sDrawWorld) (by decide +kernel)) (fun _ _ _ _ _ => pg_name (i := 11) scDraw.nd rfl (Or.inl rfl)) (fun _ _ _ _ _ => pts_nil)
          (fun _ _ _ _ _ => by exact pe_call Gc hr (by rfl) mc kc bc .nil pass0 (pa_cons (pv 0) (pa_cons (pv 4) pa_nil))))
          (pps_cons pe_str (pv 6) pps_nil))) (by rfl) (by rfl) (fun z => by cases z) (by decide))))))))), ?_⟩
    -- count
    refine ⟨fun σ H1 => ∃ n : Nat, σ = [some (.ref sa), some (.int m), some (.int (n : Int)), none, none, none, none, none, none, none, none, none] ∧ 1 ≤ n ∧ (n : Int) ≤ m ∧ Src H1 sa ca ∧ Kp sa ca H H1, ?_, ?_⟩
    · refine ⟨_, rfl, _, rfl, sa, ca, m, rfl, S, n1, by omega, fun kk H1 k0 k1 S1 kp1 => ⟨_, _, rfl, rfl, ?_⟩⟩
      refine ⟨(1 + kk).toNat, ?_, by omega, by omega, S1, kp1⟩
      rw [Int.toNat_of_nonneg (by omega)]
      rfl
    rintro σ H1 ⟨n, rfl, hn1, hn7, S1, kp1⟩
    -- names
    refine ⟨fun σ H3 => ∃ q nm, σ = [some (.ref sa), some (.int m), some (.int (n : Int)), some (.ref q), none, none, none, none, none, none, none, none] ∧ H q = none ∧ H3 q = some (.lst (List.map V.str nm)) ∧ nm.length = n ∧ nm.Nodup ∧ (∀ x ∈ nm, isWordB x = true) ∧ Src H3 sa ca ∧ Kp sa ca H H3, ?_, ?_⟩
    · refine ⟨_, rfl, (by show 7 ≤ sizeLine; decide), fun l hl => ?_⟩
      refine ⟨sa, ca, l, _, rfl, S1.new hl, SqL.of upd_same, (by show 7 ≤ 10000; decide), fun p ys H2 hp pm hpl S2 kp2 => ?_⟩
      refine ⟨_, rfl, _, rfl, p, ys, rfl, SqL.of hpl, fun q hq => ?_⟩
      obtain ⟨zs, rfl, pz⟩ := perm_str (xs := seven) pm
      have hzl : zs.length = 7 := pz.length_eq
      have kp02 : Kp sa ca H H2 := kp1.trans ((Kp.same (same_new hl)).trans kp2)
      have hq0 : H q = none := kp02.free S2 hq
      refine ⟨q, zs.take n, rfl, hq0, by rw [upd_same, cut_upto, ← List.map_take], by rw [List.length_take]; omega, ((List.take_sublist n zs).nodup (pz.nodup_iff.mpr seven_nd)), fun x hx => seven_w x (pz.subset ((List.take_sublist n zs).subset hx)), S2.new hq, kp02.off hq0⟩
    rintro σ H3 ⟨q, nm, rfl, hq0, hq, hlen, hnd, hwd, S3, kp3⟩
    -- every
    refine ⟨fun σ H4 => ∃ v, σ = [some (.ref sa), some (.int m), some (.int (n : Int)), some (.ref q), some v, none, none, none, none, none, none, none] ∧ WordL H3 H4 v ∧ Src H4 sa ca ∧ Kp sa ca H3 H4, ?_, ?_⟩
    · refine ⟨(by show 1 ≤ sizeLine; decide), fun l1 h1 => ⟨(by show 1 ≤ sizeLine; decide), fun l2 h2 => ⟨(by show 2 ≤ sizeLine; decide), fun l3 h3 => ⟨(by show 3 ≤ sizeLine; decide), fun l4 h4 => ⟨(by show 2 ≤ sizeLine; decide), fun l5 h5 => ⟨(by show 5 ≤ sizeLine; decide), fun l6 h6 => ?_⟩⟩⟩⟩⟩⟩
      have s1 := same_new (o := .lst ((["o"] : List Str).map V.str)) h1
      have s2 := s1.trans (same_new (o := .lst ((["o"] : List Str).map V.str)) h2)
      have s3 := s2.trans (same_new (o := .lst ((["red", "blue"] : List Str).map V.str)) h3)
      have s4 := s3.trans (same_new (o := .lst ((["x", "y", "z"] : List Str).map V.str)) h4)
      have s5 := s4.trans (same_new (o := .lst ((["m10", "m2"] : List Str).map V.str)) h5)
      have s6 := same_new (o := .lst [.ref l1, .ref l2, .ref l3, .ref l4, .ref l5]) h6
      have a5 := (WordL.mk ["m10", "m2"] s4 h5 (by decide +kernel)).same s6
      have a4 := ((WordL.mk ["x", "y", "z"] s3 h4 (by decide +kernel)).same (same_new h5)).same s6
      have a3 := (((WordL.mk ["red", "blue"] s2 h3 (by decide +kernel)).same (same_new h4)).same (same_new h5)).same s6
      have a2 := ((((WordL.mk ["o"] s1 h2 (by decide +kernel)).same (same_new h3)).same (same_new h4)).same (same_new h5)).same s6
      have a1 := (((((WordL.mk ["o"] (Same.refl H3) h1 (by decide +kernel)).same (same_new h2)).same (same_new h3)).same (same_new h4)).same (same_new h5)).same s6
      have all : ∀ v ∈ [V.ref l1, V.ref l2, V.ref l3, V.ref l4, V.ref l5], WordL H3 _ v := fun v hv => by
        rcases List.mem_cons.mp hv with rfl | hv
        · exact a1
        rcases List.mem_cons.mp hv with rfl | hv
        · exact a2
        rcases List.mem_cons.mp hv with rfl | hv
        · exact a3
        rcases List.mem_cons.mp hv with rfl | hv
        · exact a4
        rcases List.mem_cons.mp hv with rfl | hv
        · exact a5
        cases hv
      have s06 := s5.trans s6
      refine ⟨_, rfl, sa, ca, 5, rfl, S3.same s06, by decide, by decide, fun kk H4 k0 k1 S4 kp4 => ?_⟩
      obtain ⟨n6s, n6c⟩ := S3.ne (s5.free h6)
      have hl6 := kp4 _ _ upd_same n6s n6c
      obtain ⟨v, hv⟩ : ∃ v, [V.ref l1, V.ref l2, V.ref l3, V.ref l4, V.ref l5][kk.toNat]? = some v := ⟨_, List.getElem?_eq_getElem (by show kk.toNat < 5; omega)⟩
      refine ⟨l6, _, kk, v, rfl, rfl, SqL.of hl6, ?_, v, rfl, (all v (List.mem_of_getElem? hv)).kp S3 kp4, S4, (Kp.same s06).trans kp4⟩
      have := atI_nat hv
      rw [Int.toNat_of_nonneg k0] at this
      exact this
    rintro σ H4 ⟨ev, rfl, hev, S4, kp4⟩
    -- kinds
    refine ⟨fun σ H5 => ∃ v, σ = [some (.ref sa), some (.int m), some (.int (n : Int)), some (.ref q), some ev, some v, none, none, none, none, none, none] ∧ WordL H4 H5 v ∧ Src H5 sa ca ∧ Kp sa ca H4 H5, ?_, ?_⟩
    · refine ⟨(by show 1 ≤ sizeLine; decide), fun l1 h1 => ⟨(by show 1 ≤ sizeLine; decide), fun l2 h2 => ⟨(by show 2 ≤ sizeLine; decide), fun l3 h3 => ⟨(by show 2 ≤ sizeLine; decide), fun l4 h4 => ⟨(by show 4 ≤ sizeLine; decide), fun l6 h6 => ?_⟩⟩⟩⟩⟩
      have s1 := same_new (o := .lst ((["c"] : List Str).map V.str)) h1
      have s2 := s1.trans (same_new (o := .lst ((["c"] : List Str).map V.str)) h2)
      have s3 := s2.trans (same_new (o := .lst ((["k", "c"] : List Str).map V.str)) h3)
      have s4 := s3.trans (same_new (o := .lst ((["k2", "k10"] : List Str).map V.str)) h4)
      have s6 := same_new (o := .lst [.ref l1, .ref l2, .ref l3, .ref l4]) h6
      have a4 := (WordL.mk ["k2", "k10"] s3 h4 (by decide +kernel)).same s6
      have a3 := ((WordL.mk ["k", "c"] s2 h3 (by decide +kernel)).same (same_new h4)).same s6
      have a2 := (((WordL.mk ["c"] s1 h2 (by decide +kernel)).same (same_new h3)).same (same_new h4)).same s6
      have a1 := ((((WordL.mk ["c"] (Same.refl H4) h1 (by decide +kernel)).same (same_new h2)).same (same_new h3)).same (same_new h4)).same s6
      have all : ∀ v ∈ [V.ref l1, V.ref l2, V.ref l3, V.ref l4], WordL H4 _ v := fun v hv => by
        rcases List.mem_cons.mp hv with rfl | hv
        · exact a1
        rcases List.mem_cons.mp hv with rfl | hv
        · exact a2
        rcases List.mem_cons.mp hv with rfl | hv
        · exact a3
        rcases List.mem_cons.mp hv with rfl | hv
        · exact a4
        cases hv
      have s06 := s4.trans s6
      refine ⟨_, rfl, sa, ca, 4, rfl, S4.same s06, by decide, by decide, fun kk H5 k0 k1 S5 kp5 => ?_⟩
      obtain ⟨n6s, n6c⟩ := S4.ne (s4.free h6)
      have hl6 := kp5 _ _ upd_same n6s n6c
      obtain ⟨v, hv⟩ : ∃ v, [V.ref l1, V.ref l2, V.ref l3, V.ref l4][kk.toNat]? = some v := ⟨_, List.getElem?_eq_getElem (by show kk.toNat < 4; omega)⟩
      refine ⟨l6, _, kk, v, rfl, rfl, SqL.of hl6, ?_, v, rfl, (all v (List.mem_of_getElem? hv)).kp S4 kp5, S5, (Kp.same s06).trans kp5⟩
      have := atI_nat hv
      rw [Int.toNat_of_nonneg k0] at this
      exact this
    rintro σ H5 ⟨kv, rfl, hkv, S5, kp5⟩
    have hev5 := hev.kp S3 kp5
    obtain ⟨ea, es, rfl, ea0, hea, e1, e2, ew⟩ := hev5
    obtain ⟨ka', ks', rfl, ka0, hka, kk1, kk2, kw⟩ := hkv
    have kp05 : Kp sa ca H H5 := (kp3.trans kp4).trans kp5
    obtain ⟨nqs, nqc⟩ := S.ne hq0
    have hq5 : H5 q = some (.lst (List.map V.str nm)) := kp5 _ _ (kp4 _ _ hq nqs nqc) nqs nqc
    obtain ⟨nes, nec⟩ := S3.ne ea0
    obtain ⟨nks, nkc⟩ := S4.ne ka0
    -- ties, wide
    refine ⟨fun σ H6 => ∃ t wi, σ = [some (.ref sa), some (.int m), some (.int (n : Int)), some (.ref q), some (.ref ea), some (.ref ka'), some (.ref t), some (.int wi), none, none, none, none] ∧ H5 t = none ∧ 0 ≤ wi ∧ wi < 3 ∧ H6 t = some (.dT []) ∧ Src H6 sa ca ∧ Kp sa ca H5 H6, ?_, ?_⟩
    · intro t ht
      obtain ⟨nts, ntc⟩ := S5.ne ht
      refine ⟨_, rfl, sa, ca, 3, rfl, S5.new ht, by decide, by decide, fun kk H6 k0 k1 S6 kp6 => ?_⟩
      exact ⟨_, _, rfl, t, kk, rfl, ht, k0, k1, kp6 _ _ upd_same nts ntc, S6, (Kp.same (same_new ht)).trans kp6⟩
    rintro σ H6 ⟨t, wi, rfl, ht0, wi0, wi1, ht, S6, kp6⟩
    obtain ⟨nts, ntc⟩ := S5.ne ht0
    have nkt : ka' ≠ t := ne_of_none hka ht0
    have net : ea ≠ t := ne_of_none hea ht0
    have nqt : q ≠ t := ne_of_none hq5 ht0
    refine ⟨fun σ H7 => ∃ vk v9 v10 kvs, σ = [some (.ref sa), some (.int m), some (.int (n : Int)), some (.ref q), some (.ref ea), some (.ref ka'), some (.ref t), some (.int wi), vk, v9, v10, none] ∧ H7 t = some (.dT kvs) ∧ Ties n 2 kvs ∧ (kvs.length ≤ 300 ∧ kvs.length ≤ 3 * (n * n + n)) ∧ Src H7 sa ca ∧ Kp3 sa ca t H6 H7, ?_, ?_⟩
    · refine ⟨_, rfl, ka', rfl, ⟨_, SqL.of (kp6 _ _ hka nks nkc)⟩, ?_⟩
      refine for_list (xs := ks'.map V.str) (fun i σ H7 => ∃ vk v9 v10 kvs, σ = [some (.ref sa), some (.int m), some (.int (n : Int)), some (.ref q), some (.ref ea), some (.ref ka'), some (.ref t), some (.int wi), vk, v9, v10, none] ∧ H7 t = some (.dT kvs) ∧ Ties n 2 kvs ∧ (kvs.length ≤ 100 * i ∧ kvs.length ≤ (n * n + n) * i) ∧ Src H7 sa ca ∧ Kp3 sa ca t H6 H7)
        ⟨none, none, none, [], rfl, ht, Ties.nil n 2, ⟨by simp, by simp⟩, S6, Kp3.refl H6⟩ (fun i σ H7 _ ⟨_, _, _, _, _, _, _, _, _, kp7⟩ => SqL.of (kp7 _ _ (kp6 _ _ hka nks nkc) nks nkc nkt)) ?_ ?_
      · rintro i x σ H7 hi ⟨vk, v9, v10, kvs, rfl, ht7, ti7, ⟨hl7, hl7b⟩, S7, kp7⟩
        have hil := (List.getElem?_eq_some_iff.mp hi).1
        rw [List.length_map] at hil
        rw [List.getElem?_map] at hi
        obtain ⟨kd, hkd, rfl⟩ := Option.map_eq_some_iff.mp hi
        have kdw := kw kd (List.mem_of_getElem? hkd)
        refine ⟨_, rfl, _, rfl, sa, ca, n, rfl, S7, by omega, by omega, fun p xs H8 hp hpl hpr hxl2 S8 kp8 => ?_⟩
        have hxl := hxl2.1
        have hxB := hxl2.2 n rfl
        have ht8 := kp8 _ _ ht7 nts ntc
        have npt : p ≠ t := fun e => by subst e; rw [hp] at ht7; cases ht7
        obtain ⟨nps, npc⟩ := S7.ne hp
        refine ⟨p, rfl, ⟨_, SqL.of hpl⟩, ?_⟩
        refine for_list (xs := xs) (fun j σ H9 => ∃ v9 v10 kvs', σ = [some (.ref sa), some (.int m), some (.int (n : Int)), some (.ref q), some (.ref ea), some (.ref ka'), some (.ref t), some (.int wi), some (.str kd), v9, v10, none] ∧ H9 t = some (.dT kvs') ∧ Ties n 2 kvs' ∧ kvs'.length ≤ kvs.length + j ∧ H9 p = some (.lst xs) ∧ PairsAt n H9 xs ∧ Src H9 sa ca ∧ Kp3 sa ca t H6 H9)
          ⟨v9, v10, kvs, rfl, ht8, ti7, by omega, hpl, hpr, S8, kp7.kp kp8⟩ (fun j σ H9 _ ⟨_, _, _, _, _, _, _, h, _⟩ => SqL.of h) ?_ ?_
        · rintro j x σ H9 hj ⟨v9, v10, kvs', rfl, ht9, ti9, hl9, hp9, hpr9, S9, kp9⟩
          have hjl := (List.getElem?_eq_some_iff.mp hj).1
          obtain ⟨tt, i1, j1, rfl, htt, hi0, hij, hjn⟩ := hpr9 x (List.mem_of_getElem? hj)
          refine ⟨tt, _, rfl, SqT.of htt, rfl, _, _, rfl, _, _, rfl, rfl, ?_⟩
          refine ⟨_, rfl, sa, ca, 2, rfl, S9, by decide, by decide, fun kk H10 k0 k1 S10 kp10 => ⟨_, _, rfl, rfl, (by show 3 ≤ sizeLine; decide), fun l hl => ?_⟩⟩
          have ht10 := kp10 _ _ ht9 nts ntc
          have hp10 := kp10 _ _ hp9 nps npc
          have hpr10 := hpr9.kp S9 kp10
          obtain ⟨x, hx, hx1, hx2⟩ : ∃ x : Nat, atI [V.int 1, V.int 2, V.int (1 + kk)] wi = some (V.int (x : Int)) ∧ 1 ≤ x ∧ x ≤ 2 := by
            have hw : wi = 0 ∨ wi = 1 ∨ wi = 2 := by omega
            rcases hw with rfl | rfl | rfl
            · exact ⟨1, atI_nat (j := 0) rfl, by decide, by decide⟩
            · exact ⟨2, atI_nat (j := 1) rfl, by decide, by decide⟩
            · refine ⟨(1 + kk).toNat, ?_, by omega, by omega⟩
              rw [Int.toNat_of_nonneg (by omega)]
              exact atI_nat (j := 2) rfl
          refine ⟨_, rfl, l, _, wi, _, rfl, rfl, SqL.of upd_same, hx, ?_⟩
          have ht11 : (upd H10 l (.lst [V.int 1, V.int 2, V.int (1 + kk)])) t = some (.dT kvs') := by rw [upd_ne (ne_of_none ht10 hl)]; exact ht10
          refine ⟨_, rfl, _, rfl, _, rfl, _, rfl, (by show 3 ≤ sizeLine; decide), fun u hu => ?_⟩
          have ht12 : (upd (upd H10 l (.lst [V.int 1, V.int 2, V.int (1 + kk)])) u (.tup [.int i1, .int j1, .str kd])) t = some (.dT kvs') := by rw [upd_ne (ne_of_none ht11 hu)]; exact ht11
          have sm12 : Same H10 (upd (upd H10 l (.lst [V.int 1, V.int 2, V.int (1 + kk)])) u (.tup [.int i1, .int j1, .str kd])) := (same_new hl).trans (same_new hu)
          refine ⟨t, _, rfl, DPut.t (k := [Sum.inl i1, Sum.inl j1, Sum.inr kd]) ht12 upd_same (Evl.sz_lt (by omega)), ?_⟩
          refine ⟨some (.int i1), some (.int j1), _, rfl, upd_same, ti9.put ⟨i1.toNat, j1.toNat, kd, by rw [Int.toNat_of_nonneg hi0, Int.toNat_of_nonneg (by omega)], by omega, by omega, kdw⟩ hx1 hx2, by have := length_putK kvs' [Sum.inl i1, Sum.inl j1, Sum.inr kd] (V.int (x : Int)); omega, ?_, ?_, (S10.same sm12).upd nts.symm.symm ntc, ((kp9.kp kp10).kp (Kp.same sm12)).put⟩
          · rw [upd_ne npt]
            exact sm12 _ _ hp10
          · exact (hpr10.same sm12).put ht12 (by intro ys z; cases z)
        · rintro σ H9 ⟨v9, v10, kvs', rfl, ht9, ti9, hl9, hp9, hpr9, S9, kp9⟩
          exact ⟨some (.str kd), v9, v10, kvs', rfl, ht9, ti9, ⟨by omega, by rw [Nat.mul_succ]; omega⟩, S9, kp9⟩
      · rintro σ H7 ⟨vk, v9, v10, kvs, rfl, ht7, ti7, hl7, S7, kp7⟩
        rw [List.length_map] at hl7
        exact ⟨vk, v9, v10, kvs, rfl, ht7, ti7, ⟨by omega, by have := Nat.mul_le_mul_left (n * n + n) (show ks'.length ≤ 3 by omega); omega⟩, S7, kp7⟩
    rintro σ H7 ⟨vk, v9, v10, kvs, rfl, ht7, ti7, hl7, S7, kp7⟩
    have hq7 := kp7 _ _ (kp6 _ _ hq5 nqs nqc) nqs nqc nqt
    have hea7 := kp7 _ _ (kp6 _ _ hea nes nec) nes nec net
    have kp07 : Kp sa ca H H7 := fun b o e h1 h2 => kp7 b o (kp6 b o (kp05 b o e h1 h2) h1 h2) h1 h2 (ne_of_none (kp05 b o e h1 h2) ht0)
    have ht00 : H t = none := kp05.free S5 ht0
    intro p hp
    have hp0 : H p = none := kp07.free S7 hp
    obtain ⟨nps, npc⟩ := S7.ne hp
    have npq : p ≠ q := fun e => by subst e; rw [hq7] at hp; cases hp
    have npe : p ≠ ea := fun e => by subst e; rw [hea7] at hp; cases hp
    have npt : p ≠ t := fun e => by subst e; rw [ht7] at hp; cases hp
    have sp := same_new (o := .dK []) hp
    refine ⟨_, rfl, _, rfl, q, rfl, ⟨_, SqL.of (sp _ _ hq7)⟩, fun D hD => ?_⟩
    obtain ⟨nDp, hD7⟩ := nx hD
    have hD0 : H D = none := kp07.free S7 hD7
    obtain ⟨nDs, nDc⟩ := S7.ne hD7
    have sD := same_new (o := .lst []) hD
    have sDp := sp.trans sD
    refine lc_list (xs := nm.map V.str) (fun i H8 => ∃ cl, H8 D = some (.lst (List.map V.str cl)) ∧ cl.length = i ∧ (∀ x ∈ cl, isWordB x = true) ∧ H8 p = some (.dK []) ∧ Src H8 sa ca ∧ Kp sa ca H7 H8)
      ⟨[], upd_same, rfl, (fun x hx => (List.not_mem_nil hx).elim), sD _ _ upd_same, S7.same sDp, Kp.same sDp⟩ (fun i H8 _ ⟨_, _, _, _, _, _, k8⟩ => SqL.of (k8 _ _ hq7 nqs nqc)) ?_ ?_
    · rintro i x H8 hi ⟨cl, hcD, hcl, hcw, hp8, S8, kp8⟩
      have hil := (List.getElem?_eq_some_iff.mp hi).1
      rw [List.length_map] at hil
      refine ⟨rfl, tyes ?_⟩
      refine ⟨_, rfl, _, rfl, sa, ca, ea, _, rfl, S8, nes, nec, SqL.of (kp8 _ _ hea7 nes nec), by rw [List.length_map]; exact e1, by rw [List.length_map]; omega, fun v H9 hv S9 kp9 => ?_⟩
      obtain ⟨x, hx, rfl⟩ := List.mem_map.mp hv
      refine ⟨_, kp9 _ _ hcD nDs nDc, Evl.sz_lt (by rw [List.length_map]; omega), cl ++ [x], by rw [upd_same, List.map_append]; rfl, by simp [hcl], ?_, ?_, S9.upd nDs nDc, ?_⟩
      · intro y hy
        rcases List.mem_append.mp hy with z | z
        · exact hcw y z
        · rw [List.mem_singleton] at z
          subst z
          exact ew y hx
      · rw [upd_ne nDp.symm]
        exact kp9 _ _ hp8 nps npc
      · exact (kp8.trans kp9).off hD7
    · rintro H8 ⟨cl, hcD, hcl, hcw, hp8, S8, kp8⟩
      rw [List.length_map] at hcl
      refine ⟨_, rfl, hp8, worldD q D t, rfl, (by show 3 ≤ 15; decide), ?_⟩
      rw [merge_wd]
      have nDt : D ≠ t := fun e => by subst e; rw [ht7] at hD7; cases hD7
      refine k p q D t nm cl kvs _ hp0 hq0 hD0 ht00 ⟨upd_same, ?_, ?_, ?_, ⟨nps, npc⟩, ⟨nqs, nqc⟩, ⟨nDs, nDc⟩, ⟨nts, ntc⟩, hnd, hwd, hcw, hcl, by omega⟩ (by omega) (by rw [hlen]; exact ti7) (by rw [hlen]; exact hl7) (S8.upd nps npc) ((kp07.trans kp8).off hp0)
      · rw [upd_ne npq.symm]; exact kp8 _ _ hq7 nqs nqc
      · rw [upd_ne nDp]; exact hcD
      · rw [upd_ne npt.symm]; exact kp8 _ _ ht7 nts ntc
end
end Nm
set_option maxRecDepth 100000
set_option maxHeartbeats 4000000
/-! sorted of a list of tuples of ints and texts, the first of each an int: a rearrangement -/
namespace Nm
open PySem PySem.Spec PyProof.Rows L2
/-- two rows of keys that are of one kind place by place -/
inductive SameK : List Key → List Key → Prop
  | nil : SameK [] []
  | int {i j : Int} {r q : List Key} : SameK r q → SameK (Sum.inl i :: r) (Sum.inl j :: q)
  | str {x y : Str} {r q : List Key} : SameK r q → SameK (Sum.inr x :: r) (Sum.inr y :: q)
def IsRow (h : Heap) (v : Value) (ks : List Key) : Prop := ∃ a o its n, v = .ref a ∧ h.get? a = some o ∧ o.cls = .type "tuple" ∧ o.data = .seq (List.toArray its) n ∧ Vals (ks.map kV) its
theorem IsRow.keeps {h h' : Heap} {v : Value} {ks : List Key} (p : IsRow h v ks) (k : ∀ b o, h.get? b = some o → o.cls = .type "tuple" → h'.get? b = some o) : IsRow h' v ks := by
  obtain ⟨a, o, its, n, e, ho, hc, hd⟩ := p
  exact ⟨a, o, its, n, e, k _ _ ho hc, hc, hd⟩
section
variable {prog : Program} {w : World} {A : Around} {E : Value → Shared → Prop} {s : Shared}
theorem lex_tot {fin : Bool} : ∀ {ks qs : List Key} {its jts : List Value} (i : Nat), SameK ks qs → Vals (ks.map kV) its → Vals (qs.map kV) jts → 0 < i → ∃ b : Bool, PySem.W.KatLex prog w A true fin (fun r s' => s' = s ∧ r = b) (its.zip jts) i s
  | _, _, _, _, i, .nil, .nil, .nil, _ => ⟨fin, PySem.W.kat_nil ⟨rfl, rfl⟩⟩
  | _, _, _, _, i, .int (i := x) (j := y) sk, .cons (a := _) r1 t1, .cons r2 t2, hi => by
    obtain ⟨t, rfl⟩ := r1
    obtain ⟨u, rfl⟩ := r2
    obtain ⟨b, hb⟩ := lex_tot (i + 1) sk t1 t2 (Nat.succ_pos _)
    by_cases e : x = y
    · refine ⟨b, PySem.W.kat_cons (SeqAt.EqAt.int_int x t y u prog w _ _ ?_)⟩
      refine PySem.W.kat_go (fun _ => PySem.W.kat_yes hb) (fun e1 => absurd e (by simpa using e1))
    · refine ⟨decide (x < y), PySem.W.kat_cons (SeqAt.EqAt.int_int x t y u prog w _ _ ?_)⟩
      refine PySem.W.kat_go (fun e1 => absurd (by simpa using e1) e) (fun _ => PySem.W.kat_no (TS.oneLt_ints _ ⟨rfl, rfl⟩))
  | _, _, _, _, i, .str (x := x) (y := y) sk, .cons r1 t1, .cons r2 t2, hi => by
    obtain ⟨t, rfl⟩ := r1
    obtain ⟨u, rfl⟩ := r2
    obtain ⟨b, hb⟩ := lex_tot (i + 1) sk t1 t2 (Nat.succ_pos _)
    by_cases e : x = y
    · refine ⟨b, PySem.W.kat_cons (SeqAt.EqAt.str_str x t y u prog w _ _ ?_)⟩
      refine PySem.W.kat_go (fun _ => PySem.W.kat_yes hb) (fun e1 => absurd e (by simpa using e1))
    · refine ⟨decide (x.cps.toList < y.cps.toList), PySem.W.kat_cons (SeqAt.EqAt.str_str x t y u prog w _ _ ?_)⟩
      refine PySem.W.kat_go (fun e1 => absurd (by simpa using e1) e) (fun _ => PySem.W.kat_no ?_)
      have hi0 : (true && i == 0) = false := by simp; omega
      rw [hi0]
      exact PySem.W.kat_one _ _ (PyProof.Rows.lt_str (Q := PySem.W.BoolBack (fun r s' => s' = s ∧ r = decide (x.cps.toList < y.cps.toList))) (show s = s ∧ decide (x.cps.toList < y.cps.toList) = decide (x.cps.toList < y.cps.toList) from ⟨rfl, rfl⟩))
theorem row_tot {vs : List Value} {k : Value → Int × List Key} (hp : ∀ v ∈ vs, IsRow s.heap v (Sum.inl (k v).1 :: (k v).2)) (hs : ∀ v ∈ vs, ∀ u ∈ vs, SameK (k v).2 (k u).2) : Srt.Tot prog w A s (tuples' true) (fun p => p.1 ∈ vs) := by
  intro p q hm hm'
  obtain ⟨a, o, its, n, e, ho, hc, hd, hv⟩ := hp _ hm
  obtain ⟨a', o', jts, n', e', ho', hc', hd', hv'⟩ := hp _ hm'
  have sk := hs _ hm _ hm'
  rw [e, e']
  generalize k p.1 = kp at *
  generalize k q.1 = kq at *
  obtain ⟨x, ks⟩ := kp
  obtain ⟨y, qs⟩ := kq
  cases hv with
  | cons r1 t1 =>
    cases hv' with
    | cons r2 t2 =>
      obtain ⟨t, rfl⟩ := r1
      obtain ⟨u, rfl⟩ := r2
      rename_i it jt
      obtain ⟨b, hb⟩ := lex_tot (prog := prog) (w := w) (A := A) (s := s) (fin := decide ((List.toArray (Value.int x t :: it)).size < (List.toArray (Value.int y u :: jt)).size)) 1 sk t1 t2 (by decide)
      by_cases e : x = y
      · refine ⟨b, PySem.W.kat_lt ho hd ho' hd' (PySem.W.kat_cons (SeqAt.EqAt.int_int x t y u prog w _ _ ?_))⟩
        refine PySem.W.kat_go (fun _ => PySem.W.kat_yes hb) (fun e1 => absurd e (by simpa using e1))
      · refine ⟨decide (x < y), PySem.W.kat_lt ho hd ho' hd' (PySem.W.kat_cons (SeqAt.EqAt.int_int x t y u prog w _ _ ?_))⟩
        refine PySem.W.kat_go (fun e1 => absurd (by simpa using e1) e) (fun _ => PySem.W.kat_no (TS.oneLt_ints _ ⟨rfl, rfl⟩))
theorem firsts_row {h : Heap} {k : Value → Int × List Key} : ∀ {vs : List Value}, (∀ v ∈ vs, IsRow h v (Sum.inl (k v).1 :: (k v).2)) → ∃ fs : List Value, PySem.W.KatTups h vs fs ∧ fs.length = vs.length ∧ ∀ f ∈ fs, ∃ x t, f = Value.int x t
  | [], _ => ⟨[], PySem.W.KatTups.nil, rfl, fun _ hm => by simp at hm⟩
  | v :: vs, hp => by
    obtain ⟨fs, h1, h2, h3⟩ := firsts_row (vs := vs) fun v' hm => hp v' (List.mem_cons_of_mem _ hm)
    obtain ⟨a, o, its, n, e, ho, hc, hd, hv⟩ := hp v (List.mem_cons_self ..)
    subst e
    cases hv with
    | cons r1 t1 =>
      obtain ⟨t, rfl⟩ := r1
      refine ⟨.int (k (.ref a)).1 t :: fs, PySem.W.KatTups.cons ho hc hd rfl h1, by rw [List.length_cons, List.length_cons, h2], fun f hm => ?_⟩
      rcases List.mem_cons.mp hm with rfl | hm
      · exact ⟨_, t, rfl⟩
      · exact h3 f hm
theorem rows_sortable {a : Addr} {vs : List Value} {k : Value → Int × List Key} (h0 : 0 < vs.length) (hp : ∀ v ∈ vs, IsRow s.heap v (Sum.inl (k v).1 :: (k v).2)) (hs : ∀ v ∈ vs, ∀ u ∈ vs, SameK (k v).2 (k u).2) (ha : ∀ o, s.heap.get? a = some o → o.cls ≠ .type "tuple") : Srt.Sortable prog w A s a vs := by
  intro h' keep
  have hp' : ∀ v ∈ vs, IsRow h' v (Sum.inl (k v).1 :: (k v).2) := fun v hm => (hp v hm).keeps fun b o e c => keep b o (fun z => by subst z; exact ha o e c) e
  obtain ⟨fs, h1, h2, h3⟩ := firsts_row hp'
  refine ⟨tuples' true, fun Q E hq => ?_, row_tot (s := { s with heap := h' }) hp' hs⟩
  refine PySem.W.kat_kind (T := .type "int") h1 (by omega) (fun f hm => ?_) (by rfl) ?_
  · obtain ⟨x, t, rfl⟩ := h3 f hm
    exact PySem.W.Looks.now
  · have e : (Value.type "int" != Value.type "tuple") = true := by decide +kernel
    rw [e]
    exact hq
theorem sorted_rows {l : Addr} {vs : List Value} {k : Value → Int × List Key} {Q : Value → Shared → Prop} (hl : s.heap.IsList l vs.toArray) (hz : vs.length ≤ sizeLine) (hp : ∀ v ∈ vs, IsRow s.heap v (Sum.inl (k v).1 :: (k v).2)) (hs : ∀ v ∈ vs, ∀ u ∈ vs, SameK (k v).2 (k u).2)
    (h : ∀ (h' : Heap) (d : Addr) (out : List Value), out.Perm vs → (∀ b o, s.heap.get? b = some o → h'.get? b = some o) → s.heap.objs.size ≤ d → (∃ n, h'.get? d = some (seqObj "list" out.toArray n)) → Q (.ref d) { s with heap := h' }) :
    wpAny (model prog w) A (call (.builtin "sorted") [.ref l]) Q E s := by
  refine Srt.sorted_any hl hz (fun h2 h₁ a ha kk => ?_) fun out ho => ?_
  · refine rows_sortable (s := { s with heap := h₁ }) (by omega) (fun v hm => (hp v hm).keeps fun b o e _ => (kk b o e).2) hs fun o e => ?_
    have e' : some o = some (seqObj "list" vs.toArray 0) := e.symm.trans ha
    cases e'
    intro c
    exact absurd (Value.type.inj c) (by decide)
  · exact h _ _ out ho (fun b o e => sortedAll_old e) (Nat.le_succ _) (sortedAll_at s.heap vs out.toArray)
end
/-- sorted(xs): a new list of the same tuples, in some order -/
def rSortedR (K : PySem.W.Frag) : List V → Hp → VK → Prop := fun vs H Q => ∃ a xs, ∃ k : V → Int × List Key, vs = [V.ref a] ∧ SqL K H a xs ∧ (∀ x ∈ xs, ∃ t, x = V.ref t ∧ H t = some (.tup (V.int (k x).1 :: (k x).2.map kV))) ∧ (∀ x ∈ xs, ∀ y ∈ xs, SameK (k x).2 (k y).2) ∧
  ∀ ys p, ys.Perm xs → H p = none → Q (.ref p) (upd H p (.lst ys))
section
variable {X : Cx}
theorem cr_sortedR : CallR X (.builtin "sorted") (rSortedR X.K) := by
  intro pins s σ H vs us Q I r h
  obtain ⟨a, xs, k, rfl, hs, hx, hk, q⟩ := h
  obtain ⟨its, rv, hl, hz⟩ := I.list hs
  obtain ⟨u, rfl, ru⟩ := vals1 r
  obtain rfl : u = Value.ref a := ru
  obtain ⟨e1, e2⟩ := refs_back rv fun x m => by
    obtain ⟨t, e, _⟩ := hx x m
    exact ⟨t, e⟩
  have inx : ∀ v ∈ its, backV v ∈ xs := fun v hv => by rw [e1]; exact List.mem_map.mpr ⟨_, hv, rfl⟩
  refine sorted_rows (k := fun u => k (backV u)) hl.isList (by rw [← rv.length]; exact hz) (fun v hv => ?_) (fun v hv u hu => hk _ (inx v hv) _ (inx u hu)) fun h' d out hp k' hd hn => ?_
  · obtain ⟨t, rfl⟩ := e2 v hv
    obtain ⟨t', e, ht⟩ := hx _ (inx _ hv)
    cases e
    obtain ⟨_, its2, r2, o, ho, hc, n, hd⟩ := I.hok _ _ ht
    exact ⟨t, o, its2, n, rfl, ho, hc, hd, r2⟩
  · have h3 : ∀ u ∈ out, ∃ a, u = Value.ref a := fun u hu => e2 u (hp.mem_iff.mp hu)
    obtain ⟨n, hn⟩ := hn
    refine ⟨.ref d, upd H d (.lst (out.map backV)), I.laid (t' := s.toks) k' hd ⟨?_, out, n, vals_back h3, hn⟩, rfl, q _ d ?_ (I.hok.fresh hd)⟩
    · rw [List.length_map, hp.length_eq, ← rv.length]; exact hz
    · rw [e1]; exact hp.map backV
end
end Nm
set_option maxRecDepth 100000
set_option maxHeartbeats 4000000
/-! sorted of a list of tuples of ints and texts, the first of each an int: in order -/
namespace Nm
open PySem PySem.Spec PyProof.Rows L2
def keyLt : Key → Key → Bool
  | .inl a, .inl b => decide (a < b)
  | .inr x, .inr y => decide (x.cps.toList < y.cps.toList)
  | .inl _, .inr _ => true
  | .inr _, .inl _ => false
def lexK : List Key → List Key → Bool
  | [], [] => false
  | [], _ :: _ => true
  | _ :: _, [] => false
  | a :: r, b :: q => if a = b then lexK r q else keyLt a b
theorem lexK_eq {a b : Key} {r q : List Key} (h : a = b) : lexK (a :: r) (b :: q) = lexK r q := by
  rw [lexK, if_pos h]
theorem lexK_ne {a b : Key} {r q : List Key} (h : ¬ a = b) : lexK (a :: r) (b :: q) = keyLt a b := by
  rw [lexK, if_neg h]
theorem str_eq {x y : Str} (h : x.cps.toList = y.cps.toList) : x = y := by
  cases x
  cases y
  simp at h
  simp [h]
theorem keyLt_anti : ∀ {a b : Key}, keyLt a b = false → keyLt b a = false → a = b
  | .inl a, .inl b, h1, h2 => by
    have h1 := of_decide_eq_false h1
    have h2 := of_decide_eq_false h2
    congr 1
    omega
  | .inr x, .inr y, h1, h2 => by
    have h1 := of_decide_eq_false h1
    have h2 := of_decide_eq_false h2
    rw [List.not_lt] at h1 h2
    rw [str_eq (List.le_antisymm h2 h1)]
  | .inl _, .inr _, h1, _ => by cases h1
  | .inr _, .inl _, _, h2 => by cases h2
theorem keyLt_asym : ∀ {a b : Key}, keyLt a b = true → keyLt b a = false
  | .inl a, .inl b, h => by
    have h := of_decide_eq_true h
    exact decide_eq_false (by omega)
  | .inr x, .inr y, h => by
    have h := of_decide_eq_true h
    exact decide_eq_false (List.lt_asymm h)
  | .inl _, .inr _, _ => rfl
  | .inr _, .inl _, h => by cases h
theorem keyLt_tr : ∀ {a b c : Key}, keyLt b a = false → keyLt c b = false → keyLt c a = false
  | .inl a, .inl b, .inl c, h1, h2 => by
    have h1 := of_decide_eq_false h1
    have h2 := of_decide_eq_false h2
    exact decide_eq_false (by omega)
  | .inr x, .inr y, .inr z, h1, h2 => by
    have h1 := of_decide_eq_false h1
    have h2 := of_decide_eq_false h2
    refine decide_eq_false ?_
    rw [List.not_lt] at *
    exact List.le_trans h1 h2
  | .inl _, .inl _, .inr _, _, _ => rfl
  | .inl _, .inr _, .inr _, _, _ => rfl
  | .inl _, .inr _, .inl _, _, h2 => by cases h2
  | .inr _, .inl _, _, h1, _ => by cases h1
  | .inr _, .inr _, .inl _, _, h2 => by cases h2
theorem lexK_asym : ∀ {x y : List Key}, lexK x y = true → lexK y x = false
  | [], [], h => by cases h
  | [], _ :: _, _ => rfl
  | _ :: _, [], h => by cases h
  | a :: r, b :: q, h => by
    unfold lexK at h ⊢
    by_cases e : a = b
    · rw [if_pos e] at h
      rw [if_pos e.symm]
      exact lexK_asym h
    · rw [if_neg e] at h
      rw [if_neg (fun z => e z.symm)]
      exact keyLt_asym h
theorem lexK_anti : ∀ {x y : List Key}, lexK x y = false → lexK y x = false → x = y
  | [], [], _, _ => rfl
  | [], _ :: _, h, _ => by cases h
  | _ :: _, [], _, h => by cases h
  | a :: r, b :: q, h1, h2 => by
    unfold lexK at h1 h2
    by_cases e : a = b
    · rw [if_pos e] at h1
      rw [if_pos e.symm] at h2
      rw [e, lexK_anti h1 h2]
    · rw [if_neg e] at h1
      rw [if_neg (fun z => e z.symm)] at h2
      exact absurd (keyLt_anti h1 h2) e
theorem lexK_tr : ∀ {x y z : List Key}, lexK y x = false → lexK z y = false → lexK z x = false
  | [], _, [], _, _ => rfl
  | [], _, _ :: _, _, _ => rfl
  | _ :: _, [], _, h, _ => by cases h
  | _ :: _, _ :: _, [], _, h => by cases h
  | a :: r, b :: q, c :: p, h1, h2 => by
    unfold lexK at h1 h2 ⊢
    by_cases e1 : b = a
    · subst e1
      rw [if_pos rfl] at h1
      by_cases e2 : c = b
      · rw [if_pos e2] at h2 ⊢
        exact lexK_tr h1 h2
      · rw [if_neg e2] at h2 ⊢
        exact h2
    · rw [if_neg e1] at h1
      by_cases e2 : c = b
      · subst e2
        rw [if_neg e1]
        exact h1
      · rw [if_neg e2] at h2
        by_cases e3 : c = a
        · subst e3
          exact absurd (keyLt_anti h1 h2) e1
        · rw [if_neg e3]
          exact keyLt_tr h1 h2
theorem swo_lexK {α : Type} (k : α → List Key) : SrtO.Swo fun v u => lexK (k v) (k u) := ⟨fun _ _ h => lexK_asym h, fun _ _ _ h1 h2 => lexK_tr h1 h2⟩
/-- two sorted lists of the same keys are one -/
theorem sorted_one : ∀ {l m : List (List Key)}, l.Pairwise (fun x y => lexK y x = false) → m.Pairwise (fun x y => lexK y x = false) → l.Perm m → l = m
  | [], m, _, _, h => (List.Perm.eq_nil h.symm).symm
  | x :: l, [], _, _, h => absurd h.length_eq (by simp)
  | x :: l, y :: m, hl, hm, h => by
    have h1 : lexK x y = false := by
      rcases List.mem_cons.mp (h.mem_iff.mp (List.mem_cons_self (a := x) (l := l))) with e | hx
      · rw [e]; exact (swo_lexK (fun z => z)).refl y
      · exact (List.pairwise_cons.mp hm).1 x hx
    have h2 : lexK y x = false := by
      rcases List.mem_cons.mp (h.mem_iff.mpr (List.mem_cons_self (a := y) (l := m))) with e | hy
      · rw [e]; exact (swo_lexK (fun z => z)).refl x
      · exact (List.pairwise_cons.mp hl).1 y hy
    have e := lexK_anti h1 h2
    subst e
    rw [sorted_one (List.pairwise_cons.mp hl).2 (List.pairwise_cons.mp hm).2 h.cons_inv]
section
variable {prog : Program} {w : World} {A : Around} {E : Value → Shared → Prop} {s : Shared}
theorem lex_cmp : ∀ {ks qs : List Key} {its jts : List Value} (i : Nat), SameK ks qs → Vals (ks.map kV) its → Vals (qs.map kV) jts → 0 < i → PySem.W.KatLex prog w A true false (fun r s' => s' = s ∧ r = lexK ks qs) (its.zip jts) i s
  | _, _, _, _, i, .nil, .nil, .nil, _ => PySem.W.kat_nil ⟨rfl, rfl⟩
  | _, _, _, _, i, .int (i := x) (j := y) (r := r) (q := q) sk, .cons r1 t1, .cons r2 t2, hi => by
    obtain ⟨t, rfl⟩ := r1
    obtain ⟨u, rfl⟩ := r2
    have ih := lex_cmp (i + 1) sk t1 t2 (Nat.succ_pos _)
    by_cases e : x = y
    · have el : lexK (Sum.inl x :: r) (Sum.inl y :: q) = lexK r q := lexK_eq (by rw [e])
      rw [el]
      refine PySem.W.kat_cons (SeqAt.EqAt.int_int x t y u prog w _ _ ?_)
      exact PySem.W.kat_go (fun _ => PySem.W.kat_yes ih) (fun e1 => absurd e (by simpa using e1))
    · have el : lexK (Sum.inl x :: r) (Sum.inl y :: q) = decide (x < y) := lexK_ne (fun z => e (Sum.inl.inj z))
      rw [el]
      refine PySem.W.kat_cons (SeqAt.EqAt.int_int x t y u prog w _ _ ?_)
      exact PySem.W.kat_go (fun e1 => absurd (by simpa using e1) e) (fun _ => PySem.W.kat_no (TS.oneLt_ints _ ⟨rfl, rfl⟩))
  | _, _, _, _, i, .str (x := x) (y := y) (r := r) (q := q) sk, .cons r1 t1, .cons r2 t2, hi => by
    obtain ⟨t, rfl⟩ := r1
    obtain ⟨u, rfl⟩ := r2
    have ih := lex_cmp (i + 1) sk t1 t2 (Nat.succ_pos _)
    by_cases e : x = y
    · have el : lexK (Sum.inr x :: r) (Sum.inr y :: q) = lexK r q := lexK_eq (by rw [e])
      rw [el]
      refine PySem.W.kat_cons (SeqAt.EqAt.str_str x t y u prog w _ _ ?_)
      exact PySem.W.kat_go (fun _ => PySem.W.kat_yes ih) (fun e1 => absurd e (by simpa using e1))
    · have el : lexK (Sum.inr x :: r) (Sum.inr y :: q) = decide (x.cps.toList < y.cps.toList) := lexK_ne (fun z => e (Sum.inr.inj z))
      rw [el]
      refine PySem.W.kat_cons (SeqAt.EqAt.str_str x t y u prog w _ _ ?_)
      refine PySem.W.kat_go (fun e1 => absurd (by simpa using e1) e) (fun _ => PySem.W.kat_no ?_)
      have hi0 : (true && i == 0) = false := by simp; omega
      rw [hi0]
      exact PySem.W.kat_one _ _ (PyProof.Rows.lt_str (Q := PySem.W.BoolBack (fun r s' => s' = s ∧ r = decide (x.cps.toList < y.cps.toList))) (show s = s ∧ decide (x.cps.toList < y.cps.toList) = decide (x.cps.toList < y.cps.toList) from ⟨rfl, rfl⟩))
theorem same_len : ∀ {ks qs : List Key}, SameK ks qs → ks.length = qs.length
  | _, _, .nil => rfl
  | _, _, .int h => by simp [same_len h]
  | _, _, .str h => by simp [same_len h]
/-- the whole row -/
def rowK (k : Int × List Key) : List Key := Sum.inl k.1 :: k.2
theorem row_cmp {vs : List Value} {k : Value → Int × List Key} (hp : ∀ v ∈ vs, IsRow s.heap v (rowK (k v))) (hs : ∀ v ∈ vs, ∀ u ∈ vs, SameK (k v).2 (k u).2) : SrtO.Cmp prog w A s (tuples' true) (fun p => p.1 ∈ vs) (SrtO.lt2 fun v u => lexK (rowK (k v)) (rowK (k u))) := by
  intro p q hm hm'
  obtain ⟨a, o, its, n, e, ho, hc, hd, hv⟩ := hp _ hm
  obtain ⟨a', o', jts, n', e', ho', hc', hd', hv'⟩ := hp _ hm'
  have sk := hs _ hm _ hm'
  show wpAny (model prog w) A (keyLt' (tuples' true) p.1 q.1) (fun r s' => s' = s ∧ r = lexK (rowK (k p.1)) (rowK (k q.1))) (fun _ _ => False) s
  generalize hkp : k p.1 = kp at *
  generalize hkq : k q.1 = kq at *
  rw [e, e']
  obtain ⟨x, ks⟩ := kp
  obtain ⟨y, qs⟩ := kq
  have hlen : its.length = jts.length := by
    rw [← hv.length, ← hv'.length]
    have := same_len sk
    simp [rowK, this]
  refine PySem.W.kat_lt ho hd ho' hd' ?_
  have hf : decide ((List.toArray its).size < (List.toArray jts).size) = false := by simp [hlen]
  rw [hf]
  cases hv with
  | cons r1 t1 =>
    cases hv' with
    | cons r2 t2 =>
      obtain ⟨t, rfl⟩ := r1
      obtain ⟨u, rfl⟩ := r2
      have ih := lex_cmp (prog := prog) (w := w) (A := A) (s := s) 1 sk t1 t2 (by decide)
      by_cases e : x = y
      · have el : lexK (rowK (x, ks)) (rowK (y, qs)) = lexK ks qs := lexK_eq (by rw [e])
        rw [el]
        refine PySem.W.kat_cons (SeqAt.EqAt.int_int x t y u prog w _ _ ?_)
        exact PySem.W.kat_go (fun _ => PySem.W.kat_yes ih) (fun e1 => absurd e (by simpa using e1))
      · have el : lexK (rowK (x, ks)) (rowK (y, qs)) = decide (x < y) := lexK_ne (fun z => e (Sum.inl.inj z))
        rw [el]
        refine PySem.W.kat_cons (SeqAt.EqAt.int_int x t y u prog w _ _ ?_)
        exact PySem.W.kat_go (fun e1 => absurd (by simpa using e1) e) (fun _ => PySem.W.kat_no (TS.oneLt_ints _ ⟨rfl, rfl⟩))
theorem rows_sortableO {a : Addr} {vs : List Value} {k : Value → Int × List Key} (h0 : 0 < vs.length) (hp : ∀ v ∈ vs, IsRow s.heap v (rowK (k v))) (hs : ∀ v ∈ vs, ∀ u ∈ vs, SameK (k v).2 (k u).2) (ha : ∀ o, s.heap.get? a = some o → o.cls ≠ .type "tuple") : SrtO.SortableO prog w A s a vs fun v u => lexK (rowK (k v)) (rowK (k u)) := by
  intro h' keep
  have hp' : ∀ v ∈ vs, IsRow h' v (rowK (k v)) := fun v hm => (hp v hm).keeps fun b o e c => keep b o (fun z => by subst z; exact ha o e c) e
  obtain ⟨fs, h1, h2, h3⟩ := firsts_row hp'
  refine ⟨tuples' true, fun Q E hq => ?_, row_cmp (s := { s with heap := h' }) hp' hs⟩
  refine PySem.W.kat_kind (T := .type "int") h1 (by omega) (fun f hm => ?_) (by rfl) ?_
  · obtain ⟨x, t, rfl⟩ := h3 f hm
    exact PySem.W.Looks.now
  · have e : (Value.type "int" != Value.type "tuple") = true := by decide +kernel
    rw [e]
    exact hq
theorem sorted_rowsO {l : Addr} {vs : List Value} {k : Value → Int × List Key} {Q : Value → Shared → Prop} (hl : s.heap.IsList l vs.toArray) (hz : vs.length ≤ sizeLine) (hp : ∀ v ∈ vs, IsRow s.heap v (rowK (k v))) (hs : ∀ v ∈ vs, ∀ u ∈ vs, SameK (k v).2 (k u).2)
    (h : ∀ (h' : Heap) (d : Addr) (out : List Value), SrtO.Srtd (fun v u => lexK (rowK (k v)) (rowK (k u))) out → out.Perm vs → (∀ b o, s.heap.get? b = some o → h'.get? b = some o) → s.heap.objs.size ≤ d → (∃ n, h'.get? d = some (seqObj "list" out.toArray n)) → Q (.ref d) { s with heap := h' }) :
    wpAny (model prog w) A (call (.builtin "sorted") [.ref l]) Q E s := by
  refine SrtO.sorted_ord (swo_lexK fun v => rowK (k v)) hl hz (fun h2 h₁ a ha kk => ?_) fun out hs' hb => ?_
  · refine rows_sortableO (s := { s with heap := h₁ }) (by omega) (fun v hm => (hp v hm).keeps fun b o e _ => (kk b o e).2) hs fun o e => ?_
    have e' : some o = some (seqObj "list" vs.toArray 0) := e.symm.trans ha
    cases e'
    intro c
    exact absurd (Value.type.inj c) (by decide)
  · exact h _ _ out hs' hb.perm (fun b o e => sortedAll_old e) (Nat.le_succ _) (sortedAll_at s.heap vs out.toArray)
end
/-- sorted(xs): a new list of the same tuples, in order -/
def rSortedO (K : PySem.W.Frag) : List V → Hp → VK → Prop := fun vs H Q => ∃ a xs, ∃ k : V → Int × List Key, vs = [V.ref a] ∧ SqL K H a xs ∧ (∀ x ∈ xs, ∃ t, x = V.ref t ∧ H t = some (.tup ((rowK (k x)).map kV))) ∧ (∀ x ∈ xs, ∀ y ∈ xs, SameK (k x).2 (k y).2) ∧
  ∀ ys p, ys.Pairwise (fun x y => lexK (rowK (k y)) (rowK (k x)) = false) → ys.Perm xs → H p = none → Q (.ref p) (upd H p (.lst ys))
section
variable {X : Cx}
theorem cr_sortedO : CallR X (.builtin "sorted") (rSortedO X.K) := by
  intro pins s σ H vs us Q I r h
  obtain ⟨a, xs, k, rfl, hs, hx, hk, q⟩ := h
  obtain ⟨its, rv, hl, hz⟩ := I.list hs
  obtain ⟨u, rfl, ru⟩ := vals1 r
  obtain rfl : u = Value.ref a := ru
  obtain ⟨e1, e2⟩ := refs_back rv fun x m => by
    obtain ⟨t, e, _⟩ := hx x m
    exact ⟨t, e⟩
  have inx : ∀ v ∈ its, backV v ∈ xs := fun v hv => by rw [e1]; exact List.mem_map.mpr ⟨_, hv, rfl⟩
  refine sorted_rowsO (k := fun u => k (backV u)) hl.isList (by rw [← rv.length]; exact hz) (fun v hv => ?_) (fun v hv u hu => hk _ (inx v hv) _ (inx u hu)) fun h' d out hsr hp k' hd hn => ?_
  · obtain ⟨t, rfl⟩ := e2 v hv
    obtain ⟨t', e, ht⟩ := hx _ (inx _ hv)
    cases e
    obtain ⟨_, its2, r2, o, ho, hc, n, hd⟩ := I.hok _ _ ht
    exact ⟨t, o, its2, n, rfl, ho, hc, hd, r2⟩
  · have h3 : ∀ u ∈ out, ∃ a, u = Value.ref a := fun u hu => e2 u (hp.mem_iff.mp hu)
    obtain ⟨n, hn⟩ := hn
    refine ⟨.ref d, upd H d (.lst (out.map backV)), I.laid (t' := s.toks) k' hd ⟨?_, out, n, vals_back h3, hn⟩, rfl, q _ d ?_ ?_ (I.hok.fresh hd)⟩
    · rw [List.length_map, hp.length_eq, ← rv.length]; exact hz
    · exact List.pairwise_map.mpr hsr
    · rw [e1]; exact hp.map backV
end
end Nm
set_option maxRecDepth 100000
set_option maxHeartbeats 4000000
namespace Nm
open PySem L2
/-- ints that are places -/
abbrev natV (l : List Nat) : List V := l.map fun (i : Nat) => V.int (i : Int)
/-- the keys of a dict of ties, each by its own tuple -/
def KeyL (H : Hp) (kvs : List (List Key × V)) (ys : List V) : Prop := ∀ y ∈ ys, ∃ b k v, y = V.ref b ∧ H b = some (.tup (List.map kV k)) ∧ (k, v) ∈ kvs
theorem KeyL.same {H H' : Hp} {kvs : List (List Key × V)} {ys : List V} (h : KeyL H kvs ys) (e : Same H H') : KeyL H' kvs ys := fun y hy => by
  obtain ⟨b, k, v, a1, a2, a3⟩ := h y hy
  exact ⟨b, k, v, a1, e _ _ a2, a3⟩
theorem KeyL.kp {H H' : Hp} {kvs : List (List Key × V)} {ys : List V} {s c : Addr} (h : KeyL H kvs ys) (S : Src H s c) (e : Kp s c H H') : KeyL H' kvs ys := fun y hy => by
  obtain ⟨b, k, v, a1, a2, a3⟩ := h y hy
  obtain ⟨cs, l, m, tt, S⟩ := S
  exact ⟨b, k, v, a1, e _ _ a2 (ne_of a2 S.ds (by intro z; cases z)) (ne_of a2 S.dc (by intro z; cases z)), a3⟩
theorem KeyL.put {H : Hp} {kvs : List (List Key × V)} {ys : List V} {t : Addr} {o u : HO} (h : KeyL H kvs ys) (e : H t = some u) (hu : ∀ zs, u ≠ .tup zs) : KeyL (upd H t o) kvs ys := fun y hy => by
  obtain ⟨b, k, v, a1, a2, a3⟩ := h y hy
  refine ⟨b, k, v, a1, ?_, a3⟩
  rw [upd_ne (ne_of a2 e (fun z => hu _ z.symm))]
  exact a2
theorem keyL_of {H : Hp} : ∀ {kvs : List (List Key × V)} {bs : List Addr}, IsKeys H kvs bs → KeyL H kvs (bs.map V.ref) ∧ bs.length = kvs.length
  | _, _, .nil => ⟨fun y hy => (List.not_mem_nil hy).elim, rfl⟩
  | _, _, .cons (a := kv) (b := b) h t => by
    obtain ⟨i1, i2⟩ := keyL_of t
    refine ⟨fun y hy => ?_, by simp [i2]⟩
    rcases List.mem_cons.mp hy with e | e
    · exact ⟨b, kv.1, kv.2, e, h, List.mem_cons_self⟩
    · obtain ⟨b', k, v, a1, a2, a3⟩ := i1 y e
      exact ⟨b', k, v, a1, a2, List.mem_cons_of_mem _ a3⟩
theorem keyL_all {H : Hp} : ∀ {kvs : List (List Key × V)} {bs : List Addr}, IsKeys H kvs bs → ∀ kv ∈ kvs, ∃ b ∈ bs, H b = some (.tup (List.map kV kv.1))
  | _, _, .nil => fun kv h => (List.not_mem_nil h).elim
  | _, _, .cons (b := b) h t => fun kv hm => by
    rcases List.mem_cons.mp hm with e | e
    · subst e
      exact ⟨b, List.mem_cons_self, h⟩
    · obtain ⟨b', h1, h2⟩ := keyL_all t kv e
      exact ⟨b', List.mem_cons_of_mem _ h1, h2⟩
/-- what the tuple at a reference holds, as a row -/
def rowAt (H : Hp) : V → Int × List Key
  | .ref b => (match H b with
    | some (.tup [.int i, .int j, .str kd]) => (i, [Sum.inl j, Sum.inr kd])
    | _ => (0, []))
  | _ => (0, [])
theorem rowAt_of {H : Hp} {b : Addr} {i j : Int} {kd : Str} (h : H b = some (.tup [.int i, .int j, .str kd])) : rowAt H (.ref b) = (i, [Sum.inl j, Sum.inr kd]) := by
  show (match H b with
    | some (.tup [.int i, .int j, .str kd]) => (i, [Sum.inl j, Sum.inr kd])
    | _ => (0, [])) = _
  rw [h]
theorem KeyL.tie {H : Hp} {n m : Nat} {kvs : List (List Key × V)} {ys : List V} (h : KeyL H kvs ys) (T : Ties n m kvs) {y : V} (hy : y ∈ ys) : ∃ (b : Addr) (i j x : Nat) (kd : Str), y = V.ref b ∧ H b = some (.tup [.int (i : Int), .int (j : Int), .str kd]) ∧ ([Sum.inl (i : Int), Sum.inl (j : Int), Sum.inr kd], V.int (x : Int)) ∈ kvs ∧ i < j ∧ j < n ∧ isWordB kd = true ∧ 1 ≤ x ∧ x ≤ m := by
  obtain ⟨b, k, v, a1, a2, a3⟩ := h y hy
  obtain ⟨i, j, kd, e, h1, h2, h3⟩ := T.key _ a3
  obtain ⟨x, e2, h4, h5⟩ := T.val _ a3
  have e' : k = [Sum.inl (i : Int), Sum.inl (j : Int), Sum.inr kd] := e
  have e2' : v = V.int (x : Int) := e2
  subst e' e2'
  exact ⟨b, i, j, x, kd, a1, a2, a3, h1, h2, h3, h4, h5⟩
theorem sort_ties {H : Hp} {n m : Nat} {kvs : List (List Key × V)} {ys : List V} (h : KeyL H kvs ys) (T : Ties n m kvs) : (∀ x ∈ ys, ∃ t, x = V.ref t ∧ H t = some (.tup (V.int (rowAt H x).1 :: (rowAt H x).2.map kV))) ∧ (∀ x ∈ ys, ∀ y ∈ ys, SameK (rowAt H x).2 (rowAt H y).2) := by
  constructor
  · intro y hy
    obtain ⟨b, i, j, x, kd, e, hb, _⟩ := h.tie T hy
    subst e
    refine ⟨b, rfl, ?_⟩
    rw [rowAt_of hb]
    exact hb
  · intro y hy z hz
    obtain ⟨b, i, j, x, kd, e, hb, _⟩ := h.tie T hy
    obtain ⟨b', i', j', x', kd', e', hb', _⟩ := h.tie T hz
    subst e e'
    rw [rowAt_of hb, rowAt_of hb']
    exact .int (.str .nil)
theorem row_key {H : Hp} {n m : Nat} : ∀ {kvs : List (List Key × V)} {bs : List Addr}, IsKeys H kvs bs → (∀ kv ∈ kvs, TieK n kv.1) → (bs.map V.ref).map (fun y => rowK (rowAt H y)) = kvs.map (·.1)
  | _, _, .nil, _ => rfl
  | _, _, .cons (a := kv) (b := b) h t, hk => by
    rw [List.map_cons, List.map_cons, List.map_cons, row_key (n := n) (m := m) t fun kv hm => hk kv (List.mem_cons_of_mem _ hm)]
    obtain ⟨i, j, kd, e, _⟩ := hk kv List.mem_cons_self
    rw [e] at h
    congr 1
    rw [rowAt_of h, e]
    rfl
theorem isKeys_same {H H' : Hp} {kvs : List (List Key × V)} {bs : List Addr} (h : IsKeys H kvs bs) (e : Same H H') : IsKeys H' kvs bs := Paired.mapP h fun _ _ z => e _ _ z
/-- one tie of the parts: what has the number of its far end gets that of its near end -/
def stepP (ps : List Nat) (k : List Key) : List Nat := match k with
  | [Sum.inl i, Sum.inl j, Sum.inr _] => ps.map fun z => if z = (ps[j.toNat]?).getD 0 then (ps[i.toNat]?).getD 0 else z
  | _ => ps
def PartsRel (n : Nat) (kvs : List (List Key × V)) (ps : List Nat) : Prop := ∃ ks : List (List Key), ks.Pairwise (fun x y => lexK y x = false) ∧ ks.Perm (kvs.map (·.1)) ∧ ps = ks.foldl stepP (List.range n)
theorem PartsRel.one {n : Nat} {kvs : List (List Key × V)} {ps qs : List Nat} (h1 : PartsRel n kvs ps) (h2 : PartsRel n kvs qs) : ps = qs := by
  obtain ⟨ks, a1, a2, a3⟩ := h1
  obtain ⟨ks', b1, b2, b3⟩ := h2
  rw [a3, b3, sorted_one a1 b1 (a2.trans b2.symm)]
theorem rgV_nat (n : Nat) : rgV 0 (n : Int) = natV (List.range n) := by
  unfold rgV natV
  have e : ((n : Int) - 0).toNat = n := by omega
  rw [e]
  refine List.map_congr_left fun i _ => ?_
  rw [Int.zero_add]
structure TxtC (mg : Str → Option Value) : Prop extends TxtB mg where
  sorted : mg "sorted" = none
section
variable {P : Program} {w : World} {K : PySem.W.Frag} {mg : Str → Option Value} {base : Heap}
/-! ### _law_parts -/
def spParts : Sp := fun vs H Q _ => ∃ (wd a b t : Addr) (xs : List V) (m : Nat) (kvs : List (List Key × V)), vs = [.ref wd] ∧ H wd = some (.dK (worldD a b t)) ∧ H a = some (.lst xs) ∧ H t = some (.dT kvs) ∧ xs.length ≤ 1000 ∧ kvs.length ≤ 10000 ∧ Ties xs.length m kvs ∧
  ∀ (p : Addr) (ps : List Nat) (H' : Hp), H p = none → H' p = some (.lst (natV ps)) → ps.length = xs.length → (∀ x ∈ ps, x < xs.length) → (∀ (i j : Nat) (kd : Str) (v : V), ([Sum.inl (i : Int), Sum.inl (j : Int), Sum.inr kd], v) ∈ kvs → ps[i]? = ps[j]?) → PartsRel xs.length kvs ps → Same H H' → Q (.ref p) H'
abbrev nParts : List Str := ["_law_world", "_law_found", "_law_one", "_law_other", "_law_kind", "_law_kept", "_law_gone", "_law_number"]
theorem scParts : FnScope nParts ["_law_world"] (defScope sParts) := ⟨rfl, rfl, rfl, by decide +kernel, rfl, by decide +kernel, by decide +kernel⟩
theorem ok_parts {f : Addr} {fd : FuncData} (F : Fun K "_law_parts" "_law_parts" sParts f fd) (T : TxtC mg) : FnOk P w K mg base CX0 1 f fd ["_law_world"] spParts := by
  refine F.ok scParts (fun vs H Q E h => ?_) (fun cdv A outer s H vs Q E hr h => ?_)
  · obtain ⟨wd, a, b, t, xs, m, kvs, rfl, _⟩ := h
    rfl
  · obtain ⟨wd, a, b, t, xs, m, kvs, rfl, hwd, ha, ht, hxl, hkl, ti, k⟩ := h
    have hu := hu_of hr
    refine ⟨_, Evl.pss_cut (ps_set (i := 1) scParts.nd rfl (Or.inl rfl) (pe_listRg rfl (by rfl) T.list (prg_1 (by rfl) T.range (pe_callB call_len_seq (by rfl) T.len PySem.boot_len (pa_cons (pe_dget hu (pv 0) pe_str (fun _ _ => rfl)) pa_nil)))))
      (pss_cons (ps_for PassesOwn.never rfl (pi_list (pe_callB cr_sortedO (by rfl) T.sorted (by decide +kernel) (pa_cons (pe_callTy (call_list_dT rfl) (by rfl) T.list (by decide +kernel) (pa_cons (pe_dget hu (pv 0) pe_str (fun _ _ => rfl)) pa_nil)) pa_nil)))
          (pg_tup rfl (pgs_cons (pg_name (i := 2) scParts.nd rfl (.inl rfl)) (pgs_cons (pg_name (i := 3) scParts.nd rfl (.inl rfl)) (pgs_cons (pg_name (i := 4) scParts.nd rfl (.inl rfl)) pgs_nil))))
        (pss_cons (ps_asg (pe_tup (pa_cons (pe_ix ix_list (pv 1) (pv 2) (fun _ _ => rfl)) (pa_cons (pe_ix ix_list (pv 1) (pv 3) (fun _ _ => rfl)) pa_nil))) (pg_tup rfl (pgs_cons (pg_name (i := 5) scParts.nd rfl (.inr rfl)) (pgs_cons (pg_name (i := 6) scParts.nd rfl (.inr rfl)) pgs_nil))))
        (pss_one (ps_setLc (i := 1) (own := [("_law_number", 7)]) (g := gName 7) (tt := tYes) rfl scParts.nd rfl rfl (sw_true rfl rfl rfl (by decide +kernel)) (pi_list (pv 1))
          (blkOk_by (N := nParts) (sc := defScope sParts) (by decide +kernel)) (fun _ _ _ _ _ => pg_name (i := 7) scParts.nd rfl (Or.inl rfl)) (fun _ _ _ _ _ => pts_nil)
          (fun _ _ _ _ _ => pe_ifExp (pt_cmpR op_eq (pv 7) (pv 6) (nomark _)) (pv 5) (pv 7))))))
      (pss_one (ps_ret (pv 1)))), ?_⟩
    refine ⟨fun σ H1 => ∃ q, σ = [some (.ref wd), some (.ref q), none, none, none, none, none, none] ∧ H q = none ∧ H1 q = some (.lst (natV (List.range xs.length))) ∧ Same H H1, ?_, ?_⟩
    · refine ⟨_, rfl, wd, _, rfl, dg_names hwd, a, _, rfl, .inl (SqL.of ha), _, rfl, ?_⟩
      refine ⟨RgOk.of_le (by omega) (by omega) (by omega) (by omega), fun q hq => ⟨q, rfl, hq, by rw [upd_same, rgV_nat], same_new hq⟩⟩
    rintro σ H1 ⟨q, rfl, hq0, hq, s1⟩
    refine ⟨_, rfl, wd, _, rfl, dg_ties (s1 _ _ hwd), t, kvs, rfl, .inl (s1 _ _ ht), fun l bs hl hk => ?_⟩
    obtain ⟨kl, hbl⟩ := keyL_of hk
    have kl2 := kl.same (same_new (o := .lst (bs.map V.ref)) hl)
    obtain ⟨so1, so2⟩ := sort_ties kl2 ti
    refine ⟨l, _, _, rfl, SqL.of upd_same, so1, so2, fun ys p srt pm hp => ?_⟩
    have pk : (ys.map fun y => rowK (rowAt (upd H1 l (.lst (bs.map V.ref))) y)).Perm (kvs.map (·.1)) := by
      rw [← row_key (m := m) (isKeys_same hk (same_new (o := .lst (bs.map V.ref)) hl)) ti.key]
      exact pm.map _
    have sk : (ys.map fun y => rowK (rowAt (upd H1 l (.lst (bs.map V.ref))) y)).Pairwise (fun x y => lexK y x = false) := List.pairwise_map.mpr srt
    have rows : ∀ (b : Addr) (i j : Nat) (kd : Str), (upd H1 l (.lst (bs.map V.ref))) b = some (.tup [.int (i : Int), .int (j : Int), .str kd]) → rowK (rowAt (upd H1 l (.lst (bs.map V.ref))) (.ref b)) = [Sum.inl (i : Int), Sum.inl (j : Int), Sum.inr kd] := fun b i j kd h => by
      rw [rowAt_of h]
      rfl
    have rows2 : ∀ y ∈ ys, ∃ (b : Addr) (i j x : Nat) (kd : Str), y = V.ref b ∧ (upd H1 l (.lst (bs.map V.ref))) b = some (.tup [.int (i : Int), .int (j : Int), .str kd]) ∧ ([Sum.inl (i : Int), Sum.inl (j : Int), Sum.inr kd], V.int (x : Int)) ∈ kvs ∧ i < j ∧ j < xs.length := fun y hy => by
      obtain ⟨b, i, j, x, kd, e, hb, hm, h1, h2, _⟩ := kl2.tie ti (pm.subset hy)
      exact ⟨b, i, j, x, kd, e, hb, hm, h1, h2⟩
    generalize hks : (ys.map fun y => rowK (rowAt (upd H1 l (.lst (bs.map V.ref))) y)) = ks at *
    have hkat : ∀ (i : Nat) (b : Addr) (i1 j1 : Nat) (kd : Str), ys[i]? = some (.ref b) → (upd H1 l (.lst (bs.map V.ref))) b = some (.tup [.int (i1 : Int), .int (j1 : Int), .str kd]) → ks[i]? = some [Sum.inl (i1 : Int), Sum.inl (j1 : Int), Sum.inr kd] := fun i b i1 j1 kd h1 h2 => by
      rw [← hks, List.getElem?_map, h1]
      exact congrArg some (rows b i1 j1 kd h2)
    have hkl2 : ks.length = ys.length := by rw [← hks, List.length_map]
    have sHs := same_new (o := .lst ys) hp
    have s2 := (same_new (o := .lst (bs.map V.ref)) hl).trans (same_new (o := .lst ys) hp)
    have kly : KeyL (upd (upd H1 l (.lst (bs.map V.ref))) p (.lst ys)) kvs ys := fun y hy => (kl.same s2) y (pm.subset hy)
    have hpp : (upd (upd H1 l (.lst (bs.map V.ref))) p (.lst ys)) p = some (.lst ys) := upd_same
    have hq2 := s2 _ _ hq
    have s02 := s1.trans s2
    have hyl : ys.length ≤ 10000 := by rw [pm.length_eq, List.length_map]; omega
    have hks2 := hkat
    refine ⟨p, rfl, ⟨_, SqL.of hpp⟩, ?_⟩
    generalize hH2 : upd (upd H1 l (.lst (bs.map V.ref))) p (.lst ys) = H2 at *
    refine for_list (xs := ys) (fun i σ H3 => ∃ q ps v2 v3 v4 v5 v6, σ = [some (.ref wd), some (.ref q), v2, v3, v4, v5, v6, none] ∧ H q = none ∧ H3 q = some (.lst (natV ps)) ∧ ps.length = xs.length ∧ (∀ x ∈ ps, x < xs.length) ∧ ps = (ks.take i).foldl stepP (List.range xs.length) ∧ Same H2 H3 ∧
        (∀ y ∈ ys.take i, ∀ (b : Addr) (i1 j1 : Nat) (kd : Str), y = .ref b → H2 b = some (.tup [.int (i1 : Int), .int (j1 : Int), .str kd]) → ps[i1]? = ps[j1]?))
      ⟨q, List.range xs.length, none, none, none, none, none, rfl, hq0, hq2, by simp, fun x hx => List.mem_range.mp hx, rfl, Same.refl _, fun y hy => by simp at hy⟩ (fun i σ H3 _ ⟨_, _, _, _, _, _, _, _, _, _, _, _, _, sm, _⟩ => SqL.of (sm _ _ hpp)) ?_ ?_
    · rintro i y σ H3 hi ⟨q, ps, v2, v3, v4, v5, v6, rfl, hq0, hq3, hpl, hpn, hpf, s3, hdone⟩
      obtain ⟨b1, i1, j1, x1, kd1, rfl, hb1, hmem, hij, hjn, _, _, _⟩ := kly.tie ti (List.mem_of_getElem? hi)
      have hb3 := s3 _ _ hb1
      have hbs1 : (upd H1 l (.lst (bs.map V.ref))) b1 = some (.tup [.int (i1 : Int), .int (j1 : Int), .str kd1]) := by
        obtain ⟨b', i', j', x', kd', e', hb', _⟩ := rows2 _ (List.mem_of_getElem? hi)
        cases e'
        have := sHs _ _ hb'
        rw [hb1] at this
        rw [hb', ← Option.some.inj this]
      obtain ⟨u, hu1⟩ : ∃ u, ps[i1]? = some u := ⟨_, List.getElem?_eq_getElem (by omega)⟩
      obtain ⟨v, hv1⟩ : ∃ v, ps[j1]? = some v := ⟨_, List.getElem?_eq_getElem (by omega)⟩
      refine ⟨b1, _, rfl, SqT.of hb3, rfl, _, _, rfl, _, _, rfl, _, _, rfl, rfl, ?_⟩
      refine ⟨_, rfl, _, rfl, q, _, _, V.int (u : Int), rfl, rfl, SqL.of hq3, atI_nat (by rw [List.getElem?_map, hu1]; rfl), _, rfl, _, rfl, q, _, _, V.int (v : Int), rfl, rfl, SqL.of hq3, atI_nat (by rw [List.getElem?_map, hv1]; rfl), (by show 2 ≤ sizeLine; decide), fun tt htt => ?_⟩
      refine ⟨tt, _, rfl, SqT.of upd_same, rfl, _, _, rfl, _, _, rfl, rfl, ?_⟩
      have s4 := same_new (o := .tup [V.int (u : Int), V.int (v : Int)]) htt
      refine ⟨_, rfl, q, rfl, ⟨_, SqL.of (s4 _ _ hq3)⟩, fun D hD => ?_⟩
      have hD3 : H3 D = none := s4.free hD
      have hD0 : H D = none := (s02.trans s3).free hD3
      refine lc_list (xs := natV ps) (fun j H4 => H4 D = some (.lst (natV ((ps.map fun z => if z = v then u else z).take j))) ∧ Same H3 H4) ⟨upd_same, s4.trans (same_new hD)⟩ (fun j H4 _ h => SqL.of (h.2 _ _ hq3)) ?_ ?_
      · rintro j z H4 hj ⟨hD4, s5⟩
        have hjl := (List.getElem?_eq_some_iff.mp hj).1
        rw [List.length_map] at hjl
        rw [List.getElem?_map] at hj
        obtain ⟨z0, hz0, rfl⟩ := Option.map_eq_some_iff.mp hj
        refine ⟨rfl, tyes ?_⟩
        have tk : natV ((ps.map fun z => if z = v then u else z).take (j + 1)) = natV ((ps.map fun z => if z = v then u else z).take j) ++ [V.int ((if z0 = v then u else z0 : Nat) : Int)] := by
          have e : (ps.map fun z => if z = v then u else z)[j]? = some (if z0 = v then u else z0) := by rw [List.getElem?_map, hz0]; rfl
          rw [List.take_add_one, e]
          unfold natV
          rw [List.map_append]
          rfl
        have fin : ∀ y, y = V.int ((if z0 = v then u else z0 : Nat) : Int) → ∃ acc, H4 D = some (.lst acc) ∧ acc.length < sizeLine ∧ (upd H4 D (.lst (acc ++ [y]))) D = some (.lst (natV ((ps.map fun z => if z = v then u else z).take (j + 1)))) ∧ Same H3 (upd H4 D (.lst (acc ++ [y]))) := fun y hy => by
          refine ⟨_, hD4, Evl.sz_lt (by rw [List.length_map, List.length_take, List.length_map]; omega), by rw [upd_same, tk, hy], fun b o e => ?_⟩
          rw [upd_ne (ne_of_none e hD3)]
          exact s5 b o e
        refine ⟨_, rfl, _, rfl, rfl, _, rfl, ?_⟩
        refine ite2 (fun h => ?_) (fun h => ?_)
        · refine ⟨_, rfl, fin _ ?_⟩
          have : (V.int (z0 : Int)) = V.int (v : Int) := of_decide_eq_true h
          injection this with this
          rw [if_pos (by omega)]
        · refine ⟨_, rfl, fin _ ?_⟩
          have : ¬ (V.int (z0 : Int)) = V.int (v : Int) := of_decide_eq_false (Bool.eq_false_iff.mpr h)
          rw [if_neg (fun e => this (by rw [e]))]
      · rintro H4 ⟨hD4, s5⟩
        rw [List.length_map] at hD4
        rw [List.take_of_length_le (by simp)] at hD4
        refine ⟨D, ps.map fun z => if z = v then u else z, _, _, _, _, _, rfl, hD0, hD4, by simp [hpl], ?_, ?_, s3.trans s5, ?_⟩
        · intro x hx
          obtain ⟨z, hz, rfl⟩ := List.mem_map.mp hx
          split
          · exact hpn u (List.mem_of_getElem? hu1)
          · exact hpn z hz
        · rw [List.take_add_one, hkat i b1 i1 j1 kd1 hi hbs1, List.foldl_append, ← hpf]
          show _ = ps.map fun z => if z = (ps[(j1 : Int).toNat]?).getD 0 then (ps[(i1 : Int).toNat]?).getD 0 else z
          rw [Int.toNat_natCast, Int.toNat_natCast, hu1, hv1]
          rfl
        · intro y hy b i2 j2 kd2 e hb2
          rw [List.getElem?_map, List.getElem?_map]
          rw [List.take_add_one, hi] at hy
          rcases List.mem_append.mp hy with z | z
          · rw [hdone y z b i2 j2 kd2 e hb2]
          · have z' : y = V.ref b1 := by simpa using z
            rw [z'] at e
            cases e
            rw [hb1] at hb2
            injection hb2 with hb2
            injection hb2 with hb2
            simp at hb2
            obtain ⟨e1, e2, _⟩ := hb2
            have e1' : i1 = i2 := by omega
            have e2' : j1 = j2 := by omega
            subst e1' e2'
            rw [hu1, hv1]
            show some (if u = v then u else u) = some (if v = v then u else v)
            simp
    · rintro σ H3 ⟨q, ps, v2, v3, v4, v5, v6, rfl, hq0, hq3, hpl, hpn, hpf, s3, hdone⟩
      refine ⟨_, rfl, k q ps H3 hq0 hq3 hpl hpn ?_ ⟨ks, sk, pk, by rw [hpf, List.take_of_length_le (by omega)]⟩ (s02.trans s3)⟩
      intro i j kd v hm
      rw [List.take_of_length_le (Nat.le_refl _)] at hdone
      have hex : ∃ b, V.ref b ∈ ys ∧ H2 b = some (.tup [.int (i : Int), .int (j : Int), .str kd]) := by
        obtain ⟨b, hb, hb1⟩ := keyL_all hk _ hm
        exact ⟨b, pm.mem_iff.mpr (List.mem_map.mpr ⟨b, hb, rfl⟩), s2 _ _ hb1⟩
      obtain ⟨b, hb, hb2⟩ := hex
      exact hdone _ hb b i j kd rfl hb2
end
end Nm
set_option maxRecDepth 100000
set_option maxHeartbeats 4000000
/-! how wide all ties of a world are together -/
namespace Nm
open PySem L2
def wOf : V → Nat
  | .int i => i.toNat
  | _ => 0
def totW (kvs : List (List Key × V)) : Nat := (kvs.map fun kv => wOf kv.2).sum
theorem tot_map {k : List Key} {v : V} : ∀ {kvs : List (List Key × V)} {y : V}, (kvs.map (·.1)).Nodup → valV kvs k = some y → totW (kvs.map fun kv => if kv.1 = k then (kv.1, v) else kv) + wOf y = totW kvs + wOf v
  | [], _, _, h => by rw [valV_nil] at h; cases h
  | p :: r, y, nd, h => by
    rw [List.map_cons, List.nodup_cons] at nd
    by_cases e : p.1 = k
    · rw [valV_pos e] at h
      have h : p.2 = y := Option.some.inj h
      have stay : (r.map fun kv => if kv.1 = k then (kv.1, v) else kv) = r := by
        have : (r.map fun kv => if kv.1 = k then (kv.1, v) else kv) = r.map id := by
          refine List.map_congr_left fun kv hm => ?_
          rw [if_neg (fun z => nd.1 (List.mem_map.mpr ⟨kv, hm, z.trans e.symm⟩))]
          rfl
        rw [this, List.map_id]
      rw [List.map_cons, if_pos e, stay]
      show wOf v + totW r + wOf y = wOf p.2 + totW r + wOf v
      rw [h]
      omega
    · rw [valV_neg e] at h
      have ih := tot_map (v := v) nd.2 h
      rw [List.map_cons, if_neg e]
      show wOf p.2 + totW (r.map fun kv => if kv.1 = k then (kv.1, v) else kv) + wOf y = wOf p.2 + totW r + wOf v
      omega
theorem tot_put {kvs : List (List Key × V)} {k : List Key} (nd : (kvs.map (·.1)).Nodup) (v : V) : totW (putK kvs k v) + wOf ((valV kvs k).getD .non) = totW kvs + wOf v := by
  cases e : valV kvs k with
  | none =>
    rw [putK_new v e]
    unfold totW
    rw [List.map_append, List.sum_append]
    simp [wOf]
  | some y =>
    have h : (kvs.any fun kv => decide (kv.1 = k)) = true := by rw [valV_any, e]; rfl
    have e2 : putK kvs k v = kvs.map fun kv => if kv.1 = k then (kv.1, v) else kv := by
      unfold putK
      rw [if_pos h]
    rw [e2]
    exact tot_map nd e
theorem w_le_tot {kvs : List (List Key × V)} {kv : List Key × V} (h : kv ∈ kvs) : wOf kv.2 ≤ totW kvs := by
  induction kvs with
  | nil => cases h
  | cons p r ih =>
    have e : totW (p :: r) = wOf p.2 + totW r := rfl
    rcases List.mem_cons.mp h with z | z
    · rw [e, z]
      omega
    · have := ih z
      omega
theorem len_le_tot : ∀ {kvs : List (List Key × V)}, (∀ kv ∈ kvs, ∃ x : Nat, kv.2 = V.int (x : Int) ∧ 1 ≤ x) → kvs.length ≤ totW kvs
  | [], _ => Nat.le_refl _
  | p :: r, h => by
    have ih := len_le_tot (kvs := r) fun kv hm => h kv (List.mem_cons_of_mem _ hm)
    obtain ⟨x, e, h1⟩ := h p List.mem_cons_self
    have e2 : totW (p :: r) = wOf p.2 + totW r := rfl
    rw [e2, e, List.length_cons]
    show r.length + 1 ≤ (x : Int).toNat + totW r
    omega
theorem Ties.len {n m : Nat} {kvs : List (List Key × V)} (T : Ties n m kvs) : kvs.length ≤ totW kvs := len_le_tot fun kv hm => by
  obtain ⟨x, h1, h2, _⟩ := T.val kv hm
  exact ⟨x, h1, h2⟩
theorem tot_le_len {n m : Nat} : ∀ {kvs : List (List Key × V)}, Ties n m kvs → totW kvs ≤ m * kvs.length
  | [], _ => Nat.zero_le _
  | p :: r, T => by
    have ih := tot_le_len (kvs := r) (n := n) (m := m) ⟨fun kv hm => T.key kv (List.mem_cons_of_mem _ hm), fun kv hm => T.val kv (List.mem_cons_of_mem _ hm), (List.nodup_cons.mp (by simpa using T.nd)).2⟩
    obtain ⟨x, e, _, h2⟩ := T.val p List.mem_cons_self
    have e2 : totW (p :: r) = wOf p.2 + totW r := rfl
    rw [e2, e, List.length_cons, Nat.mul_succ]
    show (x : Int).toNat + totW r ≤ _
    omega
/-- the width of the tie whose key stands at a reference -/
def wtY (H : Hp) (kvs : List (List Key × V)) (y : V) : Nat := wOf ((valV kvs (rowK (rowAt H y))).getD .non)
theorem wtY_of {H : Hp} {n m : Nat} {kvs : List (List Key × V)} (T : Ties n m kvs) {b : Addr} {i j x : Nat} {kd : Str} (h : H b = some (.tup [.int (i : Int), .int (j : Int), .str kd])) (hm : ([Sum.inl (i : Int), Sum.inl (j : Int), Sum.inr kd], V.int (x : Int)) ∈ kvs) : wtY H kvs (.ref b) = x := by
  unfold wtY
  rw [rowAt_of h]
  show wOf ((valV kvs [Sum.inl (i : Int), Sum.inl (j : Int), Sum.inr kd]).getD .non) = x
  rw [val_of_mem T.nd hm]
  show (x : Int).toNat = x
  omega
theorem sum_keys {kvs : List (List Key × V)} (nd : (kvs.map (·.1)).Nodup) : ((kvs.map (·.1)).map fun k => wOf ((valV kvs k).getD .non)).sum = totW kvs := by
  unfold totW
  rw [List.map_map]
  congr 1
  refine List.map_congr_left fun kv hm => ?_
  show wOf ((valV kvs kv.1).getD .non) = wOf kv.2
  rw [val_of_mem (k := kv.1) (v := kv.2) nd hm]
  rfl
theorem sum_ys {H : Hp} {n m : Nat} {kvs : List (List Key × V)} {bs : List Addr} {ys : List V} (T : Ties n m kvs) (hk : IsKeys H kvs bs) (pm : ys.Perm (bs.map V.ref)) : (ys.map (wtY H kvs)).sum = totW kvs := by
  have e1 : (ys.map (wtY H kvs)).sum = ((bs.map V.ref).map (wtY H kvs)).sum := (pm.map _).sum_nat
  have e2 : (bs.map V.ref).map (wtY H kvs) = ((bs.map V.ref).map fun y => rowK (rowAt H y)).map fun k => wOf ((valV kvs k).getD .non) := by rw [List.map_map, List.map_map, List.map_map]; rfl
  rw [e1, e2, row_key (n := n) (m := m) hk T.key]
  exact sum_keys T.nd
theorem take_step {f : V → Nat} {ys : List V} {i : Nat} {y : V} (h : ys[i]? = some y) : ((ys.take (i + 1)).map f).sum = ((ys.take i).map f).sum + f y := by
  rw [List.take_add_one, h, List.map_append, List.sum_append]
  simp
theorem take_le {f : V → Nat} {ys : List V} (i : Nat) : ((ys.take i).map f).sum ≤ (ys.map f).sum := by
  have e : (ys.map f).sum = ((ys.take i).map f).sum + ((ys.drop i).map f).sum := by
    rw [← List.sum_append, ← List.map_append, List.take_append_drop]
  omega
end Nm
set_option maxRecDepth 100000
set_option maxHeartbeats 4000000
/-! sums over the ties of a world, each as often as it is wide -/
namespace Nm
open PySem L2
def Sg (f : List Key → Nat) (kvs : List (List Key × V)) : Nat := (kvs.map fun kv => wOf kv.2 * f kv.1).sum
theorem Sg.nil (f : List Key → Nat) : Sg f [] = 0 := rfl
theorem Sg.cons (f : List Key → Nat) (kv : List Key × V) (r : List (List Key × V)) : Sg f (kv :: r) = wOf kv.2 * f kv.1 + Sg f r := rfl
theorem Sg.congr {f g : List Key → Nat} {kvs : List (List Key × V)} (h : ∀ kv ∈ kvs, f kv.1 = g kv.1) : Sg f kvs = Sg g kvs := by
  unfold Sg
  congr 1
  exact List.map_congr_left fun kv hm => by rw [h kv hm]
theorem Sg.perm {f : List Key → Nat} {a b : List (List Key × V)} (h : a.Perm b) : Sg f a = Sg f b := (h.map _).sum_nat
theorem sg_map {f : List Key → Nat} {k : List Key} {v : V} : ∀ {kvs : List (List Key × V)} {y : V}, (kvs.map (·.1)).Nodup → valV kvs k = some y → Sg f (kvs.map fun kv => if kv.1 = k then (kv.1, v) else kv) + wOf y * f k = Sg f kvs + wOf v * f k
  | [], _, _, h => by rw [valV_nil] at h; cases h
  | p :: r, y, nd, h => by
    rw [List.map_cons, List.nodup_cons] at nd
    by_cases e : p.1 = k
    · rw [valV_pos e] at h
      have h : p.2 = y := Option.some.inj h
      have stay : (r.map fun kv => if kv.1 = k then (kv.1, v) else kv) = r := by
        have : (r.map fun kv => if kv.1 = k then (kv.1, v) else kv) = r.map id := by
          refine List.map_congr_left fun kv hm => ?_
          rw [if_neg (fun z => nd.1 (List.mem_map.mpr ⟨kv, hm, z.trans e.symm⟩))]
          rfl
        rw [this, List.map_id]
      rw [List.map_cons, if_pos e, stay, Sg.cons, Sg.cons, h, e]
      show wOf v * f k + _ + _ = _
      omega
    · rw [valV_neg e] at h
      have ih := sg_map (f := f) (v := v) nd.2 h
      rw [List.map_cons, if_neg e, Sg.cons, Sg.cons]
      omega
theorem sg_put {f : List Key → Nat} {kvs : List (List Key × V)} {k : List Key} (nd : (kvs.map (·.1)).Nodup) (v : V) : Sg f (putK kvs k v) + wOf ((valV kvs k).getD .non) * f k = Sg f kvs + wOf v * f k := by
  cases e : valV kvs k with
  | none =>
    rw [putK_new v e]
    unfold Sg
    rw [List.map_append, List.sum_append]
    simp [wOf]
  | some y =>
    have h : (kvs.any fun kv => decide (kv.1 = k)) = true := by rw [valV_any, e]; rfl
    have e2 : putK kvs k v = kvs.map fun kv => if kv.1 = k then (kv.1, v) else kv := by
      unfold putK
      rw [if_pos h]
    rw [e2]
    exact sg_map nd e
/-- one more of a key -/
theorem sg_inc {f : List Key → Nat} {kvs : List (List Key × V)} {k : List Key} (nd : (kvs.map (·.1)).Nodup) {x : Nat} (h : (valV kvs k).getD (.int 0) = .int (x : Int)) : Sg f (putK kvs k (.int ((x + 1 : Nat) : Int))) = Sg f kvs + f k := by
  have e1 := sg_put (f := f) (k := k) nd (.int ((x + 1 : Nat) : Int))
  have e2 : wOf (V.int ((x + 1 : Nat) : Int)) = x + 1 := Int.toNat_natCast _
  have e3 : wOf ((valV kvs k).getD .non) = x := by
    cases e : valV kvs k with
    | none =>
      rw [e] at h
      have h : V.int 0 = V.int (x : Int) := h
      injection h with h
      have : x = 0 := by omega
      rw [this]
      rfl
    | some v =>
      rw [e] at h
      have h : v = V.int (x : Int) := h
      rw [h]
      exact Int.toNat_natCast x
  rw [e2, e3] at e1
  have : (x + 1) * f k = x * f k + f k := Nat.succ_mul _ _
  omega
/-- the key that stands at a reference -/
def keyY (H : Hp) (y : V) : List Key := rowK (rowAt H y)
theorem sg_keys {f : List Key → Nat} {kvs : List (List Key × V)} (nd : (kvs.map (·.1)).Nodup) : ((kvs.map (·.1)).map fun k => wOf ((valV kvs k).getD .non) * f k).sum = Sg f kvs := by
  unfold Sg
  rw [List.map_map]
  congr 1
  refine List.map_congr_left fun kv hm => ?_
  show wOf ((valV kvs kv.1).getD .non) * f kv.1 = wOf kv.2 * f kv.1
  rw [val_of_mem (k := kv.1) (v := kv.2) nd hm]
  rfl
theorem ys_keys {H : Hp} {n m : Nat} {kvs : List (List Key × V)} {bs : List Addr} {ys : List V} (T : Ties n m kvs) (hk : IsKeys H kvs bs) (pm : ys.Perm (bs.map V.ref)) : (ys.map (keyY H)).Perm (kvs.map (·.1)) := by
  rw [← row_key (n := n) (m := m) hk T.key]
  exact pm.map _
theorem sg_ys {H : Hp} {n m : Nat} {kvs : List (List Key × V)} {bs : List Addr} {ys : List V} (f : List Key → Nat) (T : Ties n m kvs) (hk : IsKeys H kvs bs) (pm : ys.Perm (bs.map V.ref)) : (ys.map fun y => wtY H kvs y * f (keyY H y)).sum = Sg f kvs := by
  have e2 : (ys.map fun y => wtY H kvs y * f (keyY H y)) = (ys.map (keyY H)).map fun k => wOf ((valV kvs k).getD .non) * f k := by rw [List.map_map]; rfl
  rw [e2, ((ys_keys T hk pm).map _).sum_nat]
  exact sg_keys T.nd
theorem ys_nodup {H : Hp} {n m : Nat} {kvs : List (List Key × V)} {bs : List Addr} {ys : List V} (T : Ties n m kvs) (hk : IsKeys H kvs bs) (pm : ys.Perm (bs.map V.ref)) : (ys.map (keyY H)).Nodup := (ys_keys T hk pm).nodup_iff.mpr T.nd
/-- where a place is led -/
def lf (led : List Nat) (x : Nat) : Nat := (led[x]?).getD 0
theorem lf_of {led : List Nat} {x p : Nat} (h : led[x]? = some p) : lf led x = p := by
  unfold lf
  rw [h]
  rfl
/-- what a tie of that kind gives a place: the number of its other end's -/
def tieC (h : Nat → Nat) (x : Nat) (kd : Str) : List Key → Nat
  | [Sum.inl i, Sum.inl j, Sum.inr k] => if k = kd then (if i = (x : Int) then h j.toNat else 0) + (if j = (x : Int) then h i.toNat else 0) else 0
  | _ => 0
theorem tieC_nat (h : Nat → Nat) (x : Nat) (kd k : Str) (i j : Nat) : tieC h x kd [Sum.inl (i : Int), Sum.inl (j : Int), Sum.inr k] = if k = kd then (if i = x then h j else 0) + (if j = x then h i else 0) else 0 := by
  show (if k = kd then (if (i : Int) = (x : Int) then h (j : Int).toNat else 0) + (if (j : Int) = (x : Int) then h (i : Int).toNat else 0) else 0) = _
  simp only [Int.toNat_natCast, Int.natCast_inj]
theorem tieC_swap (h : Nat → Nat) (x : Nat) (kd k : Str) (i j : Nat) : tieC h x kd [Sum.inl (i : Int), Sum.inl (j : Int), Sum.inr k] = tieC h x kd [Sum.inl (j : Int), Sum.inl (i : Int), Sum.inr k] := by
  rw [tieC_nat, tieC_nat, Nat.add_comm]
theorem two_perm {n0 n1 u1 u2 : Nat} (h : [(n0 : Int), (n1 : Int)].Perm [(u1 : Int), (u2 : Int)]) : (n0 = u1 ∧ n1 = u2) ∨ (n0 = u2 ∧ n1 = u1) := by
  have h0 := h.mem_iff.mp (show (n0 : Int) ∈ [(n0 : Int), (n1 : Int)] by simp)
  have h1 := h.mem_iff.mp (show (n1 : Int) ∈ [(n0 : Int), (n1 : Int)] by simp)
  have h2 := h.mem_iff.mpr (show (u1 : Int) ∈ [(u1 : Int), (u2 : Int)] by simp)
  have h3 := h.mem_iff.mpr (show (u2 : Int) ∈ [(u1 : Int), (u2 : Int)] by simp)
  simp at h0 h1 h2 h3
  omega
theorem tieC_perm {h : Nat → Nat} {x : Nat} {kd k : Str} {n0 n1 u1 u2 : Nat} (p : [(n0 : Int), (n1 : Int)].Perm [(u1 : Int), (u2 : Int)]) : tieC h x kd [Sum.inl (n0 : Int), Sum.inl (n1 : Int), Sum.inr k] = tieC h x kd [Sum.inl (u1 : Int), Sum.inl (u2 : Int), Sum.inr k] := by
  rcases two_perm p with ⟨rfl, rfl⟩ | ⟨rfl, rfl⟩
  · rfl
  · exact tieC_swap _ _ _ _ _ _
/-! ### keys by other numbers -/
def newK (s : Nat → Nat) : List Key → List Key
  | [Sum.inl i, Sum.inl j, Sum.inr k] => [Sum.inl ((min (s i.toNat) (s j.toNat) : Nat) : Int), Sum.inl ((max (s i.toNat) (s j.toNat) : Nat) : Int), Sum.inr k]
  | k => k
theorem newK_nat (s : Nat → Nat) (i j : Nat) (k : Str) : newK s [Sum.inl (i : Int), Sum.inl (j : Int), Sum.inr k] = [Sum.inl ((min (s i) (s j) : Nat) : Int), Sum.inl ((max (s i) (s j) : Nat) : Int), Sum.inr k] := rfl
theorem newK_perm {s : Nat → Nat} {n0 n1 i j : Nat} {k : Str} (p : [(n0 : Int), (n1 : Int)].Perm [(s i : Int), (s j : Int)]) (h : n0 < n1) : newK s [Sum.inl (i : Int), Sum.inl (j : Int), Sum.inr k] = [Sum.inl (n0 : Int), Sum.inl (n1 : Int), Sum.inr k] := by
  rw [newK_nat]
  rcases two_perm p with ⟨rfl, rfl⟩ | ⟨rfl, rfl⟩
  · rw [Nat.min_eq_left (Nat.le_of_lt h), Nat.max_eq_right (Nat.le_of_lt h)]
  · rw [Nat.min_eq_right (Nat.le_of_lt h), Nat.max_eq_left (Nat.le_of_lt h)]
theorem newK_inj {s : Nat → Nat} {n : Nat} (si : ∀ x < n, ∀ y < n, s x = s y → x = y) {a b : List Key} (ha : TieK n a) (hb : TieK n b) (e : newK s a = newK s b) : a = b := by
  obtain ⟨i, j, k, rfl, h1, h2, _⟩ := ha
  obtain ⟨i', j', k', rfl, h1', h2', _⟩ := hb
  rw [newK_nat, newK_nat] at e
  have e1 := Sum.inl.inj (List.cons.inj e).1
  have e2 := Sum.inl.inj (List.cons.inj (List.cons.inj e).2).1
  have e3 := Sum.inr.inj (List.cons.inj (List.cons.inj (List.cons.inj e).2).2).1
  subst e3
  have q : (s i = s i' ∧ s j = s j') ∨ (s i = s j' ∧ s j = s i') := by omega
  rcases q with ⟨q1, q2⟩ | ⟨q1, q2⟩
  · rw [si i (by omega) i' (by omega) q1, si j h2 j' h2' q2]
  · have a1 := si i (by omega) j' h2' q1
    have a2 := si j h2 i' (by omega) q2
    omega
theorem newK_nodup {s : Nat → Nat} {n : Nat} (si : ∀ x < n, ∀ y < n, s x = s y → x = y) : ∀ {ks : List (List Key)}, ks.Nodup → (∀ k ∈ ks, TieK n k) → (ks.map (newK s)).Nodup
  | [], _, _ => List.nodup_nil
  | k :: r, nd, h => by
    rw [List.nodup_cons] at nd
    rw [List.map_cons, List.nodup_cons]
    refine ⟨fun hm => ?_, newK_nodup si nd.2 fun k hk => h k (List.mem_cons_of_mem _ hk)⟩
    obtain ⟨k', h1, h2⟩ := List.mem_map.mp hm
    exact nd.1 (newK_inj si (h k' (List.mem_cons_of_mem _ h1)) (h k List.mem_cons_self) h2 ▸ h1)
theorem take_not {α β : Type} {f : α → β} : ∀ {l : List α} {i : Nat} {a : α}, (l.map f).Nodup → l[i]? = some a → f a ∉ (l.take i).map f
  | [], _, _, _, h => by cases h
  | b :: r, 0, _, _, _ => by simp
  | b :: r, i + 1, a, nd, h => by
    rw [List.map_cons, List.nodup_cons] at nd
    have h : r[i]? = some a := h
    rw [List.take_succ_cons, List.map_cons, List.mem_cons, not_or]
    exact ⟨fun e => nd.1 (e ▸ List.mem_map.mpr ⟨a, List.mem_of_getElem? h, rfl⟩), take_not nd.2 h⟩
/-- the ties that were seated anew, so far -/
def seatK (H : Hp) (kvs : List (List Key × V)) (s : Nat → Nat) (l : List V) : List (List Key × V) := l.map fun y => (newK s (keyY H y), V.int (wtY H kvs y : Nat))
theorem seatK_sg (f : List Key → Nat) (H : Hp) (kvs : List (List Key × V)) (s : Nat → Nat) (l : List V) : Sg f (seatK H kvs s l) = (l.map fun y => wtY H kvs y * f (newK s (keyY H y))).sum := by
  unfold Sg seatK
  rw [List.map_map]
  congr 1
theorem seatK_step {H : Hp} {kvs : List (List Key × V)} {s : Nat → Nat} {ys : List V} {i : Nat} {y : V} (nd : (ys.map fun y => newK s (keyY H y)).Nodup) (h : ys[i]? = some y) : putK (seatK H kvs s (ys.take i)) (newK s (keyY H y)) (V.int (wtY H kvs y : Nat)) = seatK H kvs s (ys.take (i + 1)) := by
  have hn : valV (seatK H kvs s (ys.take i)) (newK s (keyY H y)) = none := by
    cases e : valV (seatK H kvs s (ys.take i)) (newK s (keyY H y)) with
    | none => rfl
    | some v =>
      have := valV_in e
      unfold seatK at this
      rw [List.map_map] at this
      exact absurd this (take_not (f := fun y => newK s (keyY H y)) nd h)
  rw [putK_new _ hn]
  unfold seatK
  rw [List.take_add_one, h, List.map_append]
  rfl
/-- seated anew: each new place is an old one, with its colour and its ties -/
def Seatd (N : Nat) (kvs : List (List Key × V)) (led : List Nat) (cl : List Str) (kvs' : List (List Key × V)) (led' : List Nat) (cl' : List Str) : Prop :=
  ∀ x < N, ∃ y < N, led'[x]? = led[y]? ∧ cl'[x]? = cl[y]? ∧ ∀ (g : Nat → Nat) (kd : Str), Sg (tieC (fun z => g (lf led' z)) x kd) kvs' = Sg (tieC (fun z => g (lf led z)) y kd) kvs
theorem tieC_new {h h' : Nat → Nat} {s : Nat → Nat} {n x y : Nat} {kd : Str} (si : ∀ z < n, s z = x ↔ z = y) (hh : ∀ z < n, h' (s z) = h z) {k : List Key} (hk : TieK n k) : tieC h' x kd (newK s k) = tieC h y kd k := by
  obtain ⟨i, j, k, rfl, h1, h2, _⟩ := hk
  have e : newK s [Sum.inl (i : Int), Sum.inl (j : Int), Sum.inr k] = [Sum.inl (s i : Int), Sum.inl (s j : Int), Sum.inr k] ∨ newK s [Sum.inl (i : Int), Sum.inl (j : Int), Sum.inr k] = [Sum.inl (s j : Int), Sum.inl (s i : Int), Sum.inr k] := by
    rw [newK_nat]
    by_cases c : s i ≤ s j
    · rw [Nat.min_eq_left c, Nat.max_eq_right c]
      exact .inl rfl
    · rw [Nat.min_eq_right (by omega), Nat.max_eq_left (by omega)]
      exact .inr rfl
  have e2 : tieC h' x kd (newK s [Sum.inl (i : Int), Sum.inl (j : Int), Sum.inr k]) = tieC h' x kd [Sum.inl (s i : Int), Sum.inl (s j : Int), Sum.inr k] := by
    rcases e with e | e
    · rw [e]
    · rw [e, tieC_swap]
  rw [e2, tieC_nat, tieC_nat, hh i (by omega), hh j h2]
  have a1 := si i (by omega)
  have a2 := si j h2
  simp only [a1, a2]
end Nm
set_option maxRecDepth 100000
set_option maxHeartbeats 4000000
namespace Nm
open PySem L2
def nameN (k : Nat) : Str := ("n" : Str) ++ ((toString (k : Int) : String) : Str)
theorem nameN_w : ∀ k < 100, isWordB (nameN k) = true := by decide +kernel
theorem nameN_nd : ((List.range 100).map nameN).Nodup := by decide +kernel
section
variable {κ : Type} [DecidableEq κ]
theorem val_none_of {kvs : List (κ × V)} {k : κ} (h : k ∉ kvs.map (·.1)) : valV kvs k = none := by
  cases e : valV kvs k with
  | none => rfl
  | some v => exact absurd (valV_in e) h
end
theorem merge_nd : ∀ {kvs acc : List (Key × V)}, ((acc ++ kvs).map (·.1)).Nodup → mergeK acc kvs = acc ++ kvs
  | [], acc, _ => (List.append_nil _).symm
  | kv :: r, acc, h => by
    show mergeK (putK acc kv.1 kv.2) r = acc ++ kv :: r
    have hn : kv.1 ∉ acc.map (·.1) := fun hm => by
      rw [List.map_append, List.nodup_append] at h
      exact h.2.2 kv.1 hm kv.1 (by simp) rfl
    rw [putK_new _ (val_none_of hn)]
    have e : acc ++ kv :: r = (acc ++ [(kv.1, kv.2)]) ++ r := by simp
    rw [e] at h ⊢
    exact merge_nd h
def natOf : V → Nat
  | .int x => x.toNat
  | _ => 0
theorem perm_nat {ys : List V} {l : List Nat} (h : ys.Perm (natV l)) : ∃ zs : List Nat, ys = natV zs ∧ zs.Perm l := by
  refine ⟨ys.map natOf, ?_, ?_⟩
  · unfold natV
    rw [List.map_map]
    conv => lhs; rw [← List.map_id ys]
    refine List.map_congr_left fun v hv => ?_
    obtain ⟨x, _, rfl⟩ := List.mem_map.mp (h.subset hv)
    rfl
  · have := h.map natOf
    unfold natV at this
    rw [List.map_map] at this
    have e : l.map (natOf ∘ fun (i : Nat) => V.int (i : Int)) = l := by
      conv => rhs; rw [← List.map_id l]
      rfl
    rw [e] at this
    exact this
theorem nameN_len : ∀ k : Nat, k < 100 → ("n" : Str).length + ((toString (k : Int) : String) : Str).length ≤ 100 := by decide +kernel
theorem log_small {i : Nat} (h : i < 1000) : (0 + (i : Int)).natAbs.log2 < 1920 := by
  have e : (0 + (i : Int)).natAbs = i := by omega
  rw [e]
  have := Nat.log2_le_self i
  omega
/-- the pairs (place, seat) -/
def seatKV (od : List Nat) (i : Nat) : List (Key × V) := (od.zipIdx.take i).map fun p => (Sum.inl (p.1 : Int), V.int (p.2 : Int))
theorem seat_keys (od : List Nat) : (seatKV od od.length).map (·.1) = od.map fun (x : Nat) => (Sum.inl (x : Int) : Key) := by
  unfold seatKV
  rw [List.take_of_length_le (by simp), List.map_map]
  have : od = od.zipIdx.map (·.1) := by simp
  conv => rhs; rw [this]
  rw [List.map_map]
  rfl
theorem seat_nd {od : List Nat} (h : od.Nodup) : ((seatKV od od.length).map (·.1)).Nodup := by
  rw [seat_keys]
  refine List.Pairwise.map _ (fun a b hab => ?_) h
  exact fun e => hab (by have := Sum.inl.inj e; omega)
theorem seat_mem {od : List Nat} {j x : Nat} (h : od[j]? = some x) : ((Sum.inl (x : Int) : Key), V.int (j : Int)) ∈ seatKV od od.length := by
  unfold seatKV
  rw [List.take_of_length_le (by simp)]
  refine List.mem_map.mpr ⟨(x, j), ?_, rfl⟩
  rw [List.mem_zipIdx_iff_getElem?]
  exact h
theorem seat_step {od : List Nat} {i x : Nat} (h : od[i]? = some x) : seatKV od (i + 1) = seatKV od i ++ [(Sum.inl (x : Int), V.int (i : Int))] := by
  unfold seatKV
  have e : od.zipIdx[i]? = some (x, i) := by simp [h]
  rw [List.take_add_one, e, List.map_append]
  rfl
theorem paired_snoc {α β : Type} {F : α → β → Prop} : ∀ {l : List α} {m : List β} {a : α} {b : β}, Paired F l m → F a b → Paired F (l ++ [a]) (m ++ [b])
  | _, _, _, _, .nil, h => .cons h .nil
  | _, _, _, _, .cons r t, h => .cons r (paired_snoc t h)
structure TxtD (mg : Str → Option Value) : Prop extends TxtC mg where
  dict : mg "dict" = none
  enumerate : mg "enumerate" = none
  str : mg "str" = none
section
variable {P : Program} {w : World} {K : PySem.W.Frag} {mg : Str → Option Value} {base : Heap}
/-! ### _law_seated -/
def spSeated : Sp := fun vs H Q _ => ∃ (s c wd a b t ld : Addr) (cl : List Str) (m : Nat) (kvs : List (List Key × V)) (led : List Nat), vs = [.ref s, .ref wd, .ref ld] ∧ Src H s c ∧ H wd = some (.dK (worldD a b t)) ∧ wd ≠ s ∧ H b = some (.lst (cl.map V.str)) ∧ b ≠ c ∧ H t = some (.dT kvs) ∧ H ld = some (.lst (natV led)) ∧ ld ≠ c ∧
  cl.length = led.length ∧ (∀ x ∈ cl, isWordB x = true) ∧ 1 ≤ led.length ∧ led.length ≤ 100 ∧ kvs.length ≤ 4000 ∧ Ties led.length m kvs ∧
  ∀ (r wd' a' b' t' ld' : Addr) (nm cl' : List Str) (kvs' : List (List Key × V)) (led' : List Nat) (H' : Hp), H wd' = none → H a' = none → H b' = none → H t' = none → H ld' = none → H' r = some (.tup [.ref wd', .ref ld']) → WorldOk H' s c wd' a' b' t' nm cl' kvs' → nm.length = led.length → Ties nm.length m kvs' → kvs'.length ≤ 4000 → totW kvs' ≤ totW kvs →
    H' ld' = some (.lst (natV led')) → led'.length = led.length → (∀ x, x ∈ led' ↔ x ∈ led) → Seatd led.length kvs led cl kvs' led' cl' → Src H' s c → Kp s c H H' → Q (.ref r) H'
abbrev nSeat : List Str := ["_law_source", "_law_world", "_law_led", "_law_order", "_law_names", "_law_seats", "_law_ties", "_law_one", "_law_other", "_law_kind", "_law_spot", "_law_colours", "_law_k", "_law_new", "_law_old"]
theorem scSeat : FnScope nSeat ["_law_source", "_law_world", "_law_led"] (defScope sSeated) := ⟨rfl, rfl, rfl, by decide +kernel, rfl, by decide +kernel, by decide +kernel⟩
theorem ok_seat {f : Addr} {fd : FuncData} (F : Fun K "_law_seated" "_law_seated" sSeated f fd) (T : TxtD mg) (Ga : Def P w K mg base "_law_any_order" ["_law_source", "_law_items"] 2 (spAny K)) : FnOk P w K mg base CX0 3 f fd ["_law_source", "_law_world", "_law_led"] spSeated := by
  obtain ⟨fa, fda, Ga, ma, ka, ba⟩ := Ga.ex
  refine F.ok scSeat (fun vs H Q E h => ?_) (fun cdv A outer s H vs Q E hr h => ?_)
  · obtain ⟨_, _, _, _, _, _, _, _, _, _, _, rfl, _⟩ := h
    rfl
  · obtain ⟨sa, ca, wd, a, b, t, ld, cl, m, kvs, led, rfl, S, hwd, nws, hb, nbc, ht, hld, nlc, hcl, hcw, hn1, hn2, hkl, ti, k⟩ := h
    have hu := hu_of hr
    refine ⟨_, Evl.pss_cut (ps_set (i := 3) scSeat.nd rfl (Or.inl rfl) (pe_call Ga hr (by rfl) ma ka ba .nil pass0 (pa_cons (pv 0) (pa_cons (pe_listRg rfl (by rfl) T.list (prg_1 (by rfl) T.range (pe_callB call_len_seq (by rfl) T.len PySem.boot_len (pa_cons (pv 2) pa_nil)))) pa_nil))))
      (Evl.pss_cut (ps_set (i := 4) scSeat.nd rfl (Or.inl rfl) (pe_call Ga hr (by rfl) ma ka ba .nil pass0 (pa_cons (pv 0) (pa_cons (pe_lc (own := [("_law_k", 12)]) (g := gName 12) (tt := tYes) rfl scSeat.nd (pi_range1 (by rfl) T.range (pa_cons (pe_callB call_len_seq (by rfl) T.len PySem.boot_len (pa_cons (pv 2) pa_nil)) pa_nil))
          (blkOk_by (N := nSeat) (sc := defScope sSeated) (by decide +kernel)) (fun _ _ _ _ _ => pg_name (i := 12) scSeat.nd rfl (Or.inl rfl)) (fun _ _ _ _ _ => pts_nil)
          (fun _ _ _ _ _ => pe_op op_add_str pe_str (pe_callTy call_str_int (by rfl) T.str (by decide +kernel) (pa_cons (pv 12) pa_nil)))) pa_nil))))
      (Evl.pss_cut (ps_set (i := 5) scSeat.nd rfl (Or.inl rfl) (pe_callTy (call_dictP rfl) (by rfl) T.dict (by decide +kernel) (pa_cons (pe_lc (own := [("_law_new", 13), ("_law_old", 14)]) (g := gTup K 2 (gCons (gName 13) (gCons (gName 14) gNil))) (tt := tYes) rfl scSeat.nd (pi_enum (by rfl) T.enumerate (pa_cons (pv 3) pa_nil))
          (blkOk_by (N := nSeat) (sc := defScope sSeated) (by decide +kernel)) (fun _ _ _ _ _ => pg_tup rfl (pgs_cons (pg_name (i := 13) scSeat.nd rfl (Or.inl rfl)) (pgs_cons (pg_name (i := 14) scSeat.nd rfl (Or.inl rfl)) pgs_nil))) (fun _ _ _ _ _ => pts_nil)
          (fun _ _ _ _ _ => pe_tup (pa_cons (pv 14) (pa_cons (pv 13) pa_nil)))) pa_nil)))
      (pss_cons (ps_set (i := 6) scSeat.nd rfl (Or.inl rfl) pe_dnewT)
      (Evl.pss_cut (ps_for PassesOwn.never rfl (pi_list (pe_callB cr_sortedR (by rfl) T.sorted (by decide +kernel) (pa_cons (pe_callTy (call_list_dT rfl) (by rfl) T.list (by decide +kernel) (pa_cons (pe_dget hu (pv 1) pe_str (fun _ _ => rfl)) pa_nil)) pa_nil)))
          (pg_tup rfl (pgs_cons (pg_name (i := 7) scSeat.nd rfl (.inl rfl)) (pgs_cons (pg_name (i := 8) scSeat.nd rfl (.inl rfl)) (pgs_cons (pg_name (i := 9) scSeat.nd rfl (.inl rfl)) pgs_nil))))
        (pss_cons (ps_set (i := 10) scSeat.nd rfl (Or.inl rfl) (pe_callB cr_sorted (by rfl) T.sorted (by decide +kernel) (pa_cons (pe_lst (pa_cons (pe_dget hu (pv 5) (pv 7) (fun _ _ => rfl)) (pa_cons (pe_dget hu (pv 5) (pv 8) (fun _ _ => rfl)) pa_nil))) pa_nil)))
        (pss_one (ps_dput hu (pv 6) (pe_tup (pa_cons (pe_ix ix_list (pv 10) pe_int (fun _ _ => rfl)) (pa_cons (pe_ix ix_list (pv 10) pe_int (fun _ _ => rfl)) (pa_cons (pv 9) pa_nil)))) (pe_dget hu (pe_dget hu (pv 1) pe_str (fun _ _ => rfl)) (pe_tup (pa_cons (pv 7) (pa_cons (pv 8) (pa_cons (pv 9) pa_nil)))) (fun _ _ => rfl)) rfl))))
      (Evl.pss_cut (ps_setLc (i := 11) (own := [("_law_old", 14)]) (g := gName 14) (tt := tYes) (te := tOp (rIxL K) (tDGet (tVar 1) (tC (.str "colours"))) (tVar 14)) rfl scSeat.nd rfl rfl (sw_true rfl rfl rfl (by decide +kernel)) (pi_list (pv 3))
          (blkOk_by (N := nSeat) (sc := defScope sSeated) (by decide +kernel)) (fun _ _ _ _ _ => pg_name (i := 14) scSeat.nd rfl (Or.inl rfl)) (fun _ _ _ _ _ => pts_nil)
          (fun _ _ _ _ _ => by exact pe_ix ix_list (pe_dget hu (pv 1) pe_str (fun _ _ => rfl)) (pv 14) (fun _ _ => rfl)))
      (pss_one (ps_ret (pe_tup (pa_cons (pe_disp (pps_cons pe_str (pv 4) (pps_cons pe_str (pv 11) (pps_cons pe_str (pv 6) pps_nil))) (by rfl) (by rfl) (fun z => by cases z) (by decide)) (pa_cons
          (pe_lc (own := [("_law_old", 14)]) (g := gName 14) (tt := tYes) (te := tOp (rIxL K) (tVar 2) (tVar 14)) rfl scSeat.nd (pi_list (pv 3))
          (blkOk_by (N := nSeat) (sc := defScope sSeated) (by decide +kernel)) (fun _ _ _ _ _ => pg_name (i := 14) scSeat.nd rfl (Or.inl rfl)) (fun _ _ _ _ _ => pts_nil)
          (fun _ _ _ _ _ => by exact pe_ix ix_list (pv 2) (pv 14) (fun _ _ => rfl))) pa_nil)))))))))), ?_⟩
    generalize hN : led.length = N at *
    -- order
    refine ⟨fun σ H1 => ∃ o od, σ = [some (.ref sa), some (.ref wd), some (.ref ld), some (.ref o), none, none, none, none, none, none, none, none, none, none, none] ∧ H o = none ∧ H1 o = some (.lst (natV od)) ∧ od.Perm (List.range N) ∧ Src H1 sa ca ∧ Kp sa ca H H1, ?_, ?_⟩
    · refine ⟨_, rfl, _, rfl, ld, _, rfl, .inl (SqL.of hld), _, rfl, RgOk.of_le (by omega) (by rw [List.length_map]; omega) (by omega) (by omega), fun q hq => ?_⟩
      refine ⟨sa, ca, q, _, rfl, S.new hq, SqL.of upd_same, by rw [List.length_map, hN, rgV_nat]; simp; omega, fun p ys H1 hp pm hpl S1 kp1 => ?_⟩
      rw [List.length_map, hN, rgV_nat] at pm
      obtain ⟨od, rfl, po⟩ := perm_nat pm
      have hq' : H p = none := (same_new hq).free hp
      exact ⟨p, od, rfl, hq', hpl, po, S1, (Kp.same (same_new hq)).trans kp1⟩
    rintro σ H1 ⟨o, od, rfl, ho0, ho, po, S1, kp1⟩
    have hol : od.length = N := by rw [po.length_eq]; simp
    obtain ⟨nos, noc⟩ := S.ne ho0
    obtain ⟨cs0, l0, m0, t0, S0⟩ := id S
    have nls : ld ≠ sa := ne_of hld S0.ds (by intro z; cases z)
    have nbs : b ≠ sa := ne_of hb S0.ds (by intro z; cases z)
    have nts : t ≠ sa := ne_of ht S0.ds (by intro z; cases z)
    have ntc : t ≠ ca := ne_of ht S0.dc (by intro z; cases z)
    have nwc : wd ≠ ca := ne_of hwd S0.dc (by intro z; cases z)
    have hld1 := kp1 _ _ hld nls nlc
    -- names
    refine ⟨fun σ H2 => ∃ na nm, σ = [some (.ref sa), some (.ref wd), some (.ref ld), some (.ref o), some (.ref na), none, none, none, none, none, none, none, none, none, none] ∧ H na = none ∧ H2 na = some (.lst (List.map V.str nm)) ∧ nm.Perm ((List.range N).map nameN) ∧ Src H2 sa ca ∧ Kp sa ca H1 H2, ?_, ?_⟩
    · refine ⟨_, rfl, _, rfl, ld, _, rfl, .inl (SqL.of hld1), _, rfl, by rw [List.length_map]; omega, by rw [List.length_map]; omega, fun D hD => ?_⟩
      rw [List.length_map, hN]
      refine lc_range (lo := 0) (n := N) (fun i H2 => H2 D = some (.lst (((List.range i).map nameN).map V.str)) ∧ Same H1 H2) ⟨upd_same, same_new hD⟩ ?_ ?_
      · rintro i H2 hi ⟨hD2, s2⟩
        refine ⟨rfl, tyes ?_⟩
        have hl := nameN_len i (by omega)
        refine ⟨_, rfl, _, rfl, log_small (by omega), _, _, rfl, rfl, ?_, _, hD2, Evl.sz_lt (by simp; omega), ?_, ?_⟩
        · rw [Int.zero_add]
          exact Evl.sz_of (by omega)
        · rw [upd_same, List.range_succ, List.map_append, List.map_append, Int.zero_add]
          rfl
        · intro b o e
          rw [upd_ne (ne_of_none e hD)]
          exact s2 b o e
      · rintro H2 ⟨hD2, s2⟩
        refine ⟨sa, ca, D, _, rfl, S1.same s2, SqL.of hD2, by simp; omega, fun p ys H3 hp pm hpl S3 kp3 => ?_⟩
        obtain ⟨nm, rfl, pn⟩ := perm_str pm
        have hp0 : H p = none := kp1.free S1 (s2.free hp)
        exact ⟨p, nm, rfl, hp0, hpl, pn, S3, (Kp.same s2).trans kp3⟩
    rintro σ H2 ⟨na, nm, rfl, hna0, hna, pn, S2, kp2⟩
    have hnl : nm.length = N := by rw [pn.length_eq]; simp
    obtain ⟨nns, nnc⟩ := S.ne hna0
    have ho2 := kp2 _ _ ho nos noc
    have kp02 := kp1.trans kp2
    -- seats
    refine ⟨fun σ H3 => ∃ se, σ = [some (.ref sa), some (.ref wd), some (.ref ld), some (.ref o), some (.ref na), some (.ref se), none, none, none, none, none, none, none, none, none] ∧ H3 se = some (.dK (seatKV od od.length)) ∧ Same H2 H3, ?_, ?_⟩
    · refine ⟨_, rfl, o, _, rfl, SqL.of ho2, fun D hD => ?_⟩
      refine lc_it (walk_enum (xs := natV od)) (fun i H3 => ∃ ps : List Addr, H3 D = some (.lst (ps.map V.ref)) ∧ ps.length = i ∧ Paired (fun p kv => H3 p = some (.tup [kV kv.1, kv.2])) ps (seatKV od i) ∧ Same H2 H3) ⟨[], upd_same, rfl, .nil, same_new hD⟩ (fun i H3 _ ⟨_, _, _, _, h⟩ => SqL.of (h _ _ ho2)) ?_ ?_
      · rintro i x H3 H4 hi ⟨ps, hD3, hpl, pr, s3⟩ ⟨T, x1, y1, rfl, hT, rfl, e1, e2⟩
        rw [List.length_map] at hi
        have e2 : (natV od)[i]? = some y1 := e2
        rw [List.getElem?_map] at e2
        obtain ⟨y0, hy0, rfl⟩ := Option.map_eq_some_iff.mp e2
        cases e1
        refine ⟨T, _, rfl, SqT.of upd_same, rfl, _, _, rfl, _, _, rfl, rfl, rfl, tyes ?_⟩
        refine ⟨_, rfl, _, rfl, (by show 2 ≤ sizeLine; decide), fun u hu => ?_⟩
        have sT := same_new (o := .tup [V.int (i : Nat), V.int (y0 : Int)]) hT
        have su := same_new (o := .tup [V.int (y0 : Int), V.int (i : Nat)]) hu
        have sTu := sT.trans su
        have nDu : u ≠ D := fun e => by subst e; rw [sT _ _ hD3] at hu; cases hu
        refine ⟨_, sTu _ _ hD3, Evl.sz_lt (by rw [List.length_map]; omega), ps ++ [u], by rw [upd_same, List.map_append]; rfl, by simp [hpl], ?_, ?_⟩
        · rw [seat_step hy0]
          refine paired_snoc (Paired.mapP pr fun p kv h => ?_) ?_
          · rw [upd_ne (ne_of h hD3 (by intro z; cases z))]
            exact sTu _ _ h
          · rw [upd_ne nDu]
            exact upd_same
        · intro b ob e
          rw [upd_ne (ne_of_none e hD)]
          exact sTu _ _ (s3 b ob e)
      · rintro H3 ⟨ps, hD3, hpl, pr, s3⟩
        rw [List.length_map] at pr
        refine ⟨D, ps, seatKV od od.length, rfl, SqL.of hD3, Paired.mapP pr fun p kv h => SqT.of h, fun p hp => ?_⟩
        have nd : ((seatKV od od.length).map (·.1)).Nodup := seat_nd (po.nodup_iff.mpr List.nodup_range)
        refine ⟨p, rfl, ?_, s3.trans (same_new hp)⟩
        rw [upd_same, merge_nd (acc := []) (by simpa using nd)]
        rfl
    rintro σ H3 ⟨se, rfl, hse, s3⟩
    intro t2 ht2
    have s4 := same_new (o := .dT []) ht2
    have s24 := s3.trans s4
    have S4 := S2.same s24
    have kp04 : Kp sa ca H (upd H3 t2 (.dT [])) := kp02.trans (Kp.same s24)
    have h20 : H t2 = none := kp02.free S2 (s3.free ht2)
    obtain ⟨n2s, n2c⟩ := S.ne h20
    have hwd4 := kp04 _ _ hwd nws nwc
    have hb4 := kp04 _ _ hb nbs nbc
    have ht4 := kp04 _ _ ht nts ntc
    have hld4 := kp04 _ _ hld nls nlc
    have ho4 := s24 _ _ ho2
    have hna4 := s24 _ _ hna
    have hse4 := s4 _ _ hse
    have h24 : (upd H3 t2 (.dT [])) t2 = some (.dT []) := upd_same
    have ntt : t2 ≠ t := fun e => by subst e; rw [h20] at ht; cases ht
    generalize upd H3 t2 (.dT []) = H4 at *
    -- the ties
    refine ⟨fun σ H5 => ∃ v7 v8 v9 v10 kv2, σ = [some (.ref sa), some (.ref wd), some (.ref ld), some (.ref o), some (.ref na), some (.ref se), some (.ref t2), v7, v8, v9, v10, none, none, none, none] ∧ H5 t2 = some (.dT kv2) ∧ Ties N m kv2 ∧ (kv2.length ≤ 4000 ∧ totW kv2 ≤ totW kvs ∧ ∀ F, Sg F kv2 = Sg (fun k => F (newK (fun z => od.idxOf z) k)) kvs) ∧ (∀ b o, H4 b = some o → b ≠ t2 → H5 b = some o), ?_, ?_⟩
    · refine ⟨_, rfl, wd, _, rfl, dg_ties hwd4, t, kvs, rfl, .inl ht4, fun l bs hl hk => ?_⟩
      obtain ⟨kl, hbl⟩ := keyL_of hk
      have kl2 := kl.same (same_new (o := .lst (bs.map V.ref)) hl)
      obtain ⟨so1, so2⟩ := sort_ties kl2 ti
      refine ⟨l, _, _, rfl, SqL.of upd_same, so1, so2, fun ys p pm hp => ?_⟩
      have s5 := (same_new (o := .lst (bs.map V.ref)) hl).trans (same_new (o := .lst ys) hp)
      have kly : KeyL (upd (upd H4 l (.lst (bs.map V.ref))) p (.lst ys)) kvs ys := fun y hy => (kl.same s5) y (pm.subset hy)
      have hpp : (upd (upd H4 l (.lst (bs.map V.ref))) p (.lst ys)) p = some (.lst ys) := upd_same
      have hyl : ys.length ≤ 4000 := by rw [pm.length_eq, List.length_map]; omega
      have np2 : p ≠ t2 := fun e => by subst e; rw [same_new hl _ _ h24] at hp; cases hp
      have sumY := sum_ys ti (isKeys_same hk s5) pm
      have sumG := fun (F : List Key → Nat) => sg_ys (fun k => F (newK (fun z => od.idxOf z) k)) ti (isKeys_same hk s5) pm
      have odN : ∀ x < N, od[od.idxOf x]? = some x := fun x hx => by
        have hm : x ∈ od := po.mem_iff.mpr (List.mem_range.mpr hx)
        rw [List.getElem?_eq_getElem (List.idxOf_lt_length_of_mem hm), List.getElem_idxOf]
      have sinj : ∀ x < N, ∀ y < N, od.idxOf x = od.idxOf y → x = y := fun x hx y hy e => by
        have a := odN x hx
        have b := odN y hy
        rw [e, b] at a
        exact (Option.some.inj a).symm
      have ndY : (ys.map fun y => newK (fun z => od.idxOf z) (keyY (upd (upd H4 l (.lst (bs.map V.ref))) p (.lst ys)) y)).Nodup := by
        have h1 := newK_nodup (s := fun z => od.idxOf z) sinj (ys_nodup ti (isKeys_same hk s5) pm) fun k hk' => by
          obtain ⟨kv, hm, rfl⟩ := List.mem_map.mp ((ys_keys ti (isKeys_same hk s5) pm).mem_iff.mp hk')
          exact ti.key kv hm
        rw [List.map_map] at h1
        exact h1
      generalize upd (upd H4 l (.lst (bs.map V.ref))) p (.lst ys) = H5 at *
      refine ⟨p, rfl, ⟨_, SqL.of hpp⟩, ?_⟩
      refine for_list (xs := ys) (fun i σ H6 => ∃ v7 v8 v9 v10 kv2, σ = [some (.ref sa), some (.ref wd), some (.ref ld), some (.ref o), some (.ref na), some (.ref se), some (.ref t2), v7, v8, v9, v10, none, none, none, none] ∧ H6 t2 = some (.dT kv2) ∧ Ties N m kv2 ∧ (kv2.length ≤ i ∧ totW kv2 ≤ ((ys.take i).map (wtY H5 kvs)).sum ∧ kv2 = seatK H5 kvs (fun z => od.idxOf z) (ys.take i)) ∧ (∀ b o, H5 b = some o → b ≠ t2 → H6 b = some o))
        ⟨none, none, none, none, [], rfl, s5 _ _ h24, Ties.nil N m, ⟨Nat.le_refl _, Nat.zero_le _, rfl⟩, fun b o e _ => e⟩ (fun i σ H6 _ ⟨_, _, _, _, _, _, _, _, _, h⟩ => SqL.of (h _ _ hpp np2)) ?_ ?_
      · rintro i y σ H6 hi ⟨v7, v8, v9, v10, kv2, rfl, h26, ti6, ⟨hl6, hl6b, hl6c⟩, kp6⟩
        have hil := (List.getElem?_eq_some_iff.mp hi).1
        obtain ⟨b1, i1, j1, x1, kd1, rfl, hb1, hmem, hij, hjn, hkw, hx1, hx2⟩ := kly.tie ti (List.mem_of_getElem? hi)
        have stay : ∀ b o, H4 b = some o → b ≠ t2 → H6 b = some o := fun b o e h => kp6 b o (s5 _ _ e) h
        have nb12 : b1 ≠ t2 := ne_of hb1 (s5 _ _ h24) (by intro z; cases z)
        have hb6 := kp6 _ _ hb1 nb12
        have hse6 := stay _ _ hse4 (ne_of hse4 h24 (by intro z; cases z))
        have hwd6 := stay _ _ hwd4 (ne_of hwd4 h24 (by intro z; cases z))
        have ht6 := stay _ _ ht4 ntt.symm
        have seat : ∀ x < N, ∃ j, od[j]? = some x ∧ j < N ∧ valV (seatKV od od.length) (Sum.inl (x : Int) : Key) = some (V.int (j : Int)) := fun x hx => by
          obtain ⟨j, hj⟩ := List.getElem?_of_mem (po.mem_iff.mpr (List.mem_range.mpr hx))
          have hjl := (List.getElem?_eq_some_iff.mp hj).1
          exact ⟨j, hj, by omega, val_of_mem (seat_nd (po.nodup_iff.mpr List.nodup_range)) (seat_mem hj)⟩
        obtain ⟨u1, hu1, hu1n, hv1⟩ := seat i1 (by omega)
        obtain ⟨u2, hu2, hu2n, hv2⟩ := seat j1 hjn
        have hne : u1 ≠ u2 := fun e => by subst e; rw [hu1] at hu2; have := Option.some.inj hu2; omega
        refine ⟨b1, _, rfl, SqT.of hb6, rfl, _, _, rfl, _, _, rfl, _, _, rfl, rfl, ?_⟩
        refine ⟨_, rfl, _, rfl, se, _, rfl, (by rw [← hv1]; exact DGet.k (k := Sum.inl (i1 : Int)) hse6), _, rfl, _, rfl, se, _, rfl, (by rw [← hv2]; exact DGet.k (k := Sum.inl (j1 : Int)) hse6), (by show 2 ≤ sizeLine; decide), fun l1 hl1 => ?_⟩
        refine ⟨l1, [(u1 : Int), (u2 : Int)], rfl, SqL.of upd_same, (by show 2 < 64; decide), fun ns sp pms srt hsp => ?_⟩
        obtain ⟨n0, n1, rfl, h01, h1N⟩ : ∃ n0 n1 : Nat, ns = [(n0 : Int), (n1 : Int)] ∧ n0 < n1 ∧ n1 < N := by
          have hl2 : ns.length = 2 := pms.length_eq
          match ns, hl2 with
          | [z0, z1], _ =>
            have hle : z0 ≤ z1 := by simpa using srt
            have h0 := pms.mem_iff.mp (show z0 ∈ [z0, z1] by simp)
            have h1 := pms.mem_iff.mp (show z1 ∈ [z0, z1] by simp)
            have h2 := pms.mem_iff.mpr (show (u1 : Int) ∈ [(u1 : Int), (u2 : Int)] by simp)
            have h3 := pms.mem_iff.mpr (show (u2 : Int) ∈ [(u1 : Int), (u2 : Int)] by simp)
            simp at h0 h1 h2 h3
            refine ⟨z0.toNat, z1.toNat, ?_, by omega, by omega⟩
            rw [Int.toNat_of_nonneg (by omega), Int.toNat_of_nonneg (by omega)]
        have s7 := (same_new (o := .lst ([(u1 : Int), (u2 : Int)].map V.int)) hl1).trans (same_new (o := .lst ([(n0 : Int), (n1 : Int)].map V.int)) hsp)
        have hsp7 : (upd (upd H6 l1 (.lst ([(u1 : Int), (u2 : Int)].map V.int))) sp (.lst ([(n0 : Int), (n1 : Int)].map V.int))) sp = some (.lst [V.int (n0 : Int), V.int (n1 : Int)]) := upd_same
        refine ⟨_, rfl, wd, _, rfl, dg_ties (s7 _ _ hwd6), _, rfl, _, rfl, _, rfl, (by show 3 ≤ sizeLine; decide), fun q1 hq1 => ?_⟩
        have s8 := s7.trans (same_new (o := .tup [V.int (i1 : Int), V.int (j1 : Int), V.str kd1]) hq1)
        refine ⟨t, V.int (x1 : Int), rfl, (by rw [← val_of_mem ti.nd hmem]; exact DGet.t (k := [Sum.inl (i1 : Int), Sum.inl (j1 : Int), Sum.inr kd1]) (s8 _ _ ht6) upd_same), ?_⟩
        have hsp8 := same_new (o := .tup [V.int (i1 : Int), V.int (j1 : Int), V.str kd1]) hq1 _ _ hsp7
        refine ⟨_, rfl, _, rfl, sp, _, 0, V.int (n0 : Int), rfl, rfl, SqL.of hsp8, atI_nat (j := 0) rfl, _, rfl, sp, _, 1, V.int (n1 : Int), rfl, rfl, SqL.of hsp8, atI_nat (j := 1) rfl, _, rfl, (by show 3 ≤ sizeLine; decide), fun q2 hq2 => ?_⟩
        have s9 := s8.trans (same_new (o := .tup [V.int (n0 : Int), V.int (n1 : Int), V.str kd1]) hq2)
        refine ⟨t2, _, rfl, DPut.t (k := [Sum.inl (n0 : Int), Sum.inl (n1 : Int), Sum.inr kd1]) (s9 _ _ h26) upd_same (Evl.sz_lt (by omega)), ?_⟩
        refine ⟨_, _, _, _, _, rfl, upd_same, ti6.put ⟨n0, n1, kd1, rfl, h01, h1N, hkw⟩ hx1 hx2, ⟨by have := length_putK kv2 [Sum.inl (n0 : Int), Sum.inl (n1 : Int), Sum.inr kd1] (V.int (x1 : Int)); omega, by
          have e1 := tot_put (k := [Sum.inl (n0 : Int), Sum.inl (n1 : Int), Sum.inr kd1]) ti6.nd (V.int (x1 : Int))
          have e2 : wOf (V.int (x1 : Int)) = x1 := Int.toNat_natCast _
          rw [take_step hi, wtY_of ti hb1 hmem]
          omega, by
          have e1 := seatK_step (H := H5) (kvs := kvs) ndY hi
          have e2 : keyY H5 (.ref b1) = [Sum.inl (i1 : Int), Sum.inl (j1 : Int), Sum.inr kd1] := by
            unfold keyY
            rw [rowAt_of hb1]
            rfl
          have eu1 : u1 = od.idxOf i1 := (List.getElem?_inj (List.getElem?_eq_some_iff.mp hu1).1 (po.nodup_iff.mpr List.nodup_range)).mp (hu1.trans (odN i1 (by omega)).symm)
          have eu2 : u2 = od.idxOf j1 := (List.getElem?_inj (List.getElem?_eq_some_iff.mp hu2).1 (po.nodup_iff.mpr List.nodup_range)).mp (hu2.trans (odN j1 hjn).symm)
          have e3 := newK_perm (s := fun z => od.idxOf z) (n0 := n0) (n1 := n1) (i := i1) (j := j1) (k := kd1) (by show [(n0 : Int), (n1 : Int)].Perm [((od.idxOf i1 : Nat) : Int), ((od.idxOf j1 : Nat) : Int)]; rw [← eu1, ← eu2]; exact pms) h01
          rw [e2, wtY_of ti hb1 hmem, e3] at e1
          rw [hl6c]
          exact e1⟩, fun b o e h => ?_⟩
        rw [upd_ne h]
        exact s9 _ _ (kp6 b o e h)
      · rintro σ H6 ⟨v7, v8, v9, v10, kv2, rfl, h26, ti6, ⟨hl6, hl6b, hl6c⟩, kp6⟩
        refine ⟨v7, v8, v9, v10, kv2, rfl, h26, ti6, ⟨by omega, by have := take_le (f := wtY H5 kvs) (ys := ys) ys.length; omega, fun F => ?_⟩, fun b o e h => kp6 b o (s5 _ _ e) h⟩
        rw [hl6c, seatK_sg, List.take_length]
        exact sumG F
    rintro σ H5 ⟨v7, v8, v9, v10, kv2, rfl, h25, ti5, ⟨hl5, hl5b, hl5c⟩, kp5⟩
    have S5 : Src H5 sa ca := by
      obtain ⟨cs, l, m, tt, S4⟩ := S4
      exact ⟨cs, l, m, tt, ⟨kp5 _ _ S4.ds n2s.symm, kp5 _ _ S4.dc n2c.symm, S4.nn, S4.len, S4.l0, S4.m0, S4.m1, S4.t0⟩⟩
    have kp05 : Kp sa ca H H5 := fun b o e h1 h2 => kp5 b o (kp04 b o e h1 h2) (ne_of_none e h20)
    have hwd5 := kp5 _ _ hwd4 (ne_of hwd4 h24 (by intro z; cases z))
    have hb5 := kp5 _ _ hb4 (ne_of hb4 h24 (by intro z; cases z))
    have hld5 := kp5 _ _ hld4 (ne_of hld4 h24 (by intro z; cases z))
    have ho5 := kp5 _ _ ho4 (ne_of ho4 h24 (by intro z; cases z))
    have hna5 := kp5 _ _ hna4 (ne_of hna4 h24 (by intro z; cases z))
    have odN : ∀ x ∈ od, x < N := fun x hx => List.mem_range.mp (po.mem_iff.mp hx)
    -- colours
    refine ⟨fun σ H6 => ∃ bc cl2, σ = [some (.ref sa), some (.ref wd), some (.ref ld), some (.ref o), some (.ref na), some (.ref se), some (.ref t2), v7, v8, v9, v10, some (.ref bc), none, none, none] ∧ H bc = none ∧ H6 bc = some (.lst (List.map V.str cl2)) ∧ cl2.length = N ∧ (∀ x ∈ cl2, isWordB x = true) ∧ (∀ x < N, cl2[x]? = cl[lf od x]?) ∧ Same H5 H6, ?_, ?_⟩
    · refine ⟨_, rfl, o, rfl, ⟨_, SqL.of ho5⟩, fun D hD => ?_⟩
      refine lc_list (xs := natV od) (fun i H6 => ∃ cl2, H6 D = some (.lst (List.map V.str cl2)) ∧ cl2.length = i ∧ (∀ x ∈ cl2, isWordB x = true) ∧ (∀ x < i, cl2[x]? = cl[lf od x]?) ∧ Same H5 H6) ⟨[], upd_same, rfl, (fun x hx => (List.not_mem_nil hx).elim), (fun x hx => absurd hx (Nat.not_lt_zero _)), same_new hD⟩ (fun i H6 _ ⟨_, _, _, _, _, h⟩ => SqL.of (h _ _ ho5)) ?_ ?_
      · rintro i x H6 hi ⟨cl2, hD6, hcl2, hcw2, hco2, s6⟩
        have hil := (List.getElem?_eq_some_iff.mp hi).1
        rw [List.length_map] at hil
        rw [List.getElem?_map] at hi
        obtain ⟨y0, hy0, rfl⟩ := Option.map_eq_some_iff.mp hi
        have hyN := odN y0 (List.mem_of_getElem? hy0)
        obtain ⟨cy, hcy⟩ : ∃ cy, cl[y0]? = some cy := ⟨_, List.getElem?_eq_getElem (by omega)⟩
        refine ⟨rfl, tyes ?_⟩
        refine ⟨_, rfl, wd, _, rfl, dg_colours (s6 _ _ hwd5), _, rfl, b, _, _, V.str cy, rfl, rfl, SqL.of (s6 _ _ hb5), atI_nat (by rw [List.getElem?_map, hcy]; rfl), ?_⟩
        refine ⟨_, hD6, Evl.sz_lt (by rw [List.length_map]; omega), cl2 ++ [cy], by rw [upd_same, List.map_append]; rfl, by simp [hcl2], ?_, ?_, ?_⟩
        · intro x hx
          rcases List.mem_append.mp hx with z | z
          · exact hcw2 x z
          · rw [List.mem_singleton] at z
            subst z
            exact hcw _ (List.mem_of_getElem? hcy)
        · intro x hx
          by_cases c : x < i
          · rw [List.getElem?_append_left (by omega)]
            exact hco2 x c
          · have hxi : x = i := by omega
            subst hxi
            rw [List.getElem?_append_right (by omega), hcl2, Nat.sub_self, lf_of hy0, hcy]
            rfl
        · intro b o e
          rw [upd_ne (ne_of_none e hD)]
          exact s6 b o e
      · rintro H6 ⟨cl2, hD6, hcl2, hcw2, hco2, s6⟩
        rw [List.length_map] at hcl2 hco2
        exact ⟨D, cl2, rfl, kp05.free S5 hD, hD6, by omega, hcw2, fun x hx => hco2 x (by omega), s6⟩
    rintro σ H6 ⟨bc, cl2, rfl, hbc0, hbc, hcl2, hcw2, hco2, s6⟩
    have S6 := S5.same s6
    have kp06 := kp05.trans (Kp.same s6)
    obtain ⟨nbs', nbc'⟩ := S.ne hbc0
    -- the answer
    intro p hp
    have sp := same_new (o := .dK []) hp
    have hp0 : H p = none := kp06.free S6 hp
    obtain ⟨nps, npc⟩ := S.ne hp0
    refine ⟨_, rfl, _, rfl, _, rfl, upd_same, worldD na bc t2, rfl, (by show 3 ≤ 15; decide), ?_⟩
    rw [merge_wd]
    have hna6 := s6 _ _ hna5
    have h26 := s6 _ _ h25
    have npn : p ≠ na := fun e => by subst e; rw [hna6] at hp; cases hp
    have npb : p ≠ bc := fun e => by subst e; rw [hbc] at hp; cases hp
    have np2 : p ≠ t2 := fun e => by subst e; rw [h26] at hp; cases hp
    have ud : ∀ b o, H6 b = some o → (upd (upd H6 p (.dK [])) p (.dK (worldD na bc t2))) b = some o := fun b o e => by
      rw [upd_ne (ne_of_none e hp), upd_ne (ne_of_none e hp)]
      exact e
    have hpp : (upd (upd H6 p (.dK [])) p (.dK (worldD na bc t2))) p = some (.dK (worldD na bc t2)) := upd_same
    have s7 : Same H6 (upd (upd H6 p (.dK [])) p (.dK (worldD na bc t2))) := ud
    generalize upd (upd H6 p (.dK [])) p (.dK (worldD na bc t2)) = H7 at *
    refine ⟨_, rfl, o, rfl, ⟨_, SqL.of (s7 _ _ (s6 _ _ ho5))⟩, fun D hD => ?_⟩
    have S7 := S6.same s7
    have kp07 := kp06.trans (Kp.same s7)
    have hD0 : H D = none := kp07.free S7 hD
    refine lc_list (xs := natV od) (fun i H8 => ∃ led', H8 D = some (.lst (natV led')) ∧ led'.length = i ∧ led' = (od.take i).map (fun y => led.getD y 0) ∧ Same H7 H8) ⟨[], upd_same, rfl, rfl, same_new hD⟩ (fun i H8 _ ⟨_, _, _, _, h⟩ => SqL.of (h _ _ (s7 _ _ (s6 _ _ ho5)))) ?_ ?_
    · rintro i x H8 hi ⟨led', hD8, hll, hlm, s8⟩
      have hil := (List.getElem?_eq_some_iff.mp hi).1
      rw [List.length_map] at hil
      rw [List.getElem?_map] at hi
      obtain ⟨y0, hy0, rfl⟩ := Option.map_eq_some_iff.mp hi
      have hyN := odN y0 (List.mem_of_getElem? hy0)
      obtain ⟨ly, hly⟩ : ∃ ly, led[y0]? = some ly := ⟨_, List.getElem?_eq_getElem (by omega)⟩
      refine ⟨rfl, tyes ?_⟩
      refine ⟨_, rfl, _, rfl, ld, _, _, V.int (ly : Int), rfl, rfl, SqL.of (s8 _ _ (s7 _ _ (s6 _ _ hld5))), atI_nat (by rw [List.getElem?_map, hly]; rfl), ?_⟩
      refine ⟨_, hD8, Evl.sz_lt (by rw [List.length_map]; omega), led' ++ [ly], by unfold natV; rw [upd_same, List.map_append]; rfl, by simp [hll], ?_, ?_⟩
      · rw [List.take_add_one, hy0, List.map_append, hlm]
        show _ = _ ++ [led.getD y0 0]
        rw [List.getD_eq_getElem?_getD, hly]
        rfl
      · intro b o e
        rw [upd_ne (ne_of_none e hD)]
        exact s8 b o e
    · rintro H8 ⟨led', hD8, hll, hlm, s8⟩
      have hled : ∀ x, led'[x]? = (od[x]?).map fun y => led.getD y 0 := fun x => by
        rw [hlm, List.take_of_length_le (by rw [List.length_map]; omega), List.getElem?_map]
      have std : Seatd N kvs led cl kv2 led' cl2 := by
        intro x hx
        obtain ⟨y, hy⟩ : ∃ y, od[x]? = some y := ⟨_, List.getElem?_eq_getElem (by omega)⟩
        have hyN := odN y (List.mem_of_getElem? hy)
        obtain ⟨ly, hly⟩ : ∃ ly, led[y]? = some ly := ⟨_, List.getElem?_eq_getElem (by omega)⟩
        have odI : ∀ z < N, od[od.idxOf z]? = some z := fun z hz => by
          have hm : z ∈ od := po.mem_iff.mpr (List.mem_range.mpr hz)
          rw [List.getElem?_eq_getElem (List.idxOf_lt_length_of_mem hm), List.getElem_idxOf]
        refine ⟨y, hyN, ?_, ?_, fun g kd => ?_⟩
        · rw [hled, hy, hly]
          show some (led.getD y 0) = some ly
          rw [List.getD_eq_getElem?_getD, hly]
          rfl
        · rw [hco2 x hx, lf_of hy]
        · rw [hl5c]
          refine Sg.congr fun kv hm => tieC_new (n := N) (s := fun z => od.idxOf z) (fun z hz => ?_) (fun z hz => ?_) (ti.key kv hm)
          · constructor
            · intro e
              have e : od.idxOf z = x := e
              have := odI z hz
              rw [e, hy] at this
              exact (Option.some.inj this).symm
            · rintro rfl
              exact ((List.getElem?_inj (List.getElem?_eq_some_iff.mp hy).1 (po.nodup_iff.mpr List.nodup_range)).mp (hy.trans (odI z hz).symm)).symm
          · show g (lf led' (od.idxOf z)) = g (lf led z)
            congr 1
            unfold lf
            rw [hled, odI z hz]
            show led.getD z 0 = (led[z]?).getD 0
            rw [List.getD_eq_getElem?_getD]
      replace hlm : ∀ x, x ∈ led' ↔ x ∈ led := fun x => by
        rw [List.take_of_length_le (by rw [List.length_map]; omega)] at hlm
        rw [hlm, List.mem_map]
        constructor
        · rintro ⟨y, hy, rfl⟩
          have hyN := odN y hy
          rw [List.getD_eq_getElem?_getD, List.getElem?_eq_getElem (show y < led.length by omega)]
          exact List.getElem_mem _
        · intro hx
          obtain ⟨y, hy⟩ := List.getElem?_of_mem hx
          have hyl := (List.getElem?_eq_some_iff.mp hy).1
          refine ⟨y, po.mem_iff.mpr (List.mem_range.mpr (by omega)), ?_⟩
          rw [List.getD_eq_getElem?_getD, hy]
          rfl
      rw [List.length_map] at hll
      refine ⟨(by show 2 ≤ sizeLine; decide), fun r hr => ?_⟩
      have s9 := s8.trans (same_new (o := .tup [.ref p, .ref D]) hr)
      have kp09 := kp07.trans (Kp.same s9)
      refine k r p na bc t2 D nm cl2 kv2 led' _ hp0 hna0 hbc0 h20 hD0 upd_same ⟨s9 _ _ hpp, s9 _ _ (s7 _ _ hna6), s9 _ _ (s7 _ _ hbc), s9 _ _ (s7 _ _ h26), ⟨nps, npc⟩, ⟨nns, nnc⟩, ⟨nbs', nbc'⟩, ⟨n2s, n2c⟩, ?_, ?_, hcw2, by omega, by omega⟩ (by omega) (by rw [hnl]; exact ti5) hl5 hl5b (same_new hr _ _ hD8) (by omega) hlm std (S7.same s9) kp09
      · refine pn.nodup_iff.mpr (List.Sublist.nodup (List.Sublist.map nameN ?_) nameN_nd)
        exact List.range_sublist.mpr hn2
      · intro x hx
        obtain ⟨y, hy, rfl⟩ := List.mem_map.mp (pn.mem_iff.mp hx)
        exact nameN_w y (by have := List.mem_range.mp hy; omega)
end
end Nm
set_option maxRecDepth 100000
set_option maxHeartbeats 4000000
/-! the copies of a place, and their ties -/
namespace Nm
open PySem L2
section
variable {κ : Type} [DecidableEq κ]
theorem mem_of_val : ∀ {kvs : List (κ × V)} {k : κ} {v : V}, valV kvs k = some v → (k, v) ∈ kvs
  | [], _, _, h => by cases h
  | kv :: r, k, v, h => by
    by_cases e : kv.1 = k
    · rw [valV_pos e] at h
      cases h
      subst e
      exact List.mem_cons_self
    · rw [valV_neg e] at h
      exact List.mem_cons_of_mem _ (mem_of_val h)
end
def SeatsOk (kvS : List (List Key × V)) (led : List Nat) (ok : Nat → Nat → Prop) : Prop := ∀ p u, ok p u → ∃ idx : Nat, led[idx]? = some p ∧ valV kvS [Sum.inl (p : Int), Sum.inl (u : Int)] = some (V.int (idx : Int))
theorem SeatsOk.put {kvS : List (List Key × V)} {led : List Nat} {ok ok' : Nat → Nat → Prop} (h : SeatsOk kvS led ok) {i j : Nat} (e : ∀ p u, ok' p u → ok p u ∨ (p = i ∧ u = j)) :
    SeatsOk (putK kvS [Sum.inl (i : Int), Sum.inl (j : Int)] (V.int (led.length : Int))) (led ++ [i]) ok' := by
  intro p u hp
  rw [valV_put]
  by_cases hk : ([Sum.inl (p : Int), Sum.inl (u : Int)] : List Key) = [Sum.inl (i : Int), Sum.inl (j : Int)]
  · rw [if_pos hk]
    have hpi : p = i := by
      have := Sum.inl.inj (List.cons.inj hk).1
      omega
    exact ⟨led.length, by rw [hpi]; simp, rfl⟩
  · rw [if_neg hk]
    rcases e p u hp with z | ⟨z1, z2⟩
    · obtain ⟨idx, h1, h2⟩ := h p u z
      exact ⟨idx, by rw [List.getElem?_append_left (List.getElem?_eq_some_iff.mp h1).1]; exact h1, h2⟩
    · subst z1 z2
      exact absurd rfl hk
/-- the seat of a copy -/
def sf (kvS : List (List Key × V)) (p u : Nat) : Nat := natOf ((valV kvS [Sum.inl (p : Int), Sum.inl (u : Int)]).getD .non)
theorem sf_of {kvS : List (List Key × V)} {p u idx : Nat} (h : valV kvS [Sum.inl (p : Int), Sum.inl (u : Int)] = some (V.int (idx : Int))) : sf kvS p u = idx := by
  unfold sf
  rw [h]
  exact Int.toNat_natCast idx
/-- each place stands for one copy -/
structure SeatsX (kvS : List (List Key × V)) (led : List Nat) (ok : Nat → Nat → Prop) : Prop where
  cov : ∀ x p : Nat, led[x]? = some p → ∃ u, ok p u ∧ sf kvS p u = x
  inj : ∀ p u v, ok p u → ok p v → sf kvS p u = sf kvS p v → u = v
theorem SeatsX.nil (ok : Nat → Nat → Prop) (h : ∀ p u, ¬ ok p u) : SeatsX [] [] ok := ⟨(fun x p e => by cases e), fun p u _ o => absurd o (h p u)⟩
theorem SeatsX.mono {kvS : List (List Key × V)} {led : List Nat} {ok ok' : Nat → Nat → Prop} (h : SeatsX kvS led ok) (e : ∀ p u, ok p u → ok' p u) (e2 : ∀ p u, ok' p u → ok p u) : SeatsX kvS led ok' :=
  ⟨fun x p hx => by obtain ⟨u, a, b⟩ := h.cov x p hx; exact ⟨u, e p u a, b⟩, fun p u v a b => h.inj p u v (e2 p u a) (e2 p v b)⟩
theorem SeatsX.put {kvS : List (List Key × V)} {led : List Nat} {ok ok' : Nat → Nat → Prop} (h : SeatsX kvS led ok) (S : SeatsOk kvS led ok) {i j : Nat} (n : ¬ ok i j) (e : ∀ p u, ok' p u → ok p u ∨ (p = i ∧ u = j)) (e2 : ∀ p u, ok p u → ok' p u) (e3 : ok' i j) :
    SeatsX (putK kvS [Sum.inl (i : Int), Sum.inl (j : Int)] (V.int (led.length : Int))) (led ++ [i]) ok' := by
  have old : ∀ p u, ok p u → sf (putK kvS [Sum.inl (i : Int), Sum.inl (j : Int)] (V.int (led.length : Int))) p u = sf kvS p u ∧ sf kvS p u < led.length := fun p u o => by
    obtain ⟨idx, h1, h2⟩ := S p u o
    have hk : ¬ ([Sum.inl (p : Int), Sum.inl (u : Int)] : List Key) = [Sum.inl (i : Int), Sum.inl (j : Int)] := fun z => by
      have z1 := Sum.inl.inj (List.cons.inj z).1
      have z2 := Sum.inl.inj (List.cons.inj (List.cons.inj z).2).1
      have z1 : p = i := by omega
      have z2 : u = j := by omega
      subst z1 z2
      exact n o
    refine ⟨?_, by rw [sf_of h2]; exact (List.getElem?_eq_some_iff.mp h1).1⟩
    unfold sf
    rw [valV_put, if_neg hk]
  have new : sf (putK kvS [Sum.inl (i : Int), Sum.inl (j : Int)] (V.int (led.length : Int))) i j = led.length := by
    unfold sf
    rw [valV_put, if_pos rfl]
    exact Int.toNat_natCast _
  refine ⟨fun x p hx => ?_, fun p u v a b hs => ?_⟩
  · by_cases c : x < led.length
    · rw [List.getElem?_append_left c] at hx
      obtain ⟨u, a, b⟩ := h.cov x p hx
      exact ⟨u, e2 p u a, by rw [(old p u a).1]; exact b⟩
    · have hl := (List.getElem?_eq_some_iff.mp hx).1
      rw [List.length_append, List.length_singleton] at hl
      have hx' : x = led.length := by omega
      subst hx'
      rw [List.getElem?_append_right (Nat.le_refl _), Nat.sub_self] at hx
      have : i = p := by simpa using hx
      subst this
      exact ⟨j, e3, new⟩
  · rcases e p u a with a1 | ⟨a1, a2⟩ <;> rcases e p v b with b1 | ⟨b1, b2⟩
    · rw [(old p u a1).1, (old p v b1).1] at hs
      exact h.inj p u v a1 b1 hs
    · subst b1 b2
      rw [(old p u a1).1, new] at hs
      have := (old p u a1).2
      omega
    · subst a1 a2
      rw [(old p v b1).1, new] at hs
      have := (old p v b1).2
      omega
    · omega
/-! ### sums -/
theorem sumz {α : Type} {f : α → Nat} : ∀ {l : List α}, (∀ u ∈ l, f u = 0) → (l.map f).sum = 0
  | [], _ => rfl
  | a :: r, h => by
    rw [List.map_cons, List.sum_cons, h a List.mem_cons_self, sumz fun u hu => h u (List.mem_cons_of_mem _ hu)]
theorem sumo {α : Type} [DecidableEq α] {f : α → Nat} {a : α} : ∀ {l : List α}, l.Nodup → a ∈ l → (∀ u ∈ l, u ≠ a → f u = 0) → (l.map f).sum = f a
  | b :: r, nd, ha, h => by
    rw [List.nodup_cons] at nd
    rw [List.map_cons, List.sum_cons]
    by_cases e : b = a
    · subst e
      rw [sumz fun u hu => h u (List.mem_cons_of_mem _ hu) (fun z => nd.1 (z ▸ hu))]
      rfl
    · rw [h b List.mem_cons_self e, sumo nd.2 ((List.mem_cons.mp ha).resolve_left (fun z => e z.symm)) fun u hu => h u (List.mem_cons_of_mem _ hu)]
      omega
theorem suma {α : Type} {f g : α → Nat} : ∀ {l : List α}, (l.map fun u => f u + g u).sum = (l.map f).sum + (l.map g).sum
  | [] => rfl
  | a :: r => by
    rw [List.map_cons, List.sum_cons, List.map_cons, List.sum_cons, List.map_cons, List.sum_cons, suma]
    omega
/-- so many copies of a tie: each copy of an end has just one -/
theorem unit_count {s : Nat → Nat → Nat} {f : Nat → Nat} {c i j x : Nat} {τ : Nat → Nat} {g : Nat → Nat} {kd k : Str} (hτ : ∀ u < c, τ u < c) (hτs : ∀ z < c, ∃ u < c, τ u = z) (hτi : ∀ u < c, ∀ v < c, τ u = τ v → u = v)
    (hf : ∀ u < c, f (s i u) = i ∧ f (s j u) = j) (hc : ∀ p, p = i ∨ p = j → f x = p → ∃ u < c, s p u = x) (hi : ∀ p, p = i ∨ p = j → ∀ u < c, ∀ v < c, s p u = s p v → u = v) :
    ((List.range c).map fun u => tieC (fun z => g (f z)) x kd [Sum.inl (s i u : Int), Sum.inl (s j (τ u) : Int), Sum.inr k]).sum = tieC g (f x) kd [Sum.inl (i : Int), Sum.inl (j : Int), Sum.inr k] := by
  rw [tieC_nat]
  by_cases hk : k = kd
  · rw [if_pos hk]
    have e : ((List.range c).map fun u => tieC (fun z => g (f z)) x kd [Sum.inl (s i u : Int), Sum.inl (s j (τ u) : Int), Sum.inr k]) = (List.range c).map fun u => (if s i u = x then g j else 0) + (if s j (τ u) = x then g i else 0) := by
      refine List.map_congr_left fun u hu => ?_
      have hu := List.mem_range.mp hu
      rw [tieC_nat, if_pos hk, (hf u hu).1, (hf _ (hτ u hu)).2]
    rw [e, suma]
    congr 1
    · by_cases hx : i = f x
      · rw [if_pos hx]
        obtain ⟨u0, h0, e0⟩ := hc i (.inl rfl) hx.symm
        rw [sumo (a := u0) List.nodup_range (List.mem_range.mpr h0) fun u hu hne => if_neg fun z => hne (hi i (.inl rfl) u (List.mem_range.mp hu) u0 h0 (z.trans e0.symm))]
        exact if_pos e0
      · rw [if_neg hx]
        exact sumz fun u hu => if_neg fun z => hx (by rw [← z, (hf u (List.mem_range.mp hu)).1])
    · by_cases hx : j = f x
      · rw [if_pos hx]
        obtain ⟨z0, h0, e0⟩ := hc j (.inr rfl) hx.symm
        obtain ⟨u0, h1, e1⟩ := hτs z0 h0
        rw [sumo (a := u0) List.nodup_range (List.mem_range.mpr h1) fun u hu hne => if_neg fun z => hne (hτi u (List.mem_range.mp hu) u0 h1 (by
          rw [e1]
          exact hi j (.inr rfl) _ (hτ u (List.mem_range.mp hu)) z0 h0 (z.trans e0.symm)))]
        rw [e1]
        exact if_pos e0
      · rw [if_neg hx]
        exact sumz fun u hu => if_neg fun z => hx (by rw [← z, (hf _ (hτ u (List.mem_range.mp hu))).2])
  · rw [if_neg hk]
    exact sumz fun u _ => by rw [tieC_nat, if_neg hk]
theorem turn_ok {c t : Nat} (ht : t < c) : (∀ u < c, (u + t) % c < c) ∧ (∀ z < c, ∃ u < c, (u + t) % c = z) ∧ ∀ u < c, ∀ v < c, (u + t) % c = (v + t) % c → u = v := by
  have md : ∀ u < c, (u + t) % c = if u + t < c then u + t else u + t - c := fun u hu => by
    by_cases h : u + t < c
    · rw [if_pos h, Nat.mod_eq_of_lt h]
    · rw [if_neg h, Nat.mod_eq_sub_mod (by omega), Nat.mod_eq_of_lt (by omega)]
  refine ⟨fun u hu => Nat.mod_lt _ (by omega), fun z hz => ?_, fun u hu v hv e => ?_⟩
  · by_cases h : t ≤ z
    · exact ⟨z - t, by omega, by rw [md _ (by omega), if_pos (by omega)]; omega⟩
    · exact ⟨z + c - t, by omega, by rw [md _ (by omega), if_neg (by omega)]; omega⟩
  · rw [md u hu, md v hv] at e
    split at e <;> split at e <;> omega
/-- of a covering: colours, and the ties of each place -/
def Cov (kvs : List (List Key × V)) (cl : List Str) (kvs' : List (List Key × V)) (led' : List Nat) (cl' : List Str) : Prop :=
  ∀ x p, led'[x]? = some p → cl'[x]? = cl[p]? ∧ ∀ (g : Nat → Nat) (kd : Str), Sg (tieC (fun z => g (lf led' z)) x kd) kvs' = Sg (tieC g p kd) kvs
end Nm
set_option maxRecDepth 100000
set_option maxHeartbeats 4000000
namespace Nm
open PySem L2
theorem Ties.mono {n m m' : Nat} {kvs : List (List Key × V)} (h : Ties n m kvs) (e : m ≤ m') : Ties n m' kvs := ⟨h.key, fun kv hm => by
  obtain ⟨x, a, b, c⟩ := h.val kv hm
  exact ⟨x, a, b, by omega⟩, h.nd⟩
theorem two_sorted {ns : List Int} {u1 u2 N : Nat} (pms : ns.Perm [(u1 : Int), (u2 : Int)]) (srt : ns.Pairwise (· ≤ ·)) (hne : u1 ≠ u2) (h1 : u1 < N) (h2 : u2 < N) : ∃ n0 n1 : Nat, ns = [(n0 : Int), (n1 : Int)] ∧ n0 < n1 ∧ n1 < N := by
  have hl2 : ns.length = 2 := pms.length_eq
  match ns, hl2 with
  | [z0, z1], _ =>
    have hle : z0 ≤ z1 := by simpa using srt
    have h0 := pms.mem_iff.mp (show z0 ∈ [z0, z1] by simp)
    have h1 := pms.mem_iff.mp (show z1 ∈ [z0, z1] by simp)
    have h2 := pms.mem_iff.mpr (show (u1 : Int) ∈ [(u1 : Int), (u2 : Int)] by simp)
    have h3 := pms.mem_iff.mpr (show (u2 : Int) ∈ [(u1 : Int), (u2 : Int)] by simp)
    simp at h0 h1 h2 h3
    refine ⟨z0.toNat, z1.toNat, ?_, by omega, by omega⟩
    rw [Int.toNat_of_nonneg (by omega), Int.toNat_of_nonneg (by omega)]
section
variable {P : Program} {w : World} {K : PySem.W.Frag} {mg : Str → Option Value} {base : Heap}
def spPick0 : Sp := fun vs H Q _ => ∃ (s : Addr) (n : Int), vs = [.ref s, .int n] ∧ n < 2 ∧ Q (.int 0) H
/-- pick, of 0 too -/
def spPickZ : Sp := fun vs H Q E => spPick vs H Q E ∨ spPick0 vs H Q E
theorem ok_pickZ {f : Addr} {fd : FuncData} (F : Fun K "_law_pick" "_law_pick" sPick f fd) (T : TxtA mg) : FnOk P w K mg base CX0 1 f fd ["_law_source", "_law_many"] spPickZ := by
  have h0 : FnOk P w K mg base CX0 1 f fd ["_law_source", "_law_many"] spPick0 := by
    refine F.ok scPick (fun vs H Q E h => ?_) (fun cdv A outer s H vs Q E hr h => ?_)
    · obtain ⟨p, n, rfl, _⟩ := h
      rfl
    · obtain ⟨sa, n, rfl, n1, k⟩ := h
      have hu := hu_of hr
      refine ⟨_, pss_cons (ps_if (pt_cmpR op_lt (pv 1) pe_int (nomark _)) (pss_one (ps_ret pe_int)) pss_nil)
        (pss_cons (ps_set (i := 2) scPick.nd rfl (Or.inl rfl) (pe_dget hu (pv 0) pe_str (fun _ _ => rfl)))
        (Evl.pss_cut (ps_while PassesOwn.never (PW.pt (pw_and (pt_cmpR op_lt (pe_dget hu (pv 0) pe_str (fun _ _ => rfl)) pe_int (nomark _)) (pw_and1 (pt_cmpR op_gt (pe_callB call_len_seq (by rfl) T.len PySem.boot_len (pa_cons (pv 2) pa_nil)) pe_int (nomark _)))))
          (pss_one (ps_dput hu (pv 0) pe_str (pe_bm0 PySem.F.plainAttrs_list PySem.F.slot_list_pop PySem.F.type_list_pop mt_pop (pv 2)) rfl)))
        (pss_cons (ps_set (i := 3) scPick.nd rfl (Or.inl rfl) (pe_dget hu (pv 0) pe_str (fun _ _ => rfl)))
        (pss_cons (ps_if (pt_cmpR op_gt (pv 3) pe_int (nomark _))
          (pss_cons (ps_dput hu (pv 0) pe_str (pe_op op_fdiv (pv 3) (pv 1)) rfl) (pss_one (ps_ret (pe_op op_mod (pe_callTy call_int1 (by rfl) T.int (by decide +kernel) (pa_cons (pv 3) pa_nil)) (pv 1))))) pss_nil)
        (pss_cons (ps_dput hu (pv 0) pe_str (pe_op op_add (pe_dget hu (pv 0) pe_str (fun _ _ => rfl)) pe_int) rfl)
        (pss_cons (ps_set (i := 4) scPick.nd rfl (Or.inl rfl) (pe_dget hu (pv 0) pe_str (fun _ _ => rfl)))
        (pss_cons (ps_set (i := 5) scPick.nd rfl (Or.inl rfl) (pe_op op_mod (pe_callTy call_int1 (by rfl) T.int (by decide +kernel) (pa_cons (pe_op op_add (pe_dget hu (pv 0) pe_str (fun _ _ => rfl)) (pe_op op_mul (pv 4) pe_int)) pa_nil)) pe_int))
        (pss_cons (ps_set (i := 5) scPick.nd rfl (Or.inl rfl) (pe_op op_mod (pe_callTy call_int1 (by rfl) T.int (by decide +kernel) (pa_cons (pe_op op_add (pe_op op_mul (pv 5) (pv 5)) (pe_op op_mul (pv 4) pe_int)) pa_nil)) pe_int))
        (pss_one (ps_ret (pe_op op_mod (pe_callTy call_int1 (by rfl) T.int (by decide +kernel) (pa_cons (pe_op op_fdiv (pv 5) pe_int) pa_nil)) (pv 1)))))))))))), ?_⟩
      refine ⟨_, rfl, _, _, rfl, rfl, _, rfl, ?_⟩
      have : decide (n < 2) = true := decide_eq_true n1
      show (if decide (n < 2) = true then _ else _)
      rw [if_pos this]
      exact k
  have h1 := ok_pick (P := P) (w := w) (base := base) F T
  exact ⟨fun vs H Q E h => h.elim (h1.len vs H Q E) (h0.len vs H Q E), fun A outer s H args us vs Q E hr he hb hv h => h.elim (h1.run A outer s H args us vs Q E hr he hb hv) (h0.run A outer s H args us vs Q E hr he hb hv)⟩
/-! ### _law_over -/
/-- how long it can be, when all counts are equal -/
def LedK (_n : Nat) (ns led : List Nat) (b : Nat → Nat) : Prop := ∀ c0, (∀ x ∈ ns, x = c0) → led.length ≤ b c0
def spOver : Sp := fun vs H Q _ => ∃ (s c wd a b t nu : Addr) (nm cl : List Str) (m : Nat) (kvs : List (List Key × V)) (ns : List Nat), vs = [.ref s, .ref wd, .ref nu] ∧ Src H s c ∧ WorldOk H s c wd a b t nm cl kvs ∧ Ties nm.length m kvs ∧ totW kvs ≤ 800 ∧ nm.length ≤ 10 ∧ H nu = some (.lst (natV ns)) ∧ nu ≠ c ∧ nm.length ≤ ns.length ∧ (∀ x ∈ ns, x ≤ 5) ∧
  (∀ ps, PartsRel nm.length kvs ps → ∃ p ∈ ps, ∃ x, ns[p]? = some x ∧ 1 ≤ x) ∧
  ∀ (r wd' a' b' t' ld' : Addr) (nm' cl' : List Str) (kvs' : List (List Key × V)) (led' : List Nat) (H' : Hp), H wd' = none → H a' = none → H b' = none → H t' = none → H ld' = none → H' r = some (.tup [.ref wd', .ref ld']) → WorldOk H' s c wd' a' b' t' nm' cl' kvs' → nm'.length ≤ 100 → Ties nm'.length 4000 kvs' → kvs'.length ≤ 4000 → totW kvs' ≤ 5 * totW kvs →
    H' ld' = some (.lst (natV led')) → led'.length = nm'.length → Cov kvs cl kvs' led' cl' → (∀ x ∈ led', x < nm.length) → LedK nm.length ns led' (fun c => c * nm.length) → (∀ p < nm.length, (∀ c0, (∀ x ∈ ns, x = c0) → 1 ≤ c0) → (∀ x ∈ ns, ∀ y ∈ ns, x = y) → p ∈ led') → Src H' s c → Kp s c H H' → Q (.ref r) H'
abbrev nOver : List Str := ["_law_source", "_law_world", "_law_numbers", "_law_parts_here", "_law_led", "_law_seats", "_law_ties", "_law_p", "_law_part", "_law_u", "_law_one", "_law_other", "_law_kind", "_law_many", "_law_unit", "_law_turn", "_law_spot", "_law_key", "_law_colours"]
theorem scOver : FnScope nOver ["_law_source", "_law_world", "_law_numbers"] (defScope sOver) := ⟨rfl, rfl, rfl, by decide +kernel, rfl, by decide +kernel, by decide +kernel⟩
abbrev stO (sa wd nu pa ld se t2 : Addr) (v7 v8 v9 v10 v11 v12 v13 v14 v15 v16 v17 v18 : Option V) : L2.St := [some (.ref sa), some (.ref wd), some (.ref nu), some (.ref pa), some (.ref ld), some (.ref se), some (.ref t2), v7, v8, v9, v10, v11, v12, v13, v14, v15, v16, v17, v18]
theorem ok_over {f : Addr} {fd : FuncData} (F : Fun K "_law_over" "_law_over" sOver f fd) (T : TxtD mg) (Gz : Def P w K mg base "_law_pick" ["_law_source", "_law_many"] 1 spPickZ) (Gq : Def P w K mg base "_law_parts" ["_law_world"] 1 spParts)
    (Gs : Def P w K mg base "_law_seated" ["_law_source", "_law_world", "_law_led"] 3 spSeated) : FnOk P w K mg base CX0 4 f fd ["_law_source", "_law_world", "_law_numbers"] spOver := by
  obtain ⟨fp, fdp, Gp, mp, kp, bp⟩ := Gz.ex
  obtain ⟨fq, fdq, Gq, mq, kq, bq⟩ := Gq.ex
  obtain ⟨fs, fds, Gs, ms, ks, bs⟩ := Gs.ex
  refine F.ok scOver (fun vs H Q E h => ?_) (fun cdv A outer s H vs Q E hr h => ?_)
  · obtain ⟨_, _, _, _, _, _, _, _, _, _, _, _, rfl, _⟩ := h
    rfl
  · obtain ⟨sa, ca, wd, a, b, t, nu, nm, cl, mm, kvs, ns, rfl, S, W, ti, htot, hn10, hnu, nnc, hnsl, hns10, hone, k⟩ := h
    have hkl : kvs.length ≤ 800 := Nat.le_trans ti.len htot
    have hu := hu_of hr
    have hr1 := hr.mono (by decide : 1 ≤ 3)
    refine ⟨_, Evl.pss_cut (ps_asg (pe_tup (pa_cons (pe_call Gq hr1 (by rfl) mq kq bq .nil pass0 (pa_cons (pv 1) pa_nil)) (pa_cons (pe_lst pa_nil) (pa_cons pe_dnewT (pa_cons pe_dnewT pa_nil))))) (pg_tup rfl (pgs_cons (pg_name (i := 3) scOver.nd rfl (.inl rfl)) (pgs_cons (pg_name (i := 4) scOver.nd rfl (.inl rfl)) (pgs_cons (pg_name (i := 5) scOver.nd rfl (.inl rfl)) (pgs_cons (pg_name (i := 6) scOver.nd rfl (.inl rfl)) pgs_nil))))))
      (Evl.pss_cut (ps_for PassesOwn.never rfl (pi_enum (by rfl) T.enumerate (pa_cons (pv 3) pa_nil)) (pg_tup rfl (pgs_cons (pg_name (i := 7) scOver.nd rfl (.inl rfl)) (pgs_cons (pg_name (i := 8) scOver.nd rfl (.inl rfl)) pgs_nil)))
        (pss_one (ps_for PassesOwn.never rfl (pi_range1 (by rfl) T.range (pa_cons (pe_ix ix_list (pv 2) (pv 8) (fun _ _ => rfl)) pa_nil)) (pg_name (i := 9) scOver.nd rfl (Or.inl rfl))
          (pss_cons (ps_dput hu (pv 5) (pe_tup (pa_cons (pv 7) (pa_cons (pv 9) pa_nil))) (pe_callB call_len_seq (by rfl) T.len PySem.boot_len (pa_cons (pv 4) pa_nil)) rfl)
          (pss_one (ps_expr (pe_bm PySem.F.plainAttrs_list PySem.F.slot_list_append PySem.F.type_list_append mt_append (pv 4) (pa_cons (pv 7) pa_nil))))))))
      (Evl.pss_cut (ps_for PassesOwn.never rfl (pi_list (pe_callB cr_sortedR (by rfl) T.sorted (by decide +kernel) (pa_cons (pe_callTy (call_list_dT rfl) (by rfl) T.list (by decide +kernel) (pa_cons (pe_dget hu (pv 1) pe_str (fun _ _ => rfl)) pa_nil)) pa_nil)))
          (pg_tup rfl (pgs_cons (pg_name (i := 10) scOver.nd rfl (.inl rfl)) (pgs_cons (pg_name (i := 11) scOver.nd rfl (.inl rfl)) (pgs_cons (pg_name (i := 12) scOver.nd rfl (.inl rfl)) pgs_nil))))
        (pss_cons (ps_set (i := 13) scOver.nd rfl (Or.inl rfl) (pe_ix ix_list (pv 2) (pe_ix ix_list (pv 3) (pv 10) (fun _ _ => rfl)) (fun _ _ => rfl)))
        (pss_one (ps_for PassesOwn.never rfl (pi_range1 (by rfl) T.range (pa_cons (pe_dget hu (pe_dget hu (pv 1) pe_str (fun _ _ => rfl)) (pe_tup (pa_cons (pv 10) (pa_cons (pv 11) (pa_cons (pv 12) pa_nil)))) (fun _ _ => rfl)) pa_nil)) (pg_name (i := 14) scOver.nd rfl (Or.inl rfl))
          (Evl.pss_cut (ps_set (i := 15) scOver.nd rfl (Or.inl rfl) (pe_call Gp hr1 (by rfl) mp kp bp .nil pass0 (pa_cons (pv 0) (pa_cons (pv 13) pa_nil))))
          (pss_one (ps_for PassesOwn.never rfl (pi_range1 (by rfl) T.range (pa_cons (pv 13) pa_nil)) (pg_name (i := 9) scOver.nd rfl (Or.inl rfl))
            (pss_cons (ps_set (i := 16) scOver.nd rfl (Or.inl rfl) (pe_callB cr_sorted (by rfl) T.sorted (by decide +kernel) (pa_cons (pe_lst (pa_cons (pe_dget hu (pv 5) (pe_tup (pa_cons (pv 10) (pa_cons (pv 9) pa_nil))) (fun _ _ => rfl)) (pa_cons (pe_dget hu (pv 5) (pe_tup (pa_cons (pv 11) (pa_cons (pe_op op_mod (pe_callTy call_int1 (by rfl) T.int (by decide +kernel) (pa_cons (pe_op op_add (pv 9) (pv 15)) pa_nil)) (pv 13)) pa_nil))) (fun _ _ => rfl)) pa_nil))) pa_nil)))
            (pss_cons (ps_set (i := 17) scOver.nd rfl (Or.inl rfl) (pe_tup (pa_cons (pe_ix ix_list (pv 16) pe_int (fun _ _ => rfl)) (pa_cons (pe_ix ix_list (pv 16) pe_int (fun _ _ => rfl)) (pa_cons (pv 12) pa_nil)))))
            (pss_one (ps_dput hu (pv 6) (pv 17) (pe_op op_add (pe_dget2 hu (pv 6) (pv 17) pe_int ⟨rfl, rfl, rfl, rfl⟩) pe_int) rfl)))))))))))
      (Evl.pss_cut (ps_setLc (i := 18) (own := [("_law_p", 7)]) (g := gName 7) (tt := tYes) (te := tOp (rIxL K) (tDGet (tVar 1) (tC (.str "colours"))) (tVar 7)) rfl scOver.nd rfl rfl (sw_true rfl rfl rfl (by decide +kernel)) (pi_list (pv 4))
          (blkOk_by (N := nOver) (sc := defScope sOver) (by decide +kernel)) (fun _ _ _ _ _ => pg_name (i := 7) scOver.nd rfl (Or.inl rfl)) (fun _ _ _ _ _ => pts_nil)
          (fun _ _ _ _ _ => by exact pe_ix ix_list (pe_dget hu (pv 1) pe_str (fun _ _ => rfl)) (pv 7) (fun _ _ => rfl)))
      (pss_one (ps_ret (pe_call Gs hr (by rfl) ms ks bs .nil pass0 (pa_cons (pv 0) (pa_cons (pe_disp (pps_cons pe_str (pv 4) (pps_cons pe_str (pv 18) (pps_cons pe_str (pv 6) pps_nil))) (by rfl) (by rfl) (fun z => by cases z) (by decide)) (pa_cons (pv 4) pa_nil))))))))), ?_⟩
    generalize hn : nm.length = n at *
    refine ⟨fun σ H2 => ∃ pa ps ld se t2, σ = stO sa wd nu pa ld se t2 none none none none none none none none none none none none ∧ (H pa = none ∧ H ld = none ∧ H se = none ∧ H t2 = none ∧ pa ≠ ld ∧ se ≠ t2) ∧ H2 pa = some (.lst (natV ps)) ∧ ps.length = n ∧ (∀ x ∈ ps, x < n) ∧
        (∀ (i j : Nat) (kd : Str) (v : V), ([Sum.inl (i : Int), Sum.inl (j : Int), Sum.inr kd], v) ∈ kvs → ps[i]? = ps[j]?) ∧ PartsRel n kvs ps ∧ H2 ld = some (.lst []) ∧ H2 se = some (.dT []) ∧ H2 t2 = some (.dT []) ∧ Same H H2, ?_, ?_⟩
    · refine ⟨_, rfl, wd, a, b, t, _, mm, kvs, rfl, W.d, W.hn, W.ht, by rw [List.length_map]; omega, by omega, by rw [List.length_map, hn]; exact ti, fun pa ps H1 hpa0 hpa hpl hpn hpe hpr s1 => ?_⟩
      rw [List.length_map, hn] at hpl hpn hpr
      refine ⟨(by show 0 ≤ sizeLine; decide), fun ld hld => ?_⟩
      intro se hse t2 ht2
      refine ⟨(by show 4 ≤ sizeLine; decide), fun tp htp => ?_⟩
      obtain ⟨n1, hse1⟩ := nx hse
      obtain ⟨n2, ht2'⟩ := nx ht2
      obtain ⟨n3, ht21⟩ := nx ht2'
      have a1 := same_new (o := .lst []) hld
      have a2 := same_new (o := .dT []) hse
      have a3 := same_new (o := .dT []) ht2
      have a4 := same_new (o := .tup [V.ref pa, V.ref ld, V.ref se, V.ref t2]) htp
      refine ⟨tp, _, rfl, SqT.of upd_same, rfl, _, _, rfl, _, _, rfl, _, _, rfl, _, _, rfl, rfl, ?_⟩
      exact ⟨pa, ps, ld, se, t2, rfl, ⟨hpa0, s1.free hld, s1.free hse1, s1.free ht21, ne_of_none hpa hld, n2.symm⟩, a4 _ _ (a3 _ _ (a2 _ _ (a1 _ _ hpa))), hpl, hpn, hpe, hpr, a4 _ _ (a3 _ _ (a2 _ _ upd_same)), a4 _ _ (a3 _ _ upd_same), a4 _ _ upd_same, (((s1.trans a1).trans a2).trans a3).trans a4⟩
    rintro σ H2 ⟨pa, ps, ld, se, t2, rfl, ⟨hpa0, hld0, hse0, ht20, npl, nst⟩, hpa, hpl, hpn, hpe, hpr, hld, hse, ht2, s2⟩
    have W2 := W.same s2
    have S2 := S.same s2
    have hnu2 := s2 _ _ hnu
    obtain ⟨nls, nlc⟩ := S.ne hld0
    obtain ⟨nes, nec⟩ := S.ne hse0
    obtain ⟨n2s, n2c⟩ := S.ne ht20
    obtain ⟨nps, npc⟩ := S.ne hpa0
    have nnl : nu ≠ ld := fun e => by subst e; rw [hld0] at hnu; cases hnu
    have nne : nu ≠ se := ne_of hnu2 hse (by intro z; cases z)
    have npe : pa ≠ se := ne_of hpa hse (by intro z; cases z)
    have nle : ld ≠ se := ne_of hld hse (by intro z; cases z)
    -- seats
    refine ⟨fun σ H3 => ∃ v7 v8 v9 led kvS, σ = stO sa wd nu pa ld se t2 v7 v8 v9 none none none none none none none none none ∧ H3 ld = some (.lst (natV led)) ∧ H3 se = some (.dT kvS) ∧ (∀ x ∈ led, x < n) ∧ led.length ≤ 100 ∧ 1 ≤ led.length ∧ LedK n ns led (fun c => c * n) ∧
        (SeatsOk kvS led (fun p u => ∃ q c, ps[p]? = some q ∧ ns[q]? = some c ∧ u < c) ∧ SeatsX kvS led (fun p u => ∃ q c, ps[p]? = some q ∧ ns[q]? = some c ∧ u < c)) ∧ (∀ b o, H2 b = some o → b ≠ ld → b ≠ se → H3 b = some o), ?_, ?_⟩
    · refine ⟨_, rfl, pa, _, rfl, SqL.of hpa, ?_⟩
      refine for_it (walk_enum (xs := natV ps)) (fun i σ H3 => ∃ v7 v8 v9 led kvS, σ = stO sa wd nu pa ld se t2 v7 v8 v9 none none none none none none none none none ∧ H3 ld = some (.lst (natV led)) ∧ H3 se = some (.dT kvS) ∧ (∀ x ∈ led, x < n) ∧ led.length ≤ 10 * i ∧ kvS.length ≤ led.length ∧ LedK n ns led (fun c => c * i) ∧
          (SeatsOk kvS led (fun p u => p < i ∧ ∃ q c, ps[p]? = some q ∧ ns[q]? = some c ∧ u < c) ∧ SeatsX kvS led (fun p u => p < i ∧ ∃ q c, ps[p]? = some q ∧ ns[q]? = some c ∧ u < c)) ∧ (∀ b o, H2 b = some o → b ≠ ld → b ≠ se → H3 b = some o))
        ⟨none, none, none, [], [], rfl, hld, hse, (fun x hx => (List.not_mem_nil hx).elim), by simp, Nat.le_refl _, fun c0 _ => Nat.zero_le _, ⟨fun p u h => by omega, SeatsX.nil _ fun p u h => by omega⟩, fun b o e _ _ => e⟩ (fun i σ H3 _ ⟨_, _, _, _, _, _, _, _, _, _, _, _, _, h⟩ => SqL.of (h _ _ hpa npl npe)) ?_ ?_
      · rintro i x σ H3 H4 hi ⟨v7, v8, v9, led, kvS, rfl, hld3, hse3, hln, hll, hkS, hLK, ⟨hS, hX⟩, fr3⟩ ⟨T, x1, y1, rfl, hT, rfl, e1, e2⟩
        rw [List.length_map] at hi
        have e2 : (natV ps)[i]? = some y1 := e2
        rw [List.getElem?_map] at e2
        obtain ⟨q, hq, rfl⟩ := Option.map_eq_some_iff.mp e2
        cases e1
        have hqn := hpn q (List.mem_of_getElem? hq)
        obtain ⟨c, hc⟩ : ∃ c, ns[q]? = some c := ⟨_, List.getElem?_eq_getElem (by omega)⟩
        have hc10 := hns10 c (List.mem_of_getElem? hc)
        have sT := same_new (o := .tup [V.int (i : Nat), V.int (q : Int)]) hT
        have nTl : T ≠ ld := fun e => by subst e; rw [hld3] at hT; cases hT
        have nTe : T ≠ se := fun e => by subst e; rw [hse3] at hT; cases hT
        refine ⟨T, _, rfl, SqT.of upd_same, rfl, _, _, rfl, _, _, rfl, rfl, ?_⟩
        refine ⟨_, rfl, _, rfl, nu, _, _, V.int (c : Int), rfl, rfl, SqL.of (sT _ _ (fr3 _ _ hnu2 nnl nne)), atI_nat (by rw [List.getElem?_map, hc]; rfl), _, rfl, by omega, by omega, ?_⟩
        refine for_range (lo := 0) (n := (c : Int).toNat) (fun j σ H5 => ∃ v9 led kvS, σ = stO sa wd nu pa ld se t2 (some (.int (i : Nat))) (some (.int (q : Int))) v9 none none none none none none none none none ∧ H5 ld = some (.lst (natV led)) ∧ H5 se = some (.dT kvS) ∧ (∀ x ∈ led, x < n) ∧ led.length ≤ 10 * i + j ∧ kvS.length ≤ led.length ∧ LedK n ns led (fun c => c * i + j) ∧
            (SeatsOk kvS led (fun p u => (p < i ∧ ∃ q c, ps[p]? = some q ∧ ns[q]? = some c ∧ u < c) ∨ (p = i ∧ u < j)) ∧ SeatsX kvS led (fun p u => (p < i ∧ ∃ q c, ps[p]? = some q ∧ ns[q]? = some c ∧ u < c) ∨ (p = i ∧ u < j))) ∧ (∀ b o, H2 b = some o → b ≠ ld → b ≠ se → H5 b = some o))
          ⟨v9, led, kvS, rfl, sT _ _ hld3, sT _ _ hse3, hln, by omega, hkS, fun c0 h0 => Nat.le_trans (hLK c0 h0) (Nat.le_add_right _ _), ⟨fun p u h => hS p u (h.resolve_right (by omega)), hX.mono (fun p u h => .inl h) (fun p u h => h.resolve_right (by omega))⟩, fun b o e h1 h2 => sT _ _ (fr3 b o e h1 h2)⟩ ?_ ?_
        · rintro j σ H5 hj ⟨v9, led, kvS, rfl, hld5, hse5, hln, hll, hkS, hLK, ⟨hS, hX⟩, fr5⟩
          have hj' : j < c := by omega
          refine ⟨_, rfl, ld, _, rfl, .inl (SqL.of hld5), _, rfl, _, rfl, _, rfl, (by show 2 ≤ sizeLine; decide), fun u hu => ?_⟩
          have su := same_new (o := .tup [V.int (i : Nat), V.int (0 + (j : Int))]) hu
          refine ⟨se, _, rfl, DPut.t (k := [Sum.inl ((i : Nat) : Int), Sum.inl (0 + (j : Int))]) (su _ _ hse5) upd_same (Evl.sz_lt (by omega)), ?_⟩
          have nul : u ≠ ld := fun e => by subst e; rw [hld5] at hu; cases hu
          have hld6 : (upd (upd H5 u (.tup [V.int (i : Nat), V.int (0 + (j : Int))])) se (.dT (putK kvS [Sum.inl ((i : Nat) : Int), Sum.inl (0 + (j : Int))] (V.int ((natV led).length : Int))))) ld = some (.lst (natV led)) := by rw [upd_ne nle]; exact su _ _ hld5
          refine ⟨_, rfl, .inl ⟨rfl, _, SqL.of hld6⟩, _, rfl, ld, _, _, rfl, rfl, hld6, Evl.sz_lt (by rw [List.length_map]; omega), ?_⟩
          refine ⟨_, led ++ [i], _, rfl, by unfold natV; rw [upd_same, List.map_append]; rfl, by rw [upd_ne nle.symm, upd_same], ?_, by simp; omega, ?_, ?_, ?_, ?_⟩
          · intro x hx
            rcases List.mem_append.mp hx with z | z
            · exact hln x z
            · rw [List.mem_singleton] at z
              omega
          · have := length_putK kvS [Sum.inl ((i : Nat) : Int), Sum.inl (0 + (j : Int))] (V.int ((natV led).length : Int))
            simp only [List.length_append, List.length_singleton]
            omega
          · intro c0 h0
            have h1 : led.length ≤ c0 * i + j := hLK c0 h0
            show (led ++ [i]).length ≤ c0 * i + (j + 1)
            rw [List.length_append, List.length_singleton]
            exact Nat.succ_le_succ h1
          · have e1 : ∀ p u, ((p < i ∧ ∃ q c, ps[p]? = some q ∧ ns[q]? = some c ∧ u < c) ∨ (p = i ∧ u < j + 1)) → ((p < i ∧ ∃ q c, ps[p]? = some q ∧ ns[q]? = some c ∧ u < c) ∨ (p = i ∧ u < j)) ∨ (p = i ∧ u = j) := fun p u h => by
              rcases h with h | ⟨h1, h2⟩
              · exact .inl (.inl h)
              · by_cases e : u = j
                · exact .inr ⟨h1, e⟩
                · exact .inl (.inr ⟨h1, by omega⟩)
            rw [Int.zero_add, List.length_map]
            exact ⟨hS.put e1, hX.put hS (fun h => by omega) e1 (fun p u h => by
              rcases h with h | ⟨h1, h2⟩
              · exact .inl h
              · exact .inr ⟨h1, by omega⟩) (.inr ⟨rfl, by omega⟩)⟩
          · intro b o e h1 h2
            rw [upd_ne h1, upd_ne h2]
            exact su _ _ (fr5 b o e h1 h2)
        · rintro σ H5 ⟨v9, led, kvS, rfl, hld5, hse5, hln, hll, hkS, hLK, ⟨hS, hX⟩, fr5⟩
          have e1 : ∀ p u, (p < i + 1 ∧ ∃ q c, ps[p]? = some q ∧ ns[q]? = some c ∧ u < c) → (p < i ∧ ∃ q c, ps[p]? = some q ∧ ns[q]? = some c ∧ u < c) ∨ (p = i ∧ u < (c : Int).toNat) := fun p u h => by
            obtain ⟨h1, q', c', h2, h3, h4⟩ := h
            by_cases e : p = i
            · subst e
              rw [hq] at h2
              cases h2
              rw [hc] at h3
              cases h3
              exact .inr ⟨rfl, by omega⟩
            · exact .inl ⟨by omega, q', c', h2, h3, h4⟩
          refine ⟨_, _, v9, led, kvS, rfl, hld5, hse5, hln, by omega, hkS, fun c0 h0 => ?_, ⟨fun p u h => hS p u (e1 p u h), hX.mono (fun p u h => ?_) e1⟩, fr5⟩
          · have h1 := hLK c0 h0
            have h2 := h0 c (List.mem_of_getElem? hc)
            show led.length ≤ c0 * (i + 1)
            rw [Nat.mul_succ]
            have h1 : led.length ≤ c0 * i + (c : Int).toNat := h1
            omega
          rcases h with ⟨h1, h2⟩ | ⟨h1, h2⟩
          · exact ⟨by omega, h2⟩
          · subst h1
            exact ⟨by omega, q, c, hq, hc, by omega⟩
      · rintro σ H3 ⟨v7, v8, v9, led, kvS, rfl, hld3, hse3, hln, hll, hkS, hLK, ⟨hS, hX⟩, fr3⟩
        rw [List.length_map] at hll hS hX
        have e1 : ∀ p u, (∃ q c, ps[p]? = some q ∧ ns[q]? = some c ∧ u < c) → p < ps.length ∧ ∃ q c, ps[p]? = some q ∧ ns[q]? = some c ∧ u < c := fun p u h => ⟨by obtain ⟨q, c, h1, _⟩ := h; exact (List.getElem?_eq_some_iff.mp h1).1, h⟩
        have hS' : SeatsOk kvS led (fun p u => ∃ q c, ps[p]? = some q ∧ ns[q]? = some c ∧ u < c) := fun p u h => hS p u (e1 p u h)
        have hX' : SeatsX kvS led (fun p u => ∃ q c, ps[p]? = some q ∧ ns[q]? = some c ∧ u < c) := hX.mono (fun p u h => h.2) e1
        refine ⟨v7, v8, v9, led, kvS, rfl, hld3, hse3, hln, by omega, ?_, fun c0 h0 => ?_, ⟨hS', hX'⟩, fr3⟩
        rotate_left
        · have h1 := hLK c0 h0
          rw [List.length_map, hpl] at h1
          exact h1
        obtain ⟨p, hp, x, hx, hx1⟩ := hone ps hpr
        obtain ⟨idx, hidx⟩ := List.getElem?_of_mem hp
        obtain ⟨z, hz, _⟩ := hS' idx 0 ⟨p, x, hidx, hx, by omega⟩
        have := (List.getElem?_eq_some_iff.mp hz).1
        omega
    rintro σ H3 ⟨v7, v8, v9, led, kvS, rfl, hld3, hse3, hln, hl100, hl1, hLK, ⟨hS, hX⟩, fr3⟩
    have S3 : Src H3 sa ca := by
      obtain ⟨cs, l, m, tt, S2⟩ := S2
      exact ⟨cs, l, m, tt, ⟨fr3 _ _ S2.ds nls.symm nes.symm, fr3 _ _ S2.dc nlc.symm nec.symm, S2.nn, S2.len, S2.l0, S2.m0, S2.m1, S2.t0⟩⟩
    have fr03 : ∀ b o, H b = some o → H3 b = some o := fun b o e => fr3 _ _ (s2 _ _ e) (ne_of_none e hld0) (ne_of_none e hse0)
    have W3 := W.same fr03
    have hnu3 := fr03 _ _ hnu
    have hpa3 := fr3 _ _ hpa npl npe
    have nt2l : t2 ≠ ld := (ne_of hld ht2 (by intro z; cases z)).symm
    have ht23 := fr3 _ _ ht2 nt2l nst.symm
    have npt2 : pa ≠ t2 := ne_of hpa ht2 (by intro z; cases z)
    have nut2 : nu ≠ t2 := ne_of hnu2 ht2 (by intro z; cases z)
    have ntt2 : t ≠ t2 := ne_of_none W.ht ht20
    have nus : nu ≠ sa := by
      obtain ⟨cs, l, m, tt, S0⟩ := S
      exact ne_of hnu S0.ds (by intro z; cases z)
    generalize hNN : led.length = N at *
    -- ties
    refine ⟨fun σ H6 => ∃ v9 v10 v11 v12 v13 v14 v15 v16 v17 kv2, σ = stO sa wd nu pa ld se t2 v7 v8 v9 v10 v11 v12 v13 v14 v15 v16 v17 none ∧ H6 t2 = some (.dT kv2) ∧ Ties N 4000 kv2 ∧ (totW kv2 ≤ 5 * totW kvs ∧ ∀ x px, led[x]? = some px → ∀ (g : Nat → Nat) (kd : Str), Sg (tieC (fun z => g (lf led z)) x kd) kv2 = Sg (tieC g px kd) kvs) ∧ Src H6 sa ca ∧ Kp3 sa ca t2 H3 H6, ?_, ?_⟩
    · refine ⟨_, rfl, wd, _, rfl, dg_ties W3.d, t, kvs, rfl, .inl W3.ht, fun l bs hl hk => ?_⟩
      obtain ⟨kl, hbl⟩ := keyL_of hk
      have kl2 := kl.same (same_new (o := .lst (bs.map V.ref)) hl)
      obtain ⟨so1, so2⟩ := sort_ties kl2 ti
      refine ⟨l, _, _, rfl, SqL.of upd_same, so1, so2, fun ys p pm hp => ?_⟩
      have s5 := (same_new (o := .lst (bs.map V.ref)) hl).trans (same_new (o := .lst ys) hp)
      have kly : KeyL (upd (upd H3 l (.lst (bs.map V.ref))) p (.lst ys)) kvs ys := fun y hy => (kl.same s5) y (pm.subset hy)
      have hpp : (upd (upd H3 l (.lst (bs.map V.ref))) p (.lst ys)) p = some (.lst ys) := upd_same
      have hyl : ys.length ≤ 800 := by rw [pm.length_eq, List.length_map]; omega
      have hp3 : H3 p = none := (same_new hl).free hp
      have np2 : p ≠ t2 := fun e => by subst e; rw [ht23] at hp3; cases hp3
      obtain ⟨nps', npc'⟩ := S3.ne hp3
      have S5 := S3.same s5
      have sumY := sum_ys ti (isKeys_same hk s5) pm
      have sumG := fun (F : List Key → Nat) => sg_ys F ti (isKeys_same hk s5) pm
      generalize upd (upd H3 l (.lst (bs.map V.ref))) p (.lst ys) = H5 at *
      generalize hZ : (fun i : Nat => ((ys.take i).map (wtY H5 kvs)).sum) = Z at *
      have Zle : ∀ i, Z i ≤ totW kvs := fun i => by rw [← hZ, ← sumY]; exact take_le i
      have Z0 : Z 0 = 0 := by rw [← hZ]; rfl
      generalize hY : (fun (F : List Key → Nat) (i : Nat) => ((ys.take i).map fun y => wtY H5 kvs y * F (keyY H5 y)).sum) = Y at *
      have Y0 : ∀ F, Y F 0 = 0 := fun F => by rw [← hY]; rfl
      have Yend : ∀ F, Y F ys.length = Sg F kvs := fun F => by
        rw [← sumG F, ← hY]
        show ((ys.take ys.length).map _).sum = _
        rw [List.take_length]
      refine ⟨p, rfl, ⟨_, SqL.of hpp⟩, ?_⟩
      refine for_list (xs := ys) (fun i σ H6 => ∃ v9 v10 v11 v12 v13 v14 v15 v16 v17 kv2, σ = stO sa wd nu pa ld se t2 v7 v8 v9 v10 v11 v12 v13 v14 v15 v16 v17 none ∧ H6 t2 = some (.dT kv2) ∧ Ties N 4000 kv2 ∧ (totW kv2 ≤ 5 * Z i ∧ ∀ x px, led[x]? = some px → ∀ (g : Nat → Nat) (kd : Str), Sg (tieC (fun z => g (lf led z)) x kd) kv2 = Y (tieC g px kd) i) ∧ Src H6 sa ca ∧ Kp3 sa ca t2 H5 H6)
        ⟨v9, none, none, none, none, none, none, none, none, [], rfl, s5 _ _ ht23, Ties.nil N _, ⟨Nat.zero_le _, fun x px _ g kd => by rw [Y0]; rfl⟩, S5, Kp3.refl H5⟩ (fun i σ H6 _ ⟨_, _, _, _, _, _, _, _, _, _, _, _, _, _, _, h⟩ => SqL.of (h _ _ hpp nps' npc' np2)) ?_ ?_
      · rintro i y σ H6 hi ⟨v9, v10, v11, v12, v13, v14, v15, v16, v17, kv2, rfl, h26, ti6, ⟨hl6, hg6⟩, S6, kp6⟩
        have hil := (List.getElem?_eq_some_iff.mp hi).1
        obtain ⟨b1, i1, j1, x1, kd1, rfl, hb1, hmem, hij, hjn, hkw, hx1, hx2⟩ := kly.tie ti (List.mem_of_getElem? hi)
        have Zs : Z (i + 1) = Z i + x1 := by
          have := take_step (f := wtY H5 kvs) hi
          rw [wtY_of ti hb1 hmem] at this
          rw [← hZ]
          exact this
        have Zl := Zle (i + 1)
        have Ys : ∀ F, Y F (i + 1) = Y F i + x1 * F [Sum.inl (i1 : Int), Sum.inl (j1 : Int), Sum.inr kd1] := fun F => by
          have := take_step (f := fun y => wtY H5 kvs y * F (keyY H5 y)) hi
          have e2 : keyY H5 (.ref b1) = [Sum.inl (i1 : Int), Sum.inl (j1 : Int), Sum.inr kd1] := by
            unfold keyY
            rw [rowAt_of hb1]
            rfl
          rw [wtY_of ti hb1 hmem, e2] at this
          rw [← hY]
          exact this
        have stay : ∀ b o, H3 b = some o → b ≠ sa → b ≠ ca → b ≠ t2 → H6 b = some o := fun b o e h1 h2 h3 => kp6 b o (s5 _ _ e) h1 h2 h3
        have hb6 : H6 b1 = some (.tup [.int (i1 : Int), .int (j1 : Int), .str kd1]) := by
          obtain ⟨cs, l', m, tt, S5'⟩ := S5
          exact kp6 _ _ hb1 (ne_of hb1 S5'.ds (by intro z; cases z)) (ne_of hb1 S5'.dc (by intro z; cases z)) (ne_of hb1 (s5 _ _ ht23) (by intro z; cases z))
        obtain ⟨q, hq⟩ : ∃ q, ps[i1]? = some q := ⟨_, List.getElem?_eq_getElem (by omega)⟩
        have hq2 : ps[j1]? = some q := by rw [← hpe i1 j1 kd1 _ hmem]; exact hq
        have hqn := hpn q (List.mem_of_getElem? hq)
        obtain ⟨c, hc⟩ : ∃ c, ns[q]? = some c := ⟨_, List.getElem?_eq_getElem (by omega)⟩
        have hc10 := hns10 c (List.mem_of_getElem? hc)
        refine ⟨b1, _, rfl, SqT.of hb6, rfl, _, _, rfl, _, _, rfl, _, _, rfl, rfl, ?_⟩
        refine ⟨_, rfl, _, rfl, _, rfl, pa, _, _, V.int (q : Int), rfl, rfl, SqL.of (stay _ _ hpa3 nps npc npt2), atI_nat (by rw [List.getElem?_map, hq]; rfl), nu, _, _, V.int (c : Int), rfl, rfl, SqL.of (stay _ _ hnu3 nus nnc nut2), atI_nat (by rw [List.getElem?_map, hc]; rfl), ?_⟩
        have hwd6 := stay _ _ W3.d W3.ds.1 W3.ds.2 (ne_of W3.d ht23 (by intro z; cases z))
        have ht6 := stay _ _ W3.ht W3.ts.1 W3.ts.2 ntt2
        refine ⟨_, rfl, wd, _, rfl, dg_ties hwd6, _, rfl, _, rfl, _, rfl, (by show 3 ≤ sizeLine; decide), fun q1 hq1 => ?_⟩
        have s7 := same_new (o := .tup [V.int (i1 : Int), V.int (j1 : Int), V.str kd1]) hq1
        refine ⟨t, V.int (x1 : Int), rfl, (by rw [← val_of_mem ti.nd hmem]; exact DGet.t (k := [Sum.inl (i1 : Int), Sum.inl (j1 : Int), Sum.inr kd1]) (s7 _ _ ht6) upd_same), _, rfl, by omega, by omega, ?_⟩
        refine for_range (lo := 0) (n := (x1 : Int).toNat) (fun un σ H7 => ∃ v9 v14 v15 v16 v17 kv2, σ = stO sa wd nu pa ld se t2 v7 v8 v9 (some (.int (i1 : Int))) (some (.int (j1 : Int))) (some (.str kd1)) (some (.int (c : Int))) v14 v15 v16 v17 none ∧ H7 t2 = some (.dT kv2) ∧ Ties N 4000 kv2 ∧ (totW kv2 ≤ 5 * Z i + 5 * un ∧ ∀ x px, led[x]? = some px → ∀ (g : Nat → Nat) (kd : Str), Sg (tieC (fun z => g (lf led z)) x kd) kv2 = Y (tieC g px kd) i + un * tieC g px kd [Sum.inl (i1 : Int), Sum.inl (j1 : Int), Sum.inr kd1]) ∧ Src H7 sa ca ∧ Kp3 sa ca t2 H5 H7)
          ⟨v9, v14, v15, v16, v17, kv2, rfl, s7 _ _ h26, ti6, ⟨by omega, fun x px hx g kd => by rw [hg6 x px hx g kd, Nat.zero_mul, Nat.add_zero]⟩, S6.same s7, kp6.kp (Kp.same s7)⟩ ?_ ?_
        · rintro un σ H7 hun ⟨v9, v14, v15, v16, v17, kv2, rfl, h27, ti7, ⟨hl7, hg7⟩, S7, kp7⟩
          have hun' : un < x1 := by omega
          refine ⟨fun σ H8 => ∃ tu : Nat, σ = stO sa wd nu pa ld se t2 v7 v8 v9 (some (.int (i1 : Int))) (some (.int (j1 : Int))) (some (.str kd1)) (some (.int (c : Int))) (some (.int (0 + (un : Int)))) (some (.int (tu : Int))) v16 v17 none ∧ (1 ≤ c → tu < c) ∧ H8 t2 = some (.dT kv2) ∧ Src H8 sa ca ∧ Kp3 sa ca t2 H5 H8, ?_, ?_⟩
          · refine ⟨_, rfl, _, rfl, ?_⟩
            by_cases hc0 : 1 ≤ c
            · refine .inl ⟨sa, ca, _, rfl, S7, by omega, by omega, fun kk H8 k0 k1 S8 kp8 => ?_⟩
              refine ⟨kk.toNat, ?_, fun _ => by omega, kp8 _ _ h27 n2s n2c, S8, kp7.kp kp8⟩
              rw [Int.toNat_of_nonneg k0]
              rfl
            · exact .inr ⟨sa, _, rfl, by omega, 0, rfl, fun h => absurd h hc0, h27, S7, kp7⟩
          rintro σ H8 ⟨tu, rfl, htu, h28, S8, kp8⟩
          refine ⟨_, rfl, _, rfl, by omega, by omega, ?_⟩
          refine for_range (lo := 0) (n := (c : Int).toNat) (fun wu σ H9 => ∃ v9 v16 v17 kv2, σ = stO sa wd nu pa ld se t2 v7 v8 v9 (some (.int (i1 : Int))) (some (.int (j1 : Int))) (some (.str kd1)) (some (.int (c : Int))) (some (.int (0 + (un : Int)))) (some (.int (tu : Int))) v16 v17 none ∧ H9 t2 = some (.dT kv2) ∧ Ties N 4000 kv2 ∧ (totW kv2 ≤ 5 * Z i + 5 * un + wu ∧ ∀ x px, led[x]? = some px → ∀ (g : Nat → Nat) (kd : Str), Sg (tieC (fun z => g (lf led z)) x kd) kv2 = Y (tieC g px kd) i + un * tieC g px kd [Sum.inl (i1 : Int), Sum.inl (j1 : Int), Sum.inr kd1] + ((List.range wu).map fun u => tieC (fun z => g (lf led z)) x kd [Sum.inl (sf kvS i1 u : Int), Sum.inl (sf kvS j1 ((u + tu) % c) : Int), Sum.inr kd1]).sum) ∧ Src H9 sa ca ∧ Kp3 sa ca t2 H5 H9)
            ⟨v9, v16, v17, kv2, rfl, h28, ti7, ⟨hl7, fun x px hx g kd => hg7 x px hx g kd⟩, S8, kp8⟩ ?_ ?_
          · rintro wu σ H9 hwu ⟨v9, v16, v17, kv2, rfl, h29, ti9, ⟨hl9, hg9⟩, S9, kp9⟩
            have hwc : wu < c := by omega
            have stay9 : ∀ b o, H3 b = some o → b ≠ sa → b ≠ ca → b ≠ t2 → H9 b = some o := fun b o e h1 h2 h3 => kp9 b o (s5 _ _ e) h1 h2 h3
            have hse9 := stay9 _ _ hse3 nes nec nst
            obtain ⟨u1, hu1, hv1⟩ := hS i1 wu ⟨q, c, hq, hc, hwc⟩
            have hmod : ∃ z : Nat, (0 + (wu : Int) + (tu : Int)) % (c : Int) = (z : Int) ∧ z < c := by
              have h1 := Int.emod_nonneg (0 + (wu : Int) + (tu : Int)) (show (c : Int) ≠ 0 by omega)
              have h2 := Int.emod_lt_of_pos (0 + (wu : Int) + (tu : Int)) (show (0 : Int) < c by omega)
              exact ⟨((0 + (wu : Int) + (tu : Int)) % (c : Int)).toNat, by rw [Int.toNat_of_nonneg h1], by omega⟩
            obtain ⟨z, hz, hzc⟩ := hmod
            obtain ⟨u2, hu2, hv2⟩ := hS j1 z ⟨q, c, hq2, hc, hzc⟩
            have hu1N := (List.getElem?_eq_some_iff.mp hu1).1
            have hu2N := (List.getElem?_eq_some_iff.mp hu2).1
            have hne : u1 ≠ u2 := fun e => by subst e; rw [hu1] at hu2; have := Option.some.inj hu2; omega
            refine ⟨_, rfl, _, rfl, _, rfl, (by show 2 ≤ sizeLine; decide), fun q2 hq2' => ?_⟩
            have s10 := same_new (o := .tup [V.int (i1 : Int), V.int (0 + (wu : Int))]) hq2'
            refine ⟨se, V.int (u1 : Int), rfl, (by rw [← hv1]; refine DGet.t (k := [Sum.inl (i1 : Int), Sum.inl (wu : Int)]) (s10 _ _ hse9) ?_; rw [upd_same, Int.zero_add]; rfl), ?_⟩
            refine ⟨_, rfl, _, rfl, _, rfl, _, rfl, _, _, rfl, rfl, .inl ⟨_, rfl, _, rfl, _, _, rfl, rfl, by show (0 : Int) < c; omega, (by show 2 ≤ sizeLine; decide), fun q3 hq3 => ?_⟩⟩
            have s11 := s10.trans (same_new (o := .tup [V.int (j1 : Int), V.int ((0 + (wu : Int) + (tu : Int)) % (c : Int))]) hq3)
            refine ⟨se, V.int (u2 : Int), rfl, (by rw [← hv2]; refine DGet.t (k := [Sum.inl (j1 : Int), Sum.inl (z : Int)]) (s11 _ _ hse9) ?_; rw [upd_same]; show some (HO.tup [V.int (j1 : Int), V.int ((0 + (wu : Int) + (tu : Int)) % (c : Int))]) = _; rw [hz]; rfl), (by show 2 ≤ sizeLine; decide), fun l1 hl1 => ?_⟩
            refine ⟨l1, [(u1 : Int), (u2 : Int)], rfl, SqL.of upd_same, (by show 2 < 64; decide), fun ns' sp pms srt hsp => ?_⟩
            obtain ⟨n0, n1, rfl, h01, h1N⟩ := two_sorted pms srt hne (by omega : u1 < N) (by omega)
            have s12 := (s11.trans (same_new (o := .lst ([(u1 : Int), (u2 : Int)].map V.int)) hl1)).trans (same_new (o := .lst ([(n0 : Int), (n1 : Int)].map V.int)) hsp)
            refine ⟨_, rfl, sp, _, 0, V.int (n0 : Int), rfl, rfl, SqL.of upd_same, atI_nat (j := 0) rfl, _, rfl, sp, _, 1, V.int (n1 : Int), rfl, rfl, SqL.of upd_same, atI_nat (j := 1) rfl, _, rfl, (by show 3 ≤ sizeLine; decide), fun kt hkt => ?_⟩
            have s13 := s12.trans (same_new (o := .tup [V.int (n0 : Int), V.int (n1 : Int), V.str kd1]) hkt)
            have h213 := s13 _ _ h29
            refine ⟨_, rfl, t2, rfl, .inr ⟨kv2, .inl h213⟩, _, rfl, valV kv2 [Sum.inl (n0 : Int), Sum.inl (n1 : Int), Sum.inr kd1], DGet.t (k := [Sum.inl (n0 : Int), Sum.inl (n1 : Int), Sum.inr kd1]) h213 upd_same, ?_⟩
            have pms' := pms
            obtain ⟨x, hx, hxm⟩ : ∃ x : Nat, (valV kv2 [Sum.inl (n0 : Int), Sum.inl (n1 : Int), Sum.inr kd1]).getD (V.int 0) = V.int (x : Int) ∧ x ≤ totW kv2 := by
              cases e : valV kv2 [Sum.inl (n0 : Int), Sum.inl (n1 : Int), Sum.inr kd1] with
              | none => exact ⟨0, rfl, Nat.zero_le _⟩
              | some v =>
                obtain ⟨x, h1, _, h3⟩ := ti9.val _ (mem_of_val e)
                have h4 := w_le_tot (mem_of_val e)
                have h1 : v = V.int (x : Int) := h1
                subst h1
                have h5 : wOf (V.int (x : Int)) = x := Int.toNat_natCast _
                exact ⟨x, rfl, by rw [← h5]; exact h4⟩
            rw [hx]
            refine ⟨_, _, rfl, rfl, _, rfl, _, rfl, t2, _, rfl, DPut.t (k := [Sum.inl (n0 : Int), Sum.inl (n1 : Int), Sum.inr kd1]) h213 upd_same (Evl.sz_lt (by have := ti9.len; omega)), ?_⟩
            refine ⟨_, _, _, putK kv2 [Sum.inl (n0 : Int), Sum.inl (n1 : Int), Sum.inr kd1] (V.int ((x + 1 : Nat) : Int)), rfl, upd_same, ti9.put ⟨n0, n1, kd1, rfl, h01, h1N, hkw⟩ (by omega) (by omega), ⟨by
              have e1 := tot_put (k := [Sum.inl (n0 : Int), Sum.inl (n1 : Int), Sum.inr kd1]) ti9.nd (V.int ((x + 1 : Nat) : Int))
              have e2 : wOf (V.int ((x + 1 : Nat) : Int)) = x + 1 := Int.toNat_natCast _
              have e3 : x ≤ wOf ((valV kv2 [Sum.inl (n0 : Int), Sum.inl (n1 : Int), Sum.inr kd1]).getD .non) := by
                cases e : valV kv2 [Sum.inl (n0 : Int), Sum.inl (n1 : Int), Sum.inr kd1] with
                | none =>
                  rw [e] at hx
                  have hx : V.int 0 = V.int (x : Int) := hx
                  injection hx with hx
                  omega
                | some v =>
                  rw [e] at hx
                  have hx : v = V.int (x : Int) := hx
                  rw [hx]
                  exact Nat.le_of_eq (Int.toNat_natCast x).symm
              omega, fun x2 px hx2 g kd => ?_⟩, (S9.same s13).upd n2s n2c, (kp9.kp (Kp.same s13)).put⟩
            have ez : (wu + tu) % c = z := by
              have : (((wu + tu) % c : Nat) : Int) = (z : Int) := by rw [← hz, Int.natCast_emod, Int.natCast_add, Int.zero_add]
              omega
            have e1 : u1 = sf kvS i1 wu := (sf_of hv1).symm
            have e2 : u2 = sf kvS j1 ((wu + tu) % c) := by rw [ez]; exact (sf_of hv2).symm
            rw [sg_inc ti9.nd hx, hg9 x2 px hx2 g kd, tieC_perm pms', List.range_succ, List.map_append, List.sum_append, e1, e2]
            simp only [List.map_singleton, List.sum_singleton]
            omega
          · rintro σ H9 ⟨v9, v16, v17, kv2, rfl, h29, ti9, ⟨hl9, hg9⟩, S9, kp9⟩
            refine ⟨v9, _, _, v16, v17, kv2, rfl, h29, ti9, ⟨by omega, fun x px hx g kd => ?_⟩, S9, kp9⟩
            have ec : (c : Int).toNat = c := Int.toNat_natCast c
            have key : ((List.range c).map fun u => tieC (fun z => g (lf led z)) x kd [Sum.inl (sf kvS i1 u : Int), Sum.inl (sf kvS j1 ((u + tu) % c) : Int), Sum.inr kd1]).sum = tieC g (lf led x) kd [Sum.inl (i1 : Int), Sum.inl (j1 : Int), Sum.inr kd1] := by
              have okp : ∀ p, p = i1 ∨ p = j1 → ∀ u, u < c → ∃ q c, ps[p]? = some q ∧ ns[q]? = some c ∧ u < c := fun p hp u hu => by
                rcases hp with rfl | rfl
                · exact ⟨q, c, hq, hc, hu⟩
                · exact ⟨q, c, hq2, hc, hu⟩
              have okn : ∀ p, p = i1 ∨ p = j1 → ∀ u, (∃ q c, ps[p]? = some q ∧ ns[q]? = some c ∧ u < c) → u < c := fun p hp u ⟨q', c', a1, a2, a3⟩ => by
                rcases hp with rfl | rfl
                · rw [hq] at a1
                  cases a1
                  rw [hc] at a2
                  cases a2
                  exact a3
                · rw [hq2] at a1
                  cases a1
                  rw [hc] at a2
                  cases a2
                  exact a3
              have lfs : ∀ p, p = i1 ∨ p = j1 → ∀ u, u < c → lf led (sf kvS p u) = p := fun p hp u hu => by
                obtain ⟨idx, a1, a2⟩ := hS p u (okp p hp u hu)
                rw [sf_of a2]
                exact lf_of a1
              by_cases hc0 : 1 ≤ c
              · have tk := turn_ok (htu hc0)
                exact unit_count (s := sf kvS) (f := lf led) (τ := fun u => (u + tu) % c) tk.1 tk.2.1 tk.2.2 (fun u hu => ⟨lfs _ (.inl rfl) u hu, lfs _ (.inr rfl) u hu⟩) (fun p hp e => by
                  rw [lf_of hx] at e
                  subst e
                  obtain ⟨u, a1, a2⟩ := hX.cov x px hx
                  exact ⟨u, okn _ hp u a1, a2⟩) (fun p hp u hu v hv e => hX.inj p u v (okp p hp u hu) (okp p hp v hv) e)
              · have : c = 0 := by omega
                subst this
                refine unit_count (s := sf kvS) (f := lf led) (τ := fun u => (u + tu) % 0) (fun u hu => absurd hu (by omega)) (fun u hu => absurd hu (by omega)) (fun u hu => absurd hu (by omega)) (fun u hu => absurd hu (by omega)) (fun p hp e => ?_) (fun p hp u hu => absurd hu (by omega))
                rw [lf_of hx] at e
                subst e
                obtain ⟨u, a1, a2⟩ := hX.cov x px hx
                exact ⟨u, okn _ hp u a1, a2⟩
            rw [hg9 x px hx g kd, ec, key, lf_of hx, Nat.succ_mul]
            omega
        · rintro σ H7 ⟨v9, v14, v15, v16, v17, kv2, rfl, h27, ti7, ⟨hl7, hg7⟩, S7, kp7⟩
          refine ⟨v9, _, _, _, _, v14, v15, v16, v17, kv2, rfl, h27, ti7, ⟨by omega, fun x px hx g kd => ?_⟩, S7, kp7⟩
          rw [hg7 x px hx g kd, Ys, Int.toNat_natCast]
      · rintro σ H6 ⟨v9, v10, v11, v12, v13, v14, v15, v16, v17, kv2, rfl, h26, ti6, ⟨hl6, hg6⟩, S6, kp6⟩
        exact ⟨v9, v10, v11, v12, v13, v14, v15, v16, v17, kv2, rfl, h26, ti6, ⟨by have := Zle ys.length; omega, fun x px hx g kd => by rw [hg6 x px hx g kd, Yend]⟩, S6, fun b o e h1 h2 h3 => kp6 b o (s5 _ _ e) h1 h2 h3⟩
    rintro σ H6 ⟨v9, v10, v11, v12, v13, v14, v15, v16, v17, kv2, rfl, h26, ti6, ⟨hl6, hg6⟩, S6, kp6⟩
    have st6 : ∀ b o, H3 b = some o → b ≠ sa → b ≠ ca → b ≠ t2 → H6 b = some o := kp6
    have nlt2 : ld ≠ t2 := nt2l.symm
    have hld6 := kp6 _ _ hld3 nls nlc nlt2
    have W6d := kp6 _ _ W3.d W3.ds.1 W3.ds.2 (ne_of W3.d ht23 (by intro z; cases z))
    have W6c := kp6 _ _ W3.hc W3.bs.1 W3.bs.2 (ne_of W3.hc ht23 (by intro z; cases z))
    have kp06 : Kp sa ca H H6 := fun b o e h1 h2 => kp6 b o (fr03 b o e) h1 h2 (ne_of_none e ht20)
    -- colours
    refine ⟨fun σ H7 => ∃ bc cl2, σ = stO sa wd nu pa ld se t2 v7 v8 v9 v10 v11 v12 v13 v14 v15 v16 v17 (some (.ref bc)) ∧ H6 bc = none ∧ H7 bc = some (.lst (List.map V.str cl2)) ∧ cl2.length = N ∧ (∀ x ∈ cl2, isWordB x = true) ∧ (∀ x < N, cl2[x]? = cl[lf led x]?) ∧ Same H6 H7, ?_, ?_⟩
    · refine ⟨_, rfl, ld, rfl, ⟨_, SqL.of hld6⟩, fun D hD => ?_⟩
      refine lc_list (xs := natV led) (fun i H7 => ∃ cl2, H7 D = some (.lst (List.map V.str cl2)) ∧ cl2.length = i ∧ (∀ x ∈ cl2, isWordB x = true) ∧ (∀ x < i, cl2[x]? = cl[lf led x]?) ∧ Same H6 H7) ⟨[], upd_same, rfl, (fun x hx => (List.not_mem_nil hx).elim), (fun x hx => absurd hx (Nat.not_lt_zero _)), same_new hD⟩ (fun i H7 _ ⟨_, _, _, _, _, h⟩ => SqL.of (h _ _ hld6)) ?_ ?_
      · rintro i x H7 hi ⟨cl2, hD7, hcl2, hcw2, hco2, s7⟩
        have hil := (List.getElem?_eq_some_iff.mp hi).1
        rw [List.length_map] at hil
        rw [List.getElem?_map] at hi
        obtain ⟨y0, hy0, rfl⟩ := Option.map_eq_some_iff.mp hi
        have hyN := hln y0 (List.mem_of_getElem? hy0)
        have hcn := W.cn
        obtain ⟨cy, hcy⟩ : ∃ cy, cl[y0]? = some cy := ⟨_, List.getElem?_eq_getElem (by omega)⟩
        refine ⟨rfl, tyes ?_⟩
        refine ⟨_, rfl, wd, _, rfl, dg_colours (s7 _ _ W6d), _, rfl, b, _, _, V.str cy, rfl, rfl, SqL.of (s7 _ _ W6c), atI_nat (by rw [List.getElem?_map, hcy]; rfl), ?_⟩
        refine ⟨_, hD7, Evl.sz_lt (by rw [List.length_map]; omega), cl2 ++ [cy], by rw [upd_same, List.map_append]; rfl, by simp [hcl2], ?_, ?_, ?_⟩
        · intro x hx
          rcases List.mem_append.mp hx with z | z
          · exact hcw2 x z
          · rw [List.mem_singleton] at z
            subst z
            exact W.cw _ (List.mem_of_getElem? hcy)
        · intro x hx
          by_cases c : x < i
          · rw [List.getElem?_append_left (by omega)]
            exact hco2 x c
          · have hxi : x = i := by omega
            subst hxi
            rw [List.getElem?_append_right (by omega), hcl2, Nat.sub_self, lf_of hy0, hcy]
            rfl
        · intro b o e
          rw [upd_ne (ne_of_none e hD)]
          exact s7 b o e
      · rintro H7 ⟨cl2, hD7, hcl2, hcw2, hco2, s7⟩
        rw [List.length_map] at hcl2 hco2
        exact ⟨D, cl2, rfl, hD, hD7, by omega, hcw2, fun x hx => hco2 x (by omega), s7⟩
    rintro σ H7 ⟨bc, cl2, rfl, hbc6, hbc, hcl2, hcw2, hco2, s7⟩
    have S7 := S6.same s7
    have hbc0 : H bc = none := kp06.free S6 hbc6
    obtain ⟨nbs, nbc⟩ := S.ne hbc0
    refine ⟨_, rfl, ?_⟩
    intro p hp
    have sp := same_new (o := .dK []) hp
    obtain ⟨nps', npc'⟩ := S7.ne hp
    refine ⟨_, rfl, _, rfl, _, rfl, upd_same, worldD ld bc t2, rfl, (by show 3 ≤ 15; decide), ?_⟩
    rw [merge_wd]
    have s8 : Same H7 (upd (upd H7 p (.dK [])) p (.dK (worldD ld bc t2))) := fun b o e => by
      rw [upd_ne (ne_of_none e hp), upd_ne (ne_of_none e hp)]
      exact e
    have hpp : (upd (upd H7 p (.dK [])) p (.dK (worldD ld bc t2))) p = some (.dK (worldD ld bc t2)) := upd_same
    have kp08 : Kp sa ca H (upd (upd H7 p (.dK [])) p (.dK (worldD ld bc t2))) := (kp06.trans (Kp.same s7)).trans (Kp.same s8)
    generalize upd (upd H7 p (.dK [])) p (.dK (worldD ld bc t2)) = H8 at *
    have S8 := S7.same s8
    refine ⟨_, rfl, sa, ca, p, ld, bc, t2, ld, cl2, 4000, kv2, led, rfl, S8, hpp, nps', s8 _ _ hbc, nbc, s8 _ _ (s7 _ _ h26), s8 _ _ (s7 _ _ hld6), nlc, by omega, hcw2, by omega, by omega, (by have := ti6.len; omega), by rw [hNN]; exact ti6, ?_⟩
    intro r wd' a' b' t' ld' nm' cl' kvs' led' H' z1 z2 z3 z4 z5 hr' W' hl' ti' hk' ht' hld' hll' hlm std S' kp'
    have hcov : Cov kvs cl kvs' led' cl' := fun x p hx => by
      have hxN : x < led.length := by have := (List.getElem?_eq_some_iff.mp hx).1; omega
      obtain ⟨y, hy, y1, y2, y3⟩ := std x hxN
      have hy2 : led[y]? = some p := by rw [← y1]; exact hx
      refine ⟨by rw [y2, hco2 y (by omega), lf_of hy2], fun g kd => ?_⟩
      rw [y3 g kd, hg6 y p hy2 g kd]
    refine k r wd' a' b' t' ld' nm' cl' kvs' led' H' (kp08.free S8 z1) (kp08.free S8 z2) (kp08.free S8 z3) (kp08.free S8 z4) (kp08.free S8 z5) hr' W' (by omega) ti' hk' (by omega) hld' (by omega) hcov (fun x hx => hln x ((hlm x).mp hx)) (fun c0 h0 => by have h1 : led.length ≤ c0 * n := hLK c0 h0; show led'.length ≤ c0 * n; omega) (fun p hp hc1 heq => (hlm p).mpr ?_) S' (kp08.trans kp')
    obtain ⟨q, hq⟩ : ∃ q, ps[p]? = some q := ⟨_, List.getElem?_eq_getElem (by omega)⟩
    have hqn := hpn q (List.mem_of_getElem? hq)
    obtain ⟨c, hc⟩ : ∃ c, ns[q]? = some c := ⟨_, List.getElem?_eq_getElem (by omega)⟩
    have c1 := hc1 c (fun x hx => heq x hx c (List.mem_of_getElem? hc))
    obtain ⟨idx, h1, _⟩ := hS p 0 ⟨q, c, hq, hc, by omega⟩
    exact List.mem_of_getElem? h1
end
end Nm
set_option maxRecDepth 100000
set_option maxHeartbeats 4000000
namespace Nm
open PySem PySem.Spec PyProof.Rows L2
/-- len(set(xs)) of ints, equal ones among them -/
def tLenSetJ (K : PySem.W.Frag) (ta : TE) : TE := fun σ H Q => ta σ H fun x H1 => ∃ (l : Addr) (ns : List Int), x = .ref l ∧ SqL K H1 l (ns.map V.int) ∧ ns.length ≤ 4000 ∧ Q (.int ((firstMet (fun i => ns.getD i 0) ns.length).length : Nat)) H1
theorem pe_lenSetJ {X : Cx} {a : PySem.Expr} {ta : TE} {p p2 q pos : Pos} (hg : Gl X "len") (hm : X.mg "len" = none) (hg2 : Gl X "set") (hm2 : X.mg "set" = none) (ha : PE X a ta) (hc : X.calm = true := by rfl)
    (na : starEach [a] X.env = (false, eval a X.env) :: starEach [] X.env := by rfl) : PE X (.Call (.Name "len" p) [.Call (.Name "set" p2) [a] [] q] [] pos) (tLenSetJ X.K ta) := by
  refine ⟨fun pins s σ H Q I h => ?_⟩
  refine Call_ (ld_blt I hg hm boot_len ?_)
  refine callWith_builtin1 (args_cons ?_ rfl) rfl rfl
  refine Call_ (ld_blt I hg2 hm2 boot_set ?_)
  refine callWith_type1 (args_cons (thn (ha.run pins s σ H _ I h) fun v s1 ⟨x, H1, I1, r1, q1⟩ => args_nil ?_) na) na rfl
  obtain ⟨l, ns, rfl, hq, hl, q1⟩ := q1
  cases r1
  obtain ⟨its, r, pl, hz⟩ := I1.list hq
  have hlen : its.toArray.size = ns.length := by rw [List.size_toArray, ← r.length, List.length_map]
  refine call_set_list (I1.ok.hd hc) pl.isList (by simpa using RZ.intsAre_vals r) (by rw [hlen]; unfold scanBound; omega) fun h' tk hS hk => ?_
  refine args_nil ?_
  rw [hlen] at hS
  have hle := firstMet_length_le (fun i => ns.getD i 0) ns.length
  obtain ⟨o, es, ep, t, ho, hex, hd, _, _, _, hf, hn⟩ := hS
  have I2 : Inv X pins σ H1 { s1 with heap := h', toks := tk } := I1.kept fun b o e => hk b o (Heap.lt_size e) e
  exact call_len_set ho hex hd hf (by rw [hn] <;> omega) ⟨.int ((firstMet (fun i => ns.getD i 0) ns.length).length : Nat), H1, I2.tok _, ⟨_, by rw [hn]⟩, q1⟩
end Nm
set_option maxRecDepth 100000
set_option maxHeartbeats 4000000
namespace Nm
open PySem L2
structure TxtE (mg : Str → Option Value) : Prop extends TxtD mg where
  max : mg "max" = none
  min : mg "min" = none
  set : mg "set" = none
  sum : mg "sum" = none
theorem natV_int (l : List Nat) : natV l = (l.map fun (i : Nat) => (i : Int)).map V.int := by
  unfold natV
  rw [List.map_map]
  rfl
theorem sum_zero : ∀ {l : List Nat}, (∀ x ∈ l, x = 0) → (l.map fun (i : Nat) => (i : Int)).sum = 0
  | [], _ => rfl
  | x :: l, h => by
    rw [List.map_cons, List.sum_cons, sum_zero fun y hy => h y (List.mem_cons_of_mem _ hy), h x List.mem_cons_self]
    rfl
end Nm
set_option maxRecDepth 100000
set_option maxHeartbeats 4000000
namespace Nm
open PySem L2
def keyOf : V → Key
  | .int i => Sum.inl i
  | .str x => Sum.inr x
  | _ => Sum.inl 0
theorem keyOf_kV (k : Key) : keyOf (kV k) = k := by cases k <;> rfl
theorem perm_key {ys : List V} {l : List Key} (h : ys.Perm (l.map kV)) : ∃ zs : List Key, ys = zs.map kV ∧ zs.Perm l := by
  refine ⟨ys.map keyOf, ?_, ?_⟩
  · rw [List.map_map]
    conv => lhs; rw [← List.map_id ys]
    refine List.map_congr_left fun v hv => ?_
    obtain ⟨x, _, rfl⟩ := List.mem_map.mp (h.subset hv)
    show kV x = kV (keyOf (kV x))
    rw [keyOf_kV]
  · have := h.map keyOf
    rw [List.map_map] at this
    have e : l.map (keyOf ∘ kV) = l := by
      conv => rhs; rw [← List.map_id l]
      exact List.map_congr_left fun x _ => keyOf_kV x
    rw [e] at this
    exact this
/-- the pairs of a dict told by keys -/
def byKeys (kvs : List (Key × V)) (ks : List Key) : List (Key × V) := ks.map fun k => (k, (valV kvs k).getD .non)
theorem byKeys_self {kvs : List (Key × V)} (nd : (kvs.map (·.1)).Nodup) : byKeys kvs (kvs.map (·.1)) = kvs := by
  unfold byKeys
  rw [List.map_map]
  conv => rhs; rw [← List.map_id kvs]
  refine List.map_congr_left fun kv hm => ?_
  show (kv.1, (valV kvs kv.1).getD .non) = kv
  rw [val_of_mem nd (v := kv.2) hm]
  rfl
theorem byKeys_perm {kvs : List (Key × V)} {ks : List Key} (nd : (kvs.map (·.1)).Nodup) (h : ks.Perm (kvs.map (·.1))) : (byKeys kvs ks).Perm kvs := by
  have := h.map fun k => (k, (valV kvs k).getD .non)
  rw [show (kvs.map (·.1)).map (fun k => (k, (valV kvs k).getD .non)) = kvs from byKeys_self nd] at this
  exact this
structure TxtF (mg : Str → Option Value) : Prop extends TxtE mg where
  zip : mg "zip" = none
section
variable {P : Program} {w : World} {K : PySem.W.Frag} {mg : Str → Option Value} {base : Heap}
/-! ### _law_any_dict -/
def spAnyDict : Sp := fun vs H Q _ => ∃ (s c d : Addr) (kvs : List (Key × V)), vs = [.ref s, .ref d] ∧ Src H s c ∧ H d = some (.dK kvs) ∧ d ≠ s ∧ (kvs.map (·.1)).Nodup ∧ kvs.length ≤ 1000 ∧
  ∀ (p : Addr) (kvs' : List (Key × V)) (H' : Hp), H p = none → kvs'.Perm kvs → H' p = some (.dK kvs') → Src H' s c → Kp s c H H' → Q (.ref p) H'
abbrev nAD : List Str := ["_law_source", "_law_told", "_law_key"]
theorem scAD : FnScope nAD ["_law_source", "_law_told"] (defScope sAnyDict) := ⟨rfl, rfl, rfl, by decide +kernel, rfl, by decide +kernel, by decide +kernel⟩
theorem ok_anyDict {f : Addr} {fd : FuncData} (F : Fun K "_law_any_dict" "_law_any_dict" sAnyDict f fd) (T : TxtF mg) (Ga : Def P w K mg base "_law_any_order" ["_law_source", "_law_items"] 2 (spAny K)) : FnOk P w K mg base CX0 3 f fd ["_law_source", "_law_told"] spAnyDict := by
  obtain ⟨fa, fda, Ga, ma, ka, ba⟩ := Ga.ex
  refine F.ok scAD (fun vs H Q E h => ?_) (fun cdv A outer s H vs Q E hr h => ?_)
  · obtain ⟨_, _, _, _, rfl, _⟩ := h
    rfl
  · obtain ⟨sa, ca, d, kvs, rfl, S, hd, nds, nd, hl, k⟩ := h
    have hu := hu_of hr
    refine ⟨_, pss_one (ps_ret (pe_callTy (call_dictP rfl) (by rfl) T.dict (by decide +kernel) (pa_cons (pe_lc (own := [("_law_key", 2)]) (g := gName 2) (tt := tYes) rfl scAD.nd (pi_list (pe_call Ga hr (by rfl) ma ka ba .nil pass0 (pa_cons (pv 0) (pa_cons (pe_callTy (call_list_dK rfl) (by rfl) T.list (by decide +kernel) (pa_cons (pv 1) pa_nil)) pa_nil))))
          (blkOk_by (N := nAD) (sc := defScope sAnyDict) (by decide +kernel)) (fun _ _ _ _ _ => pg_name (i := 2) scAD.nd rfl (Or.inl rfl)) (fun _ _ _ _ _ => pts_nil)
          (fun _ _ _ _ _ => pe_tup (pa_cons (pv 2) (pa_cons (pe_dget hu (pv 1) (pv 2) (fun _ _ => rfl)) pa_nil)))) pa_nil))), ?_⟩
    have ndc : d ≠ ca := by
      obtain ⟨cs, l, m, tt, S0⟩ := S
      exact ne_of hd S0.dc (by intro z; cases z)
    refine ⟨_, rfl, _, rfl, d, kvs, rfl, hd, fun q hq => ?_⟩
    refine ⟨sa, ca, q, _, rfl, S.new hq, SqL.of upd_same, by rw [List.length_map]; exact (by omega), fun p ys H1 hp pm hpl S1 kp1 => ?_⟩
    rw [show (kvs.map fun kv => kV kv.1) = (kvs.map (·.1)).map kV by rw [List.map_map]; rfl] at pm
    obtain ⟨ks, rfl, pk⟩ := perm_key pm
    have kp01 : Kp sa ca H H1 := (Kp.same (same_new hq)).trans kp1
    have hd1 := kp01 _ _ hd nds ndc
    have hkl : ks.length ≤ 1000 := by rw [pk.length_eq, List.length_map]; exact hl
    refine ⟨p, rfl, ⟨_, SqL.of hpl⟩, fun D hD => ?_⟩
    refine lc_list (xs := ks.map kV) (fun i H2 => ∃ ps : List Addr, H2 D = some (.lst (ps.map V.ref)) ∧ ps.length = i ∧ Paired (fun p kv => H2 p = some (.tup [kV kv.1, kv.2])) ps ((byKeys kvs ks).take i) ∧ Same H1 H2) ⟨[], upd_same, rfl, .nil, same_new hD⟩ (fun i H2 _ ⟨_, _, _, _, h⟩ => SqL.of (h _ _ hpl)) ?_ ?_
    · rintro i x H2 hi ⟨ps, hD2, hpsl, pr, s2⟩
      have hil := (List.getElem?_eq_some_iff.mp hi).1
      rw [List.length_map] at hil
      rw [List.getElem?_map] at hi
      obtain ⟨k0, hk0, rfl⟩ := Option.map_eq_some_iff.mp hi
      obtain ⟨kv0, hm0, e0⟩ := List.mem_map.mp (pk.mem_iff.mp (List.mem_of_getElem? hk0))
      have hv0 : valV kvs k0 = some kv0.2 := by rw [← e0]; exact val_of_mem nd hm0
      refine ⟨rfl, tyes ?_⟩
      refine ⟨_, rfl, _, rfl, _, rfl, d, kv0.2, rfl, (by rw [← hv0]; exact DGet.k (s2 _ _ hd1)), (by show 2 ≤ sizeLine; decide), fun u hu => ?_⟩
      have su := same_new (o := .tup [kV k0, kv0.2]) hu
      have nDu : u ≠ D := fun e => by subst e; rw [hD2] at hu; cases hu
      refine ⟨_, su _ _ hD2, Evl.sz_lt (by rw [List.length_map]; omega), ps ++ [u], by rw [upd_same, List.map_append]; rfl, by simp [hpsl], ?_, fun b o e => ?_⟩
      · have e : (byKeys kvs ks)[i]? = some (k0, kv0.2) := by unfold byKeys; rw [List.getElem?_map, hk0]; simp [hv0]
        rw [List.take_add_one, e]
        refine paired_snoc (Paired.mapP pr fun p kv h => ?_) ?_
        · rw [upd_ne (ne_of h hD2 (by intro z; cases z))]
          exact su _ _ h
        · rw [upd_ne nDu]
          exact upd_same
      · rw [upd_ne (ne_of_none e hD)]
        exact su _ _ (s2 b o e)
    · rintro H2 ⟨ps, hD2, hpsl, pr, s2⟩
      rw [List.length_map, List.take_of_length_le (by unfold byKeys; simp)] at pr
      refine ⟨D, ps, byKeys kvs ks, rfl, SqL.of hD2, Paired.mapP pr fun p kv h => SqT.of h, fun r hr => ?_⟩
      have pb := byKeys_perm nd pk
      refine k r (byKeys kvs ks) _ (kp01.free S1 (s2.free hr)) pb ?_ ((S1.same s2).new hr) ((kp01.trans (Kp.same s2)).trans (Kp.same (same_new hr)))
      rw [upd_same, merge_nd (acc := []) (by simpa using (pb.map (·.1)).nodup_iff.mpr nd)]
      rfl
/-! ### _law_dict -/
/-- each name of nm' to the name that its number leads to -/
def leadKV (nm' nm : List Str) (led : List Nat) : List (Key × V) := (nm'.zip led).map fun p => (Sum.inr p.1, V.str ((nm[p.2]?).getD ""))
theorem lead_keys {nm' nm : List Str} {led : List Nat} (h : led.length = nm'.length) : (leadKV nm' nm led).map (·.1) = nm'.map Sum.inr := by
  unfold leadKV
  rw [List.map_map]
  have : nm' = (nm'.zip led).map (·.1) := by rw [List.map_fst_zip (by omega)]
  conv => rhs; rw [this]
  rw [List.map_map]
  rfl
theorem lead_nd {nm' nm : List Str} {led : List Nat} (h : led.length = nm'.length) (nd : nm'.Nodup) : ((leadKV nm' nm led).map (·.1)).Nodup := by
  rw [lead_keys h]
  exact List.Pairwise.map _ (fun a b hab e => hab (Sum.inr.inj e)) nd
def spDict : Sp := fun vs H Q _ => ∃ (s c wo ao bo to ww aw bw tw ld : Addr) (nm' nm : List Str) (led : List Nat), vs = [.ref s, .ref wo, .ref ww, .ref ld] ∧ Src H s c ∧ H wo = some (.dK (worldD ao bo to)) ∧ H ao = some (.lst (nm'.map V.str)) ∧ H ww = some (.dK (worldD aw bw tw)) ∧ H aw = some (.lst (nm.map V.str)) ∧ H ld = some (.lst (natV led)) ∧
  led.length = nm'.length ∧ (∀ x ∈ led, x < nm.length) ∧ nm'.Nodup ∧ nm'.length ≤ 100 ∧
  ∀ (p : Addr) (kvs' : List (Key × V)) (H' : Hp), H p = none → kvs'.Perm (leadKV nm' nm led) → H' p = some (.dK kvs') → Src H' s c → Kp s c H H' → Q (.ref p) H'
abbrev nDc : List Str := ["_law_source", "_law_over_here", "_law_web", "_law_led", "_law_name", "_law_p"]
theorem scDc : FnScope nDc ["_law_source", "_law_over_here", "_law_web", "_law_led"] (defScope sDict) := ⟨rfl, rfl, rfl, by decide +kernel, rfl, by decide +kernel, by decide +kernel⟩
theorem ok_dict {f : Addr} {fd : FuncData} (F : Fun K "_law_dict" "_law_dict" sDict f fd) (T : TxtF mg) (Gd : Def P w K mg base "_law_any_dict" ["_law_source", "_law_told"] 3 spAnyDict) : FnOk P w K mg base CX0 4 f fd ["_law_source", "_law_over_here", "_law_web", "_law_led"] spDict := by
  obtain ⟨fa, fda, Ga, ma, ka, ba⟩ := Gd.ex
  refine F.ok scDc (fun vs H Q E h => ?_) (fun cdv A outer s H vs Q E hr h => ?_)
  · obtain ⟨_, _, _, _, _, _, _, _, _, _, _, _, _, _, rfl, _⟩ := h
    rfl
  · obtain ⟨sa, ca, wo, ao, bo, to, ww, aw, bw, tw, ld, nm', nm, led, rfl, S, hwo, hao, hww, haw, hld, hll, hln, nd, hl100, k⟩ := h
    have hu := hu_of hr
    refine ⟨_, pss_one (ps_ret (pe_call Ga hr (by rfl) ma ka ba .nil pass0 (pa_cons (pv 0) (pa_cons (pe_callTy (call_dictP rfl) (by rfl) T.dict (by decide +kernel) (pa_cons (pe_lc (own := [("_law_name", 4), ("_law_p", 5)]) (g := gTup K 2 (gCons (gName 4) (gCons (gName 5) gNil))) (tt := tYes) (te := tTup (tCons (tVar 4) (tCons (tOp (rIxL K) (tDGet (tVar 2) (tC (.str "names"))) (tVar 5)) tNil))) rfl scDc.nd (pi_zip (by rfl) T.zip (pa_cons (pe_dget hu (pv 1) pe_str (fun _ _ => rfl)) (pa_cons (pv 3) pa_nil)))
          (blkOk_by (N := nDc) (sc := defScope sDict) (by decide +kernel)) (fun _ _ _ _ _ => pg_tup rfl (pgs_cons (pg_name (i := 4) scDc.nd rfl (Or.inl rfl)) (pgs_cons (pg_name (i := 5) scDc.nd rfl (Or.inl rfl)) pgs_nil))) (fun _ _ _ _ _ => pts_nil)
          (fun _ _ _ _ _ => by exact pe_tup (pa_cons (pv 4) (pa_cons (pe_ix ix_list (pe_dget hu (pv 2) pe_str (fun _ _ => rfl)) (pv 5) (fun _ _ => rfl)) pa_nil)))) pa_nil)) pa_nil)))), ?_⟩
    refine ⟨_, rfl, _, rfl, wo, _, rfl, dg_names hwo, _, rfl, ao, ld, _, _, rfl, SqL.of hao, SqL.of hld, fun D hD => ?_⟩
    refine lc_it (walk_zip (xs := nm'.map V.str) (ys := natV led) (n := nm'.length) (by rw [List.length_map, List.length_map]; omega)) (fun i H2 => ∃ ps : List Addr, H2 D = some (.lst (ps.map V.ref)) ∧ ps.length = i ∧ Paired (fun p kv => H2 p = some (.tup [kV kv.1, kv.2])) ps ((leadKV nm' nm led).take i) ∧ Same H H2) ⟨[], upd_same, rfl, .nil, same_new hD⟩ (fun i H2 _ ⟨_, _, _, _, h⟩ => ⟨SqL.of (h _ _ hao), SqL.of (h _ _ hld)⟩) ?_ ?_
    · rintro i x H2 H3 hi ⟨ps, hD2, hpsl, pr, s2⟩ ⟨T, x1, y1, rfl, hT, rfl, e1, e2⟩
      have e1 : (nm'.map V.str)[i]? = some x1 := e1
      have e2 : (natV led)[i]? = some y1 := e2
      rw [List.getElem?_map] at e1 e2
      obtain ⟨x0, hx0, rfl⟩ := Option.map_eq_some_iff.mp e1
      obtain ⟨y0, hy0, rfl⟩ := Option.map_eq_some_iff.mp e2
      have hyn := hln y0 (List.mem_of_getElem? hy0)
      obtain ⟨z0, hz0⟩ : ∃ z0, nm[y0]? = some z0 := ⟨_, List.getElem?_eq_getElem hyn⟩
      have sT := same_new (o := .tup [V.str x0, V.int (y0 : Int)]) hT
      refine ⟨T, _, rfl, SqT.of upd_same, rfl, _, _, rfl, _, _, rfl, rfl, rfl, tyes ?_⟩
      refine ⟨_, rfl, _, rfl, ww, _, rfl, dg_names (sT _ _ (s2 _ _ hww)), _, rfl, aw, _, _, V.str z0, rfl, rfl, SqL.of (sT _ _ (s2 _ _ haw)), atI_nat (by rw [List.getElem?_map, hz0]; rfl), (by show 2 ≤ sizeLine; decide), fun u hu => ?_⟩
      have su := sT.trans (same_new (o := .tup [V.str x0, V.str z0]) hu)
      have nDu : u ≠ D := fun e => by subst e; rw [sT _ _ hD2] at hu; cases hu
      refine ⟨_, su _ _ hD2, Evl.sz_lt (by rw [List.length_map]; omega), ps ++ [u], by rw [upd_same, List.map_append]; rfl, by simp [hpsl], ?_, fun b o e => ?_⟩
      · have e : (leadKV nm' nm led)[i]? = some (Sum.inr x0, V.str z0) := by
          unfold leadKV
          have hz : (nm'.zip led)[i]? = some (x0, y0) := by rw [List.getElem?_zip_eq_some]; exact ⟨hx0, hy0⟩
          rw [List.getElem?_map, hz]
          simp [hz0]
        rw [List.take_add_one, e]
        refine paired_snoc (Paired.mapP pr fun p kv h => ?_) ?_
        · rw [upd_ne (ne_of h hD2 (by intro z; cases z))]
          exact su _ _ h
        · rw [upd_ne nDu]
          exact upd_same
      · rw [upd_ne (ne_of_none e hD)]
        exact su _ _ (s2 b o e)
    · rintro H2 ⟨ps, hD2, hpsl, pr, s2⟩
      have hlk : (leadKV nm' nm led).length = nm'.length := by unfold leadKV; simp; omega
      rw [List.take_of_length_le (by omega)] at pr
      refine ⟨D, ps, leadKV nm' nm led, rfl, SqL.of hD2, Paired.mapP pr fun p kv h => SqT.of h, fun r hr => ?_⟩
      have lnd := lead_nd (nm := nm) hll nd
      have s3 := s2.trans (same_new (o := .dK (mergeK [] (leadKV nm' nm led))) hr)
      have S3 := S.same s3
      refine ⟨sa, ca, r, leadKV nm' nm led, rfl, S3, ?_, (S.ne (s2.free hr)).1, lnd, by omega, fun p kvs' H' hp pm hp' S' kp' => ?_⟩
      · rw [upd_same, merge_nd (acc := []) (by simpa using lnd)]
        rfl
      · exact k p kvs' H' (s3.free hp) pm hp' S' ((Kp.same s3).trans kp')
end
end Nm
set_option maxRecDepth 100000
set_option maxHeartbeats 4000000
namespace Nm
open PySem L2
/-- the places below i that are led to q -/
def posU (led : List Nat) (i q : Nat) : List Nat := (List.range i).filter fun w => decide (led[w]? = some q)
theorem posU_yes {led : List Nat} {i q : Nat} (h : led[i]? = some q) : posU led (i + 1) q = posU led i q ++ [i] := by
  unfold posU
  rw [List.range_succ, List.filter_append]
  simp [h]
theorem posU_no {led : List Nat} {i q q' : Nat} (h : led[i]? = some q') (hn : q ≠ q') : posU led (i + 1) q = posU led i q := by
  unfold posU
  rw [List.range_succ, List.filter_append]
  simp [h]
  exact fun e => hn e.symm
theorem posU_len (led : List Nat) (i q : Nat) : (posU led i q).length ≤ i := by
  unfold posU
  have := List.length_filter_le (fun w => decide (led[w]? = some q)) (List.range i)
  rw [List.length_range] at this
  exact this
theorem posU_lt {led : List Nat} {i q w : Nat} (h : w ∈ posU led i q) : w < i := List.mem_range.mp (List.mem_filter.mp h).1
structure TxtG (mg : Str → Option Value) : Prop extends TxtF mg where
  isinstance : mg "isinstance" = none
  all : mg "all" = none
  bool : mg "bool" = none
  letters : ∃ t, mg "LETTERS" = some (.str "abcdefghijklmnopqrstuvwxyz" t)
  digits : ∃ t, mg "DIGITS" = some (.str "0123456789" t)
section
variable {P : Program} {w : World} {K : PySem.W.Frag} {mg : Str → Option Value} {base : Heap}
/-! ### is_word, is_number -/
def spWord : Sp := fun vs H Q _ => ∃ z : Str, vs = [.str z] ∧ isWordB z = true ∧ ∀ H', Same H H' → Q (.bl true) H'
abbrev nWord : List Str := ["value", "letters", "letter"]
theorem scWord : FnScope nWord ["value"] (defScope sIsWord) := ⟨rfl, rfl, rfl, by decide +kernel, rfl, by decide +kernel, by decide +kernel⟩
theorem ok_word {f : Addr} {fd : FuncData} (F : Fun K "is_word" "is_word" sIsWord f fd) (T : TxtG mg) : FnOk P w K mg base CX0 1 f fd ["value"] spWord := by
  obtain ⟨tl, Tl⟩ := T.letters
  obtain ⟨td, Td⟩ := T.digits
  refine F.ok scWord (fun vs H Q E h => ?_) (fun cdv A outer s H vs Q E hr h => ?_)
  · obtain ⟨_, rfl, _⟩ := h
    rfl
  · obtain ⟨z, rfl, hz, k⟩ := h
    refine ⟨_, pss_cons (ps_if (pt_not (pt_val (pe_callB call_isi (by rfl) T.isinstance (by decide +kernel) (pa_cons (pv 0) (pa_cons (pe_bltn (v := .ty "str") (by rfl) T.str (by decide +kernel) rfl) pa_nil))))) (pss_one (ps_ret pe_bl)) pss_nil)
      (pss_cons (ps_set (i := 1) scWord.nd rfl (Or.inl rfl) (pe_bm PySem.F.plainAttrs_str PySem.F.slot_str_rstrip PySem.F.type_str_rstrip mt_rstripChars (pv 0) (pa_cons (pe_glob (v := .str "0123456789") (by rfl) Td ⟨_, rfl⟩) pa_nil)))
      (pss_cons (ps_if (PW.pt (pw_or (pt_not (pt_chain op_le op_le pe_int (pe_callB call_len_str (by rfl) T.len PySem.boot_len (pa_cons (pv 1) pa_nil)) pe_int)) (pw_or1 (pt_cmpR op_gt (pe_op op_sub (pe_callB call_len_str (by rfl) T.len PySem.boot_len (pa_cons (pv 0) pa_nil)) (pe_callB call_len_str (by rfl) T.len PySem.boot_len (pa_cons (pv 1) pa_nil))) pe_int (nomark _))))) (pss_one (ps_ret pe_bl)) pss_nil)
      (pss_one (ps_ret (pe_callB (cr_all rfl) (by rfl) T.all (by decide +kernel) (pa_cons (pe_lc (own := [("letter", 2)]) (g := gName 2) (tt := tYes) rfl scWord.nd (pi_str (pv 1))
          (blkOk_by (N := nWord) (sc := defScope sIsWord) (by decide +kernel)) (fun _ _ _ _ _ => pg_name (i := 2) scWord.nd rfl (Or.inl rfl)) (fun _ _ _ _ _ => pts_nil)
          (fun _ _ _ _ _ => pe_cmpR op_in_sign (pv 2) (pe_glob (v := .str "abcdefghijklmnopqrstuvwxyz") (by rfl) Tl ⟨_, rfl⟩) (by rfl))) pa_nil)))))), ?_⟩
    unfold isWordB at hz
    simp only [Bool.and_eq_true, decide_eq_true_eq, List.all_eq_true] at hz
    obtain ⟨⟨⟨⟨h100, h1⟩, h8⟩, h4⟩, hall⟩ := hz
    refine ⟨_, rfl, _, _, _, _, true, rfl, ClsV.ty "str", TyX.base (TyOf.str z), kit_ty (by decide +kernel), _, rfl, iteF ?_⟩
    refine ⟨_, rfl, ?_, _, _, rfl, rfl, Evl.sz_of (by omega), ?_⟩
    · rfl
    refine ⟨_, rfl, _, rfl, Evl.sz_of (show (letB z).length ≤ 100000 by omega), _, _, rfl, rfl, _, rfl, ?_⟩
    have c1 : decide ((1 : Int) ≤ ((letB z).length : Int)) = true := decide_eq_true (by omega)
    have c2 : decide (((letB z).length : Int) ≤ 8) = true := decide_eq_true (by omega)
    have c3 : decide ((4 : Int) < (z.length : Int) - ((letB z).length : Int)) = false := decide_eq_false (by omega)
    show (if decide ((1 : Int) ≤ ((letB z).length : Int)) = true then _ else _)
    rw [if_pos c1]
    refine ⟨_, _, rfl, rfl, _, rfl, ?_⟩
    show (if (!decide (((letB z).length : Int) ≤ 8)) = true then _ else _)
    rw [c2]
    refine iteF ?_
    refine ⟨_, rfl, _, rfl, Evl.sz_of (by omega), _, rfl, _, rfl, Evl.sz_of (show (letB z).length ≤ 100000 by omega), _, _, rfl, rfl, _, _, rfl, rfl, _, rfl, ?_⟩
    show (if decide ((4 : Int) < (z.length : Int) - ((letB z).length : Int)) = true then _ else _)
    rw [c3]
    refine iteF ?_
    refine ⟨_, rfl, letB z, rfl, fun D hD => ?_⟩
    refine lc_it walk_str (fun i H1 => ∃ bs : List Bool, H1 D = some (.lst (bs.map V.bl)) ∧ bs.length = i ∧ (∀ b ∈ bs, b = true) ∧ Same H H1) ⟨[], upd_same, rfl, (fun b hb => (List.not_mem_nil hb).elim), same_new hD⟩ (fun _ _ _ _ => trivial) ?_ ?_
    · rintro i x H1 H2 hi ⟨bs, hD1, hbl, hbt, s1⟩ ⟨rfl, c, hc, rfl⟩
      have hi8 : i < 8 := by
        have : (letB z).cps.size = (letB z).length := rfl
        omega
      have hcm : c ∈ (letB z).cps.toList := by
        rw [← Array.getElem?_toList] at hc
        exact List.mem_of_getElem? hc
      have hin : decide (c ∈ ("abcdefghijklmnopqrstuvwxyz" : Str).cps.toList) = true := decide_eq_true (hall c hcm)
      refine ⟨rfl, tyes ?_⟩
      refine ⟨_, rfl, c, _, rfl, rfl, _, hD1, Evl.sz_lt (by rw [List.length_map]; omega), bs ++ [true], ?_, by simp [hbl], ?_, fun b o e => ?_⟩
      · rw [upd_same, List.map_append, hin]
        rfl
      · intro b hb
        rcases List.mem_append.mp hb with q | q
        · exact hbt b q
        · exact List.mem_singleton.mp q
      · rw [upd_ne (ne_of_none e hD)]
        exact s1 b o e
    · rintro H1 ⟨bs, hD1, hbl, hbt, s1⟩
      refine ⟨D, bs, rfl, SqL.of hD1, ?_⟩
      have : bs.all id = true := List.all_eq_true.mpr fun b hb => hbt b hb
      rw [this]
      exact k H1 s1
def spInteger : Sp := fun vs H Q _ => ∃ i : Int, vs = [.int i] ∧ Q (.bl true) H
theorem scInteger : FnScope ["value"] ["value"] (defScope sIsInteger) := ⟨rfl, rfl, rfl, by decide +kernel, rfl, by decide +kernel, by decide +kernel⟩
theorem ok_integer {f : Addr} {fd : FuncData} (F : Fun K "is_integer" "is_integer" sIsInteger f fd) (T : TxtG mg) : FnOk P w K mg base CX0 1 f fd ["value"] spInteger := by
  refine F.ok scInteger (fun vs H Q E h => ?_) (fun cdv A outer s H vs Q E hr h => ?_)
  · obtain ⟨_, rfl, _⟩ := h
    rfl
  · obtain ⟨i, rfl, k⟩ := h
    refine ⟨_, pss_one (ps_ret (pe_and (pe_callB call_isi (by rfl) T.isinstance (by decide +kernel) (pa_cons (pv 0) (pa_cons (pe_bltn (v := .ty "int") (by rfl) T.int (by decide +kernel) rfl) pa_nil)))
      (pe_one (pe_not (pe_callB call_isi (by rfl) T.isinstance (by decide +kernel) (pa_cons (pv 0) (pa_cons (pe_bltn (v := .ty "bool") (by rfl) T.bool (by decide +kernel) rfl) pa_nil))))))), ?_⟩
    refine ⟨_, rfl, _, _, _, _, true, rfl, ClsV.ty "int", TyX.base (TyOf.int i), kit_ty (by decide +kernel), _, rfl, iteT ?_⟩
    exact ⟨_, rfl, _, _, _, _, false, rfl, ClsV.ty "bool", TyX.base (TyOf.int i), kit_ty (by decide +kernel), _, rfl, k⟩
def spNumber : Sp := fun vs H Q _ => ∃ i l : Int, vs = [.int i, .int l] ∧ Q (.bl (decide (l ≤ i))) H
theorem scNumber : FnScope ["value", "least"] ["value", "least"] (defScope sIsNumber) := ⟨rfl, rfl, rfl, by decide +kernel, rfl, by decide +kernel, by decide +kernel⟩
theorem ok_number {f : Addr} {fd : FuncData} (F : Fun K "is_number" "is_number" sIsNumber f fd) (Gi : Def P w K mg base "is_integer" ["value"] 1 spInteger) : FnOk P w K mg base CX0 2 f fd ["value", "least"] spNumber := by
  obtain ⟨fi, fdi, Gi, mi, ki, bi⟩ := Gi.ex
  refine F.ok scNumber (fun vs H Q E h => ?_) (fun cdv A outer s H vs Q E hr h => ?_)
  · obtain ⟨_, _, rfl, _⟩ := h
    rfl
  · obtain ⟨i, l, rfl, k⟩ := h
    refine ⟨_, pss_one (ps_ret (pe_and (pe_call Gi hr (by rfl) mi ki bi .nil pass0 (pa_cons (pv 0) pa_nil)) (pe_one (pe_cmpR op_ge (pv 0) (pv 1) (nomark _))))), ?_⟩
    refine ⟨_, rfl, i, rfl, _, rfl, iteT ?_⟩
    exact ⟨_, rfl, _, rfl, _, _, rfl, rfl, k⟩
end
end Nm
set_option maxRecDepth 100000
set_option maxHeartbeats 4000000
namespace Nm
open PySem L2
/-- a list of pairs (name, colour) stands at p -/
def PlacesAt (H : Hp) (p : Addr) (nm cl : List Str) : Prop := ∃ ts : List Addr, H p = some (.lst (ts.map V.ref)) ∧ ts.length = nm.length ∧ ∀ (i : Nat) (t : Addr), ts[i]? = some t → ∃ x y, nm[i]? = some x ∧ cl[i]? = some y ∧ H t = some (.tup [.str x, .str y])
section
variable {P : Program} {w : World} {K : PySem.W.Frag} {mg : Str → Option Value} {base : Heap}
/-! ### need_word -/
def spNeedW : Sp := fun vs H Q _ => ∃ x : Str, vs = [.str x] ∧ isWordB x = true ∧ ∀ H', Same H H' → Q .non H'
abbrev nNW : List Str := ["value"]
theorem scNW : FnScope nNW ["value"] (defScope sNeedWord) := ⟨rfl, rfl, rfl, by decide +kernel, rfl, by decide +kernel, by decide +kernel⟩
theorem ok_needW {f : Addr} {fd : FuncData} (F : Fun K "need_word" "need_word" sNeedWord f fd) (_T : TxtG mg) (Gw : Def P w K mg base "is_word" ["value"] 1 spWord) : FnOk P w K mg base CX0 2 f fd ["value"] spNeedW := by
  obtain ⟨fw, fdw, Gw, mw, kw, bw⟩ := Gw.ex
  refine F.ok scNW (fun vs H Q E h => ?_) (fun cdv A outer s H vs Q E hr h => ?_)
  · obtain ⟨_, rfl, _⟩ := h
    rfl
  · obtain ⟨x, rfl, hx, k⟩ := h
    refine ⟨_, pss_one (ps_if (pt_not (pt_val (pe_call Gw hr (by rfl) mw kw bw .nil pass0 (pa_cons (pv 0) pa_nil)))) (pss_one ps_never) pss_nil), ?_⟩
    refine ⟨_, rfl, x, rfl, hx, fun H2 s2 => ⟨_, rfl, iteF ?_⟩⟩
    exact k H2 s2
/-! ### need_once -/
def spOnce : Sp := fun vs H Q _ => ∃ (p : Addr) (nm : List Str), vs = [.ref p] ∧ H p = some (.lst (nm.map V.str)) ∧ nm.length ≤ 1000 ∧ nm.Nodup ∧ ∀ H', Same H H' → Q .non H'
abbrev nNO : List Str := ["names", "told", "name"]
theorem scNO : FnScope nNO ["names"] (defScope sNeedOnce) := ⟨rfl, rfl, rfl, by decide +kernel, rfl, by decide +kernel, by decide +kernel⟩
theorem ok_once {f : Addr} {fd : FuncData} (F : Fun K "need_once" "need_once" sNeedOnce f fd) (T : TxtG mg) : FnOk P w K mg base CX0 1 f fd ["names"] spOnce := by
  refine F.ok scNO (fun vs H Q E h => ?_) (fun cdv A outer s H vs Q E hr h => ?_)
  · obtain ⟨_, _, rfl, _⟩ := h
    rfl
  · obtain ⟨p, nm, rfl, hp, h1000, nd, k⟩ := h
    refine ⟨_, pss_cons (ps_set (i := 1) scNO.nd rfl (Or.inl rfl) (pe_callTy0 cr_set0K (by rfl) T.set (by decide +kernel)))
      (pss_one (ps_for PassesOwn.never rfl (pi_list (pv 0)) (pg_name (i := 2) scNO.nd rfl (.inl rfl))
        (pss_cons (ps_if (pt_cmpR or_sinK (pv 2) (pv 1) (by rfl)) (pss_one ps_never) pss_nil)
        (pss_one (ps_expr (pe_saddK (pv 1) (pa_cons (pv 2) pa_nil))))))), ?_⟩
    refine ⟨rfl, fun se hse => ?_⟩
    have s2 := same_new (o := SetK P w se (fun _ => false) 0) hse
    refine ⟨_, rfl, p, rfl, ⟨_, SqL.of (s2 _ _ hp)⟩, ?_⟩
    refine for_list (xs := nm.map V.str) (fun i σ H2 => ∃ v2 S n, σ = [some (.ref p), some (.ref se), v2] ∧ H2 se = some (SetK P w se S n) ∧ n ≤ i ∧ (∀ k, S k = true → ∃ x ∈ nm.take i, k = Sum.inr x) ∧ Same H H2)
      ⟨none, fun _ => false, 0, rfl, upd_same, Nat.le_refl _, (fun k h => by cases h), s2⟩ (fun i σ H2 _ ⟨_, _, _, _, _, _, _, h⟩ => SqL.of (h _ _ hp)) ?_ ?_
    · rintro i v σ H2 hi ⟨v2, S, n, rfl, hS, hn, hSk, s3⟩
      have hil := (List.getElem?_eq_some_iff.mp hi).1
      rw [List.length_map] at hil
      rw [List.getElem?_map] at hi
      obtain ⟨x, hx, rfl⟩ := Option.map_eq_some_iff.mp hi
      have hxS : S (Sum.inr x) = false := by
        cases e : S (Sum.inr x) with
        | false => rfl
        | true =>
          obtain ⟨x', hx', e'⟩ := hSk _ e
          cases e'
          obtain ⟨j, hj⟩ := List.getElem?_of_mem hx'
          rw [List.getElem?_take] at hj
          split at hj
          · rename_i hji
            have h1 := (List.getElem?_eq_some_iff.mp hj).1
            have h2 := (List.getElem?_eq_some_iff.mp hx).1
            have : j = i := (List.getElem?_inj h1 nd).mp (hj.trans hx.symm)
            omega
          · cases hj
      refine ⟨_, rfl, _, rfl, Sum.inr x, se, S, n, rfl, rfl, hS, _, rfl, ?_⟩
      show (if (if false = true then !S (Sum.inr x) else S (Sum.inr x)) = true then _ else _)
      rw [hxS]
      refine iteF ?_
      refine ⟨_, rfl, ⟨se, S, n, rfl, hS⟩, _, rfl, se, Sum.inr x, S, n, rfl, rfl, hS, by unfold scanBound; omega, ?_⟩
      refine ⟨_, _, _, rfl, upd_same, ?_, ?_, fun b o e => ?_⟩
      · split <;> omega
      · intro k' hk'
        rw [List.take_add_one, hx]
        by_cases e : k' = Sum.inr x
        · exact ⟨x, by simp, e⟩
        · have : S k' = true := by simpa [e] using hk'
          obtain ⟨x', h1, h2⟩ := hSk k' this
          exact ⟨x', List.mem_append_left _ h1, h2⟩
      · rw [upd_ne (ne_of_none e hse)]
        exact s3 b o e
    · rintro σ H2 ⟨v2, S, n, rfl, hS, hn, hSk, s3⟩
      exact k H2 s3
/-! ### need_places -/
def spNeedP : Sp := fun vs H Q _ => ∃ (p : Addr) (nm cl : List Str), vs = [.ref p] ∧ PlacesAt H p nm cl ∧ 1 ≤ nm.length ∧ nm.length ≤ 1000 ∧ nm.Nodup ∧ (∀ x ∈ nm, isWordB x = true) ∧ (∀ x ∈ cl, isWordB x = true) ∧ ∀ H', Same H H' → Q .non H'
abbrev nNP : List Str := ["places", "name", "colour", "_"]
theorem scNP : FnScope nNP ["places"] (defScope sNeedPlaces) := ⟨rfl, rfl, rfl, by decide +kernel, rfl, by decide +kernel, by decide +kernel⟩
theorem ok_needP {f : Addr} {fd : FuncData} (F : Fun K "need_places" "need_places" sNeedPlaces f fd) (T : TxtG mg) (Gw : Def P w K mg base "need_word" ["value"] 2 spNeedW) (Go : Def P w K mg base "need_once" ["names"] 1 spOnce) : FnOk P w K mg base CX0 3 f fd ["places"] spNeedP := by
  obtain ⟨fw, fdw, Gw, mw, kw, bw⟩ := Gw.ex
  obtain ⟨fo, fdo, Go, mo, ko, bo⟩ := Go.ex
  refine F.ok scNP (fun vs H Q E h => ?_) (fun cdv A outer s H vs Q E hr h => ?_)
  · obtain ⟨_, _, _, rfl, _⟩ := h
    rfl
  · obtain ⟨p, nm, cl, rfl, ⟨ts, hp, htl, hts⟩, h1, h1000, nd, hnw, hcw, k⟩ := h
    have hr1 := hr.mono (by decide : 1 ≤ 2)
    refine ⟨_, pss_cons (ps_if (pt_cmpR op_eq (pe_callB call_len_seq (by rfl) T.len PySem.boot_len (pa_cons (pv 0) pa_nil)) pe_int (nomark _)) (pss_one ps_never) pss_nil)
      (pss_cons (ps_for PassesOwn.never rfl (pi_list (pv 0)) (pg_tup rfl (pgs_cons (pg_name (i := 1) scNP.nd rfl (.inl rfl)) (pgs_cons (pg_name (i := 2) scNP.nd rfl (.inl rfl)) pgs_nil)))
        (pss_cons (ps_expr (pe_call Gw hr (by rfl) mw kw bw .nil pass0 (pa_cons (pv 1) pa_nil)))
        (pss_one (ps_expr (pe_call Gw hr (by rfl) mw kw bw .nil pass0 (pa_cons (pv 2) pa_nil))))))
      (pss_one (ps_expr (pe_call Go hr1 (by rfl) mo ko bo .nil pass0 (pa_cons (pe_lc (own := [("name", 1), ("_", 3)]) (g := gTup K 2 (gCons (gName 1) (gCons (gName 3) gNil))) (tt := tYes) (te := tVar 1) rfl scNP.nd (pi_list (pv 0)) (blkOk_by (N := nNP) (sc := defScope sNeedPlaces) (by decide +kernel))
          (fun _ _ _ _ _ => pg_tup rfl (pgs_cons (pg_name (i := 1) scNP.nd rfl (Or.inl rfl)) (pgs_cons (pg_name (i := 3) scNP.nd rfl (Or.inl rfl)) pgs_nil))) (fun _ _ _ _ _ => pts_nil) (fun _ _ _ _ _ => pv 1)) pa_nil))))), ?_⟩
    refine ⟨_, rfl, p, _, rfl, .inl (SqL.of hp), rfl, _, rfl, ?_⟩
    refine ite2 (fun h => ?_) (fun _ => ?_)
    · have h := of_decide_eq_true h
      injection h with h
      rw [List.length_map] at h
      omega
    refine ⟨_, rfl, p, rfl, ⟨_, SqL.of hp⟩, ?_⟩
    refine for_list (xs := ts.map V.ref) (fun i σ H1 => ∃ v1 v2, σ = [some (.ref p), v1, v2, none] ∧ Same H H1) ⟨none, none, rfl, Same.refl H⟩ (fun i σ H1 _ ⟨_, _, _, h⟩ => SqL.of (h _ _ hp)) ?_ ?_
    · rintro i v σ H1 hi ⟨v1, v2, rfl, s1⟩
      rw [List.getElem?_map] at hi
      obtain ⟨t, ht, rfl⟩ := Option.map_eq_some_iff.mp hi
      obtain ⟨x, y, hx, hy, htt⟩ := hts i t ht
      refine ⟨t, _, rfl, SqT.of (s1 _ _ htt), rfl, _, _, rfl, _, _, rfl, rfl, ?_⟩
      refine ⟨_, rfl, x, rfl, hnw x (List.mem_of_getElem? hx), fun H2 s2 => ?_⟩
      refine ⟨_, rfl, y, rfl, hcw y (List.mem_of_getElem? hy), fun H3 s3 => ?_⟩
      exact ⟨_, _, rfl, (s1.trans s2).trans s3⟩
    rintro σ H1 ⟨v1, v2, rfl, s1⟩
    refine ⟨_, rfl, p, rfl, ⟨_, SqL.of (s1 _ _ hp)⟩, fun D hD => ?_⟩
    have hp1 := s1 _ _ hp
    refine lc_list (xs := ts.map V.ref) (fun i H4 => H4 D = some (.lst ((nm.take i).map V.str)) ∧ Same H1 H4) ⟨upd_same, same_new hD⟩ (fun i H4 _ h => SqL.of (h.2 _ _ hp1)) ?_ ?_
    · rintro i x H4 hx ⟨hD4, s4⟩
      have hi := (List.getElem?_eq_some_iff.mp hx).1
      rw [List.length_map] at hi
      rw [List.getElem?_map] at hx
      obtain ⟨t, ht, rfl⟩ := Option.map_eq_some_iff.mp hx
      obtain ⟨x, y, hx, hy, htt'⟩ := hts i t ht
      refine ⟨t, _, rfl, SqT.of (s4 _ _ (s1 _ _ htt')), rfl, _, _, rfl, _, _, rfl, rfl, rfl, tyes ?_⟩
      refine ⟨_, rfl, _, hD4, Evl.sz_lt (by rw [List.length_map, List.length_take]; omega), ?_, fun b o e => ?_⟩
      · rw [upd_same, List.take_add_one, hx, List.map_append]
        rfl
      · rw [upd_ne (ne_of_none e hD)]
        exact s4 b o e
    · rintro H4 ⟨hD4, s4⟩
      rw [List.length_map, htl, List.take_of_length_le (Nat.le_refl _)] at hD4
      exact ⟨D, nm, rfl, hD4, h1000, nd, fun H5 s5 => k H5 ((s1.trans s4).trans s5)⟩
end
end Nm
set_option maxRecDepth 100000
set_option maxHeartbeats 4000000
/-! min and max of two texts -/
namespace Nm
open PySem PySem.Spec PyProof.Rows L2
section
variable {prog : Program} {w : World} {A : Around} {E : Value → Shared → Prop} {s : Shared}
def two (a b : Value) : Array Value := #[a, b]
theorem two_at {a b : Value} {i : Nat} {v : Value} (h : (two a b)[i]? = some v) : (i = 0 ∧ v = a) ∨ (i = 1 ∧ v = b) := by
  match i, h with
  | 0, h => left; simpa [two, eq_comm] using h
  | 1, h => right; simpa [two, eq_comm] using h
  | i + 2, h => simp [two] at h
def strAt (x y : Str) (i : Nat) : Str := if i = 0 then x else y
theorem two_str {x y : Str} {t u : Tok} {i : Nat} {v : Value} (h : (two (.str x t) (.str y u))[i]? = some v) : ∃ t', v = .str (strAt x y i) t' := by
  rcases two_at h with ⟨rfl, rfl⟩ | ⟨rfl, rfl⟩
  · exact ⟨t, rfl⟩
  · exact ⟨u, rfl⟩
theorem min_two_strs {x y : Str} {t u : Tok} {Q : Value → Shared → Prop} (hh : A.handled = none)
    (h : ∀ h' tk, (∀ c o, s.heap.get? c = some o → h'.get? c = some o) → Q (if y.cps.toList < x.cps.toList then .str y u else .str x t) { s with heap := h', toks := tk }) :
    wpAny (model prog w) A (call (.builtin "min") [.str x t, .str y u]) Q E s := by
  have hT : (s.heap.push { cls := .type "tuple", data := .seq #[.str x t, .str y u] }).IsTuple s.heap.objs.size (two (.str x t) (.str y u)) := ⟨_, Heap.get?_push_size _ rfl, rfl, 0, rfl⟩
  refine call_min_two (wpAny_pyIter_tuple hT ?_)
  have hsz : (s.heap.push { cls := .type "tuple", data := .seq #[.str x t, .str y u] }).objs.size = s.heap.objs.size + 1 := Heap.size_push ..
  refine ⟨_, [_, s.heap.objs.size], [_], _, _, _, fun i j => decide ((strAt x y i).cps.toList < (strAt x y j).cps.toList), rfl, Walks.tuple (A := A.in1) hh _ s.heap.objs.size (by rw [hsz]; exact Nat.ne_of_lt (Nat.lt_succ_self _)) (two (.str x t) (.str y u)),
    ⟨⟨_, Heap.get?_push_size _ rfl, rfl, rfl⟩, hT.push _⟩, fun c hc => ?_, by simp [two], ?_, fun v h' tk hP hk => ?_⟩
  · show c < ((s.heap.push _).push _).objs.size
    rw [Heap.size_push, hsz]
    rcases List.mem_cons.mp hc with rfl | hc
    · rw [hsz]; exact Nat.lt_succ_self _
    · rcases List.mem_cons.mp hc with rfl | hc
      · exact Nat.lt_succ_of_lt (Nat.lt_succ_self _)
      · cases hc
  · intro i j vi vj s' Q' E' hi hj hq
    obtain ⟨t1, rfl⟩ := two_str hi
    obtain ⟨t2, rfl⟩ := two_str hj
    exact lt_str (t := t1) (u := t2) hq
  · have hold : ∀ c o, s.heap.get? c = some o → h'.get? c = some o := fun c o e => by
      refine hk c o (fun hm => ?_) (Heap.get?_push_of_some _ (Heap.get?_push_of_some _ e))
      rcases List.mem_cons.mp hm with e1 | hm
      · have := Heap.lt_size e; rw [e1, hsz] at this; exact Nat.lt_irrefl _ (Nat.lt_of_succ_lt this)
      · cases hm
    have := h h' tk hold
    have hv : v = if y.cps.toList < x.cps.toList then Value.str y u else Value.str x t := by
      have hP' : (two (.str x t) (.str y u))[argBest (fun i j => decide ((strAt x y i).cps.toList < (strAt x y j).cps.toList)) 1]? = some v := hP
      by_cases hba : y.cps.toList < x.cps.toList
      · have e : argBest (fun i j => decide ((strAt x y i).cps.toList < (strAt x y j).cps.toList)) 1 = 1 := by simp [argBest, strAt, hba]
        rw [e] at hP'
        rw [if_pos hba]
        simpa [two] using hP'.symm
      · have e : argBest (fun i j => decide ((strAt x y i).cps.toList < (strAt x y j).cps.toList)) 1 = 0 := by simp [argBest, strAt, hba]
        rw [e] at hP'
        rw [if_neg hba]
        simpa [two] using hP'.symm
    rw [hv]; exact this
theorem max_two_strs {x y : Str} {t u : Tok} {Q : Value → Shared → Prop} (hh : A.handled = none)
    (h : ∀ h' tk, (∀ c o, s.heap.get? c = some o → h'.get? c = some o) → Q (if x.cps.toList < y.cps.toList then .str y u else .str x t) { s with heap := h', toks := tk }) :
    wpAny (model prog w) A (call (.builtin "max") [.str x t, .str y u]) Q E s := by
  have hT : (s.heap.push { cls := .type "tuple", data := .seq #[.str x t, .str y u] }).IsTuple s.heap.objs.size (two (.str x t) (.str y u)) := ⟨_, Heap.get?_push_size _ rfl, rfl, 0, rfl⟩
  refine call_max_two (wpAny_pyIter_tuple hT ?_)
  have hsz : (s.heap.push { cls := .type "tuple", data := .seq #[.str x t, .str y u] }).objs.size = s.heap.objs.size + 1 := Heap.size_push ..
  refine ⟨_, [_, s.heap.objs.size], [_], _, _, _, fun i j => decide ((strAt x y j).cps.toList < (strAt x y i).cps.toList), rfl, Walks.tuple (A := A.in1) hh _ s.heap.objs.size (by rw [hsz]; exact Nat.ne_of_lt (Nat.lt_succ_self _)) (two (.str x t) (.str y u)),
    ⟨⟨_, Heap.get?_push_size _ rfl, rfl, rfl⟩, hT.push _⟩, fun c hc => ?_, by simp [two], ?_, fun v h' tk hP hk => ?_⟩
  · show c < ((s.heap.push _).push _).objs.size
    rw [Heap.size_push, hsz]
    rcases List.mem_cons.mp hc with rfl | hc
    · rw [hsz]; exact Nat.lt_succ_self _
    · rcases List.mem_cons.mp hc with rfl | hc
      · exact Nat.lt_succ_of_lt (Nat.lt_succ_self _)
      · cases hc
  · intro i j vi vj s' Q' E' hi hj hq
    obtain ⟨t1, rfl⟩ := two_str hi
    obtain ⟨t2, rfl⟩ := two_str hj
    exact PySem.P.gt_str (t := t1) (u := t2) hq
  · have hold : ∀ c o, s.heap.get? c = some o → h'.get? c = some o := fun c o e => by
      refine hk c o (fun hm => ?_) (Heap.get?_push_of_some _ (Heap.get?_push_of_some _ e))
      rcases List.mem_cons.mp hm with e1 | hm
      · have := Heap.lt_size e; rw [e1, hsz] at this; exact Nat.lt_irrefl _ (Nat.lt_of_succ_lt this)
      · cases hm
    have := h h' tk hold
    have hv : v = if x.cps.toList < y.cps.toList then Value.str y u else Value.str x t := by
      have hP' : (two (.str x t) (.str y u))[argBest (fun i j => decide ((strAt x y j).cps.toList < (strAt x y i).cps.toList)) 1]? = some v := hP
      by_cases hba : x.cps.toList < y.cps.toList
      · have e : argBest (fun i j => decide ((strAt x y j).cps.toList < (strAt x y i).cps.toList)) 1 = 1 := by simp [argBest, strAt, hba]
        rw [e] at hP'
        rw [if_pos hba]
        simpa [two] using hP'.symm
      · have e : argBest (fun i j => decide ((strAt x y j).cps.toList < (strAt x y i).cps.toList)) 1 = 0 := by simp [argBest, strAt, hba]
        rw [e] at hP'
        rw [if_neg hba]
        simpa [two] using hP'.symm
    rw [hv]; exact this
end
def minS (x y : Str) : Str := if y.cps.toList < x.cps.toList then y else x
def maxS (x y : Str) : Str := if x.cps.toList < y.cps.toList then y else x
section
variable {X : Cx}
theorem call_min2S (hc : X.calm = true) : CallR X (.builtin "min") (fun xs H Q => ∃ x y, xs = [.str x, .str y] ∧ Q (.str (minS x y)) H) := by
  intro pins s σ H xs us Q I r h
  obtain ⟨x, y, rfl, q⟩ := h
  obtain ⟨u, w', rfl, ⟨t, rfl⟩, ⟨t', rfl⟩⟩ := vals2 r
  refine min_two_strs (I.ok.hd hc) fun h' tk k => ⟨_, H, I.kept k, ?_, q⟩
  unfold minS
  by_cases hj : y.cps.toList < x.cps.toList
  · rw [if_pos hj, if_pos hj]; exact ⟨_, rfl⟩
  · rw [if_neg hj, if_neg hj]; exact ⟨_, rfl⟩
theorem call_max2S (hc : X.calm = true) : CallR X (.builtin "max") (fun xs H Q => ∃ x y, xs = [.str x, .str y] ∧ Q (.str (maxS x y)) H) := by
  intro pins s σ H xs us Q I r h
  obtain ⟨x, y, rfl, q⟩ := h
  obtain ⟨u, w', rfl, ⟨t, rfl⟩, ⟨t', rfl⟩⟩ := vals2 r
  refine max_two_strs (I.ok.hd hc) fun h' tk k => ⟨_, H, I.kept k, ?_, q⟩
  unfold maxS
  by_cases hj : x.cps.toList < y.cps.toList
  · rw [if_pos hj, if_pos hj]; exact ⟨_, rfl⟩
  · rw [if_neg hj, if_neg hj]; exact ⟨_, rfl⟩
end
end Nm
set_option maxRecDepth 100000
set_option maxHeartbeats 4000000
namespace Nm
open PySem L2
theorem val_ex : ∀ {kvs : List (Key × V)} {k : Key}, k ∈ kvs.map (·.1) → ∃ v, valV kvs k = some v
  | kv :: r, k, h => by
    by_cases e : kv.1 = k
    · exact ⟨_, valV_pos e⟩
    · rw [valV_neg e]
      rw [List.map_cons] at h
      rcases List.mem_cons.mp h with z | z
      · exact absurd z.symm e
      · exact val_ex z
/-- a tie as it is told -/
structure TieV where
  x : Str
  y : Str
  kd : Str
  w : Int
def TieV.tup (t : TieV) : List V := [.str t.x, .str t.y, .str t.kd, .int t.w]
structure TieV.Ok (t : TieV) (nm : List Str) : Prop where
  hx : t.x ∈ nm
  hy : t.y ∈ nm
  ne : t.x ≠ t.y
  kw : isWordB t.kd = true
  w1 : 1 ≤ t.w
/-- the spot of a tie -/
def TieV.spot (t : TieV) : List Key := [Sum.inr (minS t.x t.y), Sum.inr (maxS t.x t.y), Sum.inr t.kd]
section
variable {P : Program} {w : World} {K : PySem.W.Frag} {mg : Str → Option Value} {base : Heap}
/-! ### tie_spot -/
def spSpot : Sp := fun vs H Q _ => ∃ (t d : Addr) (tv : TieV) (nm : List Str) (kvs : List (Key × V)), vs = [.ref t, .ref d] ∧ H t = some (.tup tv.tup) ∧ H d = some (.dK kvs) ∧ kvs.map (·.1) = nm.map Sum.inr ∧ tv.Ok nm ∧
  ∀ (r : Addr) (H' : Hp), H r = none → H' r = some (.tup (tv.spot.map kV)) → Same H H' → Q (.ref r) H'
abbrev nSp : List Str := ["tie", "names", "one", "other", "kind", "width"]
theorem scSp : FnScope nSp ["tie", "names"] (defScope sTieSpot) := ⟨rfl, rfl, rfl, by decide +kernel, rfl, by decide +kernel, by decide +kernel⟩
structure TxtH (mg : Str → Option Value) : Prop extends TxtG mg where
  tuple : mg "tuple" = none
theorem ok_spot {f : Addr} {fd : FuncData} (F : Fun K "tie_spot" "tie_spot" sTieSpot f fd) (T : TxtH mg) (Gw : Def P w K mg base "is_word" ["value"] 1 spWord) (Gn : Def P w K mg base "is_number" ["value", "least"] 2 spNumber) : FnOk P w K mg base CX0 3 f fd ["tie", "names"] spSpot := by
  obtain ⟨fw, fdw, Gw, mw, kw, bw⟩ := Gw.ex
  obtain ⟨fn, fdn, Gn, mn, kn, bn⟩ := Gn.ex
  refine F.ok scSp (fun vs H Q E h => ?_) (fun cdv A outer s H vs Q E hr h => ?_)
  · obtain ⟨_, _, _, _, _, rfl, _⟩ := h
    rfl
  · obtain ⟨t, d, tv, nm, kvs, rfl, ht, hd, hk, ok, k⟩ := h
    have hu := hu_of hr
    refine ⟨_, pss_cons (ps_if (PW.pt (pw_or (pt_not (pt_val (pe_callB call_isi (by rfl) T.isinstance (by decide +kernel) (pa_cons (pv 0) (pa_cons (pe_bltn (v := .ty "tuple") (by rfl) T.tuple (by decide +kernel) rfl) pa_nil))))) (pw_or1 (pt_cmpR op_ne (pe_callB call_len_seq (by rfl) T.len PySem.boot_len (pa_cons (pv 0) pa_nil)) pe_int (nomark _))))) (pss_one (ps_ret pe_non)) pss_nil)
      (pss_cons (ps_asg (pv 0) (pg_tup rfl (pgs_cons (pg_name (i := 2) scSp.nd rfl (.inl rfl)) (pgs_cons (pg_name (i := 3) scSp.nd rfl (.inl rfl)) (pgs_cons (pg_name (i := 4) scSp.nd rfl (.inl rfl)) (pgs_cons (pg_name (i := 5) scSp.nd rfl (.inl rfl)) pgs_nil))))))
      (pss_cons (ps_if (PW.pt (pw_or (pt_not (pt_val (pe_callB call_isi (by rfl) T.isinstance (by decide +kernel) (pa_cons (pv 2) (pa_cons (pe_bltn (v := .ty "str") (by rfl) T.str (by decide +kernel) rfl) pa_nil))))) (pw_or (pt_not (pt_val (pe_callB call_isi (by rfl) T.isinstance (by decide +kernel) (pa_cons (pv 3) (pa_cons (pe_bltn (v := .ty "str") (by rfl) T.str (by decide +kernel) rfl) pa_nil))))) (pw_or1 (pt_cmpR op_eq (pv 2) (pv 3) (nomark _)))))) (pss_one (ps_ret pe_non)) pss_nil)
      (pss_cons (ps_if (PW.pt (pw_or (pt_cmp (pc_dnotin hu (pv 2) (pv 1))) (pw_or1 (pt_cmp (pc_dnotin hu (pv 3) (pv 1)))))) (pss_one (ps_ret pe_non)) pss_nil)
      (pss_cons (ps_if (PW.pt (pw_or (pt_not (pt_val (pe_call Gw (hr.mono (by decide)) (by rfl) mw kw bw .nil pass0 (pa_cons (pv 4) pa_nil)))) (pw_or1 (pt_not (pt_val (pe_call Gn hr (by rfl) mn kn bn .nil pass0 (pa_cons (pv 5) (pa_cons pe_int pa_nil)))))))) (pss_one (ps_ret pe_non)) pss_nil)
      (pss_one (ps_ret (pe_tup (pa_cons (pe_callB (call_min2S rfl) (by rfl) T.min (by decide +kernel) (pa_cons (pv 2) (pa_cons (pv 3) pa_nil))) (pa_cons (pe_callB (call_max2S rfl) (by rfl) T.max (by decide +kernel) (pa_cons (pv 2) (pa_cons (pv 3) pa_nil))) (pa_cons (pv 4) pa_nil)))))))))), ?_⟩
    refine ⟨_, rfl, _, _, _, _, true, rfl, ClsV.ty "tuple", TyX.base (TyOf.tup ht), kit_ty (by decide +kernel), _, rfl, iteF ?_⟩
    refine ⟨_, rfl, t, _, rfl, .inr (SqT.of ht), rfl, _, rfl, iteF ?_⟩
    refine ⟨_, rfl, t, _, rfl, SqT.of ht, rfl, _, _, rfl, _, _, rfl, _, _, rfl, _, _, rfl, rfl, ?_⟩
    refine ⟨_, rfl, _, _, _, _, true, rfl, ClsV.ty "str", TyX.base (TyOf.str _), kit_ty (by decide +kernel), _, rfl, iteF ?_⟩
    refine ⟨_, rfl, _, _, _, _, true, rfl, ClsV.ty "str", TyX.base (TyOf.str _), kit_ty (by decide +kernel), _, rfl, iteF ?_⟩
    have hne : decide (V.str tv.x = V.str tv.y) = false := decide_eq_false (fun e => ok.ne (by injection e))
    refine ⟨_, rfl, _, rfl, rfl, _, rfl, ?_⟩
    rw [hne]
    refine iteF ?_
    have there : ∀ z, z ∈ nm → ∃ v, valV kvs (Sum.inr z) = some v := fun z hz => val_ex (by rw [hk]; exact List.mem_map.mpr ⟨z, hz, rfl⟩)
    obtain ⟨vx, hvx⟩ := there tv.x ok.hx
    obtain ⟨vy, hvy⟩ := there tv.y ok.hy
    refine ⟨_, rfl, _, rfl, d, some vx, rfl, (by rw [← hvx]; exact DGet.k (k := Sum.inr tv.x) hd), _, rfl, iteF ?_⟩
    refine ⟨_, rfl, _, rfl, d, some vy, rfl, (by rw [← hvy]; exact DGet.k (k := Sum.inr tv.y) hd), _, rfl, iteF ?_⟩
    refine ⟨_, rfl, tv.kd, rfl, ok.kw, fun H1 s1 => ⟨_, rfl, iteF ?_⟩⟩
    have hw1 : decide ((1 : Int) ≤ tv.w) = true := decide_eq_true ok.w1
    refine ⟨_, rfl, tv.w, 1, rfl, _, rfl, ?_⟩
    rw [hw1]
    refine iteF ?_
    refine ⟨_, rfl, _, rfl, _, _, rfl, _, rfl, _, rfl, _, _, rfl, _, rfl, (by show 3 ≤ sizeLine; decide), fun r hr => ?_⟩
    exact k r _ (s1.free hr) upd_same (s1.trans (same_new hr))
end
end Nm
set_option maxRecDepth 100000
set_option maxHeartbeats 4000000
/-! name = {k: v for ..}, the name a local -/
namespace Nm
open PySem PySem.Spec PyProof.Rows L2
section
variable {X : Cx}
theorem ps_setDc {n : Nat} {z : Str} {zp : Pos} {ke ve tg iter : PySem.Expr} {ifs : List PySem.Expr} {scp : Scope} {own : List (Str × Nat)} {pos spos : Pos} {wi : TI} {g : TG} {tt : TT} {tk tv : TE}
    (calm : X.calm = true) (nd : X.N.Nodup) (at_ : X.N[n]? = some z) (loc : X.env.scope.names.lookup z = some .local)
    (sw : swapsWith (.DictComp ke ve [⟨tg, iter, ifs, 0⟩] scp pos) (some (.Name z zp)) spos.line X.env = pure true) (wlk : PI X tg iter wi) (blk : BlkOk X.N X.env.scope scp own)
    (tgt : ∀ (s : Shared) (H : Hp) (C : Addr) (cs : List (Str × Addr)) (fp : List Addr), PG (X.blk s H scp (compEnvC scp cs C X.env) fp) tg g)
    (tst : ∀ (s : Shared) (H : Hp) (C : Addr) (cs : List (Str × Addr)) (fp : List Addr), PTs (X.blk s H scp (compEnvC scp cs C X.env) fp) ifs tt)
    (key : ∀ (s : Shared) (H : Hp) (C : Addr) (cs : List (Str × Addr)) (fp : List Addr), PE (X.blk s H scp (compEnvC scp cs C X.env) fp) ke tk)
    (val : ∀ (s : Shared) (H : Hp) (C : Addr) (cs : List (Str × Addr)) (fp : List Addr), PE (X.blk s H scp (compEnvC scp cs C X.env) fp) ve tv)
    (fold : ∀ x, foldedSetIterable iter X.env x = pure x := by intro _; rfl) :
    PS X (.Assign [.Name z zp] (.DictComp ke ve [⟨tg, iter, ifs, 0⟩] scp pos) spos) (tAsg (tDc wi g tt tk tv (own.map (·.2))) (gName n)) := by
  refine ⟨fun pins s σ H D I hyp => ?_⟩
  rw [exec_Assign_Name_used _ _ _ _ sw]
  refine wpAny_bind (wpAny_standAt (wpAny_bind ?_))
  show wpAny _ X.A (do let _ ← comprehension (.DictComp ke ve [⟨tg, iter, ifs, 0⟩] scp pos) scp X.env (firstIterPos [⟨tg, iter, ifs, 0⟩] pos) newDict false (eval iter X.env) (some (assign (.Name z zp) X.env))) _ _ s
  have hyp' : tDc wi g tt tk tv (own.map (·.2)) σ H (fun x H1 => gName n x σ H1 D.nx) := hyp
  have core := dc_core (pos := pos) (pos' := firstIterPos [⟨tg, iter, ifs, 0⟩] pos) (use := some (assign (.Name z zp) X.env)) (Qf := fun _ s' => SP X pins D .next s') calm nd I wlk blk tgt tst key val fold hyp' fun L C s' m H' I' q hn f => ?_
  · exact wpAny_bind (thn core fun _ s' hq => wpAny_pure (wpAny_pure hq))
  show wpAny _ _ (assign (.Name z zp) X.env (.ref L)) _ _ _
  refine wpAny_assign_Name (store_ok2 (v := V.ref L) I' nd at_ (.inl loc) rfl (fun s2 I2 ⟨a, sb, ha⟩ => ?_) (.inr loc))
  have ⟨f0, f1, f2, f3, f4, f5⟩ := f
  have haC : C ≠ a := ha.elim (fun e => e ▸ f1) (fun e w => f4 z a e w.symm)
  exact ⟨m, hn.sameBut sb haC, fun h3 sb3 => ⟨_, H', I2.turned (t' := s2.toks) (fun b o hb e => (sb3.2 b hb).trans e) f0 f1 f3 f4 f5, q⟩⟩
theorem sw_dict {ke ve : PySem.Expr} {gs : List Comprehension} {scp : Scope} {pos zp : Pos} {z : Str} {l : Nat} {env : Env} (hk : env.scope.kind = .function) (loc : env.scope.names.lookup z = some .local) (hl : (zp.line == pos.line) = true)
    (ha : (scp.names.any fun (n, k) => n == z && (k == .local || k == .cell)) = false) : swapsWith (.DictComp ke ve gs scp pos) (some (.Name z zp)) l env = pure true := by
  have kz : env.kindOf z = some .local := loc
  have hb : env.blockKind = .function := by
    unfold Env.blockKind
    rw [hk]
    rfl
  unfold swapsWith
  simp only [hb, kz, ha, Expr.pos, hl]
  rfl
end
end Nm
set_option maxRecDepth 100000
set_option maxHeartbeats 4000000
namespace Nm
open PySem L2
/-- a dict comprehension over any walk: P by the turn and the heap, the new dict at D within -/
theorem dc_walk {J : It} {n : Nat} {G : Hp → Prop} {Y : Nat → Hp → V → Hp → Prop} (wk : Walk J n G Y) {g : TG} {tt : TT} {tk tv : TE} {vs : List Nat} {σ : L2.St} {H1 : Hp} {D : Addr} {Qd : Hp → Prop} (Pv : Nat → Hp → Prop) (h0 : Pv 0 (upd H1 D (.dK [])))
    (hG : ∀ i H, i ≤ n → Pv i H → G H)
    (hs : ∀ i x H H', i < n → Pv i H → Y i H x H' → g x (wipe σ vs) H' fun σ2 H2 => wipe σ2 vs = wipe σ vs ∧ tt σ2 H2 fun b H3 =>
      if b = true then tk σ2 H3 fun y H4 => tv σ2 H4 fun z H5 => ∃ kvs k, y = kV k ∧ H5 D = some (.dK kvs) ∧ kvs.length < sizeLine ∧ Pv (i + 1) (upd H5 D (.dK (putK kvs k z))) else Pv (i + 1) H3)
    (hd : ∀ H, Pv n H → Qd H) :
    ∃ W : Nat → Nat → Hp → Prop, (∃ m, W 0 m (upd H1 D (.dK []))) ∧ ∀ i m H, W i m H →
      (J.stop i H ∧ Qd H) ∨ (J.go i H ∧ ∃ Nx : Hp → Prop, (∀ H', Nx H' → ∃ m', m' < m ∧ W (i + 1) m' H') ∧ ∀ x H', J.yld i H x H' → g x (wipe σ vs) H' fun σ2 H2 => wipe σ2 vs = wipe σ vs ∧ tt σ2 H2 fun b H3 =>
        if b = true then tk σ2 H3 fun y H4 => tv σ2 H4 fun z H5 => ∃ kvs k, y = kV k ∧ H5 D = some (.dK kvs) ∧ kvs.length < sizeLine ∧ Nx (upd H5 D (.dK (putK kvs k z))) else Nx H3) := by
  refine ⟨fun i m H => m + i = n ∧ Pv i H, ⟨n, by omega, h0⟩, fun i m H ⟨e, p⟩ => ?_⟩
  have q := hG i H (by omega) p
  cases m with
  | zero =>
    obtain rfl : i = n := by omega
    exact .inl ⟨wk.stops H q, hd H p⟩
  | succ m => exact .inr ⟨wk.goes i H (by omega) q, Pv (i + 1), fun H' p' => ⟨m, by omega, by omega, p'⟩, fun x H' y => hs i x H H' (by omega) p (wk.yields i H x H' (by omega) q y)⟩
/-- names and their places -/
def numKV (nm : List Str) (i : Nat) : List (Key × V) := (nm.zipIdx.take i).map fun p => (Sum.inr p.1, V.int (p.2 : Int))
theorem num_step {nm : List Str} {i : Nat} {x : Str} (h : nm[i]? = some x) : numKV nm (i + 1) = numKV nm i ++ [(Sum.inr x, V.int (i : Int))] := by
  unfold numKV
  have e : nm.zipIdx[i]? = some (x, i) := by simp [h]
  rw [List.take_add_one, e, List.map_append]
  rfl
theorem num_keys (nm : List Str) (i : Nat) : (numKV nm i).map (·.1) = (nm.take i).map Sum.inr := by
  unfold numKV
  rw [List.map_map]
  have : nm.take i = (nm.zipIdx.take i).map (·.1) := by rw [List.map_take]; simp
  rw [this, List.map_map]
  rfl
theorem num_nd {nm : List Str} (nd : nm.Nodup) (i : Nat) : ((numKV nm i).map (·.1)).Nodup := by
  rw [num_keys]
  exact List.Pairwise.map _ (fun a b hab e => hab (Sum.inr.inj e)) ((List.take_sublist i nm).nodup nd)
theorem num_new {nm : List Str} (nd : nm.Nodup) {i : Nat} {x : Str} (h : nm[i]? = some x) : valV (numKV nm i) (Sum.inr x) = none := by
  refine val_none_of fun hm => ?_
  rw [num_keys] at hm
  obtain ⟨y, hy, e⟩ := List.mem_map.mp hm
  cases e
  obtain ⟨j, hj⟩ := List.getElem?_of_mem hy
  rw [List.getElem?_take] at hj
  split at hj
  · rename_i hji
    have h1 := (List.getElem?_eq_some_iff.mp hj).1
    have : j = i := (List.getElem?_inj h1 nd).mp (hj.trans h.symm)
    omega
  · cases hj
theorem num_at {nm : List Str} (nd : nm.Nodup) {i : Nat} {x : Str} (h : nm[i]? = some x) : valV (numKV nm nm.length) (Sum.inr x) = some (V.int (i : Int)) := by
  refine val_of_mem (num_nd nd _) ?_
  unfold numKV
  rw [List.take_of_length_le (by simp)]
  refine List.mem_map.mpr ⟨(x, i), ?_, rfl⟩
  rw [List.mem_zipIdx_iff_getElem?]
  exact h
/-- the row of a tie: its places, the lesser first, its kind, its width -/
structure RowV where
  i : Nat
  j : Nat
  kd : Str
  w : Int
def RowV.key (r : RowV) : Int × List Key := ((r.i : Int), [Sum.inl (r.j : Int), Sum.inr r.kd, Sum.inl r.w])
def RowV.tup (r : RowV) : List V := [.int (r.i : Int), .int (r.j : Int), .str r.kd, .int r.w]
/-- r is the row of t -/
def RowOf (nm : List Str) (t : TieV) (r : RowV) : Prop := ∃ a b, nm[a]? = some t.x ∧ nm[b]? = some t.y ∧ r.i = min a b ∧ r.j = max a b ∧ r.kd = t.kd ∧ r.w = t.w
/-- a list of ties stands at p -/
def TiesAt (H : Hp) (p : Addr) (tl : List TieV) : Prop := ∃ ts : List Addr, H p = some (.lst (ts.map V.ref)) ∧ Paired (fun t tv => H t = some (.tup (TieV.tup tv))) ts tl
/-- the ordered ties: a list of tuples by rows in order -/
def OrdAt (H : Hp) (p : Addr) (nm : List Str) (rs : List RowV) : Prop := ∃ ts : List Addr, H p = some (.lst (ts.map V.ref)) ∧ Paired (fun t (r : RowV) => ∃ x y, nm[r.i]? = some x ∧ nm[r.j]? = some y ∧ H t = some (.tup [.str x, .str y, .str r.kd, .int r.w])) ts rs
def rowBack (H : Hp) : V → RowV
  | .ref b => (match H b with
    | some (.tup [.int i, .int j, .str kd, .int w]) => ⟨i.toNat, j.toNat, kd, w⟩
    | _ => ⟨0, 0, "", 0⟩)
  | _ => ⟨0, 0, "", 0⟩
theorem rowBack_of {H : Hp} {b : Addr} {r : RowV} (h : H b = some (.tup r.tup)) : rowBack H (.ref b) = r := by
  show (match H b with
    | some (.tup [.int i, .int j, .str kd, .int w]) => (⟨i.toNat, j.toNat, kd, w⟩ : RowV)
    | _ => ⟨0, 0, "", 0⟩) = r
  rw [h]
  cases r
  rfl
theorem rows_back {H : Hp} : ∀ {us : List Addr} {rw : List RowV}, Paired (fun u (r : RowV) => H u = some (.tup r.tup)) us rw → (us.map V.ref).map (rowBack H) = rw
  | _, _, .nil => rfl
  | _, _, .cons h t => by
    rw [List.map_cons, List.map_cons, rows_back t, rowBack_of h]
theorem paired_get {α β : Type} {F : α → β → Prop} : ∀ {l : List α} {m : List β} {i : Nat} {a : α}, Paired F l m → l[i]? = some a → ∃ b, m[i]? = some b ∧ F a b
  | _, _, _, _, .nil, h => by simp at h
  | _, _, 0, _, .cons r _, h => by
    simp at h
    subst h
    exact ⟨_, rfl, r⟩
  | _, _, i + 1, _, .cons _ t, h => by
    simp at h
    obtain ⟨b, h1, h2⟩ := paired_get t h
    exact ⟨b, by simpa using h1, h2⟩
theorem paired_mem {α β : Type} {F : α → β → Prop} {l : List α} {m : List β} {a : α} (h : Paired F l m) (hm : a ∈ l) : ∃ b ∈ m, F a b := by
  obtain ⟨i, hi⟩ := List.getElem?_of_mem hm
  obtain ⟨b, h1, h2⟩ := paired_get h hi
  exact ⟨b, List.mem_of_getElem? h1, h2⟩
theorem paired_back {α β : Type} {F : α → β → Prop} : ∀ {l : List α} {m : List β} {b : β}, Paired F l m → b ∈ m → ∃ a ∈ l, F a b
  | _, _, _, .nil, h => (List.not_mem_nil h).elim
  | _, _, b, .cons (a := a) r t, h => by
    rcases List.mem_cons.mp h with e | e
    · subst e
      exact ⟨a, List.mem_cons_self, r⟩
    · obtain ⟨a', h1, h2⟩ := paired_back t e
      exact ⟨a', List.mem_cons_of_mem _ h1, h2⟩
section
variable {P : Program} {w : World} {K : PySem.W.Frag} {mg : Str → Option Value} {base : Heap}
/-! ### ordered_ties -/
def spOrd : Sp := fun vs H Q _ => ∃ (p q : Addr) (nm : List Str) (tl : List TieV), vs = [.ref p, .ref q] ∧ TiesAt H p tl ∧ H q = some (.lst (nm.map V.str)) ∧ nm.Nodup ∧ nm.length ≤ 1000 ∧ tl.length ≤ 20000 ∧ (∀ t ∈ tl, t.Ok nm) ∧
  ∀ (r : Addr) (rs rw : List RowV) (H' : Hp), H r = none → Paired (RowOf nm) tl rw → rs.Perm rw → rs.Pairwise (fun x y => lexK (rowK y.key) (rowK x.key) = false) → OrdAt H' r nm rs → Same H H' → Q (.ref r) H'
abbrev nOrd : List Str := ["ties", "names", "numbers", "rows", "one", "other", "kind", "width", "first", "last", "at", "name"]
theorem scOrd : FnScope nOrd ["ties", "names"] (defScope sOrderedTies) := ⟨rfl, rfl, rfl, by decide +kernel, rfl, by decide +kernel, by decide +kernel⟩
theorem ok_ord {f : Addr} {fd : FuncData} (F : Fun K "ordered_ties" "ordered_ties" sOrderedTies f fd) (T : TxtH mg) : FnOk P w K mg base CX0 1 f fd ["ties", "names"] spOrd := by
  refine F.ok scOrd (fun vs H Q E h => ?_) (fun cdv A outer s H vs Q E hr h => ?_)
  · obtain ⟨_, _, _, _, rfl, _⟩ := h
    rfl
  · obtain ⟨p, q, nm, tl, rfl, ⟨ts, hp, hts⟩, hq, nd, hn, htl, hok, k⟩ := h
    have hu := hu_of hr
    refine ⟨_, Evl.pss_cut (ps_setDc (n := 2) (own := [("at", 10), ("name", 11)]) (g := gTup K 2 (gCons (gName 10) (gCons (gName 11) gNil))) (tt := tYes) rfl scOrd.nd rfl rfl (sw_dict rfl rfl rfl (by decide +kernel)) (pi_enum (by rfl) T.enumerate (pa_cons (pv 1) pa_nil))
        (blkOk_by (N := nOrd) (sc := defScope sOrderedTies) (by decide +kernel)) (fun _ _ _ _ _ => pg_tup rfl (pgs_cons (pg_name (i := 10) scOrd.nd rfl (Or.inl rfl)) (pgs_cons (pg_name (i := 11) scOrd.nd rfl (Or.inl rfl)) pgs_nil))) (fun _ _ _ _ _ => pts_nil) (fun _ _ _ _ _ => pv 11) (fun _ _ _ _ _ => pv 10))
      (pss_cons (ps_set (i := 3) scOrd.nd rfl (Or.inl rfl) (pe_lst pa_nil))
      (Evl.pss_cut (ps_for PassesOwn.never rfl (pi_list (pv 0)) (pg_tup rfl (pgs_cons (pg_name (i := 4) scOrd.nd rfl (.inl rfl)) (pgs_cons (pg_name (i := 5) scOrd.nd rfl (.inl rfl)) (pgs_cons (pg_name (i := 6) scOrd.nd rfl (.inl rfl)) (pgs_cons (pg_name (i := 7) scOrd.nd rfl (.inl rfl)) pgs_nil)))))
        (pss_cons (ps_set (i := 8) scOrd.nd rfl (Or.inl rfl) (pe_callB (call_min2 rfl) (by rfl) T.min (by decide +kernel) (pa_cons (pe_dget hu (pv 2) (pv 4) (fun _ _ => rfl)) (pa_cons (pe_dget hu (pv 2) (pv 5) (fun _ _ => rfl)) pa_nil))))
        (pss_cons (ps_set (i := 9) scOrd.nd rfl (Or.inl rfl) (pe_callB (call_max2 rfl) (by rfl) T.max (by decide +kernel) (pa_cons (pe_dget hu (pv 2) (pv 4) (fun _ _ => rfl)) (pa_cons (pe_dget hu (pv 2) (pv 5) (fun _ _ => rfl)) pa_nil))))
        (pss_one (ps_expr (pe_bm PySem.F.plainAttrs_list PySem.F.slot_list_append PySem.F.type_list_append mt_append (pv 3) (pa_cons (pe_tup (pa_cons (pv 8) (pa_cons (pv 9) (pa_cons (pv 6) (pa_cons (pv 7) pa_nil))))) pa_nil)))))))
      (pss_one (ps_ret (pe_lc (own := [("first", 8), ("last", 9), ("kind", 6), ("width", 7)]) (g := gTup K 4 (gCons (gName 8) (gCons (gName 9) (gCons (gName 6) (gCons (gName 7) gNil))))) (tt := tYes) (te := tTup (tCons (tOp (rIxL K) (tVar 1) (tVar 8)) (tCons (tOp (rIxL K) (tVar 1) (tVar 9)) (tCons (tVar 6) (tCons (tVar 7) tNil))))) rfl scOrd.nd (pi_list (pe_callB cr_sortedO (by rfl) T.sorted (by decide +kernel) (pa_cons (pv 3) pa_nil)))
          (blkOk_by (N := nOrd) (sc := defScope sOrderedTies) (by decide +kernel)) (fun _ _ _ _ _ => pg_tup rfl (pgs_cons (pg_name (i := 8) scOrd.nd rfl (Or.inl rfl)) (pgs_cons (pg_name (i := 9) scOrd.nd rfl (Or.inl rfl)) (pgs_cons (pg_name (i := 6) scOrd.nd rfl (Or.inl rfl)) (pgs_cons (pg_name (i := 7) scOrd.nd rfl (Or.inl rfl)) pgs_nil))))) (fun _ _ _ _ _ => pts_nil)
          (fun _ _ _ _ _ => by exact pe_tup (pa_cons (pe_ix ix_list (pv 1) (pv 8) (fun _ _ => rfl)) (pa_cons (pe_ix ix_list (pv 1) (pv 9) (fun _ _ => rfl)) (pa_cons (pv 6) (pa_cons (pv 7) pa_nil)))))))))), ?_⟩
    -- numbers
    refine ⟨fun σ H1 => ∃ nu, σ = [some (.ref p), some (.ref q), some (.ref nu), none, none, none, none, none, none, none, none, none] ∧ H1 nu = some (.dK (numKV nm nm.length)) ∧ Same H H1, ?_, ?_⟩
    · refine ⟨_, rfl, q, _, rfl, SqL.of hq, fun D hD => ?_⟩
      refine dc_walk (walk_enum (xs := nm.map V.str)) (fun i H1 => H1 D = some (.dK (numKV nm i)) ∧ Same H H1) ⟨upd_same, same_new hD⟩ (fun i H1 _ h => SqL.of (h.2 _ _ hq)) ?_ ?_
      · rintro i x H1 H2 hi ⟨hD1, s1⟩ ⟨T', x1, y1, rfl, hT, rfl, e1, e2⟩
        rw [List.length_map] at hi
        have e2 : (nm.map V.str)[i]? = some y1 := e2
        rw [List.getElem?_map] at e2
        obtain ⟨z, hz, rfl⟩ := Option.map_eq_some_iff.mp e2
        cases e1
        have sT := same_new (o := .tup [V.int (i : Nat), V.str z]) hT
        refine ⟨T', _, rfl, SqT.of upd_same, rfl, _, _, rfl, _, _, rfl, rfl, rfl, tyes ?_⟩
        refine ⟨_, rfl, _, rfl, _, Sum.inr z, rfl, sT _ _ hD1, Evl.sz_lt (by unfold numKV; simp; omega), ?_, fun b o e => ?_⟩
        · rw [upd_same, putK_new _ (num_new nd hz), num_step hz]
        · rw [upd_ne (ne_of_none e hD)]
          exact sT _ _ (s1 b o e)
      · rintro H1 ⟨hD1, s1⟩
        rw [List.length_map] at hD1
        exact ⟨D, rfl, hD1, s1⟩
    rintro σ H1 ⟨nu, rfl, hnu, s1⟩
    refine ⟨(by show 0 ≤ sizeLine; decide), fun ro hro => ?_⟩
    have s2 := s1.trans (same_new (o := .lst []) hro)
    have hnu2 := same_new (o := .lst []) hro _ _ hnu
    have hro2 : (upd H1 ro (.lst [])) ro = some (.lst (List.map V.ref [])) := upd_same
    have hro0 : H ro = none := s1.free hro
    generalize upd H1 ro (.lst []) = H2 at *
    have nnr : nu ≠ ro := ne_of hnu2 hro2 (by intro z; cases z)
    -- rows
    refine ⟨fun σ H3 => ∃ v4 v5 v6 v7 v8 v9 us rw, σ = [some (.ref p), some (.ref q), some (.ref nu), some (.ref ro), v4, v5, v6, v7, v8, v9, none, none] ∧ H3 ro = some (.lst (List.map V.ref us)) ∧ us.length = tl.length ∧ Paired (fun u (r : RowV) => H3 u = some (.tup r.tup)) us rw ∧ Paired (RowOf nm) tl rw ∧ Same H H3, ?_, ?_⟩
    · refine ⟨_, rfl, p, rfl, ⟨_, SqL.of (s2 _ _ hp)⟩, ?_⟩
      have htl2 : ts.length = tl.length := Paired.length hts
      refine for_list (xs := ts.map V.ref) (fun i σ H3 => ∃ v4 v5 v6 v7 v8 v9 us rw, σ = [some (.ref p), some (.ref q), some (.ref nu), some (.ref ro), v4, v5, v6, v7, v8, v9, none, none] ∧ H3 ro = some (.lst (List.map V.ref us)) ∧ us.length = i ∧ Paired (fun u (r : RowV) => H3 u = some (.tup r.tup)) us rw ∧ Paired (RowOf nm) (tl.take i) rw ∧ H3 nu = some (.dK (numKV nm nm.length)) ∧ Same H H3)
        ⟨none, none, none, none, none, none, [], [], rfl, hro2, rfl, .nil, .nil, hnu2, s2⟩ (fun i σ H3 _ ⟨_, _, _, _, _, _, _, _, _, _, _, _, _, _, h⟩ => SqL.of (h _ _ hp)) ?_ ?_
      · rintro i v σ H3 hi ⟨v4, v5, v6, v7, v8, v9, us, rw', rfl, hro3, hul, pu, pr, hnu3, s3⟩
        have hil := (List.getElem?_eq_some_iff.mp hi).1
        rw [List.length_map] at hil
        rw [List.getElem?_map] at hi
        obtain ⟨t, ht, rfl⟩ := Option.map_eq_some_iff.mp hi
        obtain ⟨tv, htv, htt⟩ := paired_get hts ht
        have ok := hok tv (List.mem_of_getElem? htv)
        obtain ⟨a, ha⟩ := List.getElem?_of_mem ok.hx
        obtain ⟨b, hb⟩ := List.getElem?_of_mem ok.hy
        have da : DGet H3 nu (V.str tv.x) (some (V.int (a : Int))) := by rw [← num_at nd ha]; exact DGet.k (k := Sum.inr tv.x) hnu3
        have db : DGet H3 nu (V.str tv.y) (some (V.int (b : Int))) := by rw [← num_at nd hb]; exact DGet.k (k := Sum.inr tv.y) hnu3
        refine ⟨t, _, rfl, SqT.of (s3 _ _ htt), rfl, _, _, rfl, _, _, rfl, _, _, rfl, _, _, rfl, rfl, ?_⟩
        refine ⟨_, rfl, _, rfl, nu, _, rfl, da, _, rfl, _, rfl, nu, _, rfl, db, _, _, rfl, ?_⟩
        refine ⟨_, rfl, _, rfl, nu, _, rfl, da, _, rfl, _, rfl, nu, _, rfl, db, _, _, rfl, ?_⟩
        refine ⟨_, rfl, .inl ⟨rfl, _, SqL.of hro3⟩, _, rfl, _, rfl, _, rfl, _, rfl, (by show 4 ≤ sizeLine; decide), fun u hu => ?_⟩
        have e1 : (if (b : Int) < (a : Int) then (b : Int) else (a : Int)) = ((min a b : Nat) : Int) := by split <;> omega
        have e2 : (if (b : Int) > (a : Int) then (b : Int) else (a : Int)) = ((max a b : Nat) : Int) := by split <;> omega
        rw [e1, e2]
        have su := same_new (o := .tup [V.int ((min a b : Nat) : Int), V.int ((max a b : Nat) : Int), V.str tv.kd, V.int tv.w]) hu
        have nur : u ≠ ro := fun e => by subst e; rw [hro3] at hu; cases hu
        refine ⟨ro, _, _, rfl, rfl, su _ _ hro3, Evl.sz_lt (by rw [List.length_map]; omega), ?_⟩
        refine ⟨_, _, _, _, _, _, us ++ [u], rw' ++ [⟨min a b, max a b, tv.kd, tv.w⟩], rfl, by rw [upd_same, List.map_append]; rfl, by simp [hul], ?_, ?_, by rw [upd_ne nnr]; exact su _ _ hnu3, fun b' o e => ?_⟩
        · refine paired_snoc (Paired.mapP pu fun u' r h => ?_) ?_
          · rw [upd_ne (ne_of h hro3 (by intro z; cases z))]
            exact su _ _ h
          · rw [upd_ne nur]
            exact upd_same
        · rw [List.take_add_one, htv]
          exact paired_snoc pr ⟨a, b, ha, hb, rfl, rfl, rfl, rfl⟩
        · rw [upd_ne (ne_of_none e hro0)]
          exact su _ _ (s3 b' o e)
      · rintro σ H3 ⟨v4, v5, v6, v7, v8, v9, us, rw', rfl, hro3, hul, pu, pr, hnu3, s3⟩
        rw [List.length_map] at hul pr
        rw [htl2, List.take_of_length_le (Nat.le_refl _)] at pr
        exact ⟨v4, v5, v6, v7, v8, v9, us, rw', rfl, hro3, by omega, pu, pr, s3⟩
    rintro σ H3 ⟨v4, v5, v6, v7, v8, v9, us, rw', rfl, hro3, hul, pu, pr, s3⟩
    have inr' : ∀ r ∈ rw', r.i < nm.length ∧ r.j < nm.length := fun r hr' => by
      obtain ⟨tv, _, a, b, ha, hb, e1, e2, _⟩ := paired_back pr hr'
      have h1 := (List.getElem?_eq_some_iff.mp ha).1
      have h2 := (List.getElem?_eq_some_iff.mp hb).1
      omega
    have isr : ∀ y ∈ us.map V.ref, ∃ u r, y = V.ref u ∧ H3 u = some (.tup (RowV.tup r)) ∧ r ∈ rw' ∧ rowBack H3 y = r := fun y hy => by
      obtain ⟨u, hu', rfl⟩ := List.mem_map.mp hy
      obtain ⟨r, hr', hur⟩ := paired_mem pu hu'
      exact ⟨u, r, rfl, hur, hr', rowBack_of hur⟩
    refine ⟨_, rfl, ro, us.map V.ref, fun v => (rowBack H3 v).key, rfl, SqL.of hro3, fun y hy => ?_, fun y hy z hz => .int (.str (.int .nil)), fun ys pp srt pm hpp => ?_⟩
    · obtain ⟨u, r, rfl, hur, _, e⟩ := isr y hy
      refine ⟨u, rfl, ?_⟩
      show H3 u = some (.tup ((rowK (rowBack H3 (V.ref u)).key).map kV))
      rw [e]
      exact hur
    have s4 := same_new (o := .lst ys) hpp
    have hq4 := s4 _ _ (s3 _ _ hq)
    have hyl : ys.length = tl.length := by rw [pm.length_eq, List.length_map]; exact hul
    refine ⟨pp, rfl, ⟨_, SqL.of upd_same⟩, fun D hD => ?_⟩
    have hD0 : H D = none := s3.free (s4.free hD)
    refine lc_list (xs := ys) (fun i H5 => ∃ os : List Addr, H5 D = some (.lst (os.map V.ref)) ∧ os.length = i ∧ Paired (fun t (r : RowV) => ∃ x y, nm[r.i]? = some x ∧ nm[r.j]? = some y ∧ H5 t = some (.tup [.str x, .str y, .str r.kd, .int r.w])) os ((ys.map (rowBack H3)).take i) ∧ Same (upd H3 pp (.lst ys)) H5)
      ⟨[], upd_same, rfl, .nil, same_new hD⟩ (fun i H5 _ ⟨_, _, _, _, h⟩ => SqL.of (h _ _ upd_same)) ?_ ?_
    · rintro i y H5 hi ⟨os, hD5, hol, po, s5⟩
      have hil := (List.getElem?_eq_some_iff.mp hi).1
      obtain ⟨u, r, rfl, hur, hrm, e⟩ := isr y (pm.subset (List.mem_of_getElem? hi))
      obtain ⟨hi1, hj1⟩ := inr' r hrm
      obtain ⟨x1, hx1⟩ : ∃ x1, nm[r.i]? = some x1 := ⟨_, List.getElem?_eq_getElem hi1⟩
      obtain ⟨y1, hy1⟩ : ∃ y1, nm[r.j]? = some y1 := ⟨_, List.getElem?_eq_getElem hj1⟩
      refine ⟨u, _, rfl, SqT.of (s5 _ _ (s4 _ _ hur)), rfl, _, _, rfl, _, _, rfl, _, _, rfl, _, _, rfl, rfl, rfl, tyes ?_⟩
      refine ⟨_, rfl, _, rfl, q, _, _, V.str x1, rfl, rfl, SqL.of (s5 _ _ hq4), atI_nat (by rw [List.getElem?_map, hx1]; rfl), _, rfl, _, rfl, q, _, _, V.str y1, rfl, rfl, SqL.of (s5 _ _ hq4), atI_nat (by rw [List.getElem?_map, hy1]; rfl), _, rfl, _, rfl, (by show 4 ≤ sizeLine; decide), fun o ho => ?_⟩
      have so := same_new (o := .tup [V.str x1, V.str y1, V.str r.kd, V.int r.w]) ho
      have noD : o ≠ D := fun e => by subst e; rw [hD5] at ho; cases ho
      refine ⟨_, so _ _ hD5, Evl.sz_lt (by rw [List.length_map]; omega), os ++ [o], by rw [upd_same, List.map_append]; rfl, by simp [hol], ?_, fun b' o' e' => ?_⟩
      · have e3 : (ys.map (rowBack H3))[i]? = some r := by rw [List.getElem?_map, hi, ← e]; rfl
        rw [List.take_add_one, e3]
        refine paired_snoc (Paired.mapP po fun t' r' ⟨x', y', h1, h2, h3⟩ => ⟨x', y', h1, h2, ?_⟩) ⟨x1, y1, hx1, hy1, by rw [upd_ne noD]; exact upd_same⟩
        rw [upd_ne (ne_of h3 hD5 (by intro z; cases z))]
        exact so _ _ h3
      · rw [upd_ne (ne_of_none e' hD)]
        exact so _ _ (s5 b' o' e')
    · rintro H5 ⟨os, hD5, hol, po, s5⟩
      rw [List.take_of_length_le (by simp)] at po
      refine k D (ys.map (rowBack H3)) rw' H5 hD0 pr ?_ ?_ ⟨os, hD5, po⟩ ((s3.trans s4).trans s5)
      · rw [← rows_back pu]
        exact pm.map _
      · exact List.pairwise_map.mpr srt
end
end Nm
set_option maxRecDepth 100000
set_option maxHeartbeats 4000000
namespace Nm
open PySem L2
/-- what of the class is asked -/
structure TxtW (K : PySem.W.Frag) (mg : Str → Option Value) (C : Addr) : Prop extends TxtH mg where
  cl : Cls K C
  nCo : NoAttr K C "_colour_of"
  nNa : NoAttr K C "_names"
  nTi : NoAttr K C "_ties"
  nWi : NoAttr K C "_width_of"
/-- the fields of a web -/
def webF (dc q r wd : Addr) : List (Str × V) := [("_colour_of", .ref dc), ("_names", .ref q), ("_ties", .ref r), ("_width_of", .ref wd)]
/-- the dict of the colours -/
def colK (nm cl : List Str) : List (Key × V) := (nm.zip cl).map fun p => (Sum.inr p.1, V.str p.2)
theorem colK_keys {nm cl : List Str} (h : nm.length ≤ cl.length) : (colK nm cl).map (·.1) = nm.map Sum.inr := by
  unfold colK
  rw [List.map_map]
  have : nm = (nm.zip cl).map (·.1) := by rw [List.map_fst_zip h]
  conv => rhs; rw [this]
  rw [List.map_map]
  rfl
theorem colK_nd {nm cl : List Str} (h : nm.length ≤ cl.length) (nd : nm.Nodup) : ((colK nm cl).map (·.1)).Nodup := by
  rw [colK_keys h]
  exact List.Pairwise.map _ (fun a b hab e => hab (Sum.inr.inj e)) nd
theorem colK_at {nm cl : List Str} (h : nm.length ≤ cl.length) (nd : nm.Nodup) {i : Nat} {x y : Str} (hx : nm[i]? = some x) (hy : cl[i]? = some y) : valV (colK nm cl) (Sum.inr x) = some (V.str y) := by
  refine val_of_mem (colK_nd h nd) ?_
  unfold colK
  refine List.mem_map.mpr ⟨(x, y), ?_, rfl⟩
  refine List.mem_of_getElem? (i := i) ?_
  rw [List.getElem?_zip_eq_some]
  exact ⟨hx, hy⟩
/-- the dict of the widths -/
def widS (nm : List Str) (kv : List (List Key × V)) (r : RowV) : List (List Key × V) := putK (putK kv [Sum.inr ((nm[r.i]?).getD ""), Sum.inr ((nm[r.j]?).getD ""), Sum.inr r.kd] (.int r.w)) [Sum.inr ((nm[r.j]?).getD ""), Sum.inr ((nm[r.i]?).getD ""), Sum.inr r.kd] (.int r.w)
def widK (nm : List Str) (rs : List RowV) : List (List Key × V) := rs.foldl (widS nm) []
theorem widK_step {nm : List Str} {rs : List RowV} {i : Nat} {r : RowV} (h : rs[i]? = some r) : widK nm (rs.take (i + 1)) = widS nm (widK nm (rs.take i)) r := by
  unfold widK
  rw [List.take_add_one, h, Option.toList_some, List.foldl_append]
  rfl
/-- a web stands at p -/
structure WebX (C : Addr) (H : Hp) (p q dc r wd : Addr) (nm cl : List Str) (rs : List RowV) : Prop where
  hp : ∃ dx, H p = some (.ins C dx (webF dc q r wd))
  hq : H q = some (.lst (nm.map V.str))
  hdc : H dc = some (.dK (colK nm cl))
  hr : OrdAt H r nm rs
  hwd : H wd = some (.dT (widK nm rs))
theorem ext_tie {nm : List Str} {H H' : Hp} {r : Addr} {rs : List RowV} (h : OrdAt H r nm rs) (e : ∀ o, H r = some o → H' r = some o) (k : ∀ b xs, H b = some (.tup xs) → H' b = some (.tup xs)) : OrdAt H' r nm rs := by
  obtain ⟨ts, h1, h2⟩ := h
  exact ⟨ts, e _ h1, Paired.mapP h2 fun t r ⟨x, y, a, b, z⟩ => ⟨x, y, a, b, k _ _ z⟩⟩
theorem WebX.same {C : Addr} {H H' : Hp} {p q dc r wd : Addr} {nm cl : List Str} {rs : List RowV} (W : WebX C H p q dc r wd nm cl rs) (s : Same H H') : WebX C H' p q dc r wd nm cl rs := by
  obtain ⟨⟨dx, h1⟩, h2, h3, h4, h5⟩ := W
  exact ⟨⟨dx, s _ _ h1⟩, s _ _ h2, s _ _ h3, ext_tie h4 (fun _ => s _ _) (fun _ _ => s _ _), s _ _ h5⟩
/-- all but what stands at p is kept -/
def But (p : Addr) (H H' : Hp) : Prop := ∀ b o, H b = some o → b ≠ p → H' b = some o
theorem But.of {p : Addr} {H H' : Hp} (h : Same H H') : But p H H' := fun b o e _ => h b o e
theorem But.trans {p : Addr} {H H1 H2 : Hp} (a : But p H H1) (b : But p H1 H2) : But p H H2 := fun c o e n => b c o (a c o e n) n
theorem But.upd {p : Addr} {H : Hp} {o : HO} : But p H (upd H p o) := fun b u e n => by
  rw [upd_ne n]
  exact e
theorem nm_new {nm : List Str} (nd : nm.Nodup) {i : Nat} {x : Str} {kvs : List (Key × V)} (h : nm[i]? = some x) (hk : kvs.map (·.1) = (nm.take i).map Sum.inr) : valV kvs (Sum.inr x) = none := by
  refine val_none_of fun hm => ?_
  rw [hk, ← num_keys] at hm
  have z := num_new nd h
  obtain ⟨v, e⟩ := val_ex hm
  rw [z] at e
  cases e
theorem PlacesAt.but {H H' : Hp} {p pl : Addr} {nm cl : List Str} {C dx : Addr} {fs : List (Str × V)} (h : PlacesAt H pl nm cl) (hp : H p = some (.ins C dx fs)) (b : But p H H') : PlacesAt H' pl nm cl := by
  obtain ⟨ts, h1, h2, h3⟩ := h
  refine ⟨ts, b _ _ h1 (ne_of h1 hp (by intro z; cases z)), h2, fun i t ht => ?_⟩
  obtain ⟨x, y, hx, hy, e⟩ := h3 i t ht
  exact ⟨x, y, hx, hy, b _ _ e (ne_of e hp (by intro z; cases z))⟩
theorem TiesAt.but {H H' : Hp} {p q : Addr} {tl : List TieV} {C dx : Addr} {fs : List (Str × V)} (h : TiesAt H q tl) (hp : H p = some (.ins C dx fs)) (b : But p H H') : TiesAt H' q tl := by
  obtain ⟨ts, h1, h2⟩ := h
  exact ⟨ts, b _ _ h1 (ne_of h1 hp (by intro z; cases z)), Paired.mapP h2 fun t v e => b _ _ e (ne_of e hp (by intro z; cases z))⟩
section
variable {P : Program} {w : World} {K : PySem.W.Frag} {mg : Str → Option Value} {base : Heap}
/-! ### need_ties: what is asked of it -/
def spNeedT : Sp := fun vs H Q _ => ∃ (p d : Addr) (tl : List TieV) (nm : List Str) (kvs : List (Key × V)), vs = [.ref p, .ref d] ∧ TiesAt H p tl ∧ H d = some (.dK kvs) ∧ kvs.map (·.1) = nm.map Sum.inr ∧ (∀ t ∈ tl, t.Ok nm) ∧ (tl.map TieV.spot).Nodup ∧ tl.length ≤ 4800 ∧
  ∀ H', Same H H' → Q .non H'
/-! ### Web.__init__ -/
def spWebI (C : Addr) : Sp := fun vs H Q _ => ∃ (p dx pl tt : Addr) (nm cl : List Str) (tl : List TieV), vs = [.ref p, .ref pl, .ref tt] ∧ H p = some (.ins C dx []) ∧ PlacesAt H pl nm cl ∧ TiesAt H tt tl ∧ 1 ≤ nm.length ∧ nm.length ≤ 1000 ∧ nm.Nodup ∧ (∀ x ∈ nm, isWordB x = true) ∧ (∀ x ∈ cl, isWordB x = true) ∧
  (∀ t ∈ tl, t.Ok nm) ∧ (tl.map TieV.spot).Nodup ∧ tl.length ≤ 4800 ∧ ∀ (q dc r wd : Addr) (rs rw : List RowV) (H' : Hp), H q = none → H dc = none → H r = none → H wd = none → WebX C H' p q dc r wd nm cl rs → Paired (RowOf nm) tl rw → rs.Perm rw → rs.Pairwise (fun x y => lexK (rowK y.key) (rowK x.key) = false) → But p H H' → Q .non H'
abbrev nWI : List Str := ["self", "places", "ties", "one", "other", "kind", "width", "name", "colour", "_"]
theorem scWI : FnScope nWI ["self", "places", "ties"] (defScope sWebInit) := ⟨rfl, rfl, rfl, by decide +kernel, rfl, by decide +kernel, by decide +kernel⟩
theorem ok_webI {f C : Addr} {fd : FuncData} (F : Fun K "__init__" "Web.__init__" sWebInit f fd) (T : TxtW K mg C) (Gp : Def P w K mg base "need_places" ["places"] 3 spNeedP) (Gt : Def P w K mg base "need_ties" ["ties", "names"] 4 spNeedT) (Go : Def P w K mg base "ordered_ties" ["ties", "names"] 1 spOrd) :
    FnOk P w K mg base CX0 5 f fd ["self", "places", "ties"] (spWebI C) := by
  obtain ⟨fp, fdp, Gp, mp, kp, bp⟩ := Gp.ex
  obtain ⟨ft, fdt, Gt, mt, kt, bt⟩ := Gt.ex
  obtain ⟨fo, fdo, Go, mo, ko, bo⟩ := Go.ex
  refine F.ok scWI (fun vs H Q E h => ?_) (fun cdv A outer s H vs Q E hr h => ?_)
  · obtain ⟨_, _, _, _, _, _, _, rfl, _⟩ := h
    rfl
  · obtain ⟨p, dx, pl, tt, nm, cl, tl, rfl, hp, hpl, htt, h1, hn, nd, hnw, hcw, hok, hsp, htl, k⟩ := h
    have hcl : nm.length ≤ cl.length := by
      obtain ⟨ts, _, hl, ht⟩ := hpl
      have : 0 < ts.length := by omega
      obtain ⟨x, y, _, hy, _⟩ := ht (ts.length - 1) _ (List.getElem?_eq_getElem (by omega))
      have := (List.getElem?_eq_some_iff.mp hy).1
      omega
    have hu := hu_of hr
    have hr1 := hr.mono (by decide : 1 ≤ 4)
    have hr2 := hr.mono (by decide : 3 ≤ 4)
    refine ⟨_, pss_cons (ps_expr (pe_call Gp hr2 (by rfl) mp kp bp .nil pass0 (pa_cons (pv 1) pa_nil)))
      (Evl.pss_cut (ps_fld (pv 0) (pe_dc (own := [("name", 7), ("colour", 8)]) (g := gTup K 2 (gCons (gName 7) (gCons (gName 8) gNil))) (tt := tYes) rfl scWI.nd (pi_list (pv 1)) (blkOk_by (N := nWI) (sc := defScope sWebInit) (by decide +kernel))
          (fun _ _ _ _ _ => pg_tup rfl (pgs_cons (pg_name (i := 7) scWI.nd rfl (Or.inl rfl)) (pgs_cons (pg_name (i := 8) scWI.nd rfl (Or.inl rfl)) pgs_nil))) (fun _ _ _ _ _ => pts_nil) (fun _ _ _ _ _ => pv 7) (fun _ _ _ _ _ => pv 8)) rfl)
      (pss_cons (ps_expr (pe_call Gt hr (by rfl) mt kt bt .nil pass0 (pa_cons (pv 2) (pa_cons (pe_fld (pv 0) rfl) pa_nil))))
      (Evl.pss_cut (ps_fld (pv 0) (pe_lc (own := [("name", 7), ("_", 9)]) (g := gTup K 2 (gCons (gName 7) (gCons (gName 9) gNil))) (tt := tYes) (te := tVar 7) rfl scWI.nd (pi_list (pv 1)) (blkOk_by (N := nWI) (sc := defScope sWebInit) (by decide +kernel))
          (fun _ _ _ _ _ => pg_tup rfl (pgs_cons (pg_name (i := 7) scWI.nd rfl (Or.inl rfl)) (pgs_cons (pg_name (i := 9) scWI.nd rfl (Or.inl rfl)) pgs_nil))) (fun _ _ _ _ _ => pts_nil) (fun _ _ _ _ _ => pv 7)) rfl)
      (pss_cons (ps_fld (pv 0) (pe_call Go hr1 (by rfl) mo ko bo .nil pass0 (pa_cons (pv 2) (pa_cons (pe_fld (pv 0) rfl) pa_nil))) rfl)
      (pss_cons (ps_fld (pv 0) pe_dnewT rfl)
      (pss_one (ps_for PassesOwn.never rfl (pi_list (pe_fld (pv 0) rfl)) (pg_tup rfl (pgs_cons (pg_name (i := 3) scWI.nd rfl (.inl rfl)) (pgs_cons (pg_name (i := 4) scWI.nd rfl (.inl rfl)) (pgs_cons (pg_name (i := 5) scWI.nd rfl (.inl rfl)) (pgs_cons (pg_name (i := 6) scWI.nd rfl (.inl rfl)) pgs_nil)))))
        (pss_cons (ps_dput hu (pe_fld (pv 0) rfl) (pe_tup (pa_cons (pv 3) (pa_cons (pv 4) (pa_cons (pv 5) pa_nil)))) (pv 6) rfl)
        (pss_one (ps_dput hu (pe_fld (pv 0) rfl) (pe_tup (pa_cons (pv 4) (pa_cons (pv 3) (pa_cons (pv 5) pa_nil)))) (pv 6) rfl)))))))))), ?_⟩
    refine ⟨_, rfl, pl, nm, cl, rfl, hpl, h1, hn, nd, hnw, hcw, fun H1 s1 => ?_⟩
    have hp1 := s1 _ _ hp
    have b1 : But p H H1 := But.of s1
    -- the colours
    refine ⟨fun σ H2 => ∃ dc, σ = [some (.ref p), some (.ref pl), some (.ref tt), none, none, none, none, none, none, none] ∧ H dc = none ∧ H2 p = some (.ins C dx (putF "_colour_of" (.ref dc) [])) ∧ H2 dc = some (.dK (colK nm cl)) ∧ But p H H2, ?_, ?_⟩
    · obtain ⟨ts, hpl1, hlen, hts⟩ := hpl.but hp b1
      refine ⟨_, rfl, pl, rfl, ⟨_, SqL.of hpl1⟩, fun D hD => ?_⟩
      refine dc_walk (walk_list (xs := ts.map V.ref)) (fun i H2 => H2 D = some (.dK ((colK nm cl).take i)) ∧ Same H1 H2) ⟨upd_same, same_new hD⟩ (fun i H2 _ h => SqL.of (h.2 _ _ hpl1)) ?_ ?_
      · rintro i x H2 H3 hi ⟨hD2, s2⟩ ⟨rfl, hx⟩
        rw [List.length_map] at hi
        rw [List.getElem?_map] at hx
        obtain ⟨t, ht, rfl⟩ := Option.map_eq_some_iff.mp hx
        obtain ⟨x, y, hx, hy, htt'⟩ := hts i t ht
        refine ⟨t, _, rfl, SqT.of (s2 _ _ htt'), rfl, _, _, rfl, _, _, rfl, rfl, rfl, tyes ?_⟩
        have hk : ((colK nm cl).take i).map (·.1) = (nm.take i).map Sum.inr := by rw [List.map_take, colK_keys hcl, List.map_take]
        have hkl : ((colK nm cl).take i).length ≤ i := by rw [List.length_take]; omega
        have hci : (colK nm cl)[i]? = some (Sum.inr x, V.str y) := by
          unfold colK
          have hz : (nm.zip cl)[i]? = some (x, y) := by rw [List.getElem?_zip_eq_some]; exact ⟨hx, hy⟩
          rw [List.getElem?_map, hz]
          rfl
        refine ⟨_, rfl, _, rfl, _, Sum.inr x, rfl, hD2, Evl.sz_lt (by omega), ?_, fun b o e => ?_⟩
        · rw [upd_same, putK_new _ (nm_new nd hx hk), List.take_add_one, hci]
          rfl
        · rw [upd_ne (ne_of_none e hD)]
          exact s2 b o e
      · rintro H2 ⟨hD2, s2⟩
        rw [List.length_map, hlen, List.take_of_length_le (by unfold colK; rw [List.length_map, List.length_zip]; omega)] at hD2
        have hp2 := s2 _ _ hp1
        have npD : D ≠ p := ne_of hD2 hp2 (by intro z; cases z)
        refine ⟨_, rfl, p, C, dx, _, rfl, hp2, T.cl, T.nCo, (by show 0 < 1000; decide), D, rfl, s1.free hD, upd_same, by rw [upd_ne npD]; exact hD2, ?_⟩
        exact (b1.trans (But.of s2)).trans But.upd
    rintro σ H2 ⟨dc, rfl, hdc0, hp2, hdc2, b2⟩
    -- need_ties
    refine ⟨_, rfl, _, rfl, p, C, dx, _, _, rfl, hp2, T.cl, T.nCo, (by rw [lookup_putF, if_pos rfl]), tt, dc, tl, nm, colK nm cl, rfl, htt.but hp b2, hdc2, colK_keys hcl, hok, hsp, htl, fun H3 s3 => ?_⟩
    have hp3 := s3 _ _ hp2
    have b3 := b2.trans (But.of s3)
    have ndp : dc ≠ p := ne_of hdc2 hp2 (by intro z; cases z)
    -- the names
    refine ⟨fun σ H4 => ∃ q, σ = [some (.ref p), some (.ref pl), some (.ref tt), none, none, none, none, none, none, none] ∧ H4 p = some (.ins C dx (putF "_names" (.ref q) (putF "_colour_of" (.ref dc) []))) ∧ (H4 dc = some (.dK (colK nm cl)) ∧ dc ≠ p) ∧ H q = none ∧ H4 q = some (.lst (nm.map V.str)) ∧ But p H H4, ?_, ?_⟩
    · obtain ⟨ts, hpl3, hlen, hts⟩ := hpl.but hp b3
      refine ⟨_, rfl, pl, rfl, ⟨_, SqL.of hpl3⟩, fun D hD => ?_⟩
      refine lc_list (xs := ts.map V.ref) (fun i H4 => H4 D = some (.lst ((nm.take i).map V.str)) ∧ Same H3 H4) ⟨upd_same, same_new hD⟩ (fun i H4 _ h => SqL.of (h.2 _ _ hpl3)) ?_ ?_
      · rintro i x H4 hx ⟨hD4, s4⟩
        have hi := (List.getElem?_eq_some_iff.mp hx).1
        rw [List.length_map] at hi
        rw [List.getElem?_map] at hx
        obtain ⟨t, ht, rfl⟩ := Option.map_eq_some_iff.mp hx
        obtain ⟨x, y, hx, hy, htt'⟩ := hts i t ht
        refine ⟨t, _, rfl, SqT.of (s4 _ _ htt'), rfl, _, _, rfl, _, _, rfl, rfl, rfl, tyes ?_⟩
        refine ⟨_, rfl, _, hD4, Evl.sz_lt (by rw [List.length_map, List.length_take]; omega), ?_, fun b o e => ?_⟩
        · rw [upd_same, List.take_add_one, hx, List.map_append]
          rfl
        · rw [upd_ne (ne_of_none e hD)]
          exact s4 b o e
      · rintro H4 ⟨hD4, s4⟩
        rw [List.length_map, hlen, List.take_of_length_le (Nat.le_refl _)] at hD4
        have hp4 := s4 _ _ hp3
        have npD : D ≠ p := ne_of hD4 hp4 (by intro z; cases z)
        have hD0 : H D = none := by
          cases e : H D with
          | none => rfl
          | some o =>
            have := b3 D o e npD
            rw [hD] at this
            cases this
        refine ⟨_, rfl, p, C, dx, _, rfl, hp4, T.cl, T.nNa, Nat.lt_of_le_of_lt (length_putF _ _ _) (by show 1 < 1000; decide), D, rfl, upd_same, ⟨by rw [upd_ne ndp]; exact s4 _ _ (s3 _ _ hdc2), ndp⟩, hD0, by rw [upd_ne npD]; exact hD4, ?_⟩
        exact (b3.trans (But.of s4)).trans But.upd
    rintro σ H4 ⟨q, rfl, hp4, ⟨hdc4, ndp⟩, hq0, hq4, b4⟩
    generalize hfs1 : putF "_names" (V.ref q) (putF "_colour_of" (.ref dc) []) = fs at *
    have hfl : fs.length ≤ 2 := by
      rw [← hfs1]
      exact Nat.le_trans (length_putF _ _ _) (Nat.succ_le_succ (length_putF _ _ _))
    have hfn : fs.lookup ("_names" : Str) = some (.ref q) := by rw [← hfs1, lookup_putF, if_pos rfl]
    -- the ties in order
    refine ⟨_, rfl, _, rfl, p, C, dx, _, _, rfl, hp4, T.cl, T.nNa, hfn, tt, q, nm, tl, rfl, htt.but hp b4, hq4, nd, hn, (by omega), hok, fun r rs rw' H5 hr0 pr pm srt ho s5 => ?_⟩
    have hp5 := s5 _ _ hp4
    have b5 := b4.trans (But.of s5)
    refine ⟨_, rfl, p, C, dx, _, rfl, hp5, T.cl, T.nTi, (by omega), ?_⟩
    have hrl : rs.length = tl.length := by rw [pm.length_eq, ← Paired.length pr]
    have hr00 : H r = none := by
      cases e : H r with
      | none => rfl
      | some o =>
        by_cases z : r = p
        · rw [z, hp4] at hr0
          cases hr0
        · have := b4 r o e z
          rw [hr0] at this
          cases this
    have ho5 := ho
    obtain ⟨os, hos, hpr⟩ := ho
    have nrp : r ≠ p := ne_of hos hp5 (by intro z; cases z)
    have nqp : q ≠ p := ne_of hq4 hp4 (by intro z; cases z)
    generalize hfs2 : putF "_ties" (V.ref r) fs = fs2
    have hfl2 : fs2.length ≤ 3 := by have := length_putF "_ties" (V.ref r) fs; rw [hfs2] at this; omega
    have hft2 : fs2.lookup ("_ties" : Str) = some (.ref r) := by rw [← hfs2, lookup_putF, if_pos rfl]
    have b6 : But p H5 (upd H5 p (.ins C dx fs2)) := But.upd
    have hp6 : (upd H5 p (.ins C dx fs2)) p = some (.ins C dx fs2) := upd_same
    generalize upd H5 p (.ins C dx fs2) = H6 at *
    -- the widths
    intro wd hwd
    have s7 := same_new (o := .dT []) hwd
    have hwd7 : (upd H6 wd (.dT [])) wd = some (.dT []) := upd_same
    generalize upd H6 wd (.dT []) = H7 at *
    have hp7 := s7 _ _ hp6
    refine ⟨_, rfl, p, C, dx, _, rfl, hp7, T.cl, T.nWi, (by omega), ?_⟩
    generalize hfs3 : putF "_width_of" (V.ref wd) fs2 = fs3
    have hft3 : fs3.lookup ("_ties" : Str) = some (.ref r) := by rw [← hfs3, lookup_putF, if_neg (by decide +kernel)]; exact hft2
    have hfw3 : fs3.lookup ("_width_of" : Str) = some (.ref wd) := by rw [← hfs3, lookup_putF, if_pos rfl]
    have nwp : wd ≠ p := ne_of hwd7 hp7 (by intro z; cases z)
    have b8 : But p H7 (upd H7 p (.ins C dx fs3)) := But.upd
    have hp8 : (upd H7 p (.ins C dx fs3)) p = some (.ins C dx fs3) := upd_same
    generalize upd H7 p (.ins C dx fs3) = H8 at *
    have bb : But p H H8 := ((b5.trans b6).trans (But.of s7)).trans b8
    have b58 : But p H5 H8 := (b6.trans (But.of s7)).trans b8
    have hwd8 := b8 _ _ hwd7 nwp
    have hr8 := b58 _ _ hos nrp
    have hq8 := b58 _ _ (s5 _ _ hq4) nqp
    have hdc8 := b58 _ _ (s5 _ _ hdc4) ndp
    have ndw : dc ≠ wd := ne_of hdc8 hwd8 (by intro z; cases z)
    have hw0 : H wd = none := by
      cases e : H wd with
      | none => rfl
      | some o =>
        have := (b5.trans b6) wd o e nwp
        rw [hwd] at this
        cases this
    have nrw : r ≠ wd := ne_of hr8 hwd8 (by intro z; cases z)
    have nqw : q ≠ wd := ne_of hq8 hwd8 (by intro z; cases z)
    have hpr8 : Paired (fun t (r : RowV) => ∃ x y, nm[r.i]? = some x ∧ nm[r.j]? = some y ∧ H8 t = some (.tup [.str x, .str y, .str r.kd, .int r.w])) os rs := Paired.mapP hpr fun t r ⟨x, y, hx, hy, h⟩ => ⟨x, y, hx, hy, b58 _ _ h (ne_of h hp5 (by intro z; cases z))⟩
    refine ⟨_, rfl, p, C, dx, _, _, rfl, hp8, T.cl, T.nTi, hft3, r, rfl, ⟨_, SqL.of hr8⟩, ?_⟩
    refine for_list (xs := os.map V.ref) (fun i σ H9 => ∃ v3 v4 v5 v6, σ = [some (.ref p), some (.ref pl), some (.ref tt), v3, v4, v5, v6, none, none, none] ∧ H9 wd = some (.dT (widK nm (rs.take i))) ∧ (widK nm (rs.take i)).length ≤ 2 * i ∧ But wd H8 H9) ⟨none, none, none, none, rfl, hwd8, Nat.le_refl _, fun b o e _ => e⟩ (fun i σ H9 _ ⟨_, _, _, _, _, _, _, h⟩ => SqL.of (h _ _ hr8 nrw)) ?_ ?_
    · rintro i v σ H9 hi ⟨v3, v4, v5, v6, rfl, hwd9, hkl, b9⟩
      have hil := (List.getElem?_eq_some_iff.mp hi).1
      rw [List.length_map, Paired.length hpr, hrl] at hil
      rw [List.getElem?_map] at hi
      obtain ⟨t, ht, rfl⟩ := Option.map_eq_some_iff.mp hi
      obtain ⟨rv, hrv, x, y, hxi, hyj, htt8⟩ := paired_get hpr8 ht
      have est := widK_step (nm := nm) hrv
      unfold widS at est
      rw [hxi, hyj, Option.getD_some, Option.getD_some] at est
      generalize hkv0 : widK nm (rs.take i) = kv at hwd9 hkl est
      have nt : t ≠ wd := ne_of htt8 hwd8 (by intro z; cases z)
      have hp9 := b9 _ _ hp8 nwp.symm
      refine ⟨t, _, rfl, SqT.of (b9 _ _ htt8 nt), rfl, _, _, rfl, _, _, rfl, _, _, rfl, _, _, rfl, rfl, ?_⟩
      refine ⟨_, rfl, _, rfl, p, C, dx, _, _, rfl, hp9, T.cl, T.nWi, hfw3, _, rfl, _, rfl, _, rfl, (by show 3 ≤ sizeLine; decide), fun u hu' => ?_⟩
      have su := same_new (o := .tup [V.str x, V.str y, V.str rv.kd]) hu'
      have hu1 : (upd H9 u (.tup [V.str x, V.str y, V.str rv.kd])) u = some (.tup (List.map kV [Sum.inr x, Sum.inr y, Sum.inr rv.kd])) := upd_same
      generalize upd H9 u (.tup [V.str x, V.str y, V.str rv.kd]) = H10 at *
      refine ⟨wd, _, rfl, DPut.t (su _ _ hwd9) hu1 (Evl.sz_lt (by omega)), ?_⟩
      have l1 := length_putK kv [Sum.inr x, Sum.inr y, Sum.inr rv.kd] (V.int rv.w)
      generalize putK kv [Sum.inr x, Sum.inr y, Sum.inr rv.kd] (V.int rv.w) = kv1 at *
      have b11 : But wd H9 (upd H10 wd (.dT kv1)) := (But.of su).trans But.upd
      have hwd11 : (upd H10 wd (.dT kv1)) wd = some (.dT kv1) := upd_same
      generalize upd H10 wd (.dT kv1) = H11 at *
      refine ⟨_, rfl, _, rfl, p, C, dx, _, _, rfl, b11 _ _ hp9 nwp.symm, T.cl, T.nWi, hfw3, _, rfl, _, rfl, _, rfl, (by show 3 ≤ sizeLine; decide), fun u2 hu2 => ?_⟩
      have su2 := same_new (o := .tup [V.str y, V.str x, V.str rv.kd]) hu2
      have hu3 : (upd H11 u2 (.tup [V.str y, V.str x, V.str rv.kd])) u2 = some (.tup (List.map kV [Sum.inr y, Sum.inr x, Sum.inr rv.kd])) := upd_same
      generalize upd H11 u2 (.tup [V.str y, V.str x, V.str rv.kd]) = H12 at *
      refine ⟨wd, _, rfl, DPut.t (su2 _ _ hwd11) hu3 (Evl.sz_lt (by omega)), ?_⟩
      have l2 := length_putK kv1 [Sum.inr y, Sum.inr x, Sum.inr rv.kd] (V.int rv.w)
      exact ⟨_, _, _, _, rfl, by rw [upd_same, est], by rw [est]; omega, ((b9.trans b11).trans (But.of su2)).trans But.upd⟩
    · rintro σ H9 ⟨v3, v4, v5, v6, rfl, hwd9, hkl, b9⟩
      rw [List.length_map, Paired.length hpr, List.take_length] at hwd9
      have e3 : fs3 = webF dc q r wd := by
        rw [← hfs3, ← hfs2, ← hfs1]
        rfl
      refine k q dc r wd rs rw' H9 hq0 hdc0 hr00 hw0 ⟨⟨dx, by rw [← e3]; exact b9 _ _ hp8 nwp.symm⟩, b9 _ _ hq8 nqw, b9 _ _ hdc8 ndw, ?_, hwd9⟩ pr pm srt fun b o e hb => b9 _ _ (bb b o e hb) (ne_of_none e hw0)
      refine ext_tie ho5 (fun o e => b9 _ _ (b58 _ _ e nrp) nrw) (fun b xs e => ?_)
      have e8 := b58 _ _ e (ne_of e hp5 (by intro z; cases z))
      exact b9 _ _ e8 (ne_of e8 hwd8 (by intro z; cases z))
end
end Nm
set_option maxRecDepth 100000
set_option maxHeartbeats 4000000
/-! x in o, o an instance whose class has its own __contains__ -/
namespace Nm
open PySem PySem.Spec PyProof.Rows L2
section
variable {X : Cx}
def rHasOwn (C : Addr) (sp : Sp) (E : XK) : R2 := fun x y H Q => ∃ (a dx : Addr) (fs : List (Str × V)), y = .ref a ∧ H a = some (.ins C dx fs) ∧ sp [.ref a, x] H (fun v H1 => ∃ b : Bool, v = .bl b ∧ Q (.bl b) H1) E
theorem spec_own {K : PySem.W.Frag} {M : Model} {A : Around} {s : Shared} {E : Value → Shared → Prop} {a C f : Addr} {ox : Obj} {od : Option Obj} {name : Str} {Q : Option Value → Shared → Prop} (KX : K.In s.heap) (J : PySem.W.InstAt s.heap a ox C od) (hs : PySem.W.findIn K (.ref C) name = some (some (.ref f)))
    (q : Q (some (.ref f)) s) : wpAny M A (specialOf (.ref a) name) Q E s := by
  unfold specialOf
  exact wpAny_bind (J.type.here ((PySem.W.looks_findIn KX hs).here q))
theorem has_own {k : Nat} {f C : Addr} {fd : FuncData} {ps : List Str} {sp : Sp} {CX : CXT} {E : XK} (F : FnOk X.prog X.w X.K X.mg X.base CX k f fd ps sp) (M : Meth X.K C "__contains__" f) (hr : Room k X.A) (hb : Binds X.K fd ps []) (hx : Passes CX X E)
    {pins : List (Addr × Obj)} {s : Shared} {σ : L2.St} {H : Hp} {x y : V} {v u : Value} {Q : Bool → Shared → Prop} (I : Inv X pins σ H s) (rx : RelV x v) (ry : RelV y u)
    (h : ∃ (a dx : Addr) (fs : List (Str × V)), y = .ref a ∧ H a = some (.ins C dx fs) ∧ sp [.ref a, x] H (fun v H1 => ∃ b : Bool, v = .bl b ∧ ∀ s1, Inv X pins σ H1 s1 → Q b s1) E) : wpAny (model X.prog X.w) X.A (contains u v) Q X.xe s := by
  obtain ⟨a, dx, fs, rfl, ha, h⟩ := h
  cases (show u = Value.ref a from ry)
  obtain ⟨mA, O, _⟩ := ins_get I.hok ha
  obtain ⟨od, J, _⟩ := O.look
  have fn : PySem.W.typeIn X.K (.ref f) = some (.type "function") := beq_iff_eq.mp M.fn
  have rr : Vals [V.ref a, x] [Value.ref a, v] := .cons rfl (.cons rx .nil)
  have hl : ([Value.ref a, v] : List Value).length = ps.length := by rw [← rr.length]; exact F.len _ _ _ _ h
  have b := hb s [.ref a, v] I.kIn (by rw [List.append_nil]; exact hl)
  rw [List.append_nil] at b
  unfold contains
  refine wpAny_holding ?_
  dsimp only [stdlibNamesSay?]
  refine wpAny_bind (spec_own I.kIn J M.at_ ?_)
  show wpAny _ _ (if (some (Value.ref f) == some Value.none) = true then _ else _) _ _ _
  rw [if_neg (by simp)]
  unfold callSpecialUnlessNone?
  refine wpAny_bind (wpAny_bind (spec_own I.kIn J M.at_ ?_))
  refine wpAny_holding (wpAny_bind ((PySem.W.bind_fn I.kIn _ fn).here ?_))
  show wpAny _ _ (if (Value.ref f == Value.none) = true then _ else _) _ _ _
  rw [if_neg (by simp)]
  refine wpAny_bind (wpAny_call (codeAny_mono (F.run X.A X.stack s H ⟨[.ref a, v], []⟩ [.ref a, v] [.ref a, x] _ E hr I.env0 b rr h) fun r s' hq => ?_))
  cases r with
  | error e => exact hx pins σ H s e s' I hq
  | ok fl =>
    cases fl with
    | ret u =>
      obtain ⟨w1, H', I', rv, b, rfl, q⟩ := I.after hq
      cases (show u = Value.bool b from rv)
      exact wpAny_pure (wpAny_truthy_bool (q _ I'))
    | next => exact False.elim hq
    | brk => exact False.elim hq
    | cont => exact False.elim hq
theorem op_inOwn {k : Nat} {f C : Addr} {fd : FuncData} {ps : List Str} {sp : Sp} {CX : CXT} {E : XK} (F : FnOk X.prog X.w X.K X.mg X.base CX k f fd ps sp) (M : Meth X.K C "__contains__" f) (hr : Room k X.A) (hb : Binds X.K fd ps []) (hx : Passes CX X E) (mono : ∀ {vs H} {Q Q' : VK}, (∀ v H, Q v H → Q' v H) → sp vs H Q E → sp vs H Q' E) :
    OpR X (compareOp .In) (rHasOwn C sp E) := by
  intro pins s σ H x y v u Q I rx ry h
  obtain ⟨a, dx, fs, rfl, ha, h⟩ := h
  show wpAny _ _ (contains u v >>= fun b => (pure (Value.bool b) : Sem Value)) _ _ _
  refine wpAny_bind (has_own F M hr hb hx I rx ry ⟨a, dx, fs, rfl, ha, mono (fun w1 H1 ⟨b, e, q⟩ => ⟨b, e, fun s1 I1 => wpAny_pure ⟨.bl b, H1, I1, rfl, q⟩⟩) h⟩)
theorem op_notInOwn {k : Nat} {f C : Addr} {fd : FuncData} {ps : List Str} {sp : Sp} {CX : CXT} {E : XK} (F : FnOk X.prog X.w X.K X.mg X.base CX k f fd ps sp) (M : Meth X.K C "__contains__" f) (hr : Room k X.A) (hb : Binds X.K fd ps []) (hx : Passes CX X E) (mono : ∀ {vs H} {Q Q' : VK}, (∀ v H, Q v H → Q' v H) → sp vs H Q E → sp vs H Q' E) :
    OpR X (compareOp .NotIn) (fun x y H Q => ∃ (a dx : Addr) (fs : List (Str × V)), y = .ref a ∧ H a = some (.ins C dx fs) ∧ sp [.ref a, x] H (fun v H1 => ∃ b : Bool, v = .bl b ∧ Q (.bl (!b)) H1) E) := by
  intro pins s σ H x y v u Q I rx ry h
  obtain ⟨a, dx, fs, rfl, ha, h⟩ := h
  show wpAny _ _ (contains u v >>= fun b => (pure (Value.bool (!b)) : Sem Value)) _ _ _
  refine wpAny_bind (has_own F M hr hb hx I rx ry ⟨a, dx, fs, rfl, ha, mono (fun w1 H1 ⟨b, e, q⟩ => ⟨b, e, fun s1 I1 => wpAny_pure ⟨.bl (!b), H1, I1, rfl, q⟩⟩) h⟩)
end
end Nm
set_option maxRecDepth 100000
set_option maxHeartbeats 4000000
namespace Nm
open PySem L2
/-- a method and its promise -/
structure MethD (P : Program) (w : World) (K : PySem.W.Frag) (mg : Str → Option Value) (base : Heap) (C : Addr) (m : Str) (ps : List Str) (k : Nat) (sp : Sp) : Prop where
  ex : ∃ f fd, FnOk P w K mg base CX0 k f fd ps sp ∧ Meth K C m f ∧ Binds K fd ps []
/-- the places over y -/
def overL (nm' : List Str) (g : Str → Str) (y : Str) : List Str := nm'.filter fun x => decide (g x = y)
theorem overL_yes {nm' : List Str} {g : Str → Str} {y x : Str} {i : Nat} (h : nm'[i]? = some x) (e : g x = y) : overL (nm'.take (i + 1)) g y = overL (nm'.take i) g y ++ [x] := by
  unfold overL
  rw [List.take_add_one, h, List.filter_append]
  simp [e]
theorem overL_no {nm' : List Str} {g : Str → Str} {y x : Str} {i : Nat} (h : nm'[i]? = some x) (e : ¬ g x = y) : overL (nm'.take (i + 1)) g y = overL (nm'.take i) g y := by
  unfold overL
  rw [List.take_add_one, h, List.filter_append]
  simp [e]
theorem overL_len (nm' : List Str) (g : Str → Str) (y : Str) : (overL nm' g y).length ≤ nm'.length := List.length_filter_le _ _
/-- names and the lists over them -/
def poKV (nm : List Str) (as : List Addr) : List (Key × V) := (nm.zip as).map fun p => (Sum.inr p.1, V.ref p.2)
theorem po_keys {nm : List Str} {as : List Addr} (h : as.length = nm.length) : (poKV nm as).map (·.1) = nm.map Sum.inr := by
  unfold poKV
  rw [List.map_map]
  have : nm = (nm.zip as).map (·.1) := by rw [List.map_fst_zip (by omega)]
  conv => rhs; rw [this]
  rw [List.map_map]
  rfl
theorem po_nd {nm : List Str} {as : List Addr} (h : as.length = nm.length) (nd : nm.Nodup) : ((poKV nm as).map (·.1)).Nodup := by
  rw [po_keys h]
  exact List.Pairwise.map _ (fun a b hab e => hab (Sum.inr.inj e)) nd
theorem po_at {nm : List Str} {as : List Addr} (h : as.length = nm.length) (nd : nm.Nodup) {q : Nat} {y : Str} {a : Addr} (hy : nm[q]? = some y) (ha : as[q]? = some a) : valV (poKV nm as) (Sum.inr y) = some (V.ref a) := by
  refine val_of_mem (po_nd h nd) ?_
  unfold poKV
  refine List.mem_map.mpr ⟨(y, a), ?_, rfl⟩
  refine List.mem_of_getElem? (i := q) ?_
  rw [List.getElem?_zip_eq_some]
  exact ⟨hy, ha⟩
section
variable {P : Program} {w : World} {K : PySem.W.Frag} {mg : Str → Option Value} {base : Heap}
/-! ### Web.places -/
def spPlaces (C : Addr) : Sp := fun vs H Q _ => ∃ (p q dc r wd : Addr) (nm cl : List Str) (rs : List RowV), vs = [.ref p] ∧ WebX C H p q dc r wd nm cl rs ∧ nm.length ≤ 1000 ∧ ∀ (l : Addr) (H' : Hp), H l = none → H' l = some (.lst (nm.map V.str)) → Same H H' → Q (.ref l) H'
theorem scPl : FnScope ["self"] ["self"] (defScope sWebPlaces) := ⟨rfl, rfl, rfl, by decide +kernel, rfl, by decide +kernel, by decide +kernel⟩
theorem ok_places {f C : Addr} {fd : FuncData} (F : Fun K "places" "Web.places" sWebPlaces f fd) (T : TxtW K mg C) : FnOk P w K mg base CX0 1 f fd ["self"] (spPlaces C) := by
  refine F.ok scPl (fun vs H Q E h => ?_) (fun cdv A outer s H vs Q E hr h => ?_)
  · obtain ⟨_, _, _, _, _, _, _, _, rfl, _⟩ := h
    rfl
  · obtain ⟨p, q, dc, r, wd, nm, cl, rs, rfl, W, hn, k⟩ := h
    obtain ⟨dx, hp⟩ := W.hp
    refine ⟨_, pss_one (ps_ret (pe_callTy call_list_of (by rfl) T.list (by decide +kernel) (pa_cons (pe_fld (pv 0) rfl) pa_nil))), ?_⟩
    refine ⟨_, rfl, p, C, dx, _, _, rfl, hp, T.cl, T.nNa, rfl, ?_⟩
    exact ⟨q, _, rfl, .inl (SqL.of W.hq), fun r hr0 => k r _ hr0 upd_same (same_new hr0)⟩
/-! ### Web.ties -/
def spTies (C : Addr) : Sp := fun vs H Q _ => ∃ (p q dc r wd : Addr) (nm cl : List Str) (rs : List RowV), vs = [.ref p] ∧ WebX C H p q dc r wd nm cl rs ∧ ∀ (l : Addr) (H' : Hp), H l = none → OrdAt H' l nm rs → Same H H' → Q (.ref l) H'
theorem scTi : FnScope ["self"] ["self"] (defScope sWebTies) := ⟨rfl, rfl, rfl, by decide +kernel, rfl, by decide +kernel, by decide +kernel⟩
theorem ok_ties {f C : Addr} {fd : FuncData} (F : Fun K "ties" "Web.ties" sWebTies f fd) (T : TxtW K mg C) : FnOk P w K mg base CX0 1 f fd ["self"] (spTies C) := by
  refine F.ok scTi (fun vs H Q E h => ?_) (fun cdv A outer s H vs Q E hr h => ?_)
  · obtain ⟨_, _, _, _, _, _, _, _, rfl, _⟩ := h
    rfl
  · obtain ⟨p, q, dc, r, wd, nm, cl, rs, rfl, W, k⟩ := h
    obtain ⟨dx, hp⟩ := W.hp
    obtain ⟨ts, h1, h2⟩ := W.hr
    refine ⟨_, pss_one (ps_ret (pe_callTy call_list_of (by rfl) T.list (by decide +kernel) (pa_cons (pe_fld (pv 0) rfl) pa_nil))), ?_⟩
    refine ⟨_, rfl, p, C, dx, _, _, rfl, hp, T.cl, T.nTi, rfl, ?_⟩
    refine ⟨r, _, rfl, .inl (SqL.of h1), fun l hl0 => ?_⟩
    have s := same_new (o := .lst (ts.map V.ref)) hl0
    exact k l _ hl0 ⟨ts, upd_same, Paired.mapP h2 fun t r ⟨x, y, a, b, z⟩ => ⟨x, y, a, b, s _ _ z⟩⟩ s
/-! ### Web.__contains__, of a text -/
def spHas (C : Addr) : Sp := fun vs H Q _ => ∃ (p q dc r wd : Addr) (nm cl : List Str) (rs : List RowV) (z : Str), vs = [.ref p, .str z] ∧ WebX C H p q dc r wd nm cl rs ∧ nm.length ≤ cl.length ∧ Q (.bl (decide (z ∈ nm))) H
theorem spHas_mono {C : Addr} {E : XK} {vs : List V} {H : Hp} {Q Q' : VK} (m : ∀ v H, Q v H → Q' v H) (h : spHas C vs H Q E) : spHas C vs H Q' E := by
  obtain ⟨p, q, dc, r, wd, nm, cl, rs, z, rfl, W, hc, k⟩ := h
  exact ⟨p, q, dc, r, wd, nm, cl, rs, z, rfl, W, hc, m _ _ k⟩
theorem key_in {nm : List Str} {kc : List (Key × V)} (h : kc.map (·.1) = nm.map Sum.inr) (z : Str) : (valV kc (Sum.inr z)).isSome = decide (z ∈ nm) := by
  cases e : valV kc (Sum.inr z) with
  | some v =>
    have := valV_in e
    rw [h, List.mem_map] at this
    obtain ⟨y, hy, e2⟩ := this
    cases e2
    exact (decide_eq_true hy).symm
  | none =>
    have := valV_not e
    rw [h, List.mem_map] at this
    exact (decide_eq_false fun z1 => this ⟨z, z1, rfl⟩).symm
theorem scHas : FnScope ["self", "name"] ["self", "name"] (defScope sWebHas) := ⟨rfl, rfl, rfl, by decide +kernel, rfl, by decide +kernel, by decide +kernel⟩
theorem ok_has {f C : Addr} {fd : FuncData} (F : Fun K "__contains__" "Web.__contains__" sWebHas f fd) (T : TxtW K mg C) : FnOk P w K mg base CX0 1 f fd ["self", "name"] (spHas C) := by
  refine F.ok scHas (fun vs H Q E h => ?_) (fun cdv A outer s H vs Q E hr h => ?_)
  · obtain ⟨_, _, _, _, _, _, _, _, _, rfl, _⟩ := h
    rfl
  · obtain ⟨p, q, dc, r, wd, nm, cl, rs, z, rfl, W, hc, k⟩ := h
    obtain ⟨dx, hp⟩ := W.hp
    have hu := hu_of hr
    refine ⟨_, pss_one (ps_ret (pe_and (pe_callB call_isi (by rfl) T.isinstance (by decide +kernel) (pa_cons (pv 1) (pa_cons (pe_bltn (v := .ty "str") (by rfl) T.str (by decide +kernel) rfl) pa_nil)))
      (pe_one (pe_cmp (pc_din hu (pv 1) (pe_fld (pv 0) rfl)))))), ?_⟩
    refine ⟨_, rfl, _, _, _, _, true, rfl, ClsV.ty "str", TyX.base (TyOf.str z), kit_ty (by decide +kernel), _, rfl, iteT ?_⟩
    refine ⟨_, rfl, _, rfl, p, C, dx, _, _, rfl, hp, T.cl, T.nCo, rfl, dc, _, rfl, DGet.k (k := Sum.inr z) W.hdc, ?_⟩
    rw [key_in (colK_keys hc)]
    exact k
/-! ### Web.colour, of a name that is there -/
def spColour (C : Addr) : Sp := fun vs H Q _ => ∃ (p q dc r wd : Addr) (nm cl : List Str) (rs : List RowV) (i : Nat) (x y : Str), vs = [.ref p, .str x] ∧ WebX C H p q dc r wd nm cl rs ∧ nm.Nodup ∧ nm.length ≤ cl.length ∧ nm[i]? = some x ∧ cl[i]? = some y ∧ Q (.str y) H
theorem scCo : FnScope ["self", "name"] ["self", "name"] (defScope sWebColour) := ⟨rfl, rfl, rfl, by decide +kernel, rfl, by decide +kernel, by decide +kernel⟩
theorem pss_nope {X : Cx} {b : List Stmt} : PSs X b (fun _ _ _ => False) := ⟨fun _ _ _ _ _ _ h => h.elim⟩
theorem ok_colour {f C : Addr} {fd : FuncData} (F : Fun K "colour" "Web.colour" sWebColour f fd) (T : TxtW K mg C) (Gh : MethD P w K mg base C "__contains__" ["self", "name"] 1 (spHas C)) : FnOk P w K mg base CX0 2 f fd ["self", "name"] (spColour C) := by
  obtain ⟨fh, fdh, Gh, mh, bh⟩ := Gh.ex
  refine F.ok scCo (fun vs H Q E h => ?_) (fun cdv A outer s H vs Q E hr h => ?_)
  · obtain ⟨_, _, _, _, _, _, _, _, _, _, _, rfl, _⟩ := h
    rfl
  · obtain ⟨p, q, dc, r, wd, nm, cl, rs, i, x, y, rfl, W, nd, hc, hx, hy, k⟩ := h
    obtain ⟨dx, hp⟩ := W.hp
    have hu := hu_of hr
    refine ⟨_, pss_cons (ps_if (pt_cmpR (op_notInOwn Gh mh (hr.mono (by decide)) bh pass0 spHas_mono) (pv 1) (pv 0) (by rfl)) pss_nope pss_nil)
      (pss_one (ps_ret (pe_dget hu (pe_fld (pv 0) rfl) (pv 1) (fun _ _ => rfl)))), ?_⟩
    refine ⟨_, rfl, _, rfl, p, dx, _, rfl, hp, p, q, dc, r, wd, nm, cl, rs, x, rfl, W, hc, ?_⟩
    rw [decide_eq_true (List.mem_of_getElem? hx)]
    refine ⟨true, rfl, _, rfl, iteF ?_⟩
    exact ⟨_, rfl, p, C, dx, _, _, rfl, hp, T.cl, T.nCo, rfl, _, rfl, dc, _, rfl, (by rw [← colK_at hc nd hx hy]; exact DGet.k (k := Sum.inr x) W.hdc), k⟩
/-! ### Web.__len__ -/
def spLen (C : Addr) : Sp := fun vs H Q _ => ∃ (p q dc r wd : Addr) (nm cl : List Str) (rs : List RowV), vs = [.ref p] ∧ WebX C H p q dc r wd nm cl rs ∧ Q (.int (nm.length : Nat)) H
theorem scLen : FnScope ["self"] ["self"] (defScope sWebLen) := ⟨rfl, rfl, rfl, by decide +kernel, rfl, by decide +kernel, by decide +kernel⟩
theorem ok_len {f C : Addr} {fd : FuncData} (F : Fun K "__len__" "Web.__len__" sWebLen f fd) (T : TxtW K mg C) : FnOk P w K mg base CX0 1 f fd ["self"] (spLen C) := by
  refine F.ok scLen (fun vs H Q E h => ?_) (fun cdv A outer s H vs Q E hr h => ?_)
  · obtain ⟨_, _, _, _, _, _, _, _, rfl, _⟩ := h
    rfl
  · obtain ⟨p, q, dc, r, wd, nm, cl, rs, rfl, W, k⟩ := h
    obtain ⟨dx, hp⟩ := W.hp
    refine ⟨_, pss_one (ps_ret (pe_callB call_len_seq (by rfl) T.len PySem.boot_len (pa_cons (pe_fld (pv 0) rfl) pa_nil))), ?_⟩
    refine ⟨_, rfl, p, C, dx, _, _, rfl, hp, T.cl, T.nNa, rfl, ?_⟩
    refine ⟨q, _, rfl, .inl (SqL.of W.hq), ?_⟩
    rw [List.length_map]
    exact k
end
end Nm
set_option maxRecDepth 100000
set_option maxHeartbeats 4000000
namespace Nm
open PySem L2
/-- e, and what it gives stands still from here on -/
def tStill (t : TE) : TE := fun σ H Q => t σ H fun x H1 => ∃ d u, x = .ref d ∧ H1 d = some u ∧ Mut (some u) ∧ ∀ od, Q x (upd H1 d (.frz od u))
theorem pe_still {X : Cx} {e : PySem.Expr} {t : TE} (h : PE X e t) : PE X e (tStill t) := by
  refine ⟨fun pins s σ H Q I hw => ?_⟩
  refine thn (h.run pins s σ H _ I hw) fun v s1 ⟨x, H1, I1, r, d, u, _, hd, mu, q⟩ => ?_
  obtain ⟨od, I2⟩ := I1.lock hd mu
  exact ⟨x, _, I2, r, q od⟩
theorem po_get {nm : List Str} {as : List Addr} {i : Nat} {k : Key} {x : V} (h : (poKV nm as)[i]? = some (k, x)) : ∃ y a, nm[i]? = some y ∧ as[i]? = some a ∧ x = V.ref a := by
  unfold poKV at h
  rw [List.getElem?_map] at h
  obtain ⟨⟨y, a⟩, e1, e2⟩ := Option.map_eq_some_iff.mp h
  rw [List.getElem?_zip_eq_some] at e1
  cases e2
  exact ⟨y, a, e1.1, e1.2, rfl⟩
theorem po_len {nm : List Str} {as : List Addr} (h : as.length = nm.length) : (poKV nm as).length = nm.length := by
  unfold poKV
  rw [List.length_map, List.length_zip]
  omega
end Nm
set_option maxRecDepth 100000
set_option maxHeartbeats 4000000
/-! list(zip(xs, ys)) -/
namespace Nm
open PySem PySem.Spec PyProof.Rows L2
theorem zip_lenless : typeLookup (.type "zip") "__len__" = pure none := am_miss_of_fast (by decide +kernel)
theorem zip_hintless : typeLookup (.type "zip") "__length_hint__" = pure none := am_miss_of_fast (by decide +kernel)
/-- a list of references as it stands -/
abbrev refsObj (ts : List Addr) (c : Nat) : Obj := { cls := .type "list", dict := none, data := .seq (ts.map Value.ref).toArray c, slots := #[] }
/-- a zip on its way into the list at S; g: the heap ahead of it all -/
structure ZL (g h : Heap) (z TI TO i1 i2 l1 l2 S : Addr) (xs ys : Array Value) (i : Nat) (ts : List Addr) (c : Nat) : Prop where
  base : ∀ b o, g.get? b = some o → h.get? b = some o
  size : g.objs.size ≤ h.objs.size
  ti : IsPair h TI (.ref i1) (.ref i2)
  a1 : h.IsListIter i1 l1 i
  a2 : h.IsListIter i2 l2 i
  b1 : h.IsList l1 xs
  b2 : h.IsList l2 ys
  to : ∃ u v, IsPair h TO u v
  st : IsZip h z TI TO .none ∨ ∃ T f oT, IsZipHeld h z TI TO T f ∧ h.get? T = some oT ∧ T ≠ z ∧ T ≠ i1 ∧ T ≠ i2 ∧ T ≠ S
  at_ : h.get? S = some (refsObj ts c)
  len : ts.length = i
  nd : ts.Nodup
  each : ∀ (j : Nat) t, ts[j]? = some t → ∃ x y, xs[j]? = some x ∧ ys[j]? = some y ∧ IsPair h t x y ∧ t ≠ z ∧ t ≠ TO ∧ t ≠ i1 ∧ t ≠ i2 ∧ t ≠ S ∧ g.objs.size ≤ t
/-- S stands apart -/
structure Off (g : Heap) (z TI TO i1 i2 l1 l2 S : Addr) : Prop where
  oz : S ≠ z
  oti : S ≠ TI
  oto : S ≠ TO
  oi1 : S ≠ i1
  oi2 : S ≠ i2
  ol1 : S ≠ l1
  ol2 : S ≠ l2
  nz : g.get? z = none
  nto : g.get? TO = none
  n1 : g.get? i1 = none
  n2 : g.get? i2 = none
  ns : g.get? S = none
/-- what comes of it -/
structure ZD (g h : Heap) (S : Addr) (xs ys : Array Value) (ts : List Addr) (c : Nat) : Prop where
  base : ∀ b o, g.get? b = some o → h.get? b = some o
  at_ : h.get? S = some (refsObj ts c)
  len : ts.length = xs.size
  nd : ts.Nodup
  each : ∀ (j : Nat) t, ts[j]? = some t → ∃ x y, xs[j]? = some x ∧ ys[j]? = some y ∧ IsPair h t x y ∧ t ≠ S ∧ g.objs.size ≤ t
section
variable {P : Program} {w : World} {A : Around} {E : Value → Shared → Prop} {R : Result → Shared → Prop} {g : Heap} {z TI TO i1 i2 l1 l2 S : Addr} {xs ys : Array Value}
/-- S changed -/
theorem ZL.lay {h h' : Heap} {i : Nat} {ts : List Addr} {c c' : Nat} (Z : ZL g h z TI TO i1 i2 l1 l2 S xs ys i ts c) (O : Off g z TI TO i1 i2 l1 l2 S) (k : ∀ b o, b ≠ S → h.get? b = some o → h'.get? b = some o) (le : h.objs.size ≤ h'.objs.size)
    (at_ : h'.get? S = some (refsObj ts c')) : ZL g h' z TI TO i1 i2 l1 l2 S xs ys i ts c' := by
  refine ⟨fun b o e => k b o (fun q => by subst q; rw [O.ns] at e; cases e) (Z.base b o e), Nat.le_trans Z.size le, k _ _ O.oti.symm Z.ti, Z.a1.at fun o e => k _ o O.oi1.symm e, Z.a2.at fun o e => k _ o O.oi2.symm e, Z.b1.at fun o e => k _ o O.ol1.symm e, Z.b2.at fun o e => k _ o O.ol2.symm e, let ⟨u, v, b⟩ := Z.to; ⟨u, v, k _ _ O.oto.symm b⟩, ?_, at_, Z.len, Z.nd, fun j t e => ?_⟩
  · rcases Z.st with a | ⟨T, f, oT, a, b, n1, n2, n3, n4⟩
    · exact .inl (k _ _ O.oz.symm a)
    · exact .inr ⟨T, f, oT, k _ _ O.oz.symm a, k _ _ n4 b, n1, n2, n3, n4⟩
  · obtain ⟨x, y, ex, ey, ep, n1, n2, n3, n4, n5, n6⟩ := Z.each j t e
    exact ⟨x, y, ex, ey, k _ _ n5 ep, n1, n2, n3, n4, n5, n6⟩
theorem zl_loop (D : ZipApart z TI TO i1 i2 l1 l2) (O : Off g z TI TO i1 i2 l1 l2 S) (same : xs.size = ys.size) (lim : xs.size ≤ sizeLine) (hh : A.in1.handled = none) (res : Value) :
    ∀ (k i : Nat) (s : Shared) (ts : List Addr) (c : Nat), xs.size - i = k → i ≤ xs.size → ZL g s.heap z TI TO i1 i2 l1 l2 S xs ys i ts c →
      (∀ h' ts' c', ZD g h' S xs ys ts' c' → R (.ok (.ret res)) { s with heap := h' }) →
      codeAny (model P w) A (.builtin "list.extend.loop" ⟨[.ref S, .ref z, res], []⟩) R s := by
  intro k
  induction k with
  | zero =>
    intro i s ts c ek le Z hR
    obtain rfl : i = xs.size := by omega
    have fin : ∀ h', (∀ b o, b ≠ z → b ≠ TO → b ≠ i1 → b ≠ i2 → s.heap.get? b = some o → h'.get? b = some o) → R (.ok (.ret res)) { s with heap := h' } := fun h' kp => by
      refine hR h' ts c ⟨fun b o e => kp b o (fun q => ?_) (fun q => ?_) (fun q => ?_) (fun q => ?_) (Z.base b o e), kp _ _ O.oz O.oto O.oi1 O.oi2 Z.at_, Z.len, Z.nd, fun j t e => ?_⟩
      · subst q; rw [O.nz] at e; cases e
      · subst q; rw [O.nto] at e; cases e
      · subst q; rw [O.n1] at e; cases e
      · subst q; rw [O.n2] at e; cases e
      · obtain ⟨x, y, ex, ey, ep, n1, n2, n3, n4, n5, n6⟩ := Z.each j t e
        exact ⟨x, y, ex, ey, kp _ _ n1 n2 n3 n4 ep, n5, n6⟩
    have hend : xs[xs.size]? = none ∨ ys[xs.size]? = none := .inl (Array.getElem?_eq_none (Nat.le_refl _))
    refine codeAny_builtin F.entry_extend_loop (by
      rw [Around.under_plainId F.plain_extend_loop _]
      show wpAny _ A.in1 (pyNext (.ref z) >>= _) _ _ s
      refine wpAny_bind ?_
      obtain ⟨u, v, o0⟩ := Z.to
      rcases Z.st with a | ⟨T, f, oT, a, b, n1, n2, n3, n4⟩
      · exact wpAny_pyNext_zip_end hh D a Z.ti o0 Z.a1 Z.a2 Z.b1 Z.b2 hend fun h' kp => wpAny_pure (fin h' kp)
      · exact wpAny_pyNext_zip_end_held hh D a b Z.ti Z.a1 Z.a2 Z.b1 Z.b2 hend fun h' kp => wpAny_pure (fin h' fun b o m1 _ m3 m4 e => kp b o m1 m3 m4 e))
  | succ k ih =>
    intro i s ts c ek le Z hR
    have lt : i < xs.size := by omega
    have ex := Array.getElem?_eq_getElem lt
    have ey := Array.getElem?_eq_getElem (show i < ys.size by omega)
    have off : ∀ {b o}, s.heap.get? b = some o → s.heap.objs.size ≠ b := fun e => Nat.ne_of_gt (Heap.lt_size e)
    have m1 : s.heap.objs.size ≠ i1 := let ⟨_, e, _⟩ := Z.a1; off e
    have m2 : s.heap.objs.size ≠ i2 := let ⟨_, e, _⟩ := Z.a2; off e
    have m3 : s.heap.objs.size ≠ S := off Z.at_
    have m4 : s.heap.objs.size ≠ z := by rcases Z.st with a | ⟨_, _, _, a, _⟩ <;> exact off a
    -- behind one item
    have turn : ∀ h1, (∃ T f oT, IsZipHeld h1 z TI TO T f ∧ h1.get? T = some oT ∧ T ≠ z ∧ T ≠ i1 ∧ T ≠ i2 ∧ T ≠ S) → (∃ u v, IsPair h1 TO u v) → h1.IsListIter i1 l1 (i + 1) → h1.IsListIter i2 l2 (i + 1) → IsPair h1 s.heap.objs.size xs[i] ys[i] → h1.objs.size = s.heap.objs.size + 1 →
        (∀ b o, b ≠ z → b ≠ TO → b ≠ i1 → b ≠ i2 → s.heap.get? b = some o → h1.get? b = some o) →
        wpAny (model P w) A.in1 (updateSeq S (·.push (.ref s.heap.objs.size)) >>= fun _ => again (.builtin "list.extend.loop" ⟨[.ref S, .ref z, res], []⟩))
          (fun fin s' => match fin with | .done f => R (.ok f) s' | .again c' => c'.quiet = true ∧ codeAny (model P w) A c' R s') (fun e s' => R (.error e) s') { s with heap := h1 } := fun h1 st1 to1 c1 c2 cp csz kp => by
      obtain ⟨_, _, o0⟩ := Z.to
      have m5 : s.heap.objs.size ≠ TO := off o0
      have at1 : h1.get? S = some (refsObj ts c) := kp _ _ O.oz O.oto O.oi1 O.oi2 Z.at_
      have sz1 : (ts.map Value.ref).toArray.size = i := by simp [Z.len]
      have nin : s.heap.objs.size ∉ ts := fun m => by
        obtain ⟨j, hj⟩ := List.getElem?_of_mem m
        obtain ⟨_, _, _, _, ep, _⟩ := Z.each j _ hj
        exact off ep rfl
      refine wpAny_bind (wpAny_updateSeq at1 rfl (wpAny_pure ⟨plainId_quiet F.plain_extend_loop _, ?_⟩) (by rw [sz1]; omega) (by show ((ts.map Value.ref).toArray.push _).size ≤ sizeLine + 1; rw [Array.size_push, sz1]; omega))
      have oth : ∀ b o, b ≠ S → h1.get? b = some o → (h1.update S (Obj.mapSeq (·.push (.ref s.heap.objs.size)))).get? b = some o := fun b o n e => (Heap.get?_update_other _ _ n.symm).trans e
      have at2 := Heap.get?_update_self (Obj.mapSeq (·.push (.ref s.heap.objs.size))) at1 rfl
      have size2 : (h1.update S (Obj.mapSeq (·.push (.ref s.heap.objs.size)))).objs.size = s.heap.objs.size + 1 := by rw [Heap.size_update, csz]
      refine ih (i + 1) { s with heap := h1.update S (Obj.mapSeq (·.push (.ref s.heap.objs.size))) } (ts ++ [s.heap.objs.size]) (c + 1) (by omega) lt ⟨fun b o e => ?_, by show g.objs.size ≤ (h1.update S _).objs.size; rw [size2]; have := Z.size; omega, oth _ _ O.oti.symm (kp _ _ D.TIz D.TITO D.TIi1 D.TIi2 Z.ti), c1.at fun o e => oth _ o O.oi1.symm e, c2.at fun o e => oth _ o O.oi2.symm e,
        Z.b1.at fun o e => oth _ o O.ol1.symm (kp _ o D.l1z D.l1TO D.l1i1 D.l1i2 e), Z.b2.at fun o e => oth _ o O.ol2.symm (kp _ o D.l2z D.l2TO D.l2i1 D.l2i2 e), let ⟨u, v, b⟩ := to1; ⟨u, v, oth _ _ O.oto.symm b⟩, .inr ?_, ?_, by simp [Z.len], ?_, fun j t e => ?_⟩ fun h' ts' c' zd => hR h' ts' c' zd
      · refine oth _ _ (fun q => ?_) (kp _ _ (fun q => ?_) (fun q => ?_) (fun q => ?_) (fun q => ?_) (Z.base b o e))
        · subst q; rw [O.ns] at e; cases e
        · subst q; rw [O.nz] at e; cases e
        · subst q; rw [O.nto] at e; cases e
        · subst q; rw [O.n1] at e; cases e
        · subst q; rw [O.n2] at e; cases e
      · obtain ⟨T, f, oT, a, b, n1, n2, n3, n4⟩ := st1
        exact ⟨T, f, oT, oth _ _ O.oz.symm a, oth _ _ n4 b, n1, n2, n3, n4⟩
      · rw [at2]
        simp [refsObj, Obj.mapSeq]
      · rw [List.nodup_append]
        refine ⟨Z.nd, by simp, fun a ha b hb q => ?_⟩
        rw [List.mem_singleton] at hb
        subst hb q
        exact nin ha
      · by_cases q : j < ts.length
        · rw [List.getElem?_append_left q] at e
          obtain ⟨x, y, fx, fy, ep, n1, n2, n3, n4, n5, n6⟩ := Z.each j t e
          exact ⟨x, y, fx, fy, oth _ _ n5 (kp _ _ n1 n2 n3 n4 ep), n1, n2, n3, n4, n5, n6⟩
        · have ej : j = i := by
            have := (List.getElem?_eq_some_iff.mp e).1
            rw [List.length_append, List.length_singleton, Z.len] at this
            rw [Z.len] at q
            omega
          subst ej
          rw [List.getElem?_append_right (by rw [Z.len]; exact Nat.le_refl _), Z.len, Nat.sub_self] at e
          cases e
          exact ⟨_, _, ex, ey, oth _ _ m3 cp, m4, m5, m1, m2, m3, Z.size⟩
    refine codeAny_builtin F.entry_extend_loop (by
      rw [Around.under_plainId F.plain_extend_loop _]
      show wpAny _ A.in1 (pyNext (.ref z) >>= _) _ _ s
      refine wpAny_bind ?_
      obtain ⟨u, v, o0⟩ := Z.to
      rcases Z.st with a | ⟨T, f, oT, a, b, n1, n2, n3, n4⟩
      · refine wpAny_pyNext_zip_item D a Z.ti o0 Z.a1 Z.a2 Z.b1 Z.b2 ex ey fun h1 q1 q2 q3 q4 q5 q6 kp => ?_
        exact turn h1 ⟨s.heap.objs.size, false, _, q1, q5, m4, m1, m2, m3⟩ ⟨_, _, q2⟩ q3 q4 q5 q6 kp
      · refine wpAny_pyNext_zip_item_held D a b Z.ti Z.a1 Z.a2 Z.b1 Z.b2 ex ey fun h1 q1 q3 q4 q5 q6 kp => ?_
        exact turn h1 ⟨T, true, oT, q1, kp _ _ n1 n2 n3 b, n1, n2, n3, n4⟩ ⟨u, v, kp _ _ D.TOz D.TOi1 D.TOi2 o0⟩ q3 q4 q5 q6 fun b o k1 _ k3 k4 e => kp b o k1 k3 k4 e)
end
end Nm
set_option maxRecDepth 100000
set_option maxHeartbeats 4000000
/-! list(zip(xs, ys)) as an expression -/
namespace Nm
open PySem PySem.Spec PyProof.Rows L2
section
variable {P : Program} {w : World} {A : Around} {E : Value → Shared → Prop} {R : Result → Shared → Prop} {g : Heap} {z TI TO i1 i2 l1 l2 S : Addr} {xs ys : Array Value} {s : Shared}
/-- what a list's making waits for -/
abbrev Waits (P : Program) (w : World) (A : Around) (R : Result → Shared → Prop) : PySem.Fin → Shared → Prop := fun fin s' => match fin with
  | .done f => R (.ok f) s'
  | .again c' => c'.quiet = true ∧ codeAny (model P w) A c' R s'
theorem extend_zip (D : ZipApart z TI TO i1 i2 l1 l2) (O : Off g z TI TO i1 i2 l1 l2 S) (same : xs.size = ys.size) (lim : xs.size ≤ sizeLine) (hh : A.in1.handled = none) (res : Value) {c : Nat} (hz : IsZip s.heap z TI TO .none) (Z : ZL g s.heap z TI TO i1 i2 l1 l2 S xs ys 0 [] c)
    (hR : ∀ h' ts c', ZD g h' S xs ys ts c' → R (.ok (.ret res)) { s with heap := h' }) :
    wpAny (model P w) A.in1 (Builtin.List.listExtendWith (.ref S) (.ref z) res) (Waits P w A R) (fun e s' => R (.error e) s') s := by
  have ty : s.TypeIs (.ref z) "zip" := ⟨_, hz, rfl⟩
  unfold Builtin.List.listExtendWith
  refine wpAny_bind (wpAny_typeOf ty ?_)
  have q1 : Builtin.List.listSameRef (.ref S) (.ref z) = false := by simp [Builtin.List.listSameRef, O.oz]
  have q2 : (Value.type "zip" == Value.type "list") = false := by decide
  have q3 : (Value.type "zip" == Value.type "tuple") = false := by decide
  simp only [q1, q2, q3, Bool.or_false, Bool.false_eq_true, if_false]
  refine wpAny_bind (wpAny_pyIter_zip hz (wpAny_bind (wpAny_holding ?_)))
  unfold Builtin.List.listLengthHint
  refine wpAny_bind (wpAny_specialOf ty zip_lenless ?_)
  show wpAny _ A.in1 (specialOf (Value.ref z) (Str.ofString "__length_hint__") >>= _) _ _ _
  refine wpAny_bind (wpAny_specialOf ty zip_hintless (wpAny_pure ?_))
  show wpAny _ A.in1 (rule "list.extend.makes-room" >>= fun _ => Builtin.List.listTouch (.ref S) >>= fun _ => again (.builtin "list.extend.loop" ⟨[.ref S, .ref z, res], []⟩)) _ _ _
  refine wpAny_bind (wpAny_rule (wpAny_bind ?_))
  show wpAny _ A.in1 (updateSeq S (·.push .none) >>= fun _ => updateSeq S (·.pop)) _ _ _
  refine wpAny_bind (wpAny_updateSeq Z.at_ rfl ?_ (by simp [sizeLine_eq]) (by simp [sizeLine_eq]))
  have at2 := Heap.get?_update_self (Obj.mapSeq (·.push Value.none)) Z.at_ rfl
  refine wpAny_updateSeq at2 rfl ?_ (by simp [Obj.mapSeq, refsObj, sizeLine_eq]) (by simp [Obj.mapSeq, refsObj, sizeLine_eq])
  have at3 := Heap.get?_update_self (Obj.mapSeq (·.pop)) at2 rfl
  have oth : ∀ b o, b ≠ S → s.heap.get? b = some o → ((s.heap.update S (Obj.mapSeq (·.push Value.none))).update S (Obj.mapSeq (·.pop))).get? b = some o := fun b o n e => (Heap.get?_update_other _ _ n.symm).trans ((Heap.get?_update_other _ _ n.symm).trans e)
  have Z2 := Z.lay (h' := (s.heap.update S (Obj.mapSeq (·.push Value.none))).update S (Obj.mapSeq (·.pop))) (c' := c + 2) O oth (by rw [Heap.size_update, Heap.size_update]; exact Nat.le_refl _) (by rw [at3]; simp [refsObj, Obj.mapSeq])
  exact wpAny_pure ⟨plainId_quiet F.plain_extend_loop _, zl_loop D O same lim hh res _ 0 _ [] (c + 2) rfl (Nat.zero_le _) Z2 hR⟩
theorem init_zip (D : ZipApart z TI TO i1 i2 l1 l2) (O : Off g z TI TO i1 i2 l1 l2 S) (same : xs.size = ys.size) (lim : xs.size ≤ sizeLine) (hh : A.in1.handled = none) {c : Nat} (hz : IsZip s.heap z TI TO .none) (Z : ZL g s.heap z TI TO i1 i2 l1 l2 S xs ys 0 [] c)
    (hR : ∀ h' ts c', ZD g h' S xs ys ts c' → R (.ok (.ret .none)) { s with heap := h' }) :
    wpAny (model P w) A.in1 (Builtin.«list.__init__» ⟨[.ref S, .ref z], []⟩) (Waits P w A R) (fun e s' => R (.error e) s') s := by
  show wpAny _ A.in1 (Builtin.List.listItems (.ref S) >>= fun old => Builtin.List.listUpdate (.ref S) (fun _ => #[]) >>= fun _ => letGo old.toList.reverse >>= fun _ => Builtin.List.listExtendWith (.ref S) (.ref z) .none) _ _ s
  refine wpAny_bind ?_
  unfold Builtin.List.listItems
  refine wpAny_bind (wpAny_seqItems Z.at_ rfl (wpAny_pure ?_))
  show wpAny _ A.in1 (updateSeq S (fun _ => #[]) >>= fun _ => letGo ((([] : List Addr).map Value.ref).toArray).toList.reverse >>= fun _ => Builtin.List.listExtendWith (.ref S) (.ref z) .none) _ _ s
  refine wpAny_bind (wpAny_updateSeq Z.at_ rfl ?_ (by simp [sizeLine_eq]) (by simp [sizeLine_eq]))
  have at2 := Heap.get?_update_self (Obj.mapSeq (fun _ => (#[] : Array Value))) Z.at_ rfl
  have oth : ∀ b o, b ≠ S → s.heap.get? b = some o → (s.heap.update S (Obj.mapSeq (fun _ => (#[] : Array Value)))).get? b = some o := fun b o n e => (Heap.get?_update_other _ _ n.symm).trans e
  have Z2 := Z.lay (h' := s.heap.update S (Obj.mapSeq (fun _ => (#[] : Array Value)))) (c' := c) O oth (by rw [Heap.size_update]; exact Nat.le_refl _) (by rw [at2]; simp [refsObj, Obj.mapSeq])
  exact wpAny_bind (wpAny_letGo (extend_zip (s := { s with heap := s.heap.update S (Obj.mapSeq (fun _ => (#[] : Array Value))) }) D O same lim hh .none (oth _ _ O.oz.symm hz) Z2 hR))
/-- list(z) of a zip just made -/
theorem call_listZip {Q : Value → Shared → Prop} {h0 : Heap} (la : l1 < h0.objs.size) (lb : l2 < h0.objs.size) (hb1 : h0.IsList l1 xs) (hb2 : h0.IsList l2 ys) (same : xs.size = ys.size) (lim : xs.size ≤ sizeLine) (hh : A.in1.in1.handled = none)
    (hz : IsZip s.heap (h0.objs.size + 4) (h0.objs.size + 2) (h0.objs.size + 3) .none) (hTI : IsPair s.heap (h0.objs.size + 2) (.ref h0.objs.size) (.ref (h0.objs.size + 1))) (hTO : IsPair s.heap (h0.objs.size + 3) .none .none) (a1 : s.heap.IsListIter h0.objs.size l1 0) (a2 : s.heap.IsListIter (h0.objs.size + 1) l2 0)
    (hsz : s.heap.objs.size = h0.objs.size + 5) (hk : ∀ b o, h0.get? b = some o → s.heap.get? b = some o)
    (hQ : ∀ h' ts c', ZD h0 h' (h0.objs.size + 5) xs ys ts c' → Q (.ref (h0.objs.size + 5)) { s with heap := h' }) : wpAny (model P w) A (call (.type "list") [.ref (h0.objs.size + 4)]) Q E s := by
  have fresh : ∀ k, h0.get? (h0.objs.size + k) = none := fun k => Heap.get?_none_of_le (Nat.le_add_right _ _)
  have O : Off h0 (h0.objs.size + 4) (h0.objs.size + 2) (h0.objs.size + 3) h0.objs.size (h0.objs.size + 1) l1 l2 (h0.objs.size + 5) := ⟨Nat.ne_of_gt (Nat.add_lt_add_left (by decide) _), Nat.ne_of_gt (Nat.add_lt_add_left (by decide) _), Nat.ne_of_gt (Nat.add_lt_add_left (by decide) _), Nat.ne_of_gt (Nat.lt_add_of_pos_right (by decide)), Nat.ne_of_gt (Nat.add_lt_add_left (by decide) _), Nat.ne_of_gt (Nat.lt_add_right 5 la), Nat.ne_of_gt (Nat.lt_add_right 5 lb), fresh 4, fresh 3, fresh 0, fresh 1, fresh 5⟩
  refine callType_codes (Q₁ := fun obj s₁ => obj = .ref s.heap.objs.size ∧ s₁ = { s with heap := s.heap.push { cls := .type "list", data := .seq #[] } }) F.called_list (F.typeCall_list_1 _) F.entry_list_init (code_list_new _ ⟨rfl, rfl⟩) fun obj s₁ h₁ => ?_
  obtain ⟨rfl, rfl⟩ := h₁
  have at_ : (s.heap.push { cls := .type "list", data := .seq #[] }).get? s.heap.objs.size = some { cls := .type "list", data := .seq #[] } := Heap.get?_push_size _ rfl
  have kp : ∀ b o, s.heap.get? b = some o → (s.heap.push { cls := .type "list", data := .seq #[] }).get? b = some o := fun b o e => Heap.get?_push_of_some _ e
  refine ⟨⟨_, at_, rfl⟩, F.args_list_init_2 _ _, ?_⟩
  rw [hsz] at at_ ⊢
  refine init_zip (s := { s with heap := s.heap.push { cls := .type "list", data := .seq #[] } }) (PySem.W.ktu_apart h0.objs.size l1 l2 la lb) O same lim hh (kp _ _ hz) ⟨fun b o e => kp b o (hk b o e), by show h0.objs.size ≤ (s.heap.push _).objs.size; rw [Heap.size_push, hsz]; omega, kp _ _ hTI, a1.at fun o e => kp _ o e, a2.at fun o e => kp _ o e, hb1.at fun o e => kp _ o (hk _ o e), hb2.at fun o e => kp _ o (hk _ o e), ⟨_, _, kp _ _ hTO⟩, .inl (kp _ _ hz), at_, rfl, List.nodup_nil, fun j t e => by simp at e⟩ fun h' ts c' zd => ?_
  exact ⟨rfl, hQ h' ts c' zd⟩
/-! ### the objects that come of it -/
theorem refs_vals : ∀ ts : List Addr, Vals (ts.map V.ref) (ts.map Value.ref)
  | [] => .nil
  | t :: ts => .cons (show RelV (.ref t) (.ref t) from rfl) (refs_vals ts)
/-- tuples laid at these places -/
def layT (H : Hp) : List Addr → List V → List V → Hp
  | t :: ts, x :: xs, y :: ys => upd (layT H ts xs ys) t (.tup [x, y])
  | _, _, _ => H
theorem layT_out {H : Hp} {b : Addr} : ∀ {ts : List Addr} {xs ys : List V}, b ∉ ts → layT H ts xs ys b = H b
  | [], _, _, _ => by unfold layT; rfl
  | _ :: _, [], _, _ => by unfold layT; rfl
  | _ :: _, _ :: _, [], _ => by unfold layT; rfl
  | t :: ts, x :: xs, y :: ys, n => by
    show upd (layT H ts xs ys) t _ b = H b
    rw [upd_ne fun e => n (by rw [e]; exact List.mem_cons_self)]
    exact layT_out fun m => n (List.mem_cons_of_mem _ m)
theorem layT_at {H : Hp} : ∀ {ts : List Addr} {xs ys : List V} {j : Nat} {t : Addr} {x y : V}, ts.Nodup → ts[j]? = some t → xs[j]? = some x → ys[j]? = some y → layT H ts xs ys t = some (.tup [x, y])
  | [], _, _, _, _, _, _, _, e, _, _ => by simp at e
  | _ :: _, [], _, _, _, _, _, _, _, e, _ => by simp at e
  | _ :: _, _ :: _, [], _, _, _, _, _, _, _, e => by simp at e
  | t :: ts, x :: xs, y :: ys, 0, _, _, _, _, e1, e2, e3 => by
    cases e1
    cases e2
    cases e3
    exact upd_same
  | t :: ts, x :: xs, y :: ys, j + 1, t', _, _, nd, e1, e2, e3 => by
    obtain ⟨n1, n2⟩ := List.nodup_cons.mp nd
    rw [List.getElem?_cons_succ] at e1 e2 e3
    show upd (layT H ts xs ys) t _ t' = _
    rw [upd_ne fun e => n1 (by rw [← e]; exact List.mem_of_getElem? e1)]
    exact layT_at n2 e1 e2 e3
variable {X : Cx} {pins : List (Addr × Obj)} {σ : L2.St} {H H' : Hp} {h' : Heap}
/-- many objects laid at once -/
theorem laid_all (I : Inv X pins σ H s) (k : ∀ b u, s.heap.get? b = some u → h'.get? b = some u) (old : ∀ b, b < s.heap.objs.size → H' b = H b) (new : ∀ b o, s.heap.objs.size ≤ b → H' b = some o → ObjOk X.prog X.w H' h' b o) : Inv X pins σ H' { s with heap := h' } := by
  have same : ∀ b o, H b = some o → H' b = some o := fun b o e => (old b (I.hok.lt e)).trans e
  refine I.un (t' := s.toks) ⟨fun b o e _ _ _ => k b o e, fun b o e _ _ _ => ⟨o.slots, k b o e⟩, fun b o e n _ => (old b (Heap.lt_size e)).trans n, fun b o e _ => ⟨o, k b o e⟩, fun b xs e => same b _ e, fun b o u e => same b _ e, fun b ps e => ⟨#[], by rw [same b _ e]; simp⟩⟩ fun b o e => ?_
  by_cases c : b < s.heap.objs.size
  · rw [old b c] at e
    exact (I.hok b o e).stay (fun b u _ q => k b u q) (fun b q => same b _ q) fun b xs q => same b _ q
  · exact new b o (Nat.le_of_not_lt c) e
/-- list(zip(xs, ys)): new tuples in a new list -/
def tListZip (K : PySem.W.Frag) (t : TA) : TE := fun σ H Q => t σ H fun vs H1 => ∃ (a b : Addr) (xs ys : List V), vs = [.ref a, .ref b] ∧ SqL K H1 a xs ∧ SqL K H1 b ys ∧ xs.length = ys.length ∧ xs.length ≤ 1000 ∧
  ∀ (p : Addr) (ts : List Addr) (H2 : Hp), H1 p = none → ts.length = xs.length → H2 p = some (.lst (ts.map V.ref)) → (∀ (i : Nat) (t : Addr), ts[i]? = some t → ∃ x y, xs[i]? = some x ∧ ys[i]? = some y ∧ H2 t = some (.tup [x, y])) → (∀ b o, H1 b = some o → H2 b = some o) → Q (.ref p) H2
theorem pe_listZip {e e2 : Expr} {t : TA} {p p2 q pos : Pos} (hc : X.calm = true) (g1 : Gl X "list") (m1 : X.mg "list" = none) (g2 : Gl X "zip") (m2 : X.mg "zip" = none) (ha : PA X [e, e2] t)
    (n1 : starEach [e, e2] X.env = (false, eval e X.env) :: starEach [e2] X.env := by rfl) (n2 : (backTo q (starEach [e2] X.env)).any (·.1) = false := by rfl) (n3 : starEach [.Call (.Name "zip" p2) [e, e2] [] q] X.env = (false, eval (.Call (.Name "zip" p2) [e, e2] [] q) X.env) :: starEach [] X.env := by rfl) : PE X (.Call (.Name "list" p) [.Call (.Name "zip" p2) [e, e2] [] q] [] pos) (tListZip X.K t) := by
  refine ⟨fun pins s σ H Q I h => ?_⟩
  refine Call_ (ld_blt I g1 m1 (show bootBuiltins "list" = some (.type "list") by decide +kernel) (PyProof.Rows.callWith_type1 (PyProof.Rows.args_cons ?_ n3) n3 rfl))
  refine Call_ (ld_blt I g2 m2 PyProof.Rows.boot_zip (PyProof.Rows.callWith_type1 (thn (ha.run q pins s σ H _ I h) fun us s1 ⟨vs, H1, I1, r1, q1⟩ => ?_) n1 n2))
  obtain ⟨a, b, xs, ys, rfl, hqx, hqy, same, lim, k⟩ := q1
  obtain ⟨its, rv, p1, _⟩ := I1.list hqx
  obtain ⟨its2, rv2, p2', _⟩ := I1.list hqy
  have e1 := rv.length
  have e2' := rv2.length
  cases r1 with
  | cons r rr =>
    cases rr with
    | cons r' rr =>
      cases rr
      cases r
      cases r'
      refine call_zip_2 p1.isList p2'.isList fun h1 hz hTI hTO a1 a2 hsz hk => PyProof.Rows.args_nil ?_
      refine call_listZip (s := { s1 with heap := h1 }) (h0 := s1.heap) p1.lt p2'.lt p1.isList p2'.isList (by simp only [List.size_toArray]; omega) (by simp only [List.size_toArray, sizeLine_eq]; omega) (I1.ok.hd hc) hz hTI hTO a1 a2 hsz hk fun h2 ts c zd => ?_
      have len : ts.length = xs.length := by rw [zd.len, List.size_toArray, e1]
      have nsT : s1.heap.objs.size + 5 ∉ ts := fun m => by
        obtain ⟨j, hj⟩ := List.getElem?_of_mem m
        obtain ⟨_, _, _, _, _, n, _⟩ := zd.each j _ hj
        exact n rfl
      have at1 : upd (layT H1 ts xs ys) (s1.heap.objs.size + 5) (.lst (ts.map V.ref)) (s1.heap.objs.size + 5) = some (.lst (ts.map V.ref)) := upd_same
      have tup1 : ∀ (j : Nat) t x y, ts[j]? = some t → xs[j]? = some x → ys[j]? = some y → upd (layT H1 ts xs ys) (s1.heap.objs.size + 5) (.lst (ts.map V.ref)) t = some (.tup [x, y]) := fun j t x y f1 f2 f3 => by
        rw [upd_ne fun q => nsT (by rw [← q]; exact List.mem_of_getElem? f1)]
        exact layT_at zd.nd f1 f2 f3
      have old1 : ∀ b, b < s1.heap.objs.size → upd (layT H1 ts xs ys) (s1.heap.objs.size + 5) (.lst (ts.map V.ref)) b = H1 b := fun b lt => by
        rw [upd_ne (Nat.ne_of_lt (Nat.lt_add_right 5 lt))]
        refine layT_out fun m => ?_
        obtain ⟨j, hj⟩ := List.getElem?_of_mem m
        obtain ⟨_, _, _, _, _, _, n⟩ := zd.each j _ hj
        exact absurd lt (Nat.not_lt.mpr n)
      refine ⟨.ref (s1.heap.objs.size + 5), _, laid_all (s := s1) I1 zd.base old1 fun b o ge eb => ?_, rfl, k (s1.heap.objs.size + 5) ts _ (I1.hok.fresh (Nat.le_add_right _ _)) len at1 (fun j t f1 => ?_) fun b o eb => ?_⟩
      · by_cases cS : b = s1.heap.objs.size + 5
        · subst cS
          rw [at1] at eb
          cases eb
          exact ⟨by rw [List.length_map, len, sizeLine_eq]; omega, ts.map Value.ref, c, refs_vals ts, zd.at_⟩
        · by_cases cT : b ∈ ts
          · obtain ⟨j, hj⟩ := List.getElem?_of_mem cT
            have jl : j < ts.length := (List.getElem?_eq_some_iff.mp hj).1
            have fx := List.getElem?_eq_getElem (show j < xs.length by omega)
            have fy := List.getElem?_eq_getElem (show j < ys.length by omega)
            rw [tup1 j b _ _ hj fx fy] at eb
            cases eb
            obtain ⟨u, v, hu, hv, hp, _⟩ := zd.each j b hj
            obtain ⟨u', hu', ru⟩ := rv.get fx
            obtain ⟨v', hv', rv'⟩ := rv2.get fy
            have eu : u' = u := Option.some.inj (hu'.symm.trans (by simpa using hu))
            have ev : v' = v := Option.some.inj (hv'.symm.trans (by simpa using hv))
            subst eu ev
            exact ⟨by show 2 ≤ sizeLine; decide, [u', v'], .cons ru (.cons rv' .nil), ⟨_, hp, rfl, _, rfl⟩⟩
          · rw [upd_ne cS, layT_out cT, I1.hok.fresh ge] at eb
            cases eb
      · have jl : j < ts.length := (List.getElem?_eq_some_iff.mp f1).1
        have fx := List.getElem?_eq_getElem (show j < xs.length by omega)
        have fy := List.getElem?_eq_getElem (show j < ys.length by omega)
        exact ⟨_, _, fx, fy, tup1 j t _ _ f1 fx fy⟩
      · rw [old1 b (I1.hok.lt eb)]
        exact eb
end
end Nm
set_option maxRecDepth 100000
set_option maxHeartbeats 4000000
/-! spots of ties, by the places of their ends -/
namespace Nm
open PySem L2
theorem pair_mm {x y : Str} (h : x ≠ y) : (minS x y = x ∧ maxS x y = y) ∨ (minS x y = y ∧ maxS x y = x) := by
  unfold minS maxS
  by_cases a : x.cps.toList < y.cps.toList
  · rw [if_pos a, if_neg (List.lt_asymm a)]
    exact .inl ⟨rfl, rfl⟩
  · by_cases b : y.cps.toList < x.cps.toList
    · rw [if_neg a, if_pos b]
      exact .inr ⟨rfl, rfl⟩
    · exfalso
      have := List.le_antisymm (List.not_lt.mp b) (List.not_lt.mp a)
      apply h
      cases x
      cases y
      simp_all
theorem mm_comm {x y : Str} (h : x ≠ y) : minS x y = minS y x ∧ maxS x y = maxS y x := by
  unfold minS maxS
  by_cases a : x.cps.toList < y.cps.toList
  · rw [if_pos a, if_neg (List.lt_asymm a), if_pos a, if_neg (List.lt_asymm a)]
    exact ⟨rfl, rfl⟩
  · by_cases b : y.cps.toList < x.cps.toList
    · rw [if_neg a, if_pos b, if_neg a, if_pos b]
      exact ⟨rfl, rfl⟩
    · exfalso
      have := List.le_antisymm (List.not_lt.mp b) (List.not_lt.mp a)
      apply h
      cases x
      cases y
      simp_all
/-- the spot that a key of a world's ties leads to -/
def spotK (nm : List Str) : List Key → List Key
  | [Sum.inl i, Sum.inl j, Sum.inr kd] => [Sum.inr (minS ((nm[i.toNat]?).getD "") ((nm[j.toNat]?).getD "")), Sum.inr (maxS ((nm[i.toNat]?).getD "") ((nm[j.toNat]?).getD "")), Sum.inr kd]
  | _ => []
theorem spotK_at {nm : List Str} {i j : Nat} {kd x y : Str} (hx : nm[i]? = some x) (hy : nm[j]? = some y) : spotK nm [Sum.inl (i : Int), Sum.inl (j : Int), Sum.inr kd] = [Sum.inr (minS x y), Sum.inr (maxS x y), Sum.inr kd] := by
  show [Sum.inr (minS ((nm[(i : Int).toNat]?).getD "") ((nm[(j : Int).toNat]?).getD "")), Sum.inr (maxS ((nm[(i : Int).toNat]?).getD "") ((nm[(j : Int).toNat]?).getD "")), Sum.inr kd] = _
  rw [Int.toNat_natCast, Int.toNat_natCast, hx, hy]
  rfl
theorem spotK_inj {nm : List Str} (nd : nm.Nodup) {k k' : List Key} (h : TieK nm.length k) (h' : TieK nm.length k') (e : spotK nm k = spotK nm k') : k = k' := by
  obtain ⟨i, j, kd, rfl, h1, h2, _⟩ := h
  obtain ⟨i', j', kd', rfl, h1', h2', _⟩ := h'
  obtain ⟨x, hx⟩ : ∃ x, nm[i]? = some x := ⟨_, List.getElem?_eq_getElem (by omega)⟩
  obtain ⟨y, hy⟩ : ∃ y, nm[j]? = some y := ⟨_, List.getElem?_eq_getElem (by omega)⟩
  obtain ⟨x', hx'⟩ : ∃ x, nm[i']? = some x := ⟨_, List.getElem?_eq_getElem (by omega)⟩
  obtain ⟨y', hy'⟩ : ∃ y, nm[j']? = some y := ⟨_, List.getElem?_eq_getElem (by omega)⟩
  rw [spotK_at hx hy, spotK_at hx' hy'] at e
  simp only [List.cons.injEq, Sum.inr.injEq, and_true] at e
  obtain ⟨e1, e2, e3⟩ := e
  have at_ : ∀ {a b : Nat} {z : Str}, nm[a]? = some z → nm[b]? = some z → a = b := fun {a b z} ha hb => (List.getElem?_inj (List.getElem?_eq_some_iff.mp ha).1 nd).mp (ha.trans hb.symm)
  have hne : x ≠ y := fun z => by
    subst z
    have := at_ hx hy
    omega
  have hne' : x' ≠ y' := fun z => by
    subst z
    have := at_ hx' hy'
    omega
  have fin : (i = i' ∧ j = j') ∨ (i = j' ∧ j = i') := by
    rcases pair_mm hne with ⟨a, b⟩ | ⟨a, b⟩ <;> rcases pair_mm hne' with ⟨a', b'⟩ | ⟨a', b'⟩ <;> rw [a, a'] at e1 <;> rw [b, b'] at e2 <;> subst e1 e2
    · exact .inl ⟨at_ hx hx', at_ hy hy'⟩
    · exact .inr ⟨at_ hx hy', at_ hy hx'⟩
    · exact .inr ⟨at_ hx hy', at_ hy hx'⟩
    · exact .inl ⟨at_ hx hx', at_ hy hy'⟩
  subst e3
  rcases fin with ⟨rfl, rfl⟩ | ⟨rfl, rfl⟩
  · rfl
  · omega
theorem spots_nd {nm : List Str} (nd : nm.Nodup) {ks : List (List Key)} (hk : ∀ k ∈ ks, TieK nm.length k) (hn : ks.Nodup) : (ks.map (spotK nm)).Nodup := by
  refine List.pairwise_map.mpr (List.Pairwise.imp_of_mem (fun {a b} ha hb hne e => hne ?_) hn)
  exact spotK_inj nd (hk a ha) (hk b hb) e
/-- the key that a tuple tells -/
def keyBack (H : Hp) : V → List Key
  | .ref b => (match H b with
    | some (.tup xs) => xs.map keyOf
    | _ => [])
  | _ => []
theorem keyBack_of {H : Hp} {b : Addr} {k : List Key} (h : H b = some (.tup (k.map kV))) : keyBack H (.ref b) = k := by
  show (match H b with
    | some (.tup xs) => xs.map keyOf
    | _ => []) = k
  rw [h]
  show (k.map kV).map keyOf = k
  rw [List.map_map]
  conv => rhs; rw [← List.map_id k]
  exact List.map_congr_left fun x _ => keyOf_kV x
theorem keys_back {H : Hp} : ∀ {kvs : List (List Key × V)} {bs : List Addr}, IsKeys H kvs bs → (bs.map V.ref).map (keyBack H) = kvs.map (·.1)
  | _, _, .nil => rfl
  | _, _, .cons h t => by
    rw [List.map_cons, List.map_cons, List.map_cons, keys_back t, keyBack_of h]
end Nm
set_option maxRecDepth 100000
set_option maxHeartbeats 4000000
namespace Nm
open PySem L2
theorem step_up (x y : V) : stepV [x, y] 1 = [x, y] := by
  have e : stepIx 1 2 = [0, 1] := by decide +kernel
  show (stepIx 1 2).filterMap ([x, y][·]?) = [x, y]
  rw [e]
  rfl
theorem step_down (x y : V) : stepV [x, y] (-1) = [y, x] := by
  have e : stepIx (-1) 2 = [1, 0] := by decide +kernel
  show (stepIx (-1) 2).filterMap ([x, y][·]?) = [y, x]
  rw [e]
  rfl
/-- the row of a tie of a world -/
def tieRow : List Key × V → RowV
  | ([.inl i, .inl j, .inr kd], .int w) => ⟨i.toNat, j.toNat, kd, w⟩
  | _ => ⟨0, 0, "", 0⟩
/-- the rows of a world's ties, in order -/
def RowsOf (kvs : List (List Key × V)) (rs : List RowV) : Prop := rs.Perm (kvs.map tieRow) ∧ rs.Pairwise (fun x y => lexK (rowK y.key) (rowK x.key) = false)
theorem rowOf_uniq {nm : List Str} (nd : nm.Nodup) {t : TieV} {r r' : RowV} (h : RowOf nm t r) (h' : RowOf nm t r') : r = r' := by
  obtain ⟨a, b, ha, hb, e1, e2, e3, e4⟩ := h
  obtain ⟨a', b', ha', hb', f1, f2, f3, f4⟩ := h'
  have : a = a' := (List.getElem?_inj (List.getElem?_eq_some_iff.mp ha).1 nd).mp (ha.trans ha'.symm)
  have : b = b' := (List.getElem?_inj (List.getElem?_eq_some_iff.mp hb).1 nd).mp (hb.trans hb'.symm)
  cases r
  cases r'
  simp only at e1 e2 e3 e4 f1 f2 f3 f4
  subst e1 e2 e3 e4 f1 f2 f3 f4
  subst a' b'
  rfl
theorem rows_uniq {nm : List Str} (nd : nm.Nodup) : ∀ {tl : List TieV} {rw rw' : List RowV}, Paired (RowOf nm) tl rw → Paired (RowOf nm) tl rw' → rw = rw'
  | _, _, _, .nil, .nil => rfl
  | _, _, _, .cons h t, .cons h' t' => by rw [rowOf_uniq nd h h', rows_uniq nd t t']
theorem rows_perm {kvs : List (List Key × V)} {ks : List (List Key)} (nd : (kvs.map (·.1)).Nodup) (h : ks.Perm (kvs.map (·.1))) : (ks.map fun k => tieRow (k, (valV kvs k).getD .non)).Perm (kvs.map tieRow) := by
  have e : (kvs.map (·.1)).map (fun k => tieRow (k, (valV kvs k).getD .non)) = kvs.map tieRow := by
    rw [List.map_map]
    refine List.map_congr_left fun kv hm => ?_
    show tieRow (kv.1, (valV kvs kv.1).getD .non) = tieRow kv
    rw [val_of_mem nd (v := kv.2) hm]
    rfl
  rw [← e]
  exact h.map _
structure TxtM (K : PySem.W.Frag) (mg : Str → Option Value) (C f : Addr) : Prop extends TxtW K mg C where
  mgC : mg "Web" = some (.ref C)
  mkC : Mk K C f
section
variable {P : Program} {w : World} {K : PySem.W.Frag} {mg : Str → Option Value} {base : Heap}
/-! ### _law_made -/
def spMade (C : Addr) : Sp := fun vs H Q _ => ∃ (s c wd a b t : Addr) (nm cl : List Str) (kvs : List (List Key × V)) (m : Nat), vs = [.ref s, .ref wd] ∧ Src H s c ∧ WorldOk H s c wd a b t nm cl kvs ∧ Ties nm.length m kvs ∧ kvs.length ≤ 4000 ∧ nm.length ≤ 1000 ∧
  ∀ (p q dc r wb : Addr) (rs : List RowV) (H' : Hp), H p = none → H q = none → H dc = none → H r = none → H wb = none → WebX C H' p q dc r wb nm cl rs → RowsOf kvs rs → Src H' s c → Kp s c H H' → Q (.ref p) H'
abbrev nMd : List Str := ["_law_source", "_law_world", "_law_names", "_law_rows", "_law_one", "_law_other", "_law_kind", "_law_ends"]
theorem scMd : FnScope nMd ["_law_source", "_law_world"] (defScope sMade) := ⟨rfl, rfl, rfl, by decide +kernel, rfl, by decide +kernel, by decide +kernel⟩
theorem ok_made {f C fi : Addr} {fd fdi : FuncData} (F : Fun K "_law_made" "_law_made" sMade f fd) (T : TxtM K mg C fi) (Gp : Def P w K mg base "_law_pick" ["_law_source", "_law_many"] 1 spPick) (Ga : Def P w K mg base "_law_any_order" ["_law_source", "_law_items"] 2 (spAny K))
    (Gi : FnOk P w K mg base CX0 5 fi fdi ["self", "places", "ties"] (spWebI C)) (bi : Binds K fdi ["self", "places", "ties"] []) : FnOk P w K mg base CX0 7 f fd ["_law_source", "_law_world"] (spMade C) := by
  obtain ⟨fp, fdp, Gp, mp, kp, bp⟩ := Gp.ex
  obtain ⟨fa, fda, Ga, ma, ka, ba⟩ := Ga.ex
  refine F.ok scMd (fun vs H Q E h => ?_) (fun cdv A outer s H vs Q E hr h => ?_)
  · obtain ⟨_, _, _, _, _, _, _, _, _, _, rfl, _⟩ := h
    rfl
  · obtain ⟨sa, ca, wd, a, b, t, nm, cl, kvs, m, rfl, S, W, ti, hkl, hnl, k⟩ := h
    have hu := hu_of hr
    have hr1 := hr.mono (by decide : 1 ≤ 6)
    have hr2 := hr.mono (by decide : 2 ≤ 6)
    refine ⟨_, pss_cons (ps_par (i := 2) (j := 3) (by rfl) scMd.nd rfl rfl (by decide) rfl rfl (pa_cons (pe_dget hu (pv 1) pe_str (fun _ _ => rfl)) (pa_cons (pe_lst pa_nil) pa_nil)) (by rfl))
      (Evl.pss_cut (ps_for PassesOwn.never rfl (pi_list (pe_call Ga hr2 (by rfl) ma ka ba .nil pass0 (pa_cons (pv 0) (pa_cons (pe_callTy (call_list_dT rfl) (by rfl) T.list (by decide +kernel) (pa_cons (pe_dget hu (pv 1) pe_str (fun _ _ => rfl)) pa_nil)) pa_nil))))
        (pg_tup rfl (pgs_cons (pg_name (i := 4) scMd.nd rfl (.inl rfl)) (pgs_cons (pg_name (i := 5) scMd.nd rfl (.inl rfl)) (pgs_cons (pg_name (i := 6) scMd.nd rfl (.inl rfl)) pgs_nil))))
        (pss_cons (ps_set (i := 7) scMd.nd rfl (Or.inl rfl) (pe_stepL (pe_lst (pa_cons (pe_ix ix_list (pv 2) (pv 4) (fun _ _ => rfl)) (pa_cons (pe_ix ix_list (pv 2) (pv 5) (fun _ _ => rfl)) pa_nil))) (pe_op op_sub pe_int (pe_op op_mul pe_int (pe_call Gp hr1 (by rfl) mp kp bp .nil pass0 (pa_cons (pv 0) (pa_cons pe_int pa_nil)))))))
        (pss_one (ps_expr (pe_bm PySem.F.plainAttrs_list PySem.F.slot_list_append PySem.F.type_list_append mt_append (pv 3) (pa_cons (pe_tup (pa_cons (pe_ix ix_list (pv 7) pe_int (fun _ _ => rfl)) (pa_cons (pe_ix ix_list (pv 7) pe_int (fun _ _ => rfl)) (pa_cons (pv 6) (pa_cons (pe_dget hu (pe_dget hu (pv 1) pe_str (fun _ _ => rfl)) (pe_tup (pa_cons (pv 4) (pa_cons (pv 5) (pa_cons (pv 6) pa_nil)))) (fun _ _ => rfl)) pa_nil))))) pa_nil))))))
      (pss_one (ps_ret (pe_make T.mkC Gi hr (by rfl) T.mgC bi .nil pass0 (pa_cons (pe_listZip rfl (by rfl) T.list (by rfl) T.zip (pa_cons (pv 2) (pa_cons (pe_dget hu (pv 1) pe_str (fun _ _ => rfl)) pa_nil))) (pa_cons (pv 3) pa_nil)))))), ?_⟩
    have hn := W.hn
    refine ⟨_, rfl, wd, _, rfl, dg_names W.d, (by show 0 ≤ sizeLine; decide), fun ro hro => ⟨_, _, rfl, ?_⟩⟩
    have s1 := same_new (o := .lst []) hro
    have hro1 : (upd H ro (.lst [])) ro = some (.lst (List.map V.ref [])) := upd_same
    have W1 := W.same s1
    have S1 := S.same s1
    generalize upd H ro (.lst []) = H1 at *
    obtain ⟨nrs, nrc⟩ := S.ne hro
    refine ⟨fun σ H2 => ∃ v4 v5 v6 v7 tl, σ = [some (.ref sa), some (.ref wd), some (.ref a), some (.ref ro), v4, v5, v6, v7] ∧ TiesAt H2 ro tl ∧ (∀ t ∈ tl, t.Ok nm) ∧ (tl.map TieV.spot).Nodup ∧ (∃ rw0, Paired (RowOf nm) tl rw0 ∧ rw0.Perm (kvs.map tieRow)) ∧ tl.length ≤ 4000 ∧ Src H2 sa ca ∧ Kp sa ca H H2, ?_, ?_⟩
    · refine ⟨_, rfl, _, rfl, wd, _, rfl, dg_ties W1.d, t, kvs, rfl, .inl W1.ht, fun l bs hl hk => ?_⟩
      obtain ⟨kl, hbl⟩ := keyL_of hk
      have s2 := same_new (o := .lst (bs.map V.ref)) hl
      have hl2 : (upd H1 l (.lst (bs.map V.ref))) l = some (.lst (bs.map V.ref)) := upd_same
      have kb : (bs.map V.ref).map (keyBack H1) = kvs.map (·.1) := keys_back hk
      have hbk : ∀ y ∈ bs.map V.ref, ∃ b k, y = V.ref b ∧ H1 b = some (.tup (List.map kV k)) := fun y hy => by
        obtain ⟨b, k, v, h1, h2, _⟩ := kl y hy
        exact ⟨b, k, h1, h2⟩
      generalize upd H1 l (.lst (bs.map V.ref)) = H2 at *
      refine ⟨sa, ca, l, _, rfl, S1.same s2, SqL.of hl2, by rw [List.length_map]; omega, fun p ys H3 hp pm hp3 S3 kp3 => ?_⟩
      have kly : KeyL H3 kvs ys := fun y hy => ((kl.same s2).kp (S1.same s2) kp3) y (pm.subset hy)
      have W3 := (W1.same s2).kp kp3
      have hro3 := kp3 _ _ (s2 _ _ hro1) nrs nrc
      have hyl : ys.length ≤ 4000 := by rw [pm.length_eq, List.length_map]; omega
      have npr : p ≠ ro := fun e => by subst e; rw [s2 _ _ hro1] at hp; cases hp
      have hkk : ((ys.map (keyBack H1)).Perm (kvs.map (·.1))) := by rw [← kb]; exact pm.map _
      have kp03 : Kp sa ca H H3 := (Kp.same (s1.trans s2)).trans kp3
      have hp0 := S3
      have npsc := (S1.same s2).ne hp
      refine ⟨p, rfl, ⟨_, SqL.of hp3⟩, ?_⟩
      refine for_list (xs := ys) (fun i σ H4 => ∃ v4 v5 v6 v7 us tl, σ = [some (.ref sa), some (.ref wd), some (.ref a), some (.ref ro), v4, v5, v6, v7] ∧ H4 ro = some (.lst (List.map V.ref us)) ∧ us.length = i ∧ Paired (fun u tv => H4 u = some (.tup (TieV.tup tv))) us tl ∧ (∀ t ∈ tl, t.Ok nm) ∧ tl.map TieV.spot = ((ys.map (keyBack H1)).take i).map (spotK nm) ∧ Paired (RowOf nm) tl (((ys.map (keyBack H1)).take i).map fun k => tieRow (k, (valV kvs k).getD .non)) ∧ Src H4 sa ca ∧ Kp3 sa ca ro H3 H4)
        ⟨none, none, none, none, [], [], rfl, hro3, rfl, .nil, (fun t ht => (List.not_mem_nil ht).elim), rfl, .nil, S3, Kp3.refl H3⟩ (fun i σ H4 _ ⟨_, _, _, _, _, _, _, _, _, _, _, _, _, _, h⟩ => SqL.of (h _ _ hp3 npsc.1 npsc.2 npr)) ?_ ?_
      · rintro i y σ H4 hi ⟨v4, v5, v6, v7, us, tl, rfl, hro4, hul, pu, hok, hsp, prw, S4, kp4⟩
        have hil := (List.getElem?_eq_some_iff.mp hi).1
        have hym := List.mem_of_getElem? hi
        obtain ⟨b1, i1, j1, x1, kd1, rfl, hb1, hmem, hij, hjn, hkw, hx1, hx2⟩ := kly.tie ti hym
        obtain ⟨b1', k1, eb, hbk1⟩ := hbk _ (pm.subset hym)
        cases eb
        obtain ⟨cs0, l0, m0, t0, S30⟩ := id S3
        have nb1 : b1 ≠ sa := ne_of hb1 S30.ds (by intro z; cases z)
        have nb2 : b1 ≠ ca := ne_of hb1 S30.dc (by intro z; cases z)
        have nb3 : b1 ≠ ro := ne_of hb1 hro3 (by intro z; cases z)
        have ek : keyBack H1 (V.ref b1) = [Sum.inl (i1 : Int), Sum.inl (j1 : Int), Sum.inr kd1] := by
          have q1 := (kp3 _ _ (s2 _ _ hbk1) nb1 nb2).symm.trans hb1
          rw [keyBack_of hbk1]
          have q2 : List.map kV k1 = List.map kV [Sum.inl (i1 : Int), Sum.inl (j1 : Int), Sum.inr kd1] := by
            have := Option.some.inj q1
            injection this
          have q3 := congrArg (List.map keyOf) q2
          rw [List.map_map, List.map_map] at q3
          have idk : (keyOf ∘ kV : Key → Key) = id := funext fun z => keyOf_kV z
          rw [idk, List.map_id, List.map_id] at q3
          exact q3
        obtain ⟨x, hx⟩ : ∃ x, nm[i1]? = some x := ⟨_, List.getElem?_eq_getElem (by omega)⟩
        obtain ⟨y, hy⟩ : ∃ x, nm[j1]? = some x := ⟨_, List.getElem?_eq_getElem (by omega)⟩
        have hxy : x ≠ y := fun e => by
          subst e
          have := (List.getElem?_inj (List.getElem?_eq_some_iff.mp hx).1 W.nn).mp (hx.trans hy.symm)
          omega
        have nar : a ≠ ro := fun e => by subst e; rw [W.hn] at hro; cases hro
        have nwr : wd ≠ ro := fun e => by subst e; rw [W.d] at hro; cases hro
        have ntr : t ≠ ro := fun e => by subst e; rw [W.ht] at hro; cases hro
        have hn4 := kp4 _ _ W3.hn W.as.1 W.as.2 nar
        have hwd4 := kp4 _ _ W3.d W.ds.1 W.ds.2 nwr
        have ht4 := kp4 _ _ W3.ht W.ts.1 W.ts.2 ntr
        refine ⟨b1, _, rfl, SqT.of (kp4 _ _ hb1 nb1 nb2 nb3), rfl, _, _, rfl, _, _, rfl, _, _, rfl, rfl, ?_⟩
        refine ⟨_, rfl, _, rfl, a, _, _, V.str x, rfl, rfl, SqL.of hn4, atI_nat (by rw [List.getElem?_map, hx]; rfl), _, rfl, _, rfl, a, _, _, V.str y, rfl, rfl, SqL.of hn4, atI_nat (by rw [List.getElem?_map, hy]; rfl), (by show 2 ≤ sizeLine; decide), fun l1 hl1 => ?_⟩
        have s5 := same_new (o := .lst [V.str x, V.str y]) hl1
        have hl5 : (upd H4 l1 (.lst [V.str x, V.str y])) l1 = some (.lst [V.str x, V.str y]) := upd_same
        have S5 := S4.same s5
        have nl1 := S4.ne hl1
        generalize upd H4 l1 (.lst [V.str x, V.str y]) = H5 at *
        refine ⟨_, rfl, sa, ca, 2, rfl, S5, by decide, by decide, fun kk H6 k0 k1' S6 kp6 => ⟨_, _, rfl, rfl, .inl (by decide), _, _, rfl, rfl, ?_⟩⟩
        refine ⟨_, rfl, l1, _, rfl, ?_, rfl, SqL.of (kp6 _ _ hl5 nl1.1 nl1.2), fun en hen => ?_⟩
        · show (1 : Int) - 2 * kk ≠ 0
          omega
        have ends : ∃ x' y', stepV [V.str x, V.str y] ((some ((1 : Int) - 2 * kk)).getD 1) = [V.str x', V.str y'] ∧ ((x' = x ∧ y' = y) ∨ (x' = y ∧ y' = x)) := by
          have : kk = 0 ∨ kk = 1 := by omega
          rcases this with rfl | rfl
          · exact ⟨x, y, step_up _ _, .inl ⟨rfl, rfl⟩⟩
          · exact ⟨y, x, step_down _ _, .inr ⟨rfl, rfl⟩⟩
        obtain ⟨x', y', est, hor⟩ := ends
        rw [est]
        have s7 := same_new (o := .lst [V.str x', V.str y']) hen
        have hen7 : (upd H6 en (.lst [V.str x', V.str y'])) en = some (.lst [V.str x', V.str y']) := upd_same
        have S7 := S6.same s7
        have kp47 : Kp sa ca H4 (upd H6 en (.lst [V.str x', V.str y'])) := ((Kp.same s5).trans kp6).trans (Kp.same s7)
        generalize upd H6 en (.lst [V.str x', V.str y']) = H7 at *
        have hro7 := kp47 _ _ hro4 nrs nrc
        have hwd7 := kp47 _ _ hwd4 W.ds.1 W.ds.2
        have ht7 := kp47 _ _ ht4 W.ts.1 W.ts.2
        have hval : valV kvs [Sum.inl (i1 : Int), Sum.inl (j1 : Int), Sum.inr kd1] = some (V.int (x1 : Int)) := val_of_mem ti.nd hmem
        refine ⟨_, rfl, .inl ⟨rfl, _, SqL.of hro7⟩, _, rfl, en, _, _, V.str x', rfl, rfl, SqL.of hen7, atI_nat (j := 0) rfl, _, rfl, en, _, _, V.str y', rfl, rfl, SqL.of hen7, atI_nat (j := 1) rfl, _, rfl, _, rfl, wd, _, rfl, dg_ties hwd7, _, rfl, _, rfl, _, rfl, (by show 3 ≤ sizeLine; decide), fun u hu' => ?_⟩
        have s8 := same_new (o := .tup [V.int (i1 : Int), V.int (j1 : Int), V.str kd1]) hu'
        have hu8 : (upd H7 u (.tup [V.int (i1 : Int), V.int (j1 : Int), V.str kd1])) u = some (.tup (List.map kV [Sum.inl (i1 : Int), Sum.inl (j1 : Int), Sum.inr kd1])) := upd_same
        generalize upd H7 u (.tup [V.int (i1 : Int), V.int (j1 : Int), V.str kd1]) = H8 at *
        refine ⟨t, _, rfl, (by rw [← hval]; exact DGet.t (s8 _ _ ht7) hu8), (by show 4 ≤ sizeLine; decide), fun o ho => ?_⟩
        have s9 := same_new (o := .tup [V.str x', V.str y', V.str kd1, V.int (x1 : Int)]) ho
        have ho9 : (upd H8 o (.tup [V.str x', V.str y', V.str kd1, V.int (x1 : Int)])) o = some (.tup (TieV.tup ⟨x', y', kd1, (x1 : Int)⟩)) := upd_same
        have kp79 : Kp sa ca H4 (upd H8 o (.tup [V.str x', V.str y', V.str kd1, V.int (x1 : Int)])) := kp47.trans (Kp.same (s8.trans s9))
        have S9 := S7.same (s8.trans s9)
        have hro9 := s9 _ _ (s8 _ _ hro7)
        generalize upd H8 o (.tup [V.str x', V.str y', V.str kd1, V.int (x1 : Int)]) = H9 at *
        refine ⟨ro, _, _, rfl, rfl, hro9, Evl.sz_lt (by rw [List.length_map]; omega), ?_⟩
        obtain ⟨cs4, l4, m4, t4, S40⟩ := id S4
        have nor : o ≠ ro := ne_of ho9 hro9 (by intro z; cases z)
        refine ⟨_, _, _, _, us ++ [o], tl ++ [⟨x', y', kd1, (x1 : Int)⟩], rfl, by rw [upd_same, List.map_append]; rfl, by simp [hul], ?_, ?_, ?_, ?_, S9.upd nrs nrc, fun b' o' e' h1 h2 h3 => ?_⟩
        · refine paired_snoc (Paired.mapP pu fun u' tv h => ?_) (by rw [upd_ne nor]; exact ho9)
          rw [upd_ne (ne_of h hro4 (by intro z; cases z))]
          exact kp79 _ _ h (ne_of h S40.ds (by intro z; cases z)) (ne_of h S40.dc (by intro z; cases z))
        · intro tv htv
          rcases List.mem_append.mp htv with z | z
          · exact hok tv z
          · rw [List.mem_singleton] at z
            subst z
            have mx := List.mem_of_getElem? hx
            have my := List.mem_of_getElem? hy
            rcases hor with ⟨rfl, rfl⟩ | ⟨rfl, rfl⟩
            · exact ⟨mx, my, hxy, hkw, by show (1 : Int) ≤ (x1 : Int); omega⟩
            · exact ⟨my, mx, hxy.symm, hkw, by show (1 : Int) ≤ (x1 : Int); omega⟩
        · have e3 : (ys.map (keyBack H1))[i]? = some [Sum.inl (i1 : Int), Sum.inl (j1 : Int), Sum.inr kd1] := by rw [List.getElem?_map, hi]; exact congrArg some ek
          rw [List.take_add_one, e3, List.map_append, List.map_append, hsp]
          have e4 : TieV.spot ⟨x', y', kd1, (x1 : Int)⟩ = spotK nm [Sum.inl (i1 : Int), Sum.inl (j1 : Int), Sum.inr kd1] := by
            rw [spotK_at hx hy]
            show [Sum.inr (minS x' y'), Sum.inr (maxS x' y'), Sum.inr kd1] = _
            rcases hor with ⟨rfl, rfl⟩ | ⟨rfl, rfl⟩
            · rfl
            · rw [(mm_comm hxy).1, (mm_comm hxy).2]
          rw [List.map_singleton, e4]
          rfl
        · have e3 : (ys.map (keyBack H1))[i]? = some [Sum.inl (i1 : Int), Sum.inl (j1 : Int), Sum.inr kd1] := by rw [List.getElem?_map, hi]; exact congrArg some ek
          rw [List.take_add_one, e3, List.map_append]
          refine paired_snoc prw ?_
          show RowOf nm ⟨x', y', kd1, (x1 : Int)⟩ (tieRow ([Sum.inl (i1 : Int), Sum.inl (j1 : Int), Sum.inr kd1], (valV kvs [Sum.inl (i1 : Int), Sum.inl (j1 : Int), Sum.inr kd1]).getD .non))
          rw [hval]
          show RowOf nm ⟨x', y', kd1, (x1 : Int)⟩ ⟨(i1 : Int).toNat, (j1 : Int).toNat, kd1, (x1 : Int)⟩
          rw [Int.toNat_natCast, Int.toNat_natCast]
          rcases hor with ⟨rfl, rfl⟩ | ⟨rfl, rfl⟩
          · exact ⟨i1, j1, hx, hy, by show i1 = _; omega, by show j1 = _; omega, rfl, rfl⟩
          · exact ⟨j1, i1, hy, hx, by show i1 = _; omega, by show j1 = _; omega, rfl, rfl⟩
        · rw [upd_ne h3]
          exact kp79 _ _ (kp4 _ _ e' h1 h2 h3) h1 h2
      · rintro σ H4 ⟨v4, v5, v6, v7, us, tl, rfl, hro4, hul, pu, hok, hsp, prw, S4, kp4⟩
        rw [List.take_of_length_le (by simp)] at hsp prw
        refine ⟨v4, v5, v6, v7, tl, rfl, ⟨us, hro4, pu⟩, hok, ?_, ⟨_, prw, rows_perm ti.nd hkk⟩, by rw [← Paired.length pu]; omega, S4, fun b' o' e' h1 h2 => ?_⟩
        · rw [hsp]
          refine spots_nd W.nn (fun k hk' => ?_) (hkk.nodup_iff.mpr ti.nd)
          obtain ⟨kv, hkv, rfl⟩ := List.mem_map.mp (hkk.subset hk')
          exact ti.key kv hkv
        · exact kp4 _ _ (kp03 _ _ e' h1 h2) h1 h2 (ne_of_none e' hro)
    rintro σ H2 ⟨v4, v5, v6, v7, tl, rfl, hti, hok, hnd, ⟨rw0, prw0, pmw0⟩, hlen, S2, kp2⟩
    have W2 := W.kp kp2
    refine ⟨_, rfl, _, rfl, wd, _, rfl, dg_colours W2.d, a, b, _, _, rfl, SqL.of W2.hn, SqL.of W2.hc, by rw [List.length_map, List.length_map, W.cn], by rw [List.length_map]; exact hnl, fun pl ts H3 hpl0 htl hpl hts s3 => ?_⟩
    refine ⟨_, rfl, fun p dx hp0 hdx0 ne => ?_⟩
    have s4 : Same H3 (upd (upd H3 dx (.own p)) p (.ins C dx [])) := (same_new hdx0).trans (same_new (by rw [upd_ne ne.symm]; exact hp0))
    have hp4 : (upd (upd H3 dx (.own p)) p (.ins C dx [])) p = some (.ins C dx []) := upd_same
    generalize upd (upd H3 dx (.own p)) p (.ins C dx []) = H4 at *
    have s3 : Same H2 H3 := s3
    have s34 := s3.trans s4
    have S4 := S2.same s34
    refine ⟨p, dx, pl, ro, nm, cl, tl, rfl, hp4, ⟨ts, s4 _ _ hpl, by rw [htl, List.length_map], fun i t' ht' => ?_⟩, ?_, W.n1, hnl, W.nn, W.nw, W.cw, hok, hnd, (by omega), fun q dc r wb rs rw' H5 hq0 hdc0 hr0' hwb0 web pr pm srt bt => ⟨rfl, ?_⟩⟩
    · obtain ⟨x, y, hx, hy, he⟩ := hts i t' ht'
      rw [List.getElem?_map] at hx hy
      obtain ⟨x', hx', rfl⟩ := Option.map_eq_some_iff.mp hx
      obtain ⟨y', hy', rfl⟩ := Option.map_eq_some_iff.mp hy
      exact ⟨x', y', hx', hy', s4 _ _ he⟩
    · obtain ⟨us, h1, h2⟩ := hti
      exact ⟨us, s34 _ _ h1, Paired.mapP h2 fun u tv e => s34 _ _ e⟩
    · have hp00 : H p = none := kp2.free S2 (s3.free hp0)
      have hq00 : H q = none := kp2.free S2 (s34.free hq0)
      refine k p q dc r wb rs H5 hp00 hq00 (kp2.free S2 (s34.free hdc0)) (kp2.free S2 (s34.free hr0')) (kp2.free S2 (s34.free hwb0)) web ⟨pm.trans (by rw [rows_uniq W.nn pr prw0]; exact pmw0), srt⟩ ?_ fun b' o' e' h1 h2 => bt _ _ (s34 _ _ (kp2 _ _ e' h1 h2)) (ne_of_none e' hp00)
      obtain ⟨cs, l, m', t', S0⟩ := S4
      exact ⟨cs, l, m', t', ⟨bt _ _ S0.ds (ne_of S0.ds hp4 (by intro z; cases z)), bt _ _ S0.dc (ne_of S0.dc hp4 (by intro z; cases z)), S0.nn, S0.len, S0.l0, S0.m0, S0.m1, S0.t0⟩⟩
end
end Nm
set_option maxRecDepth 100000
set_option maxHeartbeats 8000000
/-! copies of a web: mathematics -/
namespace Nm
open PySem L2
def pN (k : Nat) : Str := ("p" : Str) ++ ((toString (k : Int) : String) : Str)
theorem pN_w : ∀ k < 240, isWordB (pN k) = true := by decide +kernel
theorem pN_len : ∀ k < 240, (pN k).length ≤ 100 := by decide +kernel
theorem pN_nd : ((List.range 240).map pN).Nodup := by decide +kernel
theorem pN_inj {a b : Nat} (ha : a < 240) (hb : b < 240) (e : pN a = pN b) : a = b := by
  have h1 : ((List.range 240).map pN)[a]? = some (pN a) := by rw [List.getElem?_map, List.getElem?_range ha]; rfl
  have h2 : ((List.range 240).map pN)[b]? = some (pN a) := by rw [List.getElem?_map, List.getElem?_range hb, e]; rfl
  exact (List.getElem?_inj (List.getElem?_eq_some_iff.mp h1).1 pN_nd).mp (h1.trans h2.symm)
/-- the first c names of copies -/
def nmT (c : Nat) : List Str := (List.range c).map pN
theorem nmT_len (c : Nat) : (nmT c).length = c := by unfold nmT; rw [List.length_map, List.length_range]
theorem nmT_at {c k : Nat} (h : k < c) : (nmT c)[k]? = some (pN k) := by unfold nmT; rw [List.getElem?_map, List.getElem?_range h]; rfl
theorem nmT_nd {c : Nat} (h : c ≤ 240) : (nmT c).Nodup := by
  refine List.Sublist.nodup ?_ pN_nd
  unfold nmT
  exact (List.range_sublist.mpr h).map _
theorem nmT_w {c : Nat} (h : c ≤ 240) : ∀ x ∈ nmT c, isWordB x = true := fun x hx => by
  obtain ⟨k, hk, rfl⟩ := List.mem_map.mp hx
  exact pN_w k (by have := List.mem_range.mp hk; omega)
theorem nmT_step (c : Nat) : nmT (c + 1) = nmT c ++ [pN c] := by unfold nmT; rw [List.range_succ, List.map_append]; rfl
/-- the colour of each copy -/
def clT (m : Nat) (cl : List Str) (c : Nat) : List Str := (List.range c).map fun k => (cl[k / m]?).getD ""
theorem clT_len (m : Nat) (cl : List Str) (c : Nat) : (clT m cl c).length = c := by unfold clT; rw [List.length_map, List.length_range]
theorem clT_at {m : Nat} {cl : List Str} {c k : Nat} (h : k < c) : (clT m cl c)[k]? = some ((cl[k / m]?).getD "") := by unfold clT; rw [List.getElem?_map, List.getElem?_range h]; rfl
theorem dm {m i j : Nat} (h : j < m) : (i * m + j) / m = i ∧ (i * m + j) % m = j := by
  refine ⟨?_, ?_⟩
  · rw [Nat.mul_comm, Nat.mul_add_div (by omega), Nat.div_eq_of_lt h, Nat.add_zero]
  · rw [Nat.mul_comm, Nat.mul_add_mod, Nat.mod_eq_of_lt h]
theorem clT_w {m : Nat} {cl : List Str} {c : Nat} (h : ∀ x ∈ cl, isWordB x = true) (hc : c ≤ cl.length * m) : ∀ x ∈ clT m cl c, isWordB x = true := fun x hx => by
  obtain ⟨k, hk, rfl⟩ := List.mem_map.mp hx
  have hk := List.mem_range.mp hk
  have hkm : k / m < cl.length := Nat.div_lt_of_lt_mul (by rw [Nat.mul_comm]; omega)
  show isWordB ((cl[k / m]?).getD "") = true
  rw [List.getElem?_eq_getElem hkm]
  exact h _ (List.getElem_mem hkm)
/-- the dict that leads the copies down -/
def foldK (m : Nat) (nm : List Str) (c : Nat) : List (Key × V) := (List.range c).map fun k => (Sum.inr (pN k), V.str ((nm[k / m]?).getD ""))
theorem foldK_keys (m : Nat) (nm : List Str) (c : Nat) : (foldK m nm c).map (·.1) = (nmT c).map Sum.inr := by
  unfold foldK nmT
  rw [List.map_map, List.map_map]
  rfl
theorem foldK_step (m : Nat) (nm : List Str) (c : Nat) : foldK m nm (c + 1) = foldK m nm c ++ [(Sum.inr (pN c), V.str ((nm[c / m]?).getD ""))] := by
  unfold foldK
  rw [List.range_succ, List.map_append]
  rfl
theorem foldK_len (m : Nat) (nm : List Str) (c : Nat) : (foldK m nm c).length = c := by unfold foldK; rw [List.length_map, List.length_range]
theorem foldK_nd {m c : Nat} {nm : List Str} (h : c ≤ 240) : ((foldK m nm c).map (·.1)).Nodup := by
  rw [foldK_keys]
  exact List.Pairwise.map _ (fun a b hab e => hab (Sum.inr.inj e)) (nmT_nd h)
theorem foldK_new {m c : Nat} {nm : List Str} (h : c < 240) : valV (foldK m nm c) (Sum.inr (pN c)) = none := by
  refine val_none_of fun hm => ?_
  rw [foldK_keys] at hm
  obtain ⟨x, hx, e⟩ := List.mem_map.mp hm
  cases e
  obtain ⟨k, hk, e⟩ := List.mem_map.mp hx
  have hk := List.mem_range.mp hk
  have := pN_inj (by omega) h e
  omega
/-- the dict of the first copies -/
def fcK (m : Nat) (nm : List Str) (i : Nat) : List (Key × V) := (nm.zipIdx.take i).map fun p => (Sum.inr p.1, V.int ((p.2 * m : Nat) : Int))
theorem fc_step {m : Nat} {nm : List Str} {i : Nat} {x : Str} (h : nm[i]? = some x) : fcK m nm (i + 1) = fcK m nm i ++ [(Sum.inr x, V.int ((i * m : Nat) : Int))] := by
  unfold fcK
  have e : nm.zipIdx[i]? = some (x, i) := by simp [h]
  rw [List.take_add_one, e, List.map_append]
  rfl
theorem fc_keys (m : Nat) (nm : List Str) (i : Nat) : (fcK m nm i).map (·.1) = (nm.take i).map Sum.inr := by
  unfold fcK
  rw [List.map_map]
  have : nm.take i = (nm.zipIdx.take i).map (·.1) := by rw [List.map_take]; simp
  rw [this, List.map_map]
  rfl
theorem fc_new {m : Nat} {nm : List Str} (nd : nm.Nodup) {i : Nat} {x : Str} (h : nm[i]? = some x) : valV (fcK m nm i) (Sum.inr x) = none := by
  refine val_none_of fun hm => ?_
  rw [fc_keys] at hm
  obtain ⟨y, hy, e⟩ := List.mem_map.mp hm
  cases e
  obtain ⟨j, hj⟩ := List.getElem?_of_mem hy
  rw [List.getElem?_take] at hj
  split at hj
  · rename_i hji
    have := (List.getElem?_inj (List.getElem?_eq_some_iff.mp hj).1 nd).mp (hj.trans h.symm)
    omega
  · cases hj
theorem fc_at {m : Nat} {nm : List Str} (nd : nm.Nodup) {i : Nat} {x : Str} (h : nm[i]? = some x) : valV (fcK m nm nm.length) (Sum.inr x) = some (V.int ((i * m : Nat) : Int)) := by
  refine val_of_mem ?_ ?_
  · rw [fc_keys, List.take_length]
    exact List.Pairwise.map _ (fun a b hab e => hab (Sum.inr.inj e)) nd
  · unfold fcK
    rw [List.take_of_length_le (by simp)]
    refine List.mem_map.mpr ⟨(x, i), ?_, rfl⟩
    rw [List.mem_zipIdx_iff_getElem?]
    exact h
/-! ### the ties of the copies -/
/-- where a copy is turned to -/
def toT (m u : Nat) (t : Int) : Nat := (((u : Int) + t) % (m : Int)).toNat
theorem toT_lt {m u : Nat} {t : Int} (h : 1 ≤ m) : toT m u t < m := by
  unfold toT
  have h1 := Int.emod_nonneg ((u : Int) + t) (b := (m : Int)) (by omega)
  have h2 := Int.emod_lt_of_pos ((u : Int) + t) (b := (m : Int)) (by omega)
  omega
theorem toT_int {m u : Nat} {t : Int} (h : 1 ≤ m) : ((toT m u t : Nat) : Int) = ((u : Int) + t) % (m : Int) := by
  unfold toT
  exact Int.toNat_of_nonneg (Int.emod_nonneg _ (by omega))
/-- the k-th tie's row -/
def cRow (m : Nat) (rs : List RowV) (ts : List Int) (k : Nat) : RowV := ⟨((rs[k / m]?).getD ⟨0, 0, "", 0⟩).i * m + k % m, ((rs[k / m]?).getD ⟨0, 0, "", 0⟩).j * m + toT m (k % m) ((ts[k / m]?).getD 0), ((rs[k / m]?).getD ⟨0, 0, "", 0⟩).kd, ((rs[k / m]?).getD ⟨0, 0, "", 0⟩).w⟩
def cTie (m : Nat) (rs : List RowV) (ts : List Int) (k : Nat) : TieV := ⟨pN (cRow m rs ts k).i, pN (cRow m rs ts k).j, (cRow m rs ts k).kd, (cRow m rs ts k).w⟩
def cRows (m : Nat) (rs : List RowV) (ts : List Int) (c : Nat) : List RowV := (List.range c).map (cRow m rs ts)
def cTies (m : Nat) (rs : List RowV) (ts : List Int) (c : Nat) : List TieV := (List.range c).map (cTie m rs ts)
theorem cTies_step (m : Nat) (rs : List RowV) (ts : List Int) (c : Nat) : cTies m rs ts (c + 1) = cTies m rs ts c ++ [cTie m rs ts c] := by unfold cTies; rw [List.range_succ, List.map_append]; rfl
theorem cTies_len (m : Nat) (rs : List RowV) (ts : List Int) (c : Nat) : (cTies m rs ts c).length = c := by unfold cTies; rw [List.length_map, List.length_range]
theorem cRow_at {m i j : Nat} {rs : List RowV} {ts : List Int} {r : RowV} {t : Int} (hj : j < m) (hr : rs[i]? = some r) (ht : ts[i]? = some t) : cRow m rs ts (i * m + j) = ⟨r.i * m + j, r.j * m + toT m j t, r.kd, r.w⟩ := by
  unfold cRow
  rw [(dm hj).1, (dm hj).2, hr, ht]
  rfl
/-- rows that may stand in a web of n places -/
structure RowsFit (n : Nat) (rs : List RowV) : Prop where
  lt : ∀ r ∈ rs, r.i < r.j ∧ r.j < n
  kw : ∀ r ∈ rs, isWordB r.kd = true
  w1 : ∀ r ∈ rs, 1 ≤ r.w
  nd : (rs.map fun r => (r.i, r.j, r.kd)).Nodup
theorem rowsFit_of {n m : Nat} {kvs : List (List Key × V)} {rs : List RowV} (T : Ties n m kvs) (h : RowsOf kvs rs) : RowsFit n rs := by
  have each : ∀ r ∈ rs, ∃ kv ∈ kvs, r = tieRow kv ∧ ∃ (i j : Nat) (kd : Str) (x : Nat), kv = ([Sum.inl (i : Int), Sum.inl (j : Int), Sum.inr kd], V.int (x : Int)) ∧ i < j ∧ j < n ∧ isWordB kd = true ∧ 1 ≤ x := fun r hr => by
    obtain ⟨kv, hm, rfl⟩ := List.mem_map.mp (h.1.mem_iff.mp hr)
    obtain ⟨i, j, kd, e, h1, h2, h3⟩ := T.key kv hm
    obtain ⟨x, ex, h4, _⟩ := T.val kv hm
    exact ⟨kv, hm, rfl, i, j, kd, x, by rw [← e, ← ex], h1, h2, h3, h4⟩
  refine ⟨fun r hr => ?_, fun r hr => ?_, fun r hr => ?_, ?_⟩
  · obtain ⟨kv, _, rfl, i, j, kd, x, rfl, h1, h2, _⟩ := each r hr
    exact ⟨by show (i : Int).toNat < (j : Int).toNat; simpa using h1, by show (j : Int).toNat < n; simpa using h2⟩
  · obtain ⟨kv, _, rfl, i, j, kd, x, rfl, _, _, h3, _⟩ := each r hr
    exact h3
  · obtain ⟨kv, _, rfl, i, j, kd, x, rfl, _, _, _, h4⟩ := each r hr
    show (1 : Int) ≤ (x : Int)
    omega
  · rw [(h.1.map _).nodup_iff, List.map_map]
    have nd := T.nd
    rw [List.Nodup, List.pairwise_map] at nd ⊢
    refine nd.imp_of_mem fun {a b} ha hb hab e => hab ?_
    obtain ⟨i, j, kd, ea, _⟩ := T.key a ha
    obtain ⟨i', j', kd', eb, _⟩ := T.key b hb
    obtain ⟨x, exa, _⟩ := T.val a ha
    obtain ⟨y, exb, _⟩ := T.val b hb
    have ea' : a = ([Sum.inl (i : Int), Sum.inl (j : Int), Sum.inr kd], V.int (x : Int)) := by rw [← ea, ← exa]
    have eb' : b = ([Sum.inl (i' : Int), Sum.inl (j' : Int), Sum.inr kd'], V.int (y : Int)) := by rw [← eb, ← exb]
    rw [ea', eb'] at e
    have e2 : ((i : Int).toNat, (j : Int).toNat, kd) = ((i' : Int).toNat, (j' : Int).toNat, kd') := e
    simp only [Int.toNat_natCast, Prod.mk.injEq] at e2
    rw [ea, eb, e2.1, e2.2.1, e2.2.2]
theorem row_key_inj {r r' : RowV} (e : rowK r.key = rowK r'.key) : r = r' := by
  cases r
  cases r'
  unfold rowK RowV.key at e
  simp only [List.cons.injEq, Sum.inl.injEq, Sum.inr.injEq, and_true] at e
  obtain ⟨e1, e2, e3, e4⟩ := e
  have : _ = _ := Int.ofNat.inj e1
  have : _ = _ := Int.ofNat.inj e2
  subst e3 e4
  simp_all
/-- the same rows in order are the same list -/
theorem rows_one {rs rs' rw : List RowV} (p : rs.Perm rw) (p' : rs'.Perm rw) (s : rs.Pairwise (fun x y => lexK (rowK y.key) (rowK x.key) = false)) (s' : rs'.Pairwise (fun x y => lexK (rowK y.key) (rowK x.key) = false)) : rs = rs' := by
  have h := sorted_one (l := rs.map fun r => rowK r.key) (m := rs'.map fun r => rowK r.key) (List.pairwise_map.mpr s) (List.pairwise_map.mpr s') ((p.trans p'.symm).map _)
  exact (List.map_inj_right fun a b e => row_key_inj e).mp h
end Nm
set_option maxRecDepth 100000
set_option maxHeartbeats 8000000
/-! the ties of the copies may stand -/
namespace Nm
open PySem L2
section
variable {N m k : Nat} {rs : List RowV} {ts : List Int}
theorem cRow_fit (F : RowsFit N rs) (hm : 1 ≤ m) (hk : k < rs.length * m) : ∃ r, rs[k / m]? = some r ∧ (cRow m rs ts k).i < (cRow m rs ts k).j ∧ (cRow m rs ts k).j < N * m ∧ (cRow m rs ts k).i / m = r.i ∧ (cRow m rs ts k).j / m = r.j ∧ (cRow m rs ts k).i % m = k % m ∧ (cRow m rs ts k).kd = r.kd ∧ (cRow m rs ts k).w = r.w := by
  have hkm : k / m < rs.length := Nat.div_lt_of_lt_mul (by rw [Nat.mul_comm]; omega)
  have hu : k % m < m := Nat.mod_lt _ (by omega)
  have hv : toT m (k % m) ((ts[k / m]?).getD 0) < m := toT_lt hm
  obtain ⟨r, hr⟩ : ∃ r, rs[k / m]? = some r := ⟨_, List.getElem?_eq_getElem hkm⟩
  obtain ⟨h1, h2⟩ := F.lt r (List.mem_of_getElem? hr)
  have e : cRow m rs ts k = ⟨r.i * m + k % m, r.j * m + toT m (k % m) ((ts[k / m]?).getD 0), r.kd, r.w⟩ := by
    unfold cRow
    rw [hr]
    rfl
  rw [e]
  generalize toT m (k % m) ((ts[k / m]?).getD 0) = v at *
  have a1 : (r.i + 1) * m ≤ r.j * m := Nat.mul_le_mul_right m h1
  have a2 : (r.j + 1) * m ≤ N * m := Nat.mul_le_mul_right m h2
  rw [Nat.add_mul, Nat.one_mul] at a1 a2
  refine ⟨r, hr, ?_, ?_, (dm hu).1, (dm hv).1, (dm hu).2, rfl, rfl⟩
  · show r.i * m + k % m < r.j * m + v
    omega
  · show r.j * m + v < N * m
    omega
theorem cTie_ok (F : RowsFit N rs) (hm : 1 ≤ m) (hN : N * m ≤ 240) (hk : k < rs.length * m) : (cTie m rs ts k).Ok (nmT (N * m)) := by
  obtain ⟨r, hr, h1, h2, _, _, _, h6, h7⟩ := cRow_fit (ts := ts) F hm hk
  have hrm := List.mem_of_getElem? hr
  refine ⟨List.mem_of_getElem? (nmT_at (Nat.lt_trans h1 h2)), List.mem_of_getElem? (nmT_at h2), fun e => ?_, ?_, ?_⟩
  · have := pN_inj (by omega) (by omega) e
    omega
  · show isWordB (cRow m rs ts k).kd = true
    rw [h6]
    exact F.kw r hrm
  · show 1 ≤ (cRow m rs ts k).w
    rw [h7]
    exact F.w1 r hrm
theorem cTies_ok (F : RowsFit N rs) (hm : 1 ≤ m) (hN : N * m ≤ 240) : ∀ t ∈ cTies m rs ts (rs.length * m), t.Ok (nmT (N * m)) := fun t ht => by
  obtain ⟨k, hk, rfl⟩ := List.mem_map.mp ht
  exact cTie_ok F hm hN (List.mem_range.mp hk)
theorem cTies_rows (F : RowsFit N rs) (hm : 1 ≤ m) : Paired (RowOf (nmT (N * m))) (cTies m rs ts (rs.length * m)) (cRows m rs ts (rs.length * m)) := by
  have : ∀ c, c ≤ rs.length * m → Paired (RowOf (nmT (N * m))) (cTies m rs ts c) (cRows m rs ts c) := fun c hc => by
    induction c with
    | zero => exact .nil
    | succ c ih =>
      unfold cTies cRows at *
      rw [List.range_succ, List.map_append, List.map_append]
      refine paired_snoc (ih (by omega)) ?_
      obtain ⟨r, hr, h1, h2, _⟩ := cRow_fit (k := c) (ts := ts) F hm (by omega)
      exact ⟨(cRow m rs ts c).i, (cRow m rs ts c).j, nmT_at (Nat.lt_trans h1 h2), nmT_at h2, (Nat.min_eq_left (Nat.le_of_lt h1)).symm, (Nat.max_eq_right (Nat.le_of_lt h1)).symm, rfl, rfl⟩
  exact this _ (Nat.le_refl _)
def rKey (r : RowV) : List Key := [Sum.inl (r.i : Int), Sum.inl (r.j : Int), Sum.inr r.kd]
theorem cTies_spots (F : RowsFit N rs) (hm : 1 ≤ m) (hN : N * m ≤ 240) : ((cTies m rs ts (rs.length * m)).map TieV.spot).Nodup := by
  have e : (cTies m rs ts (rs.length * m)).map TieV.spot = ((cRows m rs ts (rs.length * m)).map rKey).map (spotK (nmT (N * m))) := by
    unfold cTies cRows
    rw [List.map_map, List.map_map, List.map_map]
    refine List.map_congr_left fun k hk => ?_
    obtain ⟨r, hr, h1, h2, _⟩ := cRow_fit (k := k) (ts := ts) F hm (List.mem_range.mp hk)
    show TieV.spot (cTie m rs ts k) = spotK (nmT (N * m)) (rKey (cRow m rs ts k))
    unfold rKey
    rw [spotK_at (nmT_at (Nat.lt_trans h1 h2)) (nmT_at h2)]
    rfl
  rw [e]
  refine spots_nd (nmT_nd hN) (fun key hkey => ?_) ?_
  · obtain ⟨r', hr', rfl⟩ := List.mem_map.mp hkey
    obtain ⟨k, hk, rfl⟩ := List.mem_map.mp hr'
    obtain ⟨r, hr, h1, h2, _, _, _, h6, _⟩ := cRow_fit (k := k) (ts := ts) F hm (List.mem_range.mp hk)
    refine ⟨_, _, _, rfl, h1, by rw [nmT_len]; exact h2, ?_⟩
    rw [h6]
    exact F.kw r (List.mem_of_getElem? hr)
  · unfold cRows
    rw [List.map_map, List.Nodup, List.pairwise_map]
    refine List.Pairwise.imp_of_mem (fun {a b} ha hb hne e => hne ?_) (List.nodup_range)
    obtain ⟨r, hr, _, _, h3, h4, h5, h6, _⟩ := cRow_fit (k := a) (ts := ts) F hm (List.mem_range.mp ha)
    obtain ⟨r', hr', _, _, g3, g4, g5, g6, _⟩ := cRow_fit (k := b) (ts := ts) F hm (List.mem_range.mp hb)
    have e : rKey (cRow m rs ts a) = rKey (cRow m rs ts b) := e
    unfold rKey at e
    simp only [List.cons.injEq, Sum.inl.injEq, Sum.inr.injEq, and_true] at e
    obtain ⟨e1, e2, e3⟩ := e
    have e1 : (cRow m rs ts a).i = (cRow m rs ts b).i := by omega
    have e2 : (cRow m rs ts a).j = (cRow m rs ts b).j := by omega
    have i1 : r.i = r'.i := by rw [← h3, ← g3, e1]
    have i2 : r.j = r'.j := by rw [← h4, ← g4, e2]
    have i3 : r.kd = r'.kd := by rw [← h6, ← g6, e3]
    have i4 : a % m = b % m := by rw [← h5, ← g5, e1]
    have key : (rs.map fun r => (r.i, r.j, r.kd))[a / m]? = (rs.map fun r => (r.i, r.j, r.kd))[b / m]? := by
      rw [List.getElem?_map, List.getElem?_map, hr, hr']
      show some (r.i, r.j, r.kd) = some (r'.i, r'.j, r'.kd)
      rw [i1, i2, i3]
    have hlt : a / m < (rs.map fun r => (r.i, r.j, r.kd)).length := by
      rw [List.length_map]
      exact (List.getElem?_eq_some_iff.mp hr).1
    have i5 : a / m = b / m := (List.getElem?_inj hlt F.nd).mp key
    have d1 := Nat.div_add_mod a m
    have d2 := Nat.div_add_mod b m
    rw [i5, i4] at d1
    omega
end
end Nm
set_option maxRecDepth 100000
set_option maxHeartbeats 4000000
/-! what the law reckons, and what the program tells: one and the same -/
namespace Nm
open PySem L2
/-- the name with a number -/
def nmA (nm : List Str) (w : Nat) : Str := (nm[w]?).getD ""
theorem nmA_at {nm : List Str} {w : Nat} {x : Str} (h : nm[w]? = some x) : nmA nm w = x := by
  unfold nmA
  rw [h]
  rfl
/-- where a dict leads a name -/
def leadG (fkv : List (Key × V)) (x : Str) : Str := match valV fkv (Sum.inr x) with
  | some (.str z) => z
  | _ => ""
theorem lead_at {nm' nm : List Str} {led : List Nat} {i w : Nat} {x y : Str} (hx : nm'[i]? = some x) (hw : led[i]? = some w) (hy : nm[w]? = some y) : (Sum.inr x, V.str y) ∈ leadKV nm' nm led := by
  unfold leadKV
  refine List.mem_map.mpr ⟨(x, w), List.mem_of_getElem? (i := i) ?_, by simp [hy]⟩
  rw [List.getElem?_zip_eq_some]
  exact ⟨hx, hw⟩
/-- what of a folding's dict is known -/
structure Lead (nm' nm : List Str) (led : List Nat) (fkv : List (Key × V)) : Prop where
  pm : fkv.Perm (leadKV nm' nm led)
  nd' : nm'.Nodup
  nd : nm.Nodup
  len : led.length = nm'.length
  lt : ∀ x ∈ led, x < nm.length
section
variable {nm' nm : List Str} {led : List Nat} {fkv : List (Key × V)}
theorem Lead.keys (L : Lead nm' nm led fkv) : (fkv.map (·.1)).Nodup := (L.pm.map (·.1)).nodup_iff.mpr (lead_nd L.len L.nd')
theorem Lead.val (L : Lead nm' nm led fkv) {i w : Nat} {x y : Str} (hx : nm'[i]? = some x) (hw : led[i]? = some w) (hy : nm[w]? = some y) : valV fkv (Sum.inr x) = some (V.str y) := val_of_mem L.keys (L.pm.mem_iff.mpr (lead_at hx hw hy))
theorem Lead.g (L : Lead nm' nm led fkv) {i w : Nat} {x y : Str} (hx : nm'[i]? = some x) (hw : led[i]? = some w) (hy : nm[w]? = some y) : leadG fkv x = y := by
  unfold leadG
  rw [L.val hx hw hy]
theorem Lead.there (L : Lead nm' nm led fkv) {i : Nat} {x : Str} (hx : nm'[i]? = some x) : ∃ w y, led[i]? = some w ∧ nm[w]? = some y := by
  have hi := (List.getElem?_eq_some_iff.mp hx).1
  obtain ⟨w, hw⟩ : ∃ w, led[i]? = some w := ⟨_, List.getElem?_eq_getElem (by rw [L.len]; exact hi)⟩
  exact ⟨w, _, hw, List.getElem?_eq_getElem (L.lt w (List.mem_of_getElem? hw))⟩
/-- as the judging functions ask for it -/
theorem Lead.ok (L : Lead nm' nm led fkv) : ∀ x ∈ nm', valV fkv (Sum.inr x) = some (V.str (leadG fkv x)) ∧ leadG fkv x ∈ nm := fun x hx => by
  obtain ⟨i, hi⟩ := List.getElem?_of_mem hx
  obtain ⟨w, y, hw, hy⟩ := L.there hi
  rw [L.g hi hw hy]
  exact ⟨L.val hi hw hy, List.mem_of_getElem? hy⟩
/-- the names over y, by numbers -/
theorem Lead.over_take (L : Lead nm' nm led fkv) {q : Nat} {y : Str} (hq : nm[q]? = some y) : ∀ i, i ≤ nm'.length → overL (nm'.take i) (leadG fkv) y = (posU led i q).map (nmA nm')
  | 0, _ => rfl
  | i + 1, le => by
    obtain ⟨x, hx⟩ : ∃ x, nm'[i]? = some x := ⟨_, List.getElem?_eq_getElem le⟩
    obtain ⟨w, z, hw, hz⟩ := L.there hx
    have ih := L.over_take hq i (by omega)
    have g := L.g hx hw hz
    by_cases e : w = q
    · subst e
      have : z = y := Option.some.inj (hz.symm.trans hq)
      subst this
      rw [overL_yes hx g, posU_yes hw, ih, List.map_append, List.map_singleton, nmA_at hx]
    · have ne : ¬ leadG fkv x = y := fun z' => by
        rw [g] at z'
        subst z'
        exact e ((List.getElem?_inj (List.getElem?_eq_some_iff.mp hz).1 L.nd).mp (hz.trans hq.symm))
      rw [overL_no hx ne, posU_no hw (fun z' => e z'.symm), ih]
theorem Lead.over (L : Lead nm' nm led fkv) {q : Nat} {y : Str} (hq : nm[q]? = some y) : overL nm' (leadG fkv) y = (posU led led.length q).map (nmA nm') := by
  have := L.over_take hq nm'.length (Nat.le_refl _)
  rw [List.take_of_length_le (Nat.le_refl _), ← L.len] at this
  exact this
/-- the counts -/
def cnts (led : List Nat) (n : Nat) : List Nat := (List.range n).map fun q => (posU led led.length q).length
theorem Lead.counts (L : Lead nm' nm led fkv) : (nm.map fun y => (overL nm' (leadG fkv) y).length) = cnts led nm.length := by
  refine List.ext_getElem? fun q => ?_
  unfold cnts
  rw [List.getElem?_map, List.getElem?_map]
  by_cases c : q < nm.length
  · have hq := List.getElem?_eq_getElem c
    rw [hq, List.getElem?_range c, Option.map_some, Option.map_some, L.over hq, List.length_map]
  · rw [List.getElem?_eq_none (by omega), List.getElem?_eq_none (by rw [List.length_range]; omega)]
    rfl
/-- two such dicts are equal -/
theorem Lead.eqs {fkv2 : List (Key × V)} (L : Lead nm' nm led fkv) (L2 : Lead nm' nm led fkv2) : fkv.length = fkv2.length ∧ ∀ p ∈ fkv, valV fkv2 p.1 = some p.2 ∧ flatB p.2 = true := by
  refine ⟨(L.pm.trans L2.pm.symm).length_eq, fun p m => ?_⟩
  have m1 := L.pm.mem_iff.mp m
  refine ⟨val_of_mem L2.keys (L2.pm.mem_iff.mpr m1), ?_⟩
  unfold leadKV at m1
  obtain ⟨z, _, rfl⟩ := List.mem_map.mp m1
  rfl
end
/-- by least and greatest: is there one over each? -/
theorem all_pos {ks : List Nat} {m : Int} (hm : m ∈ ks.map fun (k : Nat) => (k : Int)) (le : ∀ j ∈ ks.map fun (k : Nat) => (k : Int), m ≤ j) : (ks.all fun n => decide (0 < n)) = decide (0 < m) := by
  by_cases c : 0 < m
  · rw [decide_eq_true c]
    refine List.all_eq_true.mpr fun k hk => decide_eq_true ?_
    have := le (k : Int) (List.mem_map.mpr ⟨k, hk, rfl⟩)
    omega
  · rw [decide_eq_false c]
    obtain ⟨k, hk, rfl⟩ := List.mem_map.mp hm
    refine List.all_eq_false.mpr ⟨k, hk, ?_⟩
    simp
    omega
theorem all_same {ks : List Nat} {k0 : Nat} {m M : Int} (h0 : ks[0]? = some k0) (hm : m ∈ ks.map fun (k : Nat) => (k : Int)) (le : ∀ j ∈ ks.map fun (k : Nat) => (k : Int), m ≤ j) (hM : M ∈ ks.map fun (k : Nat) => (k : Int)) (ge : ∀ j ∈ ks.map fun (k : Nat) => (k : Int), j ≤ M) :
    (decide (0 < k0) && ks.all fun n => decide (n = k0)) = (decide (0 < m) && decide (m = M)) := by
  have m0 : k0 ∈ ks := List.mem_of_getElem? h0
  by_cases c : m = M
  · subst c
    have same : ∀ k ∈ ks, (k : Int) = m := fun k hk => Int.le_antisymm (ge _ (List.mem_map.mpr ⟨k, hk, rfl⟩)) (le _ (List.mem_map.mpr ⟨k, hk, rfl⟩))
    have e0 := same k0 m0
    have a1 : (ks.all fun n => decide (n = k0)) = true := List.all_eq_true.mpr fun k hk => decide_eq_true (by have := same k hk; omega)
    rw [a1, Bool.and_true, decide_eq_true (rfl : m = m), Bool.and_true]
    by_cases p : 0 < k0
    · rw [decide_eq_true p, decide_eq_true (by omega)]
    · rw [decide_eq_false p, decide_eq_false (by omega)]
  · rw [decide_eq_false c, Bool.and_false]
    obtain ⟨a, ha, ea⟩ := List.mem_map.mp hm
    obtain ⟨b, hb, eb⟩ := List.mem_map.mp hM
    have a1 : (ks.all fun n => decide (n = k0)) = false := by
      refine List.all_eq_false.mpr ?_
      by_cases p : a = k0
      · exact ⟨b, hb, by simp; omega⟩
      · exact ⟨a, ha, by simp [p]⟩
    rw [a1, Bool.and_false]
theorem none_same {ks : List Nat} {k0 : Nat} {m : Int} (hm : m ∈ ks.map fun (k : Nat) => (k : Int)) (c : ¬ 0 < m) : (decide (0 < k0) && ks.all fun n => decide (n = k0)) = false := by
  obtain ⟨a, ha, ea⟩ := List.mem_map.mp hm
  by_cases p : 0 < k0
  · have a1 : (ks.all fun n => decide (n = k0)) = false := List.all_eq_false.mpr ⟨a, ha, by simp; omega⟩
    rw [a1, Bool.and_false]
  · rw [decide_eq_false p, Bool.false_and]
/-- a web over itself -/
def selfKV (nm : List Str) : List (Key × V) := nm.map fun x => (Sum.inr x, V.str x)
theorem self_keys (nm : List Str) : (selfKV nm).map (·.1) = nm.map Sum.inr := by
  unfold selfKV
  rw [List.map_map]
  rfl
theorem self_nd {nm : List Str} (nd : nm.Nodup) : ((selfKV nm).map (·.1)).Nodup := by
  rw [self_keys]
  exact List.Pairwise.map _ (fun a b hab e => hab (Sum.inr.inj e)) nd
theorem self_ok {nm : List Str} (nd : nm.Nodup) : ∀ x ∈ nm, valV (selfKV nm) (Sum.inr x) = some (V.str (id x)) ∧ id x ∈ nm := fun x hx => ⟨val_of_mem (self_nd nd) (List.mem_map.mpr ⟨x, hx, rfl⟩), hx⟩
theorem self_over {nm : List Str} (nd : nm.Nodup) : ∀ y ∈ nm, (overL nm id y).length = 1 := by
  intro y hy
  have e : overL nm id y = nm.filter (· == y) := by
    unfold overL
    congr 1
  have h1 : nm.count y ≤ 1 := List.nodup_iff_count.mp nd y
  have h2 : 0 < nm.count y := List.count_pos_iff.mpr hy
  rw [e, ← List.count_eq_length_filter]
  omega
theorem self_onto {nm : List Str} (nd : nm.Nodup) : ((nm.map fun y => (overL nm id y).length).all fun n => decide (0 < n)) = true := by
  rw [List.all_map]
  refine List.all_eq_true.mpr fun y hy => ?_
  show decide (0 < (overL nm id y).length) = true
  rw [self_over nd y hy]
  rfl
theorem self_spread {nm : List Str} (nd : nm.Nodup) {y0 : Str} (h : nm[0]? = some y0) : (decide (0 < (overL nm id y0).length) && (nm.map fun y => (overL nm id y).length).all fun n => decide (n = (overL nm id y0).length)) = true := by
  rw [self_over nd y0 (List.mem_of_getElem? h), List.all_map]
  refine Bool.and_eq_true_iff.mpr ⟨rfl, List.all_eq_true.mpr fun y hy => ?_⟩
  show decide ((overL nm id y).length = 1) = true
  rw [self_over nd y hy]
  rfl
end Nm
set_option maxRecDepth 100000
set_option maxHeartbeats 4000000
/-! how wide names hang together; coverings by names -/
namespace Nm
open PySem L2
def wN (nm : List Str) (rs : List RowV) (a b kd : Str) : Nat := (rs.map fun r => if r.kd = kd ∧ ((nmA nm r.i = a ∧ nmA nm r.j = b) ∨ (nmA nm r.i = b ∧ nmA nm r.j = a)) then r.w.toNat else 0).sum
theorem wN_cons (nm : List Str) (r : RowV) (rs : List RowV) (a b kd : Str) : wN nm (r :: rs) a b kd = (if r.kd = kd ∧ ((nmA nm r.i = a ∧ nmA nm r.j = b) ∨ (nmA nm r.i = b ∧ nmA nm r.j = a)) then r.w.toNat else 0) + wN nm rs a b kd := rfl
theorem wN_snoc (nm : List Str) (r : RowV) (rs : List RowV) (a b kd : Str) : wN nm (rs ++ [r]) a b kd = wN nm rs a b kd + (if r.kd = kd ∧ ((nmA nm r.i = a ∧ nmA nm r.j = b) ∨ (nmA nm r.i = b ∧ nmA nm r.j = a)) then r.w.toNat else 0) := by
  unfold wN
  rw [List.map_append, List.sum_append]
  simp
theorem wN_swap (nm : List Str) (rs : List RowV) (a b kd : Str) : wN nm rs a b kd = wN nm rs b a kd := by
  unfold wN
  congr 1
  refine List.map_congr_left fun r _ => ?_
  have e : (r.kd = kd ∧ ((nmA nm r.i = a ∧ nmA nm r.j = b) ∨ (nmA nm r.i = b ∧ nmA nm r.j = a))) ↔ (r.kd = kd ∧ ((nmA nm r.i = b ∧ nmA nm r.j = a) ∨ (nmA nm r.i = a ∧ nmA nm r.j = b))) := by
    constructor <;> (rintro ⟨h, z | z⟩) <;> first | exact ⟨h, .inr z⟩ | exact ⟨h, .inl z⟩
  simp only [e]
theorem nmA_get {nm : List Str} {i : Nat} (h : i < nm.length) : nm[i]? = some (nmA nm i) := by
  unfold nmA
  rw [List.getElem?_eq_getElem h]
  rfl
theorem nmA_mem {nm : List Str} {i : Nat} (h : i < nm.length) : nmA nm i ∈ nm := List.mem_of_getElem? (nmA_get h)
theorem nmA_inj {nm : List Str} (nd : nm.Nodup) {i j : Nat} (hi : i < nm.length) (hj : j < nm.length) (e : nmA nm i = nmA nm j) : i = j :=
  (List.getElem?_inj hi nd).mp (by rw [nmA_get hi, nmA_get hj, e])
/-- what a row gives a name -/
def tieN (nm : List Str) (h : Str → Nat) (x kd : Str) (r : RowV) : Nat := if r.kd = kd then (if nmA nm r.i = x then h (nmA nm r.j) else 0) + (if nmA nm r.j = x then h (nmA nm r.i) else 0) else 0
def SN (nm : List Str) (h : Str → Nat) (x kd : Str) (rs : List RowV) : Nat := (rs.map fun r => r.w.toNat * tieN nm h x kd r).sum
theorem SN.perm {nm : List Str} {h : Str → Nat} {x kd : Str} {a b : List RowV} (p : a.Perm b) : SN nm h x kd a = SN nm h x kd b := (p.map _).sum_nat
theorem row_sum {nm : List Str} (nd : nm.Nodup) {h : Str → Nat} {x kd : Str} {r : RowV} (h1 : r.i < r.j) (h2 : r.j < nm.length) :
    (nm.map fun z => h z * (if r.kd = kd ∧ ((nmA nm r.i = x ∧ nmA nm r.j = z) ∨ (nmA nm r.i = z ∧ nmA nm r.j = x)) then r.w.toNat else 0)).sum = r.w.toNat * tieN nm h x kd r := by
  have hij : nmA nm r.i ≠ nmA nm r.j := fun e => by have := nmA_inj nd (by omega) h2 e; omega
  unfold tieN
  by_cases hk : r.kd = kd
  · rw [if_pos hk]
    by_cases ei : nmA nm r.i = x
    · have ej : ¬ nmA nm r.j = x := fun e => hij (ei.trans e.symm)
      rw [if_pos ei, if_neg ej, Nat.add_zero]
      rw [sumo (a := nmA nm r.j) nd (nmA_mem h2) fun u _ hne => by
        rw [if_neg fun z => by
          rcases z.2 with z | z
          · exact hne z.2.symm
          · exact ej z.2]
        rfl]
      rw [if_pos ⟨hk, .inl ⟨ei, rfl⟩⟩, Nat.mul_comm]
    · rw [if_neg ei, Nat.zero_add]
      by_cases ej : nmA nm r.j = x
      · rw [if_pos ej]
        rw [sumo (a := nmA nm r.i) nd (nmA_mem (by omega)) fun u _ hne => by
          rw [if_neg fun z => by
            rcases z.2 with z | z
            · exact ei z.1
            · exact hne z.1.symm]
          rfl]
        rw [if_pos ⟨hk, .inr ⟨rfl, ej⟩⟩, Nat.mul_comm]
      · rw [if_neg ej, Nat.mul_zero]
        exact sumz fun u _ => by
          rw [if_neg fun z => by
            rcases z.2 with z | z
            · exact ei z.1
            · exact ej z.2]
          rfl
  · rw [if_neg hk, Nat.mul_zero]
    exact sumz fun u _ => by
      rw [if_neg fun z => hk z.1]
      rfl
theorem sN_eq {nm : List Str} (nd : nm.Nodup) {h : Str → Nat} {x kd : Str} : ∀ {rs : List RowV}, (∀ r ∈ rs, r.i < r.j ∧ r.j < nm.length) → (nm.map fun z => h z * wN nm rs x z kd).sum = SN nm h x kd rs
  | [], _ => sumz fun u _ => rfl
  | r :: rs, hr => by
    have ih := sN_eq nd (h := h) (x := x) (kd := kd) (rs := rs) fun r' h' => hr r' (List.mem_cons_of_mem _ h')
    obtain ⟨h1, h2⟩ := hr r List.mem_cons_self
    have e : (nm.map fun z => h z * wN nm (r :: rs) x z kd) = nm.map fun z => h z * (if r.kd = kd ∧ ((nmA nm r.i = x ∧ nmA nm r.j = z) ∨ (nmA nm r.i = z ∧ nmA nm r.j = x)) then r.w.toNat else 0) + h z * wN nm rs x z kd :=
      List.map_congr_left fun z _ => by rw [wN_cons, Nat.mul_add]
    rw [e, suma, ih, row_sum nd h1 h2]
    rfl
/-- by numbers -/
theorem tieN_C {nm : List Str} (nd : nm.Nodup) {h : Str → Nat} {kd : Str} {r : RowV} {k : Nat} (h1 : r.i < nm.length) (h2 : r.j < nm.length) (hk : k < nm.length) : tieN nm h (nmA nm k) kd r = tieC (fun y => h (nmA nm y)) k kd (rKey r) := by
  unfold rKey tieN
  rw [tieC_nat]
  have a1 : nmA nm r.i = nmA nm k ↔ r.i = k := ⟨nmA_inj nd h1 hk, fun e => by rw [e]⟩
  have a2 : nmA nm r.j = nmA nm k ↔ r.j = k := ⟨nmA_inj nd h2 hk, fun e => by rw [e]⟩
  simp only [a1, a2]
theorem SN_Sg {nm : List Str} (nd : nm.Nodup) {m : Nat} {kvs : List (List Key × V)} {rs : List RowV} (T : Ties nm.length m kvs) (R : RowsOf kvs rs) {h : Str → Nat} {kd : Str} {k : Nat} (hk : k < nm.length) : SN nm h (nmA nm k) kd rs = Sg (tieC (fun y => h (nmA nm y)) k kd) kvs := by
  rw [SN.perm R.1]
  unfold SN Sg
  rw [List.map_map]
  congr 1
  refine List.map_congr_left fun kv hm => ?_
  obtain ⟨i, j, kd', e1, h1, h2, _⟩ := T.key kv hm
  obtain ⟨x, e2, _⟩ := T.val kv hm
  obtain ⟨ke, v⟩ := kv
  have e1 : ke = [Sum.inl (i : Int), Sum.inl (j : Int), Sum.inr kd'] := e1
  have e2 : v = V.int (x : Int) := e2
  subst e1 e2
  show (x : Int).toNat * tieN nm h (nmA nm k) kd ⟨(i : Int).toNat, (j : Int).toNat, kd', (x : Int)⟩ = (x : Int).toNat * _
  rw [tieN_C nd (by show (i : Int).toNat < _; rw [Int.toNat_natCast]; omega) (by show (j : Int).toNat < _; rw [Int.toNat_natCast]; exact h2) hk]
  unfold rKey
  simp only [Int.toNat_natCast]
/-! ### coverings by names -/
structure Cvr (A : List Str) (WA : Str → Str → Str → Nat) (B : List Str) (WB : Str → Str → Str → Nat) (f : Str → Str) : Prop where
  to : ∀ x ∈ A, f x ∈ B
  sum : ∀ x ∈ A, ∀ (h : Str → Nat) (kd : Str), (A.map fun z => h (f z) * WA x z kd).sum = (B.map fun e => h e * WB (f x) e kd).sum
theorem Cvr.trans {A B C : List Str} {WA WB WC : Str → Str → Str → Nat} {f g : Str → Str} (a : Cvr A WA B WB f) (b : Cvr B WB C WC g) : Cvr A WA C WC (g ∘ f) :=
  ⟨fun x hx => b.to _ (a.to x hx), fun x hx h kd => (a.sum x hx (fun y => h (g y)) kd).trans (b.sum _ (a.to x hx) h kd)⟩
theorem cvr_of {nm' nm : List Str} {kvs kvs' : List (List Key × V)} {cl cl' : List Str} {led : List Nat} {m m' : Nat} {rs rs' : List RowV} {f : Str → Str} (nd' : nm'.Nodup) (nd : nm.Nodup) (T' : Ties nm'.length m' kvs') (T : Ties nm.length m kvs) (R' : RowsOf kvs' rs') (R : RowsOf kvs rs)
    (C : Cov kvs cl kvs' led cl') (hl : led.length = nm'.length) (hlt : ∀ x ∈ led, x < nm.length) (hf : ∀ i < nm'.length, f (nmA nm' i) = nmA nm (lf led i)) : Cvr nm' (wN nm' rs') nm (wN nm rs) f := by
  have F' := rowsFit_of T' R'
  have F := rowsFit_of T R
  have lt : ∀ i < nm'.length, lf led i < nm.length := fun i hi => by
    obtain ⟨p, hp⟩ : ∃ p, led[i]? = some p := ⟨_, List.getElem?_eq_getElem (by omega)⟩
    rw [lf_of hp]
    exact hlt p (List.mem_of_getElem? hp)
  have name : ∀ x ∈ nm', ∃ i < nm'.length, x = nmA nm' i := fun x hx => by
    obtain ⟨i, hi⟩ := List.getElem?_of_mem hx
    exact ⟨i, (List.getElem?_eq_some_iff.mp hi).1, (nmA_at hi).symm⟩
  refine ⟨fun x hx => ?_, fun x hx h kd => ?_⟩
  · obtain ⟨i, hi, rfl⟩ := name x hx
    rw [hf i hi]
    exact nmA_mem (lt i hi)
  · obtain ⟨i, hi, rfl⟩ := name x hx
    obtain ⟨p, hp⟩ : ∃ p, led[i]? = some p := ⟨_, List.getElem?_eq_getElem (by omega)⟩
    rw [sN_eq (h := fun z => h (f z)) nd' F'.lt, SN_Sg nd' T' R' hi, hf i hi, sN_eq nd F.lt, SN_Sg nd T R (lt i hi), lf_of hp]
    rw [← (C i p hp).2 (fun q => h (nmA nm q)) kd]
    refine Sg.congr fun kv hm => ?_
    obtain ⟨a, b, kd', e1, h1, h2, _⟩ := T'.key kv hm
    rw [e1, tieC_nat, tieC_nat, hf a (by omega), hf b h2]
/-! ### turned copies -/
theorem sum_two {F : Nat → Nat} {m : Nat} : ∀ L : Nat, ((List.range (L * m)).map F).sum = ((List.range L).map fun i => ((List.range m).map fun u => F (i * m + u)).sum).sum
  | 0 => by rw [Nat.zero_mul]; rfl
  | L + 1 => by
    rw [Nat.succ_mul, List.range_succ, List.map_append, List.sum_append, ← sum_two L, List.range_add, List.map_append, List.sum_append, List.map_map]
    simp
    rfl
theorem toT_turn {m u : Nat} {t : Int} (hm : 1 ≤ m) : toT m u t = (u + (t % (m : Int)).toNat) % m := by
  have h1 := Int.emod_nonneg t (b := (m : Int)) (by omega)
  have e : ((toT m u t : Nat) : Int) = (((u + (t % (m : Int)).toNat) % m : Nat) : Int) := by
    rw [toT_int hm, Int.natCast_emod, Int.natCast_add, Int.toNat_of_nonneg h1, Int.add_emod_emod]
  omega
theorem cvr_copies {nm : List Str} {rs rs' : List RowV} {ts : List Int} {m : Nat} {f : Str → Str} (nd : nm.Nodup) (F : RowsFit nm.length rs) (hm : 1 ≤ m) (hN : nm.length * m ≤ 240) (p : rs'.Perm (cRows m rs ts (rs.length * m))) (hts : ts.length = rs.length)
    (hf : ∀ k < nm.length * m, f (pN k) = nmA nm (k / m)) : Cvr (nmT (nm.length * m)) (wN (nmT (nm.length * m)) rs') nm (wN nm rs) f := by
  have nd' := nmT_nd hN
  have at' : ∀ k < nm.length * m, nmA (nmT (nm.length * m)) k = pN k := fun k hk => nmA_at (nmT_at hk)
  have dl : ∀ k < nm.length * m, k / m < nm.length := fun k hk => Nat.div_lt_of_lt_mul (by rw [Nat.mul_comm]; exact hk)
  have name : ∀ x ∈ nmT (nm.length * m), ∃ k < nm.length * m, x = pN k := fun x hx => by
    obtain ⟨k, hk, rfl⟩ := List.mem_map.mp hx
    exact ⟨k, List.mem_range.mp hk, rfl⟩
  refine ⟨fun x hx => ?_, fun x hx h kd => ?_⟩
  · obtain ⟨k, hk, rfl⟩ := name x hx
    rw [hf k hk]
    exact nmA_mem (dl k hk)
  · obtain ⟨k, hk, rfl⟩ := name x hx
    have lt' : ∀ r ∈ rs', r.i < r.j ∧ r.j < (nmT (nm.length * m)).length := fun r hr => by
      obtain ⟨k', hk', rfl⟩ := List.mem_map.mp (p.mem_iff.mp hr)
      obtain ⟨_, _, h1, h2, _⟩ := cRow_fit (k := k') (ts := ts) F hm (List.mem_range.mp hk')
      exact ⟨h1, by rw [nmT_len]; exact h2⟩
    rw [sN_eq (h := fun z => h (f z)) nd' lt', hf k hk, sN_eq nd F.lt, SN.perm p]
    have e1 : SN (nmT (nm.length * m)) (fun z => h (f z)) (pN k) kd (cRows m rs ts (rs.length * m)) = ((List.range (rs.length * m)).map fun q => (cRow m rs ts q).w.toNat * tieN (nmT (nm.length * m)) (fun z => h (f z)) (pN k) kd (cRow m rs ts q)).sum := by
      unfold SN cRows
      rw [List.map_map]
      rfl
    have e2 : SN nm h (nmA nm (k / m)) kd rs = ((List.range rs.length).map fun i => ((rs[i]?).getD ⟨0, 0, "", 0⟩).w.toNat * tieN nm h (nmA nm (k / m)) kd ((rs[i]?).getD ⟨0, 0, "", 0⟩)).sum := by
      unfold SN
      congr 1
      refine List.ext_getElem? fun i => ?_
      rw [List.getElem?_map, List.getElem?_map]
      by_cases c : i < rs.length
      · obtain ⟨r, hr⟩ : ∃ r, rs[i]? = some r := ⟨_, List.getElem?_eq_getElem c⟩
        rw [List.getElem?_range c]
        simp [hr]
      · rw [List.getElem?_eq_none (by omega), List.getElem?_eq_none (by rw [List.length_range]; omega)]
        rfl
    rw [e1, e2, sum_two]
    congr 1
    refine List.map_congr_left fun i hi => ?_
    have hi := List.mem_range.mp hi
    obtain ⟨r, hr⟩ : ∃ r, rs[i]? = some r := ⟨_, List.getElem?_eq_getElem hi⟩
    obtain ⟨t, ht⟩ : ∃ t, ts[i]? = some t := ⟨_, List.getElem?_eq_getElem (by omega)⟩
    obtain ⟨r1, r2⟩ := F.lt r (List.mem_of_getElem? hr)
    rw [hr]
    show _ = r.w.toNat * tieN nm h (nmA nm (k / m)) kd r
    rw [tieN_C nd (by omega) r2 (dl k hk)]
    have hu := unit_count (s := fun p u => p * m + u) (f := fun y => y / m) (c := m) (i := r.i) (j := r.j) (x := k) (τ := fun u => toT m u t) (g := fun q => h (nmA nm q)) (kd := kd) (k := r.kd)
      (fun u _ => toT_lt hm) (fun z hz => by
        have := turn_ok (c := m) (t := (t % (m : Int)).toNat) (by have h1 := Int.emod_lt_of_pos t (b := (m : Int)) (by omega); omega)
        obtain ⟨u, h1, h2⟩ := this.2.1 z hz
        exact ⟨u, h1, by rw [toT_turn hm]; exact h2⟩) (fun u hu v hv e => by
        have := turn_ok (c := m) (t := (t % (m : Int)).toNat) (by have h1 := Int.emod_lt_of_pos t (b := (m : Int)) (by omega); omega)
        rw [toT_turn hm, toT_turn hm] at e
        exact this.2.2 u hu v hv e) (fun u hu => ⟨(dm hu).1, (dm hu).1⟩) (fun p _ e => ⟨k % m, Nat.mod_lt _ (by omega), by
        have := Nat.div_add_mod k m
        rw [← e]
        show k / m * m + k % m = k
        rw [Nat.mul_comm]
        exact this⟩) (fun p _ u hu v hv e => by omega)
    have e3 : r.w.toNat * tieC (fun q => h (nmA nm q)) (k / m) kd (rKey r) = ((List.range m).map fun u => r.w.toNat * tieC (fun z => h (nmA nm (z / m))) k kd [Sum.inl ((r.i * m + u : Nat) : Int), Sum.inl ((r.j * m + toT m u t : Nat) : Int), Sum.inr r.kd]).sum := by
      have e4 : ∀ (l : List Nat) (c : Nat) (G : Nat → Nat), (l.map fun u => c * G u).sum = c * (l.map G).sum := fun l c G => by
        induction l with
        | nil => rfl
        | cons a l ih => rw [List.map_cons, List.sum_cons, ih, List.map_cons, List.sum_cons, Nat.mul_add]
      rw [e4]
      congr 1
      exact hu.symm
    rw [e3]
    congr 1
    refine List.map_congr_left fun u hu => ?_
    have hu := List.mem_range.mp hu
    have hq : i * m + u < rs.length * m := by
      have := Nat.mul_le_mul_right m (show i + 1 ≤ rs.length from hi)
      rw [Nat.add_mul, Nat.one_mul] at this
      omega
    obtain ⟨r', hr', f1, f2, _⟩ := cRow_fit (k := i * m + u) (ts := ts) F hm hq
    rw [cRow_at hu hr ht] at f1 f2 ⊢
    have f2 : r.j * m + toT m u t < nm.length * m := f2
    have f1 : r.i * m + u < r.j * m + toT m u t := f1
    rw [← at' k hk, tieN_C nd' (by rw [nmT_len]; show r.i * m + u < _; omega) (by rw [nmT_len]; exact f2) (by rw [nmT_len]; exact hk)]
    show r.w.toNat * tieC _ k kd [Sum.inl ((r.i * m + u : Nat) : Int), Sum.inl ((r.j * m + toT m u t : Nat) : Int), Sum.inr r.kd] = _
    rw [tieC_nat, tieC_nat, at' _ f2, at' _ (by omega : r.i * m + u < nm.length * m), hf _ f2, hf _ (by omega)]
/-! ### the dict of the widths tells them -/
theorem wid_take {nm : List Str} (nd : nm.Nodup) {rs : List RowV} (F : RowsFit nm.length rs) (a b kd : Str) : ∀ i, i ≤ rs.length → (valV (widK nm (rs.take i)) [Sum.inr a, Sum.inr b, Sum.inr kd] = none ∧ wN nm (rs.take i) a b kd = 0 ∨ valV (widK nm (rs.take i)) [Sum.inr a, Sum.inr b, Sum.inr kd] = some (.int (wN nm (rs.take i) a b kd : Nat)) ∧ ∃ r ∈ rs.take i, r.kd = kd ∧ ((nmA nm r.i = a ∧ nmA nm r.j = b) ∨ (nmA nm r.i = b ∧ nmA nm r.j = a)))
  | 0, _ => .inl ⟨rfl, rfl⟩
  | i + 1, hi => by
    have ih := wid_take nd F a b kd i (by omega)
    obtain ⟨r, hr⟩ : ∃ r, rs[i]? = some r := ⟨_, List.getElem?_eq_getElem (by omega)⟩
    have hrm := List.mem_of_getElem? hr
    obtain ⟨r1, r2⟩ := F.lt r hrm
    have w1 := F.w1 r hrm
    have et : rs.take (i + 1) = rs.take i ++ [r] := by rw [List.take_add_one, hr]; rfl
    rw [widK_step hr]
    have ewn : wN nm (rs.take (i + 1)) a b kd = wN nm (rs.take i) a b kd + (if r.kd = kd ∧ ((nmA nm r.i = a ∧ nmA nm r.j = b) ∨ (nmA nm r.i = b ∧ nmA nm r.j = a)) then r.w.toNat else 0) := by rw [et, wN_snoc]
    by_cases c : r.kd = kd ∧ ((nmA nm r.i = a ∧ nmA nm r.j = b) ∨ (nmA nm r.i = b ∧ nmA nm r.j = a))
    · have old : wN nm (rs.take i) a b kd = 0 := by
        rcases ih with ⟨_, z⟩ | ⟨_, r', hr', c'⟩
        · exact z
        · obtain ⟨i', hi'⟩ := List.getElem?_of_mem hr'
          rw [List.getElem?_take] at hi'
          split at hi'
          · rename_i hlt
            have hrm' := List.mem_of_getElem? hi'
            obtain ⟨q1, q2⟩ := F.lt r' hrm'
            have same : r'.i = r.i ∧ r'.j = r.j := by
              have A := fun {x y : Nat} (hx : x < nm.length) (hy : y < nm.length) (e : nmA nm x = nmA nm y) => nmA_inj nd hx hy e
              rcases c.2 with ⟨z1, z2⟩ | ⟨z1, z2⟩ <;> rcases c'.2 with ⟨y1, y2⟩ | ⟨y1, y2⟩
              · exact ⟨A (by omega) (by omega) (y1.trans z1.symm), A q2 r2 (y2.trans z2.symm)⟩
              · have := A (by omega) r2 (y1.trans z2.symm)
                have := A q2 (by omega) (y2.trans z1.symm)
                omega
              · have := A (by omega) r2 (y1.trans z2.symm)
                have := A q2 (by omega) (y2.trans z1.symm)
                omega
              · exact ⟨A (by omega) (by omega) (y1.trans z1.symm), A q2 r2 (y2.trans z2.symm)⟩
            have key : (rs.map fun r => (r.i, r.j, r.kd))[i']? = (rs.map fun r => (r.i, r.j, r.kd))[i]? := by
              rw [List.getElem?_map, List.getElem?_map, hi', hr]
              show some (r'.i, r'.j, r'.kd) = some (r.i, r.j, r.kd)
              rw [same.1, same.2, c'.1, c.1]
            have := (List.getElem?_inj (by rw [List.length_map]; exact (List.getElem?_eq_some_iff.mp hi').1) F.nd).mp key
            omega
          · cases hi'
      right
      rw [ewn, old, if_pos c, Nat.zero_add]
      refine ⟨?_, r, by rw [et]; simp, c⟩
      have ew : ((r.w.toNat : Nat) : Int) = r.w := Int.toNat_of_nonneg (by omega)
      rw [ew]
      unfold widS
      rw [valV_put, valV_put]
      show (if ([Sum.inr a, Sum.inr b, Sum.inr kd] : List Key) = [Sum.inr (nmA nm r.j), Sum.inr (nmA nm r.i), Sum.inr r.kd] then _ else _) = _
      obtain ⟨c0, c1 | c1⟩ := c
      · by_cases e : ([Sum.inr a, Sum.inr b, Sum.inr kd] : List Key) = [Sum.inr (nmA nm r.j), Sum.inr (nmA nm r.i), Sum.inr r.kd]
        · rw [if_pos e]
        · rw [if_neg e, if_pos (by show ([Sum.inr a, Sum.inr b, Sum.inr kd] : List Key) = [Sum.inr (nmA nm r.i), Sum.inr (nmA nm r.j), Sum.inr r.kd]; rw [c1.1, c1.2, c0])]
      · rw [if_pos (by rw [c1.1, c1.2, c0])]
    · have ne1 : ¬ ([Sum.inr a, Sum.inr b, Sum.inr kd] : List Key) = [Sum.inr (nmA nm r.j), Sum.inr (nmA nm r.i), Sum.inr r.kd] := fun e => by
        simp only [List.cons.injEq, Sum.inr.injEq, and_true] at e
        exact c ⟨e.2.2.symm, .inr ⟨e.2.1.symm, e.1.symm⟩⟩
      have ne2 : ¬ ([Sum.inr a, Sum.inr b, Sum.inr kd] : List Key) = [Sum.inr (nmA nm r.i), Sum.inr (nmA nm r.j), Sum.inr r.kd] := fun e => by
        simp only [List.cons.injEq, Sum.inr.injEq, and_true] at e
        exact c ⟨e.2.2.symm, .inl ⟨e.1.symm, e.2.1.symm⟩⟩
      have ev : valV (widS nm (widK nm (rs.take i)) r) [Sum.inr a, Sum.inr b, Sum.inr kd] = valV (widK nm (rs.take i)) [Sum.inr a, Sum.inr b, Sum.inr kd] := by
        unfold widS
        rw [valV_put, valV_put]
        exact (if_neg ne1).trans (if_neg ne2)
      rw [ev, ewn, if_neg c, Nat.add_zero]
      rcases ih with z | ⟨z1, r', hr', c'⟩
      · exact .inl z
      · exact .inr ⟨z1, r', by rw [et]; exact List.mem_append_left _ hr', c'⟩
theorem wid_at {nm : List Str} (nd : nm.Nodup) {rs : List RowV} (F : RowsFit nm.length rs) (a b kd : Str) : (valV (widK nm rs) [Sum.inr a, Sum.inr b, Sum.inr kd]).getD (.int 0) = .int (wN nm rs a b kd : Nat) := by
  have h := wid_take nd F a b kd rs.length (Nat.le_refl _)
  rw [List.take_length] at h
  rcases h with ⟨e1, e2⟩ | ⟨e1, _⟩
  · rw [e1, e2]
    rfl
  · rw [e1]
    rfl
end Nm
set_option maxRecDepth 100000
set_option maxHeartbeats 4000000
/-! ways, and the ways above them -/
namespace Nm
open PySem L2
/-- f, summed over a list -/
def S {α : Type} (l : List α) (f : α → Nat) : Nat := (l.map f).sum
section
variable {α β : Type}
theorem S_nil (f : α → Nat) : S [] f = 0 := rfl
theorem S_cons (a : α) (l : List α) (f : α → Nat) : S (a :: l) f = f a + S l f := rfl
theorem S_app (l m : List α) (f : α → Nat) : S (l ++ m) f = S l f + S m f := by unfold S; rw [List.map_append, List.sum_append]
theorem S_congr {l : List α} {f g : α → Nat} (h : ∀ a ∈ l, f a = g a) : S l f = S l g := by unfold S; congr 1; exact List.map_congr_left h
theorem S_map (l : List α) (g : α → β) (f : β → Nat) : S (l.map g) f = S l fun a => f (g a) := by unfold S; rw [List.map_map]; rfl
theorem S_flat : ∀ (l : List α) (g : α → List β) (f : β → Nat), S (l.flatMap g) f = S l fun a => S (g a) f
  | [], _, _ => rfl
  | a :: l, g, f => by rw [List.flatMap_cons, S_app, S_flat l g f]; rfl
theorem S_filter : ∀ (l : List α) (p : α → Bool) (f : α → Nat), S (l.filter p) f = S l fun a => if p a = true then f a else 0
  | [], _, _ => rfl
  | a :: l, p, f => by
    rw [List.filter_cons, S_cons, ← S_filter l p f]
    split
    · rfl
    · rw [Nat.zero_add]
theorem S_add (l : List α) (f g : α → Nat) : S l (fun a => f a + g a) = S l f + S l g := suma
theorem S_zero {l : List α} {f : α → Nat} (h : ∀ a ∈ l, f a = 0) : S l f = 0 := sumz h
theorem S_one [DecidableEq α] {l : List α} {f : α → Nat} {a : α} (nd : l.Nodup) (ha : a ∈ l) (h : ∀ u ∈ l, u ≠ a → f u = 0) : S l f = f a := sumo nd ha h
theorem S_swap : ∀ (l : List α) (m : List β) (F : α → β → Nat), S l (fun a => S m (F a)) = S m fun b => S l fun a => F a b
  | [], m, F => (S_zero fun _ _ => rfl).symm
  | a :: l, m, F => by rw [S_cons, S_swap l m F, ← S_add]; rfl
theorem S_mulL : ∀ (l : List α) (c : Nat) (f : α → Nat), S l (fun a => c * f a) = c * S l f
  | [], _, _ => rfl
  | a :: l, c, f => by rw [S_cons, S_mulL l c f, S_cons, Nat.mul_add]
theorem S_mulR (l : List α) (c : Nat) (f : α → Nat) : S l (fun a => f a * c) = S l f * c := by
  rw [Nat.mul_comm, ← S_mulL]
  exact S_congr fun a _ => Nat.mul_comm _ _
theorem S_le {l : List α} {f g : α → Nat} : (∀ a ∈ l, f a ≤ g a) → S l f ≤ S l g := by
  induction l with
  | nil => exact fun _ => Nat.le_refl _
  | cons a l ih =>
    intro h
    rw [S_cons, S_cons]
    exact Nat.add_le_add (h a List.mem_cons_self) (ih fun b hb => h b (List.mem_cons_of_mem _ hb))
theorem S_ones : ∀ l : List α, S l (fun _ => 1) = l.length
  | [] => rfl
  | a :: l => by rw [S_cons, S_ones l, List.length_cons, Nat.add_comm]
end
/-- steps of a way: kind, place -/
abbrev Steps := List (Str × Str)
def lastW (a : Str) (l : Steps) : Str := match l.getLast? with | some s => s.2 | none => a
theorem lastW_snoc (a : Str) (l : Steps) (s : Str × Str) : lastW a (l ++ [s]) = s.2 := by unfold lastW; rw [List.getLast?_concat]
def prodW (W : Str → Str → Str → Nat) : Str → Steps → Nat
  | _, [] => 1
  | a, s :: r => W a s.2 s.1 * prodW W s.2 r
theorem lastW_cons (a : Str) (s : Str × Str) (l : Steps) : lastW a (s :: l) = lastW s.2 l := by
  unfold lastW
  cases l with
  | nil => rfl
  | cons b l => rw [List.getLast?_cons_cons]; simp [List.getLast?_cons]
theorem prodW_snoc (W : Str → Str → Str → Nat) : ∀ (a : Str) (l : Steps) (s : Str × Str), prodW W a (l ++ [s]) = prodW W a l * W (lastW a l) s.2 s.1
  | a, [], s => by
    show W a s.2 s.1 * 1 = 1 * W a s.2 s.1
    rw [Nat.mul_one, Nat.one_mul]
  | a, b :: l, s => by
    show W a b.2 b.1 * prodW W b.2 (l ++ [s]) = W a b.2 b.1 * prodW W b.2 l * _
    rw [prodW_snoc W b.2 l s, lastW_cons, Nat.mul_assoc]
/-- a way that may stand -/
def WayOk (A : List Str) (W : Str → Str → Str → Nat) : Str → Steps → Prop
  | a, [] => a ∈ A
  | a, s :: r => a ∈ A ∧ 0 < W a s.2 s.1 ∧ WayOk A W s.2 r
theorem WayOk.head {A : List Str} {W : Str → Str → Str → Nat} : ∀ {a : Str} {l : Steps}, WayOk A W a l → a ∈ A
  | _, [], h => h
  | _, _ :: _, h => h.1
theorem WayOk.snoc {A : List Str} {W : Str → Str → Str → Nat} : ∀ {a : Str} {l : Steps} {s : Str × Str}, WayOk A W a l → s.2 ∈ A → 0 < W (lastW a l) s.2 s.1 → WayOk A W a (l ++ [s])
  | a, [], s, h, hs, w => ⟨h, w, hs⟩
  | a, b :: l, s, h, hs, w => ⟨h.1, h.2.1, h.2.2.snoc hs (by rw [lastW_cons] at w; exact w)⟩
theorem WayOk.last {A : List Str} {W : Str → Str → Str → Nat} : ∀ {a : Str} {l : Steps}, WayOk A W a l → lastW a l ∈ A
  | a, [], h => h
  | a, b :: l, h => by
    rw [lastW_cons]
    exact h.2.2.last
theorem WayOk.pos {A : List Str} {W : Str → Str → Str → Nat} : ∀ {a : Str} {l : Steps}, WayOk A W a l → 1 ≤ prodW W a l
  | a, [], h => Nat.le_refl _
  | a, b :: l, h => Nat.mul_le_mul h.2.1 h.2.2.pos
theorem prod_le {A : List Str} {W : Str → Str → Str → Nat} (h2 : ∀ a b k, W a b k ≤ 2) : ∀ (a : Str) (l : Steps), prodW W a l ≤ 2 ^ l.length
  | a, [] => Nat.le_refl _
  | a, b :: l => by
    show W a b.2 b.1 * prodW W b.2 l ≤ 2 ^ (l.length + 1)
    rw [Nat.pow_succ, Nat.mul_comm]
    exact Nat.mul_le_mul (prod_le (A := A) h2 b.2 l) (h2 a b.2 b.1)
/-- each step of the way -/
theorem WayOk.at {A : List Str} {W : Str → Str → Str → Nat} : ∀ {a : Str} {l : Steps} {i : Nat} {s : Str × Str}, WayOk A W a l → l[i]? = some s → s.2 ∈ A ∧ 0 < W (lastW a (l.take i)) s.2 s.1
  | a, b :: l, 0, s, h, e => by
    cases e
    exact ⟨h.2.2.head, h.2.1⟩
  | a, b :: l, i + 1, s, h, e => by
    have e : l[i]? = some s := e
    obtain ⟨h1, h2⟩ := h.2.2.at e
    refine ⟨h1, ?_⟩
    rw [List.take_succ_cons, lastW_cons]
    exact h2
/-- the ends above: over e, and tied -/
def endsU (A : List Str) (WA : Str → Str → Str → Nat) (f : Str → Str) (x : Str) (s : Str × Str) : List Str := (overL A f s.2).filter fun z => decide (0 < WA x z s.1)
def stepU (A : List Str) (WA : Str → Str → Str → Nat) (f : Str → Str) (x : Str) (us : List Steps) (s : Str × Str) : List Steps := us.flatMap fun u => (endsU A WA f (lastW x u) s).map fun z => u ++ [(s.1, z)]
def ups (A : List Str) (WA : Str → Str → Str → Nat) (f : Str → Str) (x : Str) (l : Steps) : List Steps := l.foldl (stepU A WA f x) [[]]
theorem ups_snoc (A : List Str) (WA : Str → Str → Str → Nat) (f : Str → Str) (x : Str) (l : Steps) (s : Str × Str) : ups A WA f x (l ++ [s]) = stepU A WA f x (ups A WA f x l) s := by
  unfold ups
  rw [List.foldl_append]
  rfl
@[elab_as_elim] theorem snoc_ind {α : Type} {P : List α → Prop} (h0 : P []) (hs : ∀ l a, P l → P (l ++ [a])) (l : List α) : P l := by
  have : ∀ n, P (l.take n) := fun n => by
    induction n with
    | zero => exact h0
    | succ n ih =>
      rw [List.take_add_one]
      cases e : l[n]? with
      | none => simpa using ih
      | some a => exact hs _ _ ih
  have h := this l.length
  rw [List.take_length] at h
  exact h
section
variable {A B C : List Str} {WA WB WC : Str → Str → Str → Nat} {f g : Str → Str}
theorem mem_ends {x z : Str} {s : Str × Str} : z ∈ endsU A WA f x s ↔ z ∈ A ∧ f z = s.2 ∧ 0 < WA x z s.1 := by
  unfold endsU overL
  rw [List.mem_filter, List.mem_filter, decide_eq_true_eq, decide_eq_true_eq, and_assoc]
/-- what lies above a way -/
theorem ups_ok {x : Str} (hx : x ∈ A) : ∀ l : Steps, ∀ u ∈ ups A WA f x l, WayOk A WA x u ∧ f (lastW x u) = lastW (f x) l ∧ u.length = l.length ∧ u.map (·.1) = l.map (·.1) ∧ u.map (fun s => f s.2) = l.map (·.2) := by
  intro l
  induction l using snoc_ind with
  | h0 =>
    intro u hu
    rw [List.mem_singleton.mp hu]
    exact ⟨hx, rfl, rfl, rfl, rfl⟩
  | hs l s ih =>
    intro u hu
    rw [ups_snoc] at hu
    obtain ⟨v, hv, hu⟩ := List.mem_flatMap.mp hu
    obtain ⟨z, hz, rfl⟩ := List.mem_map.mp hu
    obtain ⟨a1, a2, a3⟩ := mem_ends.mp hz
    obtain ⟨b1, b2, b3, b4, b5⟩ := ih v hv
    refine ⟨b1.snoc a1 a3, ?_, ?_, ?_, ?_⟩
    · rw [lastW_snoc, lastW_snoc]
      exact a2
    · rw [List.length_append, List.length_append, b3]
      rfl
    · rw [List.map_append, List.map_append, b4]
      rfl
    · rw [List.map_append, List.map_append, b5]
      show _ ++ [f z] = _ ++ [s.2]
      rw [a2]
theorem S_ends (x : Str) (s : Str × Str) (φ : Str → Nat) : S (endsU A WA f x s) φ = S A fun z => if f z = s.2 ∧ 0 < WA x z s.1 then φ z else 0 := by
  unfold endsU overL
  rw [S_filter, S_filter]
  refine S_congr fun z _ => ?_
  by_cases c1 : f z = s.2 <;> by_cases c2 : 0 < WA x z s.1 <;> simp [c1, c2]
/-- the products over a way come to its own -/
theorem ups_prod (Cv : Cvr A WA B WB f) (ndB : B.Nodup) {x : Str} (hx : x ∈ A) : ∀ l : Steps, (∀ s ∈ l, s.2 ∈ B) → S (ups A WA f x l) (prodW WA x) = prodW WB (f x) l := by
  intro l
  induction l using snoc_ind with
  | h0 => exact fun _ => rfl
  | hs l s ih =>
  intro hl
  have ih := ih fun s' h' => hl s' (List.mem_append_left _ h')
  rw [ups_snoc, prodW_snoc, ← ih, ← S_mulR]
  unfold stepU
  rw [S_flat]
  refine S_congr fun u hu => ?_
  obtain ⟨u1, u2, _⟩ := ups_ok hx l u hu
  rw [S_map, S_ends]
  have e : S A (fun z => if f z = s.2 ∧ 0 < WA (lastW x u) z s.1 then prodW WA x (u ++ [(s.1, z)]) else 0) = S A fun z => prodW WA x u * ((if f z = s.2 then 1 else 0) * WA (lastW x u) z s.1) := by
    refine S_congr fun z _ => ?_
    rw [prodW_snoc]
    by_cases c1 : f z = s.2
    · by_cases c2 : 0 < WA (lastW x u) z s.1
      · rw [if_pos ⟨c1, c2⟩, if_pos c1, Nat.one_mul]
      · have c2 : WA (lastW x u) z s.1 = 0 := by omega
        rw [if_neg (fun z => by omega), c2, Nat.mul_zero, Nat.mul_zero]
    · rw [if_neg (fun z => c1 z.1), if_neg c1, Nat.zero_mul, Nat.mul_zero]
  rw [e, S_mulL]
  congr 1
  have k := Cv.sum _ u1.last (fun y => if y = s.2 then 1 else 0) s.1
  refine Eq.trans k ?_
  rw [sumo (a := s.2) ndB (hl s (by simp)) fun y _ hne => by rw [if_neg hne, Nat.zero_mul], if_pos rfl, Nat.one_mul, u2]
/-- so many ways as the products allow -/
theorem ups_len (Cv : Cvr A WA B WB f) (ndB : B.Nodup) {x : Str} (hx : x ∈ A) (l : Steps) (hl : ∀ s ∈ l, s.2 ∈ B) : (ups A WA f x l).length ≤ prodW WB (f x) l := by
  rw [← ups_prod Cv ndB hx l hl, ← S_ones]
  exact S_le fun u hu => (ups_ok hx l u hu).1.pos
theorem ups_take_len (Cv : Cvr A WA B WB f) (ndB : B.Nodup) (h2 : ∀ a b k, WB a b k ≤ 2) {x : Str} (hx : x ∈ A) (l : Steps) (hl : ∀ s ∈ l, s.2 ∈ B) (n : Nat) (hn : l.length ≤ n) : (ups A WA f x l).length ≤ 2 ^ n :=
  Nat.le_trans (ups_len Cv ndB hx l hl) (Nat.le_trans (prod_le (A := A) h2 _ _) (Nat.pow_le_pow_right (by decide) hn))
/-- a tie above is a tie below -/
theorem Cvr.pos (Cv : Cvr A WA B WB f) (ndB : B.Nodup) {x z : Str} {k : Str} (hx : x ∈ A) (hz : z ∈ A) (h : 0 < WA x z k) : 0 < WB (f x) (f z) k := by
  have e := Cv.sum x hx (fun y => if y = f z then 1 else 0) k
  rw [sumo (l := B) (a := f z) ndB (Cv.to z hz) fun y _ hne => by rw [if_neg hne, Nat.zero_mul]] at e
  rw [if_pos rfl, Nat.one_mul] at e
  rw [← e]
  have le : ∀ (l : List Str), z ∈ l → WA x z k ≤ (l.map fun z' => (if f z' = f z then 1 else 0) * WA x z' k).sum := fun l => by
    induction l with
    | nil => exact fun h => by cases h
    | cons a l ih =>
      intro hm
      rw [List.map_cons, List.sum_cons]
      rcases List.mem_cons.mp hm with rfl | h'
      · rw [if_pos rfl, Nat.one_mul]
        omega
      · have := ih h'
        omega
  exact Nat.lt_of_lt_of_le h (le A hz)
/-- one covering behind another: the ways above, counted by the ways between -/
theorem ups_two (Cv : Cvr C WC B WB f) (ndB : B.Nodup) {g : Str → Str} {x : Str} (hx : x ∈ C) : ∀ (l : Steps) (φ : Str → Nat), S (ups C WC (g ∘ f) x l) (fun u => φ (lastW x u)) = S (ups B WB g (f x) l) fun v => S (ups C WC f x v) fun u => φ (lastW x u) := by
  intro l
  induction l using snoc_ind with
  | h0 =>
    intro φ
    show S [[]] _ = S [[]] fun v => S (ups C WC f x v) _
    rfl
  | hs l s ih =>
    intro φ
    rw [ups_snoc, ups_snoc]
    unfold stepU
    rw [S_flat, S_flat]
    have e1 : S (ups C WC (g ∘ f) x l) (fun u => S ((endsU C WC (g ∘ f) (lastW x u) s).map fun z => u ++ [(s.1, z)]) fun u => φ (lastW x u)) = S (ups C WC (g ∘ f) x l) fun u => (fun y => S (endsU C WC (g ∘ f) y s) φ) (lastW x u) :=
      S_congr fun u _ => by
        rw [S_map]
        exact S_congr fun z _ => by rw [lastW_snoc]
    rw [e1, ih fun y => S (endsU C WC (g ∘ f) y s) φ]
    refine S_congr fun v hv => ?_
    obtain ⟨v1, v2, _⟩ := ups_ok (Cv.to x hx) l v hv
    rw [S_map]
    have e2 : S (endsU B WB g (lastW (f x) v) s) (fun y => S (ups C WC f x (v ++ [(s.1, y)])) fun u => φ (lastW x u)) = S (endsU B WB g (lastW (f x) v) s) fun y => S (ups C WC f x v) fun u => S (endsU C WC f (lastW x u) (s.1, y)) φ :=
      S_congr fun y _ => by
        rw [ups_snoc]
        unfold stepU
        rw [S_flat]
        refine S_congr fun u _ => ?_
        rw [S_map]
        exact S_congr fun z _ => by rw [lastW_snoc]
    rw [e2, S_swap]
    refine S_congr fun u hu => ?_
    obtain ⟨u1, u2, _⟩ := ups_ok hx v u hu
    show S (endsU C WC (g ∘ f) (lastW x u) s) φ = _
    rw [S_ends, S_ends]
    have e3 : (S B fun y => if g y = s.2 ∧ 0 < WB (lastW (f x) v) y s.1 then S (endsU C WC f (lastW x u) (s.1, y)) φ else 0) = S B fun y => S C fun z => if g y = s.2 ∧ 0 < WB (lastW (f x) v) y s.1 then (if f z = y ∧ 0 < WC (lastW x u) z s.1 then φ z else 0) else 0 :=
      S_congr fun y _ => by
        by_cases c : g y = s.2 ∧ 0 < WB (lastW (f x) v) y s.1
        · rw [if_pos c, S_ends]
          exact S_congr fun z _ => by rw [if_pos c]
        · rw [if_neg c]
          exact (S_zero fun z _ => by rw [if_neg c]).symm
    rw [e3, S_swap]
    refine S_congr fun z hz => ?_
    rw [S_one (a := f z) ndB (Cv.to z hz) fun y _ hne => by
      rw [if_neg (c := f z = y ∧ 0 < WC (lastW x u) z s.1) fun h => hne h.1.symm]
      split <;> rfl]
    by_cases c2 : 0 < WC (lastW x u) z s.1
    · have c3 : 0 < WB (lastW (f x) v) (f z) s.1 := by
        rw [← u2]
        exact Cv.pos ndB u1.last hz c2
      by_cases c1 : g (f z) = s.2
      · rw [if_pos ⟨c1, c2⟩, if_pos ⟨c1, c3⟩, if_pos ⟨rfl, c2⟩]
      · rw [if_neg fun h => c1 h.1, if_neg fun h => c1 h.1]
    · rw [if_neg fun h => c2 h.2, if_neg (c := f z = f z ∧ 0 < WC (lastW x u) z s.1) fun h => c2 h.2]
      split <;> rfl
theorem ups_count (Cv : Cvr C WC B WB f) (ndB : B.Nodup) {g : Str → Str} {x : Str} (hx : x ∈ C) (l : Steps) : S (ups B WB g (f x) l) (fun v => (ups C WC f x v).length) = (ups C WC (g ∘ f) x l).length := by
  rw [← S_ones (ups C WC (g ∘ f) x l), ups_two Cv ndB hx l fun _ => 1]
  exact S_congr fun v _ => (S_ones _).symm
end
end Nm
/-! x -> 5 x + 1 goes the whole round of every power of two -/
namespace Nm
open L2
def seq5 : Nat → Nat
  | 0 => 0
  | n + 1 => 5 * seq5 n + 1
theorem seq5_pow : ∀ n, 4 * seq5 n + 1 = 5 ^ n
  | 0 => rfl
  | n + 1 => by
    have h := seq5_pow n
    rw [Nat.pow_succ, ← h]
    show 4 * (5 * seq5 n + 1) + 1 = _
    omega
theorem seq5_add (a : Nat) : ∀ b, seq5 (a + b) = 5 ^ b * seq5 a + seq5 b
  | 0 => by
    show seq5 a = 1 * seq5 a + 0
    omega
  | b + 1 => by
    show 5 * seq5 (a + b) + 1 = 5 ^ (b + 1) * seq5 a + (5 * seq5 b + 1)
    rw [seq5_add a b, Nat.pow_succ, Nat.mul_add, Nat.mul_comm (5 ^ b) 5, Nat.mul_assoc]
    omega
/-- at 2^k it is 2^k times an odd number -/
theorem seq5_two : ∀ k, ∃ c, seq5 (2 ^ k) = 2 ^ k * (2 * c + 1)
  | 0 => ⟨0, rfl⟩
  | k + 1 => by
    obtain ⟨c, h⟩ := seq5_two k
    have e : 2 ^ (k + 1) = 2 ^ k + 2 ^ k := by rw [Nat.pow_succ]; omega
    refine ⟨2 * seq5 (2 ^ k) * c + seq5 (2 ^ k) + c, ?_⟩
    have h2 : seq5 (2 ^ (k + 1)) = (5 ^ (2 ^ k) + 1) * seq5 (2 ^ k) := by
      rw [e, seq5_add, Nat.add_mul, Nat.one_mul]
    rw [h2, ← seq5_pow]
    have h3 : (4 * seq5 (2 ^ k) + 1 + 1) * seq5 (2 ^ k) = 2 * ((2 * seq5 (2 ^ k) + 1) * (2 ^ k * (2 * c + 1))) := by
      conv => lhs; rhs; rw [h]
      have : 4 * seq5 (2 ^ k) + 1 + 1 = 2 * (2 * seq5 (2 ^ k) + 1) := by omega
      rw [this, Nat.mul_assoc]
    rw [h3, Nat.pow_succ, Nat.mul_left_comm (2 * seq5 (2 ^ k) + 1), Nat.mul_comm (2 ^ k) 2, Nat.mul_assoc]
    congr 1
    congr 1
    generalize seq5 (2 ^ k) = z
    rw [Nat.mul_add, Nat.add_mul, Nat.mul_one, Nat.one_mul, Nat.mul_add, Nat.mul_add]
    have : 2 * z * (2 * c) = 2 * (2 * z * c) := by rw [Nat.mul_left_comm]
    omega
theorem seq5_odd (b : Nat) : ∃ d, 5 ^ b = 2 * d + 1 := ⟨2 * seq5 b, by rw [← seq5_pow]; omega⟩
theorem odd_mul (d c : Nat) : (2 * d + 1) * (2 * c + 1) = 2 * (2 * d * c + d + c) + 1 := by
  rw [Nat.add_mul, Nat.mul_add, Nat.mul_one, Nat.one_mul, Nat.mul_add, Nat.mul_add]
  have : 2 * d * (2 * c) = 2 * (2 * d * c) := by rw [Nat.mul_left_comm]
  omega
/-- every number below 2^k is met within the round -/
theorem seq5_all : ∀ k j, j < 2 ^ k → ∃ b, b < 2 ^ k ∧ seq5 b % 2 ^ k = j
  | 0, j, h => ⟨0, Nat.one_pos, by
    have : j = 0 := by
      have : (2 : Nat) ^ 0 = 1 := rfl
      omega
    rw [this]
    rfl⟩
  | k + 1, j, h => by
    have e : 2 ^ (k + 1) = 2 * 2 ^ k := by rw [Nat.pow_succ, Nat.mul_comm]
    have hp : 0 < 2 ^ k := Nat.pow_pos (by decide)
    obtain ⟨b, hb, hbj⟩ := seq5_all k (j % 2 ^ k) (Nat.mod_lt _ hp)
    rw [e] at h ⊢
    by_cases c : seq5 b % (2 * 2 ^ k) = j
    · exact ⟨b, by omega, c⟩
    · refine ⟨2 ^ k + b, by omega, ?_⟩
      obtain ⟨c1, h1⟩ := seq5_two k
      obtain ⟨d, h2⟩ := seq5_odd b
      rw [seq5_add, h1, h2, Nat.mul_left_comm, odd_mul]
      generalize 2 * d * c1 + d + c1 = q
      generalize 2 ^ k = D at *
      have h3 : D * (2 * q + 1) + seq5 b = (D + seq5 b) + 2 * D * q := by
        rw [Nat.mul_add, Nat.mul_one, Nat.mul_assoc, Nat.mul_left_comm]
        omega
      rw [h3, Nat.add_mul_mod_self_left]
      have h4 : seq5 b % (2 * D) % D = j % D := by rw [Nat.mod_mul_left_mod]; exact hbj
      have h5 : seq5 b % (2 * D) < 2 * D := Nat.mod_lt _ (by omega)
      have h6 : (D + seq5 b) % (2 * D) = (D + seq5 b % (2 * D)) % (2 * D) := by rw [Nat.add_mod_mod]
      rw [h6]
      generalize seq5 b % (2 * D) = r at *
      have split : ∀ x, x < 2 * D → x % D = if x < D then x else x - D := fun x hx => by
        split
        · exact Nat.mod_eq_of_lt (by assumption)
        · rw [Nat.mod_eq_sub_mod (by omega)]
          exact Nat.mod_eq_of_lt (by omega)
      rw [split r h5, split j h] at h4
      by_cases r1 : r < D
      · rw [if_pos r1] at h4
        split at h4
        · exact absurd h4 c
        · rw [Nat.mod_eq_of_lt (by omega)]
          omega
      · rw [if_neg r1] at h4
        split at h4
        · rw [Nat.mod_eq_sub_mod (by omega), Nat.mod_eq_of_lt (by omega)]
          omega
        · omega
theorem lcg_seq (m : Nat) : ∀ b, lcgN m b = seq5 b % (m + 1)
  | 0 => by
    show 0 = 0 % (m + 1)
    rw [Nat.zero_mod]
  | b + 1 => by
    show (lcgN m b * 5 + 1) % (m + 1) = (5 * seq5 b + 1) % (m + 1)
    rw [lcg_seq m b, Nat.mul_comm 5, Nat.add_mod, Nat.mod_mul_mod, ← Nat.add_mod]
/-- a mask: one less than a power of two -/
def Pow2 (m : Nat) : Prop := ∃ k, m + 1 = 2 ^ k
theorem lcg_full {m j : Nat} (hm : Pow2 m) (hj : j ≤ m) : ∃ b, b ≤ m ∧ lcgN m b = j := by
  obtain ⟨k, hk⟩ := hm
  obtain ⟨b, h1, h2⟩ := seq5_all k j (by omega)
  exact ⟨b, by omega, by rw [lcg_seq, hk]; exact h2⟩
theorem lcg_back {m : Nat} (hm : Pow2 m) : lcgN m (m + 1) = 0 := by
  obtain ⟨k, hk⟩ := hm
  obtain ⟨c, h⟩ := seq5_two k
  rw [lcg_seq, hk, h]
  exact Nat.mul_mod_right _ _
end Nm
/-! the way of a search through a table of any size -/
namespace Nm
open PySem L2
theorem lcg_turn {m : Nat} (pw : Pow2 m) (n : Nat) : lcgN m (m + 1 + n) = lcgN m n := by
  have z := lcg_back pw
  rw [lcg_seq] at z
  rw [lcg_seq, lcg_seq, seq5_add, Nat.add_mod, Nat.mul_mod, z, Nat.mul_zero, Nat.zero_mod, Nat.zero_add, Nat.mod_mod]
/-- from every slot to every slot -/
theorem lcg_from {m a b : Nat} (pw : Pow2 m) (ha : a ≤ m) (hb : b ≤ m) : ∃ n, n ≤ m ∧ lcgI m a n = b := by
  obtain ⟨u, hu, rfl⟩ := lcg_full pw ha
  obtain ⟨v, hv, rfl⟩ := lcg_full pw hb
  by_cases c : u ≤ v
  · refine ⟨v - u, by omega, ?_⟩
    rw [lcgN_add, show u + (v - u) = v by omega]
  · refine ⟨m + 1 + v - u, by omega, ?_⟩
    rw [lcgN_add, show u + (m + 1 + v - u) = m + 1 + v by omega, lcg_turn pw]
theorem way_meets {m j : Nat} (pw : Pow2 m) (h : Int) (hj : j ≤ m) : ∃ n, n < 10 * SetTable.turns m ∧ way m h n = j := by
  obtain ⟨r, hr, er⟩ := lcg_from pw (runI_le m (SetTable.bits h) 12) hj
  obtain ⟨n, hn, en⟩ := run_nth m (SetTable.bits h) (12 + r)
  refine ⟨n, ?_, ?_⟩
  · unfold SetTable.turns
    omega
  · show (nth m _ n).j = j
    rw [en, ← er, ← runI_tail (bits_lt h)]
    rfl
theorem way_in (m : Nat) (h : Int) (n : Nat) : way m h n ≤ m := by
  have b0 : SetTable.bits h % (m + 1) < m + 1 := Nat.mod_lt _ (Nat.succ_pos _)
  obtain ⟨r1, r2, _⟩ := runEnd_bd (Nat.le_of_lt_succ b0)
  have := nth_in (m := m) n (runAt m (SetTable.bits h % (m + 1)) (SetTable.bits h)) (by unfold runAt; simp only; omega)
  exact Nat.le_trans (Nat.le_add_right _ _) this
/-- a table in which each hash leads to its slot, its mask any -/
structure Tab (t : SetTable) (hs : List Int) : Prop where
  up : Ris t.place.toList
  clean : t.dummies = #[]
  many : t.place.size = hs.length
  pow : Pow2 t.mask
  low : ∀ j ∈ t.place.toList, j ≤ t.mask
  led : ∀ (i : Nat) (h : Int) (j : Nat), hs[i]? = some h → t.place.toList[i]? = some j → ∃ n, way t.mask h n = j ∧ ∀ n' < n, way t.mask h n' ∈ t.place.toList
/-- where the search for a hash ends: the first free slot of its way -/
theorem Tab.free {t : SetTable} {hs : List Int} (T : Tab t hs) (room : hs.length ≤ t.mask) (h : Int) : ∃ N, N < 10 * SetTable.turns t.mask ∧ way t.mask h N ∉ t.place.toList ∧ ∀ n < N, way t.mask h n ∈ t.place.toList := by
  obtain ⟨j, lt, out⟩ := st_missing t.place.toList (t.mask + 1) (by rw [Array.length_toList, T.many]; omega)
  obtain ⟨n, hn, e⟩ := way_meets T.pow h (Nat.le_of_lt_succ lt)
  obtain ⟨N, a, b, c⟩ := st_least (p := fun n => way t.mask h n ∉ t.place.toList) n (e ▸ out)
  exact ⟨N, by omega, b, fun n' hn' => Classical.not_not.mp (c n' hn')⟩
/-- a hash that stands in the table is met ahead of it -/
theorem Tab.ahead {t : SetTable} {hs : List Int} (T : Tab t hs) {h : Int} {N i j : Nat} (out : way t.mask h N ∉ t.place.toList) (hi : hs[i]? = some h) (hj : t.place.toList[i]? = some j) : ∃ n < N, way t.mask h n = j := by
  obtain ⟨n, e, before⟩ := T.led i h j hi hj
  refine ⟨n, Nat.lt_of_not_le fun le => ?_, e⟩
  rcases Nat.lt_or_eq_of_le le with lt | eq
  · exact out (before N lt)
  · subst eq
    exact out (e ▸ List.mem_of_getElem? hj)
/-- one more put at the first free slot of its way -/
theorem Tab.more {t : SetTable} {hs : List Int} (T : Tab t hs) {h : Int} {N : Nat} (out : way t.mask h N ∉ t.place.toList) (bef : ∀ n < N, way t.mask h n ∈ t.place.toList) :
    SetTable.below t.place (way t.mask h N) ≤ hs.length ∧ Tab (t.put (way t.mask h N)).1 (hs.take (SetTable.below t.place (way t.mask h N)) ++ h :: hs.drop (SetTable.below t.place (way t.mask h N))) ∧ (t.put (way t.mask h N)).1.fill = hs.length + 1 := by
  generalize hw : way t.mask h N = j at *
  have hjm : j ≤ t.mask := hw ▸ way_in t.mask h N
  obtain ⟨cut, _, _⟩ := below_cut T.up j
  have in1 : SetTable.below t.place j ≤ hs.length := T.many ▸ cut
  have in2 : SetTable.below t.place j ≤ t.place.toList.length := by rw [Array.length_toList]; exact cut
  have fresh : t.place[SetTable.below t.place j]? ≠ some j := fun e => out (List.mem_of_getElem? (i := SetTable.below t.place j) (by rw [Array.getElem?_toList]; exact e))
  have pp := put_place t j
  have keep : ∀ {x : Nat}, x ∈ t.place.toList → x ∈ (t.put j).1.place.toList := fun hx => pp ▸ mem_ins.2 (.inr hx)
  have sz : (t.put j).1.place.size = hs.length + 1 := by
    rw [← Array.length_toList, pp, len_ins _ in2, Array.length_toList, T.many]
  refine ⟨in1, ⟨ris_insert T.up fresh, put_dm T.clean j, by rw [len_ins _ in1, sz], T.pow, fun x hx => ?_, fun i h' j' a b => ?_⟩, ?_⟩
  · rw [pp] at hx
    rcases mem_ins.1 hx with rfl | z
    · exact hjm
    · exact T.low x z
  · rw [tins_get hs in1] at a
    rw [pp, tins_get _ in2] at b
    have old : ∀ i', hs[i']? = some h' → t.place.toList[i']? = some j' → ∃ n, way t.mask h' n = j' ∧ ∀ n' < n, way t.mask h' n' ∈ (t.put j).1.place.toList := fun i' u v => by
      obtain ⟨n, e, z⟩ := T.led i' h' j' u v
      exact ⟨n, e, fun n' lt => keep (z n' lt)⟩
    rcases Nat.lt_trichotomy i (SetTable.below t.place j) with c | c | c
    · rw [if_pos c] at a b
      exact old i a b
    · rw [if_neg (by omega), if_pos c] at a b
      cases a
      cases b
      exact ⟨N, hw, fun n' lt => keep (bef n' lt)⟩
    · rw [if_neg (by omega), if_neg (by omega)] at a b
      exact old (i - 1) a b
  · show (t.put j).1.place.size + (t.put j).1.dummies.size = _
    rw [sz, put_dm T.clean j]
    rfl
end Nm
/-! laying a table anew, its mask any -/
namespace Nm
open PySem L2
/-- the first free slot on the way of a hash is the one that the laying takes -/
theorem lay_free {m : Nat} (pw : Pow2 m) (ow : Array (Option Nat)) (h : Int) {j : Nat} (hj : j ≤ m) (fr : oAt ow j = none) :
    ∃ N, SetTable.layClean.free m ow (SetTable.turns m) (SetTable.bits h % (m + 1)) (SetTable.bits h) = some (way m h N) ∧ oAt ow (way m h N) = none ∧ ∀ n < N, oAt ow (way m h n) ≠ none := by
  obtain ⟨r, hr, er⟩ := lcg_from pw (runI_le m (SetTable.bits h) 12) hj
  have at_ : way m h (off m (SetTable.bits h % (m + 1)) (SetTable.bits h) (12 + r)) = j := by
    show (nth m _ _).j = j
    rw [nth_off, itL_run, ← er, ← runI_tail (bits_lt h)]
    rfl
  obtain ⟨N, le, emp, occ⟩ := st_least (p := fun n => oAt ow (way m h n) = none) _ (show oAt ow (way m h (off m (SetTable.bits h % (m + 1)) (SetTable.bits h) (12 + r))) = none by rw [at_]; exact fr)
  refine ⟨N, free_spec m ow _ (12 + r) _ _ N ?_ le (fun n lt => ?_) ?_, emp, occ⟩
  · unfold SetTable.turns
    omega
  · cases z : oAt ow (way m h n) with
    | none => exact absurd z (occ n lt)
    | some _ => rfl
  · exact congrArg Option.isNone emp
/-- one hash more -/
theorem own_more {m : Nat} (pw : Pow2 m) {hs : List Int} {ow : Array (Option Nat)} (O : Own m hs ow) (room : hs.length ≤ m) (h : Int) :
    ∃ j, SetTable.layClean.free m ow (SetTable.turns m) (SetTable.bits h % (m + 1)) (SetTable.bits h) = some j ∧ Own m (hs ++ [h]) (ow.setIfInBounds j (some hs.length)) := by
  obtain ⟨ps, pl, pin⟩ := O.ps
  obtain ⟨f, flt, fout⟩ := st_missing ps (m + 1) (by omega)
  have ffree : oAt ow f = none := Classical.byContradiction fun z => fout (pin f (by omega) z)
  obtain ⟨N, got, emp, occ⟩ := lay_free pw ow h (Nat.le_of_lt_succ flt) ffree
  generalize hw : way m h N = j at *
  have jm : j ≤ m := hw ▸ way_in m h N
  have new : oAt (ow.setIfInBounds j (some hs.length)) j = some hs.length := oAt_set_self _ (by rw [O.sz]; omega)
  have still : ∀ i, oAt ow i ≠ none → oAt (ow.setIfInBounds j (some hs.length)) i ≠ none := fun i hi => by
    by_cases c : i = j
    · subst c
      rw [new]
      exact Option.some_ne_none _
    · rw [oAt_set_ne _ c]
      exact hi
  refine ⟨j, got, ⟨by rw [Array.size_setIfInBounds, O.sz], fun i k hi e => ?_, fun k hk => ?_, j :: ps, by simp [pl], fun i hi e => ?_⟩⟩
  · by_cases c : i = j
    · subst c
      rw [new] at e
      cases e
      exact ⟨h, N, by simp, hw, fun n lt => still _ (occ n lt)⟩
    · rw [oAt_set_ne _ c] at e
      obtain ⟨h', n', a, b, d⟩ := O.at_ i k hi e
      refine ⟨h', n', ?_, b, fun n lt => still _ (d n lt)⟩
      rw [List.getElem?_append_left (List.getElem?_eq_some_iff.mp a).1, a]
  · rw [List.length_append, List.length_singleton] at hk
    rcases Nat.lt_or_eq_of_le (Nat.le_of_lt_succ hk) with lt | rfl
    · obtain ⟨i, hi, e⟩ := O.all k lt
      refine ⟨i, hi, ?_⟩
      rw [oAt_set_ne _ (fun z => by subst z; rw [emp] at e; cases e), e]
    · exact ⟨j, jm, new⟩
  · by_cases c : i = j
    · exact c ▸ List.mem_cons_self
    · rw [oAt_set_ne _ c] at e
      exact List.mem_cons_of_mem _ (pin i hi e)
theorem own_all {m : Nat} (pw : Pow2 m) : ∀ (todo hs : List Int) (ow : Array (Option Nat)), Own m hs ow → hs.length + todo.length ≤ m →
    ∃ ow', todo.foldl (stepF m) (some (ow, hs.length)) = some (ow', hs.length + todo.length) ∧ Own m (hs ++ todo) ow'
  | [], hs, ow, O, _ => ⟨ow, rfl, by rw [List.append_nil]; exact O⟩
  | h :: todo, hs, ow, O, room => by
    rw [List.length_cons] at room
    obtain ⟨j, got, O'⟩ := own_more pw O (by omega) h
    obtain ⟨ow', a, b⟩ := own_all pw todo (hs ++ [h]) _ O' (by rw [List.length_append, List.length_singleton]; omega)
    rw [List.length_append, List.length_singleton] at a
    refine ⟨ow', ?_, by rw [List.append_assoc] at b; exact b⟩
    rw [List.foldl_cons, stepF_some got, a, List.length_cons]
    congr 2
    omega
/-- the table laid anew: the entries in another order, each hash led to its slot -/
theorem lay_new (t : SetTable) {hs : Array Int} {want M : Nat} (hM : SetTable.sizeAbove want - 1 = M) (pw : Pow2 M) (room : hs.size ≤ M) :
    ∃ t' ord, t.relaid hs want = some (t', ord) ∧ ord.toList.Perm (List.range hs.size) ∧ Tab t' (ord.toList.map fun i => hs.getD i 0) ∧ t'.mask = M ∧ t'.led = t.led ∧ t'.plain = t.plain := by
  obtain ⟨ow, a, O⟩ := own_all pw hs.toList [] _ (Own.init M) (by rw [Array.length_toList]; show 0 + hs.size ≤ M; omega)
  rw [List.nil_append] at O
  have lay : SetTable.layClean M hs = some ow := by
    rw [layClean_eq]
    exact congrArg (Option.map Prod.fst) a
  have at_ : ∀ {j k : Nat}, (j, k) ∈ liveOf M ow ↔ j ≤ M ∧ oAt ow j = some k := mem_live O.sz
  obtain ⟨up, low⟩ := ris_live (fun j => ow.getD j none) (List.range (M + 1)) (show Ris (List.range (M + 1)) from List.pairwise_lt_range)
  change Ris ((liveOf M ow).map (·.1)) at up
  have all : ∀ k < hs.size, k ∈ (liveOf M ow).map (·.2) := fun k lt => by
    obtain ⟨j, u, v⟩ := O.all k (by rw [Array.length_toList]; exact lt)
    exact List.mem_map.mpr ⟨(j, k), at_.2 ⟨u, v⟩, rfl⟩
  have count : (liveOf M ow).length = hs.size := by
    obtain ⟨ps, pl, pin⟩ := O.ps
    have le : ((liveOf M ow).map (·.1)).length ≤ ps.length := nat_nodup_len _ ps (up.imp fun lt => Nat.ne_of_lt lt) fun x hx => by
      obtain ⟨⟨y, k⟩, hq, rfl⟩ := List.mem_map.mp hx
      obtain ⟨u, v⟩ := at_.1 hq
      exact pin y u (by rw [v]; exact Option.some_ne_none _)
    have ge := nat_nodup_len (List.range hs.size) ((liveOf M ow).map (·.2)) List.nodup_range fun k hk => all k (List.mem_range.mp hk)
    rw [List.length_map, pl] at le
    have hz : hs.toList.length = hs.size := rfl
    rw [List.length_map, List.length_range] at ge
    omega
  refine ⟨tabOf t M ow, ((liveOf M ow).map (·.2)).toArray, by rw [relaid_eq, hM, lay]; rfl, perm_range _ _ (by rw [List.toList_toArray, List.length_map, count]) (fun k lt => by rw [List.toList_toArray]; exact all k lt), ?_, rfl, rfl, rfl⟩
  refine ⟨up, rfl, ?_, pw, fun x hx => ?_, fun i h j u v => ?_⟩
  · show ((liveOf M ow).map (·.1)).toArray.size = _
    simp
  · obtain ⟨⟨y, k⟩, hq, rfl⟩ := List.mem_map.mp (show x ∈ (liveOf M ow).map (·.1) from hx)
    exact (at_.1 hq).1
  · change ((liveOf M ow).map (·.1))[i]? = some j at v
    rw [List.toList_toArray, List.map_map, List.getElem?_map] at u
    rw [List.getElem?_map] at v
    obtain ⟨⟨y, k⟩, hq, rfl⟩ := Option.map_eq_some_iff.mp v
    rw [hq] at u
    have eh : hs.getD k 0 = h := Option.some.inj u
    obtain ⟨b1, b2⟩ := at_.1 (List.mem_of_getElem? hq)
    obtain ⟨h0, N, c1, c2, c3⟩ := O.at_ y k b1 b2
    have e0 : hs.getD k 0 = h0 := by
      rw [Array.getElem?_toList] at c1
      rw [Array.getD_eq_getD_getElem?, c1]
      rfl
    rw [e0] at eh
    subst eh
    refine ⟨N, c2, fun n lt => ?_⟩
    cases z : oAt ow (way M h0 n) with
    | none => exact absurd z (c3 n lt)
    | some k2 => exact List.mem_map.mpr ⟨(way M h0 n, k2), at_.2 ⟨way_in M h0 n, z⟩, rfl⟩
end Nm
set_option maxRecDepth 100000
set_option maxHeartbeats 4000000
/-! sets of tuples of keys (ints, texts): what is asked of the tuples, and the search -/
namespace Nm
open PySem PySem.Spec PyProof.Rows L2
abbrev kh (P : Program) (w : World) (k : List Key) : Int := tupleKeyHash (mixKind P w) k
abbrev IsK (P : Program) (w : World) (h : Heap) (k : List Key) (a : Addr) : Prop := IsTupleKey (mixKind P w) h k a
section
variable {P : Program} {w : World} {A : Around} {E : Value → Shared → Prop} {s : Shared}
theorem told_items {k : List Key} {us : List Value} (T : PySem.ItemsAre (mixKind P w) k us) : ∀ u ∈ us, ∃ y : Key, keyIs y u = true := by
  induction T with
  | nil => exact fun u m => (List.not_mem_nil m).elim
  | @cons y u ks us e _ ih =>
    intro z m
    rcases List.mem_cons.mp m with rfl | m
    · exact ⟨y, e⟩
    · exact ih z m
theorem no_class {y : Key} {u : Value} (n : Nat) (e : keyIs y u = true) : ofAClassStatement n u = pure false := by
  rcases keyIs_shape e with ⟨i, t, rfl, rfl⟩ | ⟨x, t, rfl, rfl⟩ <;> cases n <;> rfl
theorem some_hash {y : Key} {u : Value} (n : Nat) (e : keyIs y u = true) : ∃ b, hashByValue n u = pure b := by
  rcases keyIs_shape e with ⟨i, t, rfl, rfl⟩ | ⟨x, t, rfl, rfl⟩
  · exact ⟨true, by cases n <;> rfl⟩
  · exact ⟨false, by cases n <;> rfl⟩
theorem class_of {k : List Key} {b : Addr} {Q : Bool → Shared → Prop} (T : IsK P w s.heap k b) (q : Q false s) : wpAny (model P w) A (ofAClassStatement 8 (.ref b)) Q E s := by
  have ty := T.typeIs
  obtain ⟨ob, its, cnt, hob, _, dat, itk⟩ := T
  unfold ofAClassStatement
  refine wpAny_bind (wpAny_typeOf ty ?_)
  dsimp only
  have yes : (("tuple" : String) == "tuple") = true := by decide
  simp only [yes, if_true, Bool.not_true, Bool.false_eq_true, if_false]
  try refine wpAny_bind (wpAny_pure ?_)
  try simp only [Bool.not_true, Bool.false_eq_true, if_false]
  show wpAny _ _ (seqItems? (.ref b) >>= _) _ _ s
  refine wpAny_bind (wpAny_seqItems hob dat ?_)
  dsimp only
  refine wpAny_bind ?_
  show wpAny _ _ (forIn its _ _) _ _ s
  rw [← Array.forIn_toList]
  refine wpAny_forIn_list _ (fun left acc st => acc.1 = none ∧ st = s ∧ ∀ u ∈ left, ∃ y : Key, keyIs y u = true) _ ?_ ?_ _ _ ⟨rfl, rfl, told_items itk⟩
  · rintro u left acc st ⟨na, rfl, every⟩
    obtain ⟨y, e⟩ := every u List.mem_cons_self
    rw [no_class _ e]
    refine wpAny_bind (wpAny_pure ?_)
    simp only [Bool.false_eq_true, if_false]
    exact wpAny_pure ⟨rfl, rfl, fun z m => every z (List.mem_cons_of_mem _ m)⟩
  · rintro ⟨c1, c2⟩ st ⟨na, rfl, _⟩
    simp only at na
    subst na
    exact wpAny_pure q
theorem hash_of {k : List Key} {b : Addr} {Q : Bool → Shared → Prop} (T : IsK P w s.heap k b) (q : ∀ r, Q r s) : wpAny (model P w) A (hashByValue 8 (.ref b)) Q E s := by
  have ty := T.typeIs
  obtain ⟨ob, its, cnt, hob, _, dat, itk⟩ := T
  unfold hashByValue
  refine wpAny_bind (wpAny_specialOf ty F.slot_tuple_hash.lookup ?_)
  show wpAny _ _ (seqItems? (.ref b) >>= _) _ _ s
  refine wpAny_bind (wpAny_seqItems hob dat ?_)
  refine wpAny_bind ?_
  show wpAny _ _ (forIn its _ _) _ _ s
  rw [← Array.forIn_toList]
  refine wpAny_forIn_list _ (fun left acc st => acc.1 = none ∧ st = s ∧ ∀ u ∈ left, ∃ y : Key, keyIs y u = true) _ ?_ ?_ _ _ ⟨rfl, rfl, told_items itk⟩
  · rintro u left acc st ⟨na, rfl, every⟩
    obtain ⟨y, e⟩ := every u List.mem_cons_self
    obtain ⟨r, er⟩ := some_hash 7 e
    rw [er]
    refine wpAny_bind (wpAny_pure ?_)
    cases r with
    | true =>
      simp only [Bool.not_true, Bool.false_eq_true, if_false]
      exact wpAny_pure ⟨rfl, rfl, fun z m => every z (List.mem_cons_of_mem _ m)⟩
    | false =>
      simp only [Bool.not_false, if_true]
      exact wpAny_pure (wpAny_pure (q false))
  · rintro ⟨c1, c2⟩ st ⟨na, rfl, _⟩
    simp only at na
    subst na
    exact wpAny_pure (q true)
/-- a search among such tuples cannot be seen -/
theorem seen_of {k : List Key} {b : Addr} {Q : Bool → Shared → Prop} (T : IsK P w s.heap k b) {us : List Value} (hu : ∀ u ∈ us, ∃ j c, u = Value.ref c ∧ IsK P w s.heap j c) (q : Q false s) :
    wpAny (model P w) A (searchCouldBeSeen (.ref b) us) Q E s := by
  unfold searchCouldBeSeen
  refine wpAny_bind ?_
  refine wpAny_forIn_list _ (fun left acc st => acc.1 = none ∧ st = s ∧ ∀ u ∈ left, ∃ j c, u = Value.ref c ∧ IsK P w s.heap j c) _ ?_ ?_ _ _ ⟨rfl, rfl, hu⟩
  · rintro u left acc st ⟨na, rfl, every⟩
    obtain ⟨j, c, rfl, Tc⟩ := every u List.mem_cons_self
    have after : ∀ u ∈ left, ∃ j c, u = Value.ref c ∧ IsK P w st.heap j c := fun z m => every z (List.mem_cons_of_mem _ m)
    dsimp only
    by_cases very : (b == c || (carriedByValue (.ref b) && carriedByValue (.ref c))) = true
    · exact wp_if_pos very (wpAny_pure ⟨rfl, rfl, after⟩)
    · refine wp_if_neg very (wpAny_bind (wpAny_eqIsQuiet_tuple T ?_))
      simp only [Bool.not_true, Bool.false_eq_true, if_false]
      refine wpAny_bind (wpAny_eqIsQuiet_tuple Tc ?_)
      simp only [Bool.not_true, Bool.false_eq_true, if_false]
      refine wpAny_bind (class_of T ?_)
      simp only [Bool.false_eq_true, if_false]
      refine wpAny_bind (class_of Tc ?_)
      simp only [Bool.false_eq_true, if_false]
      exact wpAny_pure ⟨rfl, rfl, after⟩
  · rintro ⟨c1, c2⟩ st ⟨na, rfl, _⟩
    simp only at na
    subst na
    exact wpAny_pure q
/-! ### the table of such a set -/
def MaskIn (m : Nat) : Prop := m = 7 ∨ m = 31 ∨ m = 127 ∨ m = 511 ∨ m = 2047 ∨ m = 8191
theorem MaskIn.pow {m : Nat} (h : MaskIn m) : Pow2 m := by
  rcases h with rfl | rfl | rfl | rfl | rfl | rfl
  · exact ⟨3, rfl⟩
  · exact ⟨5, rfl⟩
  · exact ⟨7, rfl⟩
  · exact ⟨9, rfl⟩
  · exact ⟨11, rfl⟩
  · exact ⟨13, rfl⟩
theorem MaskIn.odd {m : Nat} (h : MaskIn m) : m % 2 = 1 := by
  rcases h with rfl | rfl | rfl | rfl | rfl | rfl <;> rfl
theorem MaskIn.le {m : Nat} (h : MaskIn m) : m ≤ 8191 := by
  rcases h with rfl | rfl | rfl | rfl | rfl | rfl <;> decide
def rowsK (P : Program) (w : World) (L : List (Addr × List Key)) : List (Int × Value) := L.map fun e => (kh P w e.2, Value.ref e.1)
theorem rowsK_len (L : List (Addr × List Key)) : (rowsK P w L).length = L.length := List.length_map ..
structure KSet (P : Program) (w : World) (h : Heap) (a : Addr) (L : List (Addr × List Key)) (es : Array (Int × Value)) (ep : Nat) (t : SetTable) : Prop where
  here : ∃ o, h.get? a = some o ∧ o.ExactSet ∧ o.data = .set es ep t
  rows : es.toList = rowsK P w L
  tab : Tab t (L.map fun e => kh P w e.2)
  nd : (L.map (·.2)).Nodup
  tups : ∀ e ∈ L, IsK P w h e.2 e.1
  mask : MaskIn t.mask
  room : L.length * 5 < t.mask * 3
variable {a : Addr} {L : List (Addr × List Key)} {es : Array (Int × Value)} {ep : Nat} {t : SetTable}
theorem KSet.size (R : KSet P w s.heap a L es ep t) : es.size = L.length := by
  rw [← Array.length_toList, R.rows, rowsK_len]
theorem KSet.places (R : KSet P w s.heap a L es ep t) : t.place.toList.length = L.length := by
  rw [Array.length_toList, R.tab.many, List.length_map]
theorem KSet.fits (R : KSet P w s.heap a L es ep t) : t.fits es.size = true := by
  have p := R.places
  have z := R.size
  have r := R.room
  rw [Array.length_toList] at p
  unfold SetTable.fits SetTable.fill
  rw [R.tab.clean]
  simp
  omega
theorem KSet.entry (R : KSet P w s.heap a L es ep t) {i : Nat} {e : Addr × List Key} (h : L[i]? = some e) : es[i]? = some (kh P w e.2, Value.ref e.1) := by
  rw [← Array.getElem?_toList, R.rows]
  show (L.map _)[i]? = _
  rw [List.getElem?_map, h]
  rfl
theorem KSet.hashAt (R : KSet P w s.heap a L es ep t) {i : Nat} {e : Addr × List Key} (h : L[i]? = some e) : (es[i]?.map (·.1)).getD 0 = kh P w e.2 := by
  rw [R.entry h]
  rfl
theorem KSet.whole (R : KSet P w s.heap a L es ep t) : ¬ t.gaveWay = true := by
  unfold SetTable.gaveWay
  rw [R.mask.odd]
  decide
/-- where the walk stands behind c steps -/
abbrev stand (m : Nat) (h : Int) (c : Nat) : SetTable.Probe := nth m (runAt m (SetTable.bits h % (m + 1)) (SetTable.bits h)) c
theorem stand_dummy (m : Nat) (h : Int) : ∀ c, (stand m h c).dummy = none
  | 0 => rfl
  | c + 1 => by
    show (nth m _ (c + 1)).dummy = none
    rw [nth_succ]
    have ih := stand_dummy m h c
    unfold adv
    split <;> exact ih
theorem stand_on (m : Nat) (h : Int) (c q : Nat) : nth m (stand m h c) q = stand m h (c + q) := (nth_add m c _ q).symm
end
end Nm
set_option maxRecDepth 100000
set_option maxHeartbeats 4000000
/-! the search for a tuple in a set of tuples of keys, to add it or to ask for it -/
namespace Nm
open PySem PySem.Spec PyProof.Rows L2
section
variable {P : Program} {w : World} {A : Around} {E : Value → Shared → Prop} {s : Shared}
variable {a : Addr} {L : List (Addr × List Key)} {es : Array (Int × Value)} {ep : Nat} {t : SetTable}
theorem look_from (R : KSet P w s.heap a L es ep t) {x : Addr} {k : List Key} (T : IsK P w s.heap k x) (hu : A.units < cLine) (ad : Bool) {N : Nat} (lim : N < 10 * SetTable.turns t.mask)
    (out : way t.mask (kh P w k) N ∉ t.place.toList) (bef : ∀ c < N, way t.mask (kh P w k) c ∈ t.place.toList) {Q : SetFound → Shared → Prop}
    (qin : k ∈ L.map (·.2) → ∀ r : Option Nat, (ad = false → r.isSome = true) → Q (.there r) s) (qout : k ∉ L.map (·.2) → Q (.free (way t.mask (kh P w k) N) false) s) :
    ∀ (f c : Nat) (fr : Option SetTable.Probe), fr.getD (t.probeStart (kh P w k)) = stand t.mask (kh P w k) c → c ≤ N → N - c < f →
      (∀ (i : Nat) e, L[i]? = some e → e.2 = k → ∃ d, c ≤ d ∧ d < N ∧ t.place.toList[i]? = some (way t.mask (kh P w k) d)) →
      wpAny (model P w) A (setSearchFrom a (.ref x) (kh P w k) ad f fr) Q E s
  | 0, c, fr, _, _, few, _ => absurd few (Nat.not_lt_zero _)
  | f + 1, c, fr, at_, le, few, ahead => by
    obtain ⟨o, ho, ex, dat⟩ := R.here
    rw [setSearchFrom_succ]
    refine wpAny_bind (wpAny_setState_of ho dat R.fits ?_)
    dsimp only
    refine wp_if_neg R.whole ?_
    try refine wpAny_bind (wpAny_pure ?_)
    have wj : ∀ q, (nth t.mask (stand t.mask (kh P w k) c) q).j = way t.mask (kh P w k) (c + q) := fun q => congrArg SetTable.Probe.j (stand_on t.mask (kh P w k) c q)
    have told := go_spec t R.tab.up R.tab.clean (fun i => (es[i]?.map (·.1)).getD 0) (kh P w k) (10 * SetTable.turns t.mask) (N - c) (stand t.mask (kh P w k) c) (stand_dummy t.mask (kh P w k) c) (by omega)
      (fun q hq => by rw [wj]; exact bef (c + q) (by omega)) (by rw [wj, show c + (N - c) = N by omega]; exact out)
    rcases told with ⟨q, i, hq, hi, hh, first, pr⟩ | ⟨none_, pr⟩
    · -- one of the same hash
      have pr2 : t.probe (fun i => (es[i]?.map (·.1)).getD 0) (kh P w k) (fr.getD (t.probeStart (kh P w k))) = some (.candidate (way t.mask (kh P w k) (c + q)) i (stand t.mask (kh P w k) (c + (q + 1)))) := by
        rw [at_, ← wj, ← stand_on]
        exact pr
      rw [pr2]
      dsimp only
      rw [wj] at hi
      have lt : i < L.length := by
        rw [← R.places]
        exact (List.getElem?_eq_some_iff.mp hi).1
      obtain ⟨e, he⟩ : ∃ e, L[i]? = some e := ⟨_, List.getElem?_eq_getElem lt⟩
      have hm : e ∈ L := List.mem_of_getElem? he
      have Te := R.tups e hm
      have go_on : wpAny (model P w) A (searchRest a (.ref x) (kh P w k) ad f es t (way t.mask (kh P w k) (c + q)) i (stand t.mask (kh P w k) (c + (q + 1)))) Q E s := by
        unfold searchRest
        rw [R.entry he]
        dsimp only
        refine wpAny_bind (wpAny_holding (wpAny_eqBool_tuple hu Te T ?_))
        refine wpAny_bind (wpAny_setState_of ho dat R.fits ?_)
        dsimp only
        have sl : t.slot (way t.mask (kh P w k) (c + q)) = .live i := slot_live R.tab.up hi
        by_cases same : e.2 = k
        · have inn : k ∈ L.map (·.2) := List.mem_map.mpr ⟨e, hm, same⟩
          cases ad with
          | true =>
            refine wp_if_pos (by simp [same]) ?_
            exact wpAny_pure (qin inn none fun z => nomatch z)
          | false =>
            refine wp_if_neg (by simp) ?_
            try refine wpAny_bind (wpAny_pure ?_)
            rw [sameMem]
            dsimp only
            simp only [if_true, sl, R.entry he]
            refine wpAny_bind (wpAny_isSame_ref_self (wpAny_bind (wpAny_pure ?_)))
            simp only [if_true]
            refine wp_if_pos (by simp [same]) ?_
            exact wpAny_pure (qin inn (some i) fun _ => rfl)
        · refine wp_if_neg (by simp [same]) ?_
          try refine wpAny_bind (wpAny_pure ?_)
          rw [sameMem]
          dsimp only
          simp only [if_true, sl, R.entry he]
          refine wpAny_bind (wpAny_isSame_ref_self (wpAny_bind (wpAny_pure ?_)))
          simp only [if_true]
          refine wp_if_neg (by simp [same]) ?_
          refine look_from R T hu ad lim out bef qin qout f (c + (q + 1)) _ rfl (by omega) (by omega) fun i0 e0 h0 k0 => ?_
          obtain ⟨d, d1, d2, d3⟩ := ahead i0 e0 h0 k0
          refine ⟨d, ?_, d2, d3⟩
          rcases Nat.lt_or_ge (c + q) d with gt | le'
          · omega
          exfalso
          rcases Nat.lt_or_eq_of_le le' with lt' | eq'
          · refine first (d - c) i0 (by omega) (by rw [wj, show c + (d - c) = d by omega]; exact d3) ?_
            exact (R.hashAt h0).trans (congrArg (kh P w) k0)
          · rw [eq'] at d3
            have s0 := slot_live R.tab.up d3
            rw [sl] at s0
            injection s0 with s0
            subst s0
            rw [he] at h0
            cases h0
            exact same k0
      by_cases led : t.led = true
      · refine wp_if_neg (by simp [led]) ?_
        try refine wpAny_bind (wpAny_pure ?_)
        exact go_on
      · refine wp_if_pos (by simp [led]) ?_
        refine wpAny_bind (seen_of T (fun u m => ?_) ?_)
        · obtain ⟨r, hr, er⟩ := List.mem_map.mp m
          have m2 : r ∈ es.toList := by
            have := (show r ∈ es ∧ r.1 = kh P w k by simpa using hr).1
            simpa using this
          rw [R.rows] at m2
          obtain ⟨e2, hm2, ee⟩ := List.mem_map.mp m2
          exact ⟨e2.2, e2.1, by rw [← er, ← ee], R.tups e2 hm2⟩
        · refine wp_if_neg (by decide) ?_
          try refine wpAny_bind (wpAny_pure ?_)
          exact go_on
    · -- the free slot
      have pr2 : t.probe (fun i => (es[i]?.map (·.1)).getD 0) (kh P w k) (fr.getD (t.probeStart (kh P w k))) = some (.empty (way t.mask (kh P w k) N) none) := by
        have ew : way t.mask (kh P w k) N = (nth t.mask (stand t.mask (kh P w k) c) (N - c)).j := by rw [wj, show c + (N - c) = N by omega]
        rw [at_, ew]
        exact pr
      rw [pr2]
      dsimp only
      refine wpAny_pure (qout fun m => ?_)
      obtain ⟨e0, m0, k0⟩ := List.mem_map.mp m
      obtain ⟨i0, h0⟩ := List.getElem?_of_mem m0
      obtain ⟨d, d1, d2, d3⟩ := ahead i0 e0 h0 k0
      refine none_ (d - c) i0 (by omega) (by rw [wj, show c + (d - c) = d by omega]; exact d3) ?_
      exact (R.hashAt h0).trans (congrArg (kh P w) k0)
/-- the search from its beginning -/
theorem look (R : KSet P w s.heap a L es ep t) {x : Addr} {k : List Key} (T : IsK P w s.heap k x) (hu : A.units < cLine) (ad : Bool) {Q : SetFound → Shared → Prop}
    (qin : k ∈ L.map (·.2) → ∀ r : Option Nat, (ad = false → r.isSome = true) → Q (.there r) s)
    (qout : ∀ N, k ∉ L.map (·.2) → way t.mask (kh P w k) N ∉ t.place.toList → (∀ c < N, way t.mask (kh P w k) c ∈ t.place.toList) → Q (.free (way t.mask (kh P w k) N) false) s) :
    wpAny (model P w) A (setSearch a (.ref x) (kh P w k) ad) Q E s := by
  have room := R.room
  obtain ⟨N, lim, out, bef⟩ := R.tab.free (by rw [List.length_map]; omega) (kh P w k)
  have big : N < 100000 := by
    have := R.mask.le
    unfold SetTable.turns at lim
    omega
  unfold setSearch
  refine look_from R T hu ad lim out bef qin (fun n => qout N n out bef) 100000 0 none rfl (Nat.zero_le _) (by omega) fun i e he ek => ?_
  have lt : i < t.place.toList.length := by
    rw [R.places]
    exact (List.getElem?_eq_some_iff.mp he).1
  have hj := List.getElem?_eq_getElem lt
  obtain ⟨d, d1, d2⟩ := R.tab.ahead out (i := i) (by rw [List.getElem?_map, he, ← ek]; rfl) hj
  exact ⟨d, Nat.zero_le _, d1, by rw [hj, d2]⟩
/-- x in such a set -/
theorem find_in (R : KSet P w s.heap a L es ep t) {x : Addr} {k : List Key} (T : IsK P w s.heap k x) (hu : A.units < cLine) {Q : Option Nat → Shared → Prop}
    (q : ∀ r : Option Nat, (r.isSome = true ↔ k ∈ L.map (·.2)) → Q r s) : wpAny (model P w) A (setFind a (.ref x) (kh P w k)) Q E s := by
  obtain ⟨o, ho, ex, dat⟩ := R.here
  unfold setFind setFindIn
  refine wpAny_bind (wpAny_setState_of ho dat R.fits ?_)
  dsimp only
  refine wp_if_neg (by simp [byScan, Value.scannable]) ?_
  try refine wpAny_bind (wpAny_pure ?_)
  refine wpAny_bind (look R T hu false (fun inn r hr => ?_) fun N n _ _ => ?_)
  · dsimp only
    exact wpAny_pure (q r ⟨fun _ => inn, fun _ => hr rfl⟩)
  · dsimp only
    exact wpAny_pure (q none ⟨fun z => (nomatch z), fun z => absurd z n⟩)
end
end Nm
set_option maxRecDepth 100000
set_option maxHeartbeats 4000000
/-! a tuple put into a set of tuples of keys -/
namespace Nm
open PySem PySem.Spec PyProof.Rows L2
theorem new_mask : SetTable.sizeAbove (SetTable.grown 5) = 32 ∧ SetTable.sizeAbove (SetTable.grown 19) = 128 ∧ SetTable.sizeAbove (SetTable.grown 77) = 512 ∧ SetTable.sizeAbove (SetTable.grown 307) = 2048 ∧ SetTable.sizeAbove (SetTable.grown 1229) = 8192 := by decide +kernel
/-- how a table grows -/
theorem grows {m n : Nat} (h : MaskIn m) (few : n * 5 < m * 3) (full : (n + 1) * 5 ≥ m * 3) (le : n + 1 ≤ 4900) :
    ∃ M, SetTable.sizeAbove (SetTable.grown (n + 1)) - 1 = M ∧ MaskIn M ∧ SetTable.sizeAbove (SetTable.grown (n + 1)) ≤ 8192 ∧ (n + 1) * 5 < M * 3 := by
  obtain ⟨a1, a2, a3, a4, a5⟩ := new_mask
  rcases h with rfl | rfl | rfl | rfl | rfl | rfl
  · obtain rfl : n = 4 := by omega
    exact ⟨31, by rw [a1], .inr (.inl rfl), by rw [a1]; decide, by decide⟩
  · obtain rfl : n = 18 := by omega
    exact ⟨127, by rw [a2], .inr (.inr (.inl rfl)), by rw [a2]; decide, by decide⟩
  · obtain rfl : n = 76 := by omega
    exact ⟨511, by rw [a3], .inr (.inr (.inr (.inl rfl))), by rw [a3]; decide, by decide⟩
  · obtain rfl : n = 306 := by omega
    exact ⟨2047, by rw [a4], .inr (.inr (.inr (.inr (.inl rfl)))), by rw [a4]; decide, by decide⟩
  · obtain rfl : n = 1228 := by omega
    exact ⟨8191, by rw [a5], .inr (.inr (.inr (.inr (.inr rfl)))), by rw [a5]; decide, by decide⟩
  · omega
section
variable {P : Program} {w : World} {A : Around} {E : Value → Shared → Prop} {s : Shared}
theorem isK_but {h h' : Heap} {k : List Key} {a b : Addr} {o : Obj} {es : Array (Int × Value)} {ep : Nat} {t : SetTable} (T : IsK P w h k b) (ho : h.get? a = some o) (dat : o.data = .set es ep t) (sb : Heap.SameBut a h h') : IsK P w h' k b := by
  obtain ⟨u, its, cnt, hu, cl, ud, itk⟩ := T
  refine ⟨u, its, cnt, (sb.2 b fun e => ?_).trans hu, cl, ud, itk⟩
  subst e
  rw [ho] at hu
  cases hu
  rw [dat] at ud
  cases ud
theorem rowsK_put (L : List (Addr × List Key)) (i : Nat) (x : Addr) (k : List Key) : rowsK P w (L.take i ++ (x, k) :: L.drop i) = (rowsK P w L).take i ++ (kh P w k, Value.ref x) :: (rowsK P w L).drop i := by
  unfold rowsK
  rw [List.map_append, List.map_cons, List.map_take, List.map_drop]
/-- the rows in another order -/
theorem rowsK_order {L : List (Addr × List Key)} {es : Array (Int × Value)} {ord : Array Nat} (hr : es.toList = rowsK P w L) (pm : ord.toList.Perm (List.range L.length)) :
    ∃ L', (ord.filterMap (es[·]?)).toList = rowsK P w L' ∧ L'.Perm L ∧ (L'.map fun e => kh P w e.2) = ord.toList.map fun i => (es.map (·.1)).getD i 0 := by
  have sz : es.size = L.length := by rw [← Array.length_toList, hr, rowsK_len]
  have row : ∀ (i : Nat) e, L[i]? = some e → es[i]? = some (kh P w e.2, Value.ref e.1) := fun i e h => by
    rw [← Array.getElem?_toList, hr]
    show (L.map _)[i]? = _
    rw [List.getElem?_map, h]
    rfl
  have walk : ∀ js : List Nat, (∀ j ∈ js, j < L.length) → ∃ L', js.filterMap (fun i => es[i]?) = rowsK P w L' ∧ js.filterMap (fun i => L[i]?) = L' ∧ (L'.map fun e => kh P w e.2) = js.map fun i => (es.map (·.1)).getD i 0 := by
    intro js
    induction js with
    | nil => exact fun _ => ⟨[], rfl, rfl, rfl⟩
    | cons j js ih =>
      intro below
      obtain ⟨L', b1, b2, b3⟩ := ih fun i m => below i (List.mem_cons_of_mem _ m)
      obtain ⟨e, he⟩ : ∃ e, L[j]? = some e := ⟨_, List.getElem?_eq_getElem (below j List.mem_cons_self)⟩
      refine ⟨e :: L', by rw [List.filterMap_cons_some (row j e he), b1]; rfl, by rw [List.filterMap_cons_some he, b2], ?_⟩
      rw [List.map_cons, List.map_cons, b3]
      congr 1
      rw [Array.getD_eq_getD_getElem?, Array.getElem?_map, row j e he]
      rfl
  obtain ⟨L', b1, b2, b3⟩ := walk ord.toList fun j m => List.mem_range.mp (pm.mem_iff.mp m)
  refine ⟨L', by simpa using b1, ?_, b3⟩
  have all : ∀ n, n ≤ L.length → (List.range n).filterMap (fun i => L[i]?) = L.take n := by
    intro n
    induction n with
    | zero => exact fun _ => rfl
    | succ n ih =>
      intro le
      rw [List.range_succ, List.filterMap_append, ih (by omega), List.take_add_one, List.filterMap_cons_some (List.getElem?_eq_getElem le), List.getElem?_eq_getElem le]
      rfl
  rw [← b2]
  refine (pm.filterMap _).trans ?_
  rw [all _ (Nat.le_refl _), List.take_length]
variable {a : Addr} {L : List (Addr × List Key)} {es : Array (Int × Value)} {ep : Nat} {t : SetTable}
/-- the table laid anew -/
theorem laid_new {o : Obj} (ho : s.heap.get? a = some o) (ex : o.ExactSet) (dat : o.data = .set es ep t) (rows : es.toList = rowsK P w L) (tab : Tab t (L.map fun e => kh P w e.2)) (le : L.length ≤ t.mask) (nd : (L.map (·.2)).Nodup)
    (tups : ∀ e ∈ L, IsK P w s.heap e.2 e.1) {want M : Nat} (hM : SetTable.sizeAbove want - 1 = M) (mk : MaskIn M) (lim : SetTable.sizeAbove want ≤ 8192) (room : L.length * 5 < M * 3) {Q : Unit → Shared → Prop}
    (q : ∀ h' L' es' ep' t', Heap.SameBut a s.heap h' → KSet P w h' a L' es' ep' t' → L'.Perm L → Q () { s with heap := h' }) : wpAny (model P w) A (setRelay a want) Q E s := by
  have sz : es.size = L.length := by rw [← Array.length_toList, rows, rowsK_len]
  have pl := tab.many
  rw [List.length_map] at pl
  have fits : t.fits es.size = true := by
    unfold SetTable.fits SetTable.fill
    rw [tab.clean]
    simp
    omega
  obtain ⟨t', ord, e, pm, T, em, _, _⟩ := lay_new t (hs := es.map (·.1)) (want := want) hM mk.pow (by rw [Array.size_map, sz]; omega)
  rw [Array.size_map, sz] at pm
  obtain ⟨L', r1, r2, r3⟩ := rowsK_order (P := P) (w := w) rows pm
  rw [← r3] at T
  have sz' : (ord.filterMap (es[·]?)).size = es.size := by rw [← Array.length_toList, r1, rowsK_len, r2.length_eq, sz]
  rw [setRelay_eq]
  refine wpAny_bind (wpAny_setState_of ho dat fits ?_)
  dsimp only
  refine wp_if_neg (by rw [sizeLine_eq]; omega) ?_
  try refine wpAny_bind (wpAny_pure ?_)
  rw [e]
  dsimp only
  refine wpAny_bind ?_
  refine wp_if_neg (by rw [sz']; simp) ?_
  try refine wpAny_bind (wpAny_pure ?_)
  refine wpAny_pure ?_
  dsimp only
  have few : L.length < 4920 := by
    have := mk.le
    omega
  refine wpAny_storeSet_of ho dat ?_ (by rw [sz', sz, sizeLine_eq]; omega)
  have sb : Heap.SameBut a s.heap (s.heap.update a (Obj.putSet (ord.filterMap (es[·]?)) t')) := Heap.SameBut.update ..
  refine q _ L' (ord.filterMap (es[·]?)) (ep + 1) t' sb ⟨⟨_, store_at ho dat, ⟨ex.1, ex.2.1, ex.2.2⟩, rfl⟩, r1, T, (r2.map (·.2)).nodup_iff.mpr nd, fun u m => isK_but (tups u (r2.mem_iff.mp m)) ho dat sb, by rw [em]; exact mk, by rw [r2.length_eq, em]; exact room⟩ r2
/-- adding -/
theorem put_in (R : KSet P w s.heap a L es ep t) {x : Addr} {k : List Key} (T : IsK P w s.heap k x) (hu : A.units < cLine) (few : L.length + 1 ≤ 4900) {Q : Bool → Shared → Prop}
    (q : ∀ b h' L' es' ep' t', Heap.SameBut a s.heap h' → KSet P w h' a L' es' ep' t' → (k ∈ L.map (·.2) → L' = L) → (k ∉ L.map (·.2) → L'.Perm ((x, k) :: L)) → Q b { s with heap := h' }) :
    wpAny (model P w) A (setAddHashed a (.ref x) (kh P w k)) Q E s := by
  obtain ⟨o, ho, ex, dat⟩ := R.here
  have sz := R.size
  have room := R.room
  unfold setAddHashed
  refine wpAny_holding ?_
  rw [show (100000 : Nat) = 99999 + 1 from rfl, setAddHashedIn_succ]
  refine wpAny_bind (wpAny_setState_of ho dat R.fits ?_)
  dsimp only
  refine wp_if_neg (by simp [byScan, Value.scannable]) ?_
  try refine wpAny_bind (wpAny_pure ?_)
  refine wpAny_bind (look R T hu true (fun inn r _ => ?_) fun N nin out bef => ?_)
  · dsimp only
    exact wpAny_pure (q false s.heap L es ep t (Heap.SameBut.refl a s.heap) R (fun _ => rfl) fun z => absurd inn z)
  · dsimp only
    refine wpAny_bind (wpAny_setState_of ho dat R.fits ?_)
    dsimp only
    obtain ⟨c1, c2, c3⟩ := R.tab.more out bef
    have em : (t.put (way t.mask (kh P w k) N)).1.mask = t.mask := rfl
    generalize hpt : t.put (way t.mask (kh P w k) N) = pt at c2 c3 em ⊢
    have ep2 : pt.2 = SetTable.below t.place (way t.mask (kh P w k) N) := by rw [← hpt]; rfl
    obtain ⟨t1, pos⟩ := pt
    dsimp only at c2 c3 em ep2 ⊢
    subst ep2
    generalize hpos : SetTable.below t.place (way t.mask (kh P w k) N) = pos at *
    have rows1 : (SetTable.insertAt es pos (kh P w k, Value.ref x)).toList = rowsK P w (L.take pos ++ (x, k) :: L.drop pos) := by
      rw [SetTable.toList_insertAt, rowsK_put, R.rows]
    have pm : (L.take pos ++ (x, k) :: L.drop pos).Perm ((x, k) :: L) := by
      have z := List.perm_middle (a := (x, k)) (l₁ := L.take pos) (l₂ := L.drop pos)
      rw [List.take_append_drop] at z
      exact z
    have len : (L.take pos ++ (x, k) :: L.drop pos).length = L.length + 1 := pm.length_eq
    have hs : (L.take pos ++ (x, k) :: L.drop pos).map (fun e => kh P w e.2) = (L.map fun e => kh P w e.2).take pos ++ kh P w k :: (L.map fun e => kh P w e.2).drop pos := by
      rw [List.map_append, List.map_cons, List.map_take, List.map_drop]
    rw [← hs] at c2
    have nd1 : ((L.take pos ++ (x, k) :: L.drop pos).map (·.2)).Nodup := (pm.map (·.2)).nodup_iff.mpr (List.nodup_cons.mpr ⟨nin, R.nd⟩)
    have sz1 : (SetTable.insertAt es pos (kh P w k, Value.ref x)).size = L.length + 1 := by rw [← Array.length_toList, rows1, rowsK_len, len]
    generalize SetTable.insertAt es pos (kh P w k, Value.ref x) = es1 at rows1 sz1 ⊢
    generalize L.take pos ++ (x, k) :: L.drop pos = L1 at pm len c2 nd1 rows1
    -- the rest, however the field stands
    have rest : ∀ t2 : SetTable, Tab t2 (L1.map fun e => kh P w e.2) → t2.mask = t.mask → t2.fill = L.length + 1 →
        wpAny (model P w) A (do
            storeSet a es1 t2
            if !false && t2.tooFull then setRelay a (SetTable.grown (es.size + 1))
            return true) Q E s := fun t2 T2 m2 f2 => by
      refine wpAny_bind (wpAny_storeSet_of ho dat ?_ (by rw [sz1, sizeLine_eq]; omega))
      have sb : Heap.SameBut a s.heap (s.heap.update a (Obj.putSet es1 t2)) := Heap.SameBut.update ..
      have ho1 := store_at (es' := es1) (t' := t2) ho dat
      generalize s.heap.update a (Obj.putSet es1 t2) = h1 at sb ho1 ⊢
      have tups1 : ∀ e ∈ L1, IsK P w h1 e.2 e.1 := fun e m => by
        rcases List.mem_cons.mp (pm.mem_iff.mp m) with rfl | m
        · exact isK_but T ho dat sb
        · exact isK_but (R.tups e m) ho dat sb
      by_cases full : t2.tooFull = true
      · have hf := full
        unfold SetTable.tooFull at hf
        rw [decide_eq_true_eq, f2, m2] at hf
        obtain ⟨M, g1, g2, g3, g4⟩ := grows R.mask room hf few
        first
          | (refine wpAny_bind ?_; refine wp_if_pos (by simp [full]) ?_)
          | (refine wp_if_pos (by simp [full]) ?_; refine wpAny_bind ?_)
        rw [sz]
        refine laid_new (s := { s with heap := h1 }) ho1 ⟨ex.1, ex.2.1, ex.2.2⟩ rfl rows1 T2 (by rw [len, m2]; have := R.mask.le; rcases R.mask with e | e | e | e | e | e <;> omega) nd1 tups1 g1 g2 g3 (by rw [len]; exact g4) ?_
        intro h2 L2 es2 ep2 t3 sb2 R2 pm2
        exact wpAny_pure (q true h2 L2 es2 ep2 t3 (sb.trans sb2) R2 (fun z => absurd z nin) fun _ => pm2.trans pm)
      · first
          | refine wp_if_neg (by simp [full]) ?_
          | (refine wpAny_bind ?_; refine wp_if_neg (by simp [full]) ?_; refine wpAny_pure ?_)
        have hf := full
        unfold SetTable.tooFull at hf
        rw [decide_eq_true_eq, f2, m2] at hf
        exact wpAny_pure (q true h1 L1 es1 (ep + 1) t2 sb ⟨⟨_, ho1, ⟨ex.1, ex.2.1, ex.2.2⟩, rfl⟩, rows1, T2, nd1, tups1, by rw [m2]; exact R.mask, by rw [len, m2]; omega⟩ (fun z => absurd z nin) fun _ => pm)
    by_cases pl : t1.plain = true
    · first
        | (refine wpAny_bind ?_; refine wp_if_pos pl ?_)
        | (refine wp_if_pos pl ?_; refine wpAny_bind ?_)
      refine hash_of T fun r => ?_
      cases r with
      | true =>
        simp only [if_true]
        exact rest t1 c2 em (by rw [c3, List.length_map])
      | false =>
        simp only [Bool.false_eq_true, if_false]
        exact rest { t1 with plain := false } ⟨c2.up, c2.clean, c2.many, c2.pow, c2.low, c2.led⟩ em (by show t1.fill = _; rw [c3, List.length_map])
    · first
        | (refine wpAny_bind ?_; refine wp_if_neg pl ?_; refine wpAny_pure ?_)
        | (refine wp_if_neg pl ?_; refine wpAny_bind (wpAny_pure ?_))
        | (refine wp_if_neg pl ?_)
      simp only [if_true]
      exact rest t1 c2 em (by rw [c3, List.length_map])
end
end Nm
set_option maxRecDepth 100000
set_option maxHeartbeats 4000000
/-! sets of tuples of keys as objects: set(), x in them, .add(x) -/
namespace Nm
open PySem PySem.Spec PyProof.Rows L2
/-- such a set, the tuples left out -/
structure KBare (P : Program) (w : World) (h : Heap) (a : Addr) (L : List (Addr × List Key)) : Prop where
  ex : ∃ (es : Array (Int × Value)) (ep : Nat) (t : SetTable), (∃ o, h.get? a = some o ∧ o.ExactSet ∧ o.data = .set es ep t) ∧ es.toList = rowsK P w L ∧ Tab t (L.map fun e => kh P w e.2) ∧ (L.map (·.2)).Nodup ∧ MaskIn t.mask ∧ L.length * 5 < t.mask * 3
theorem KSet.bare {P : Program} {w : World} {h : Heap} {a : Addr} {L : List (Addr × List Key)} {es : Array (Int × Value)} {ep : Nat} {t : SetTable} (R : KSet P w h a L es ep t) : KBare P w h a L := ⟨es, ep, t, R.here, R.rows, R.tab, R.nd, R.mask, R.room⟩
theorem KBare.set {P : Program} {w : World} {h : Heap} {a : Addr} {L : List (Addr × List Key)} (R : KBare P w h a L) (T : ∀ e ∈ L, IsK P w h e.2 e.1) : ∃ es ep t, KSet P w h a L es ep t := by
  obtain ⟨es, ep, t, c1, c2, c3, c4, c5, c6⟩ := R
  exact ⟨es, ep, t, c1, c2, c3, c4, T, c5, c6⟩
def KSetO (P : Program) (w : World) (a : Addr) (L : List (Addr × List Key)) : HO := .ext fun h => KBare P w h a L
theorem kset_obj {P : Program} {w : World} {H : Hp} {h : Heap} {a : Addr} {L : List (Addr × List Key)} (R : KBare P w h a L) : ObjOk P w H h a (KSetO P w a L) := by
  refine ⟨R, ?_, fun h1 h2 p k => ?_⟩
  · obtain ⟨_, _, _, ⟨o, ho, _⟩, _⟩ := R
    exact ⟨o, ho⟩
  · obtain ⟨es, ep, t, ⟨o, ho, r⟩, q⟩ := (show KBare P w h1 a L from p)
    exact ⟨es, ep, t, ⟨o, k o ho, r⟩, q⟩
theorem kbare_typeIs {P : Program} {w : World} {s : Shared} {a : Addr} {L : List (Addr × List Key)} (R : KBare P w s.heap a L) : s.TypeIs (.ref a) "set" := by
  obtain ⟨_, _, _, ⟨o, ho, ex, _⟩, _⟩ := R
  exact ⟨o, ho, ex.1⟩
theorem kbare_noDict {P : Program} {w : World} {h : Heap} {a : Addr} {L : List (Addr × List Key)} (R : KBare P w h a L) : ∀ b, Value.ref a = .ref b → ∃ u, h.get? b = some u ∧ u.dict = none := by
  obtain ⟨_, _, _, ⟨o, ho, ex, _⟩, _⟩ := R
  intro b e
  cases e
  exact ⟨o, ho, ex.2.1⟩
/-- the tuples of such a set stand -/
def KIn (H : Hp) (L : List (Addr × List Key)) : Prop := ∀ e ∈ L, H e.1 = some (.tup (e.2.map kV))
section
variable {X : Cx} {pins : List (Addr × Obj)} {σ : L2.St} {H : Hp} {s : Shared}
theorem kset_get {a : Addr} {L : List (Addr × List Key)} (I : Inv X pins σ H s) (ha : H a = some (KSetO X.prog X.w a L)) : KBare X.prog X.w s.heap a L := (I.hok a _ ha).1
theorem key_is {u : Addr} {k : List Key} (I : Inv X pins σ H s) (hu : H u = some (.tup (k.map kV))) : IsK X.prog X.w s.heap k u := key_of I.hok hu
/-- set() -/
def rSetKT (P : Program) (w : World) : List V → Hp → VK → Prop := fun xs H Q => xs = [] ∧ ∀ p, H p = none → Q (.ref p) (upd H p (KSetO P w p []))
theorem cr_setKT : CallR X (.type "set") (rSetKT X.prog X.w) := by
  intro pins s σ H xs us Q I r h
  obtain ⟨rfl, q⟩ := h
  cases r
  refine setR_new fun _ => ?_
  refine ⟨.ref _, upd H s.heap.objs.size (KSetO X.prog X.w s.heap.objs.size []), I.laid (t' := s.toks) (fun b u e => Heap.get?_push_of_some _ e) (Nat.le_refl _) (kset_obj ?_), rfl, q _ (I.hok.fresh (Nat.le_refl _))⟩
  refine ⟨#[], 0, .fresh 0 0 (!X.w.params.followText "set-order"), ⟨_, Heap.get?_push_size _ rfl, ⟨rfl, rfl, rfl⟩, rfl⟩, rfl, ⟨List.Pairwise.nil, rfl, rfl, ⟨3, rfl⟩, fun x m => ?_, fun i h j e => ?_⟩, List.nodup_nil, .inl rfl, by show 0 * 5 < 7 * 3; decide⟩
  · cases m
  · simp at e
/-- u in a -/
def rInKT (P : Program) (w : World) : V → V → Hp → VK → Prop := fun x y H Q => ∃ (u a : Addr) (k : List Key) (L : List (Addr × List Key)), x = .ref u ∧ y = .ref a ∧ H u = some (.tup (k.map kV)) ∧ H a = some (KSetO P w a L) ∧ KIn H L ∧ ∀ b : Bool, (b = true ↔ k ∈ L.map (·.2)) → Q (.bl b) H
theorem or_inKT (room : X.A.units + 1 < cLine) : OpR X (compareOp .In) (rInKT X.prog X.w) := by
  intro pins s σ H x y v u' Q I rx ry h
  obtain ⟨u, a, k, L, rfl, rfl, hu, ha, kin, q⟩ := h
  cases rx
  cases ry
  have R0 := kset_get I ha
  have ty := kbare_typeIs R0
  obtain ⟨es, ep, t, R⟩ := R0.set fun e m => key_is I (kin e m)
  have T := key_is I hu
  show wpAny _ _ (do return Value.bool (← contains (.ref a) (.ref u))) _ _ s
  refine wpAny_bind ?_
  unfold contains
  try with_reducible refine wpAny_holding ?_
  refine wpAny_bind (wpAny_specialOf ty F.slot_set_contains.lookup ?_)
  refine wp_if_neg (by rw [beq_builtin_none]; exact Bool.false_ne_true) ?_
  refine wpAny_bind (wpAny_callSpecialUnlessNone?_slot (name := Str.ofString "__contains__") ty F.slot_set_contains (wpAny_call_entry F.slot_set_contains ty entry_set_contains ?_ (F.args_set_contains_2 _ _)))
  unfold Builtin.«frozenset.__contains__» Builtin.Frozenset.oneOther
  simp only [List.isEmpty_nil, bind_assoc]
  unfold Builtin.Frozenset.addrOf Builtin.Frozenset.withSetAsKey setContains
  refine wpAny_bind (wpAny_pure ?_)
  try dsimp only
  refine wpAny_bind (wpAny_pure ?_)
  try dsimp only
  refine wpAny_bind (wpAny_tryCatch (wpAny_holding (wpAny_bind (wpAny_pyHash_tuple room T ?_))))
  refine wpAny_bind (find_in (s := { s with toks := s.toks + (k.length + 1) }) R T room fun r hr => wpAny_pure ?_)
  show wpAny _ _ (ret (Value.bool r.isSome)) _ _ _
  exact wpAny_pure ⟨_, rfl, wpAny_truthy_bool (wpAny_pure ⟨.bl r.isSome, H, I.tok _, rfl, q _ hr⟩)⟩
/-- a.add(u), u not in a -/
def rAddKT (P : Program) (w : World) : V → List V → Hp → VK → Prop := fun x xs H Q => ∃ (a u : Addr) (k : List Key) (L : List (Addr × List Key)), x = .ref a ∧ xs = [.ref u] ∧ H u = some (.tup (k.map kV)) ∧ H a = some (KSetO P w a L) ∧ KIn H L ∧ k ∉ L.map (·.2) ∧ L.length + 1 ≤ 4900 ∧
  ∀ L', L'.Perm ((u, k) :: L) → Q .non (upd H a (KSetO P w a L'))
theorem mt_addKT (room : X.A.units + 1 < cLine) : MtR X "set.add" (rAddKT X.prog X.w) := by
  intro pins s σ H x xs v us Q I rx rxs h
  obtain ⟨a, u, k, L, rfl, rfl, hu, ha, kin, nin, few, q⟩ := h
  cases rx
  rw [Vals.ref1 rxs]
  have R0 := kset_get I ha
  obtain ⟨es, ep, t, R⟩ := R0.set fun e m => key_is I (kin e m)
  have T := key_is I hu
  refine wpAny_call_entry F.slot_set_add (kbare_typeIs R0) F.entry_set_add ?_ (F.args_set_add_2 _ _)
  unfold Builtin.«set.add» Builtin.Frozenset.oneOther
  simp only [List.isEmpty_nil, bind_assoc]
  unfold Builtin.Frozenset.addrOf setAdd
  refine wpAny_bind (wpAny_pure ?_)
  try dsimp only
  refine wpAny_bind (wpAny_pure ?_)
  try dsimp only
  refine wpAny_bind (wpAny_holding (wpAny_bind (wpAny_pyHash_tuple room T ?_)))
  refine put_in (s := { s with toks := s.toks + (k.length + 1) }) R T room few fun b h' L' es' ep' t' sb R' _ out => ?_
  show wpAny _ _ (ret Value.none) _ _ _
  refine wpAny_pure ⟨_, rfl, .non, upd H a (KSetO X.prog X.w a L'), I.write (e := a) (t' := s.toks + (k.length + 1)) (by rw [ha]; trivial) (.inl rfl) (fun b u hb hu => (sb.2 b hb).trans hu) ?_ (kset_obj R'.bare), rfl, q L' (out nin)⟩
  obtain ⟨o, ho, _⟩ := R'.here
  exact ⟨o, ho⟩
def tAddKT (P : Program) (w : World) (to : TE) (t : TA) : TE := fun σ H Q => to σ H fun x H1 => (∃ a L, x = V.ref a ∧ H1 a = some (KSetO P w a L)) ∧ t σ H1 fun xs H2 => rAddKT P w x xs H2 Q
variable {o e : Expr} {es : List Expr} {to : TE} {t : TA} {apos cpos : Pos}
theorem pe_addKT (room : X.A.units + 1 < cLine) (ho : PE X o to) (ha : PA X (e :: es) t)
    (b1 : attributeBase o "add" X.env (eval o X.env) = eval o X.env := by rfl)
    (b2 : ((backTo cpos (starEach (e :: es) X.env)).all (fun x => !x.1) && (backToKw cpos (keywordEach [] X.env)).all (fun x => x.1.isSome) && decide ((e :: es).length + ([] : List Keyword).length + (if ([] : List Keyword).isEmpty then 0 else 1) < 30)) = true := by rfl)
    (b3 : (apos.endLine == cpos.line) = true := by rfl) (b4 : starEach (e :: es) X.env = (false, eval e X.env) :: starEach es X.env := by rfl) (b5 : (backTo cpos (starEach es X.env)).any (·.1) = false := by rfl) :
    PE X (.Call (.Attribute o "add" apos) (e :: es) [] cpos) (tAddKT X.prog X.w to t) := by
  refine ⟨fun pins s σ H Q I h => wpAny_Call_method_late b1 b2 b3 rfl (thn (ho.run pins s σ H _ I h) fun v s1 ⟨x, H1, I1, r1, ty, q1⟩ => ?_)⟩
  obtain ⟨a, L, rfl, hka⟩ := ty
  have R := kset_get I1 hka
  cases r1
  refine ⟨"set", "set.add", F.plainAttrs_set, F.slot_set_add, F.type_set_add, kbare_typeIs R, kbare_noDict R, ?_⟩
  have run := ha.run cpos pins s1 σ H1 _ I1 q1
  rw [b4] at run ⊢
  refine Calls.callWith_builtin (by show (false || (backTo cpos (starEach es X.env)).any (·.1)) = false; rw [b5] <;> rfl) (Calls.evalArgs_plain (thn run fun us s2 ⟨vs, H2, I2, r2, q2⟩ => ?_))
  exact mt_addKT room pins s2 σ H2 (.ref a) vs (.ref a) us Q I2 rfl r2 q2
end
end Nm
set_option maxRecDepth 100000
set_option maxHeartbeats 4000000
namespace Nm
open PySem L2
theorem KIn.same {H H' : Hp} {L : List (Addr × List Key)} (h : KIn H L) (s : Same H H') : KIn H' L := fun e m => s _ _ (h e m)
section
variable {P : Program} {w : World} {K : PySem.W.Frag} {mg : Str → Option Value} {base : Heap}
/-! ### need_ties -/
abbrev nNT : List Str := ["ties", "names", "spots", "at", "tie", "spot"]
theorem scNT : FnScope nNT ["ties", "names"] (defScope sNeedTies) := ⟨rfl, rfl, rfl, by decide +kernel, rfl, by decide +kernel, by decide +kernel⟩
theorem ok_needT {f : Addr} {fd : FuncData} (F : Fun K "need_ties" "need_ties" sNeedTies f fd) (T : TxtH mg) (Gs : Def P w K mg base "tie_spot" ["tie", "names"] 3 spSpot) : FnOk P w K mg base CX0 4 f fd ["ties", "names"] spNeedT := by
  obtain ⟨fs, fds, Gs, ms, ks, bs⟩ := Gs.ex
  refine F.ok scNT (fun vs H Q E h => ?_) (fun cdv A outer s H vs Q E hr h => ?_)
  · obtain ⟨_, _, _, _, _, rfl, _⟩ := h
    rfl
  · obtain ⟨p, d, tl, nm, kvs, rfl, ⟨ts, hp, pr⟩, hd, hk, hok, hnd, htl, k⟩ := h
    have hu := hu_of hr
    refine ⟨_, pss_cons (ps_set (i := 2) scNT.nd rfl (Or.inl rfl) (pe_callTy0 cr_setKT (by rfl) T.set (by decide +kernel)))
      (pss_one (ps_for PassesOwn.never rfl (pi_enum (by rfl) T.enumerate (pa_cons (pv 0) pa_nil)) (pg_tup rfl (pgs_cons (pg_name (i := 3) scNT.nd rfl (.inl rfl)) (pgs_cons (pg_name (i := 4) scNT.nd rfl (.inl rfl)) pgs_nil)))
        (pss_cons (ps_set (i := 5) scNT.nd rfl (Or.inl rfl) (pe_call Gs hr (by rfl) ms ks bs .nil pass0 (pa_cons (pv 4) (pa_cons (pv 1) pa_nil))))
        (pss_cons (ps_if (PW.pt (pw_or (pt_cmp (pc_isN (pv 5))) (pw_or1 (pt_cmpR (or_inKT hu) (pv 5) (pv 2) (by rfl))))) (pss_one ps_never) pss_nil)
        (pss_one (ps_expr (pe_addKT hu (pv 2) (pa_cons (pv 5) pa_nil)))))))), ?_⟩
    refine ⟨rfl, fun sp hsp => ?_⟩
    have s1 := same_new (o := KSetO P w sp []) hsp
    have hsp1 : (upd H sp (KSetO P w sp [])) sp = some (KSetO P w sp []) := upd_same
    refine ⟨_, rfl, p, _, rfl, SqL.of (s1 _ _ hp), ?_⟩
    refine for_it (walk_enum (xs := ts.map V.ref)) (fun i σ H2 => ∃ v3 v4 v5 L, σ = [some (.ref p), some (.ref d), some (.ref sp), v3, v4, v5] ∧ H2 sp = some (KSetO P w sp L) ∧ KIn H2 L ∧ (∀ e ∈ L, e.2 ∈ (tl.map TieV.spot).take i) ∧ L.length = i ∧ Same H H2)
      ⟨none, none, none, [], rfl, hsp1, (fun e m => (List.not_mem_nil m).elim), (fun e m => (List.not_mem_nil m).elim), rfl, s1⟩ (fun i σ H2 _ ⟨_, _, _, _, _, _, _, _, _, h⟩ => SqL.of (h _ _ hp)) ?_ ?_
    · rintro i x σ H2 H3 hi ⟨v3, v4, v5, L, rfl, hsp2, kin, hL, hlen, s2⟩ ⟨tp, x1, y1, rfl, htp, rfl, e1, e2⟩
      rw [List.length_map] at hi
      have e2 : (ts.map V.ref)[i]? = some y1 := e2
      rw [List.getElem?_map] at e2
      obtain ⟨t, ht, rfl⟩ := Option.map_eq_some_iff.mp e2
      cases e1
      obtain ⟨tv, htv, htt⟩ := paired_get pr ht
      have s3 : Same H2 (upd H2 tp (.tup [V.int (i : Nat), V.ref t])) := same_new htp
      have htp3 : (upd H2 tp (.tup [V.int (i : Nat), V.ref t])) tp = some (.tup [V.int (i : Nat), V.ref t]) := upd_same
      generalize upd H2 tp (.tup [V.int (i : Nat), V.ref t]) = H3 at *
      refine ⟨tp, _, rfl, SqT.of htp3, rfl, _, _, rfl, _, _, rfl, rfl, ?_⟩
      refine ⟨_, rfl, _, rfl, t, d, tv, nm, kvs, rfl, s3 _ _ (s2 _ _ htt), s3 _ _ (s2 _ _ hd), hk, hok tv (List.mem_of_getElem? htv), fun r H4 hr0 hr4 s4 => ?_⟩
      have s34 := s3.trans s4
      have hsp4 := s34 _ _ hsp2
      have kin4 := kin.same s34
      have nin : tv.spot ∉ L.map (·.2) := fun m => by
        obtain ⟨e, he, ee⟩ := List.mem_map.mp m
        have h1 := hL e he
        rw [ee] at h1
        obtain ⟨j, hj⟩ := List.getElem?_of_mem h1
        rw [List.getElem?_take] at hj
        split at hj
        · rename_i lt
          have h2 : (tl.map TieV.spot)[i]? = some tv.spot := by rw [List.getElem?_map, htv]; rfl
          have := (List.getElem?_inj (List.getElem?_eq_some_iff.mp hj).1 hnd).mp (hj.trans h2.symm)
          omega
        · cases hj
      have hn : decide (V.ref r = V.non) = false := decide_eq_false (fun z => by cases z)
      refine ⟨_, rfl, _, rfl, ?_⟩
      rw [hn]
      refine iteF ?_
      refine ⟨_, rfl, _, rfl, r, sp, tv.spot, L, rfl, rfl, hr4, hsp4, kin4, fun b hb => ⟨_, rfl, ?_⟩⟩
      have hb0 : b = false := by
        cases b with
        | false => rfl
        | true => exact absurd (hb.mp rfl) nin
      subst hb0
      refine iteF ?_
      have hil : i < tl.length := (List.getElem?_eq_some_iff.mp htv).1
      refine ⟨_, rfl, ⟨sp, L, rfl, hsp4⟩, _, rfl, sp, r, tv.spot, L, rfl, rfl, hr4, hsp4, kin4, nin, by omega, fun L' pm => ?_⟩
      have nsp : H sp = none := hsp
      refine ⟨_, _, _, L', rfl, upd_same, fun e m => ?_, fun e m => ?_, by rw [pm.length_eq, List.length_cons, hlen], fun b o e => ?_⟩
      · have he : H4 e.1 = some (.tup (e.2.map kV)) := by
          rcases List.mem_cons.mp (pm.mem_iff.mp m) with rfl | m
          · exact hr4
          · exact kin4 e m
        rw [upd_ne (ne_of he hsp4 (by intro z; cases z))]
        exact he
      · rw [List.take_add_one, show (tl.map TieV.spot)[i]? = some tv.spot by rw [List.getElem?_map, htv]; rfl]
        rcases List.mem_cons.mp (pm.mem_iff.mp m) with rfl | m
        · exact List.mem_append_right _ (by simp)
        · exact List.mem_append_left _ (hL e m)
      · rw [upd_ne (ne_of_none e hsp)]
        exact s34 _ _ (s2 b o e)
    · rintro σ H2 ⟨v3, v4, v5, L, rfl, hsp2, kin, hL, hlen, s2⟩
      exact k H2 s2
end
end Nm
set_option maxRecDepth 100000
set_option maxHeartbeats 4000000
/-! super().__init__(e) in the __init__ of an own exception over ValueError -/
namespace Nm
open PySem PySem.Spec PyProof.Rows L2
section
variable {X : Cx} {pins : List (Addr × Obj)} {σ : L2.St} {H : Hp} {s : Shared} {a C dx u : Addr} {fs : List (Str × V)} {E : Value → Shared → Prop} {A : Around}
/-- super().__init__, bound at u, called: nothing of it is told -/
theorem mw_call {us : List Value} {Q : Value → Shared → Prop} (T : OexC X.K C) (I : Inv X pins σ H s) (hu : s.heap.get? u = some (PySem.W.kxs_mw "ValueError.__init__" a)) (e : H a = some (exo a C (some dx))) (hl : us.length ≤ sizeLine)
    (h : ∀ s', Inv X pins σ H s' → Q .none s') : wpAny (model X.prog X.w) A (call (.ref u) us) Q E s := by
  obtain ⟨nm, q, N, bs, bm, sn, sub, ab, col, dd, k0, k1, k2, k3, k5, hC, hbm⟩ := T.cls
  obtain ⟨t1, ho⟩ := exo_at I.hok e
  have fin : ∀ h', (∀ b o, b ≠ a → s.heap.get? b = some o → h'.get? b = some o) → h'.get? a = some ({ cls := .ref C, dict := some dx, data := .fields #[.ref s.heap.objs.size, .none, .none, .none, .bool false, .none] } : Obj) → Inv X pins σ H { s with heap := h', toks := s.toks } := fun h' k e' => by
    have J := I.write (t' := s.toks) (x := a) (e := a) (o := exo a C (some dx)) (by rw [e]; exact True.intro) (.inl rfl) k ⟨_, e'⟩ (exo_ok e')
    have eu : upd H a (exo a C (some dx)) = H := by
      funext b
      by_cases hb : b = a
      · rw [hb, upd_same, e]
      · rw [upd_ne hb]
    rw [eu] at J
    exact J
  have hCC := I.kIn _ _ hC
  obtain ⟨hp, g, d, t, os⟩ := s
  refine wpAny_call (codeAny_of_tree ?_)
  show wpAny _ A.in1 (callAny (.ref u) ⟨us, []⟩) _ _ _
  simp only [callAny]
  refine wpAny_bind (wpAny_load hu ?_)
  simp only [PySem.W.kxs_mw, show (Value.type "method-wrapper" == Value.type "method" || Value.type "method-wrapper" == Value.type "builtin_function_or_method" || Value.type "method-wrapper" == Value.type "method-wrapper") = true by decide, if_true]
  refine PySem.W.KFB.if_so (by decide) ?_
  refine wpAny_bind (PySem.W.check_bound_init F.excBase_ValueError.toExcCallFacts hCC ho rfl ?_)
  refine wpAny_bind (wpAny_pure (wpAny_pure ?_))
  refine ⟨plainId_quiet F.excBase_ValueError.init.plain _, codeAny_builtin F.excBase_ValueError.initEntry ?_⟩
  exact PySem.W.exc_init_tree (cls := .ref C) (t0 := t1) (dv := some dx) (c2 := .none) (c3 := .none) (b4 := .bool false) ho hl fun h' k e' _ => h _ (fin h' k e')
end
/-- what the written part says of the class at C, its __init__ at f, the code at cda, the cell __class__ at cc -/
structure SupF (P : Program) (K : PySem.W.Frag) (C f cda cc : Addr) (fd : FuncData) (qual : Str) (st : Stmt) (a0 : Str) : Prop where
  oex : OexC K C
  lk : ∃ oc od kV doc pm an ct osl, fd = PySem.W.ksFn "__init__" qual (defArgs st) (defBody st) (defScope st) .none kV doc pm an (.ref cda) ct cc ∧ K.lookup f = some ⟨oc, od, .func fd, osl⟩
  hd : ∃ ar, ((defArgs st).posonlyargs ++ (defArgs st).args).head? = some ar ∧ ar.arg = a0
  code : ∃ ccl cdd vs ccs file tf, K.lookup cda = some ⟨ccl, cdd, .fields vs, ccs⟩ ∧ vs[2]? = some (.str file tf) ∧ ((P.main.file : Str) == file) = true
  recd : PySem.W.codeIn K (.ref cda) qual = true
  cell : ∃ cl cld csl, K.lookup cc = some ⟨cl, cld, .cell (some (.ref C)), csl⟩
  cd : ∃ cd, PySem.W.clsIn K C = some cd
  sub : PySem.W.mroIn K C (.ref C) = some true
  subV : PySem.W.subIn K (.ref C) (.type "ValueError") = some true
  sup : PySem.W.ks_superIn K C C "__init__" = some (some (.builtin "ValueError.__init__"))
  opq : PySem.W.nsIn K cStatics "thirdparty.any" = some none
  top : (P.main.scope.names.lookup ("super" : Str)).isSome = false
section
variable {X : Cx} {pins : List (Addr × Obj)} {σ : L2.St} {H : Hp} {s : Shared} {a C dx f cda cc L : Addr} {fd : FuncData} {qual a0 : Str} {st : Stmt}
/-- super().__init__(e ..), the code known -/
theorem sup_expr {body : List Stmt} {e : Expr} {es : List Expr} {ta : TA} {i : Nat} {p0 p1 p2 pos : Pos} {Q : Value → Shared → Prop} {pl : Sem Bool} (F : SupF X.prog X.K C f cda cc fd qual st a0)
    (hX : X.env = PySem.W.ksEnv qual (defScope st) L f (.ref cda) cc) (hms : X.mg "super" = none)
    (hks : (defScope st).names.lookup ("super" : Str) = some .globalImplicit) (hkc : (defScope st).names.lookup ("__class__" : Str) = some .free) (hN : X.N[i]? = some a0) (hka : (defScope st).names.lookup a0 = some .local) (ha : PA X (e :: es) ta)
    (I : Inv X pins σ H s) (hσ : σ[i]? = some (some (.ref a))) (hH : H a = some (exo a C (some dx)))
    (q : ta σ H fun vs H1 => vs.length ≤ 1000 ∧ H1 a = some (exo a C (some dx)) ∧ ∀ s', Inv X pins σ H1 s' → Q .none s')
    (he : starEach (e :: es) X.env = (false, eval e X.env) :: starEach es X.env := by rfl) (hpl : (backTo pos (starEach es X.env)).any (·.1) = false := by rfl)
    (hc : eval (.Call (.Attribute (.Call (.Name "super" p0) [] [] p1) "__init__" p2) (e :: es) [] pos) X.env = (do
      let ov ← attributeBase (.Call (.Name "super" p0) [] [] p1) "__init__" X.env (eval (.Call (.Name "super" p0) [] [] p1) X.env)
      standAt p2.atName
      let (f, first) ← holding [ov] (getMethod ov "__init__" pl)
      callWith pos f first (backTo pos (starEach (e :: es) X.env)) []) := by rfl) :
    _root_.PySem.wpAt (model X.prog X.w) X.A (.func body X.env) (eval (.Call (.Attribute (.Call (.Name "super" p0) [] [] p1) "__init__" p2) (e :: es) [] pos) X.env) Q X.xe s := by
  have KX := I.kIn
  obtain ⟨oc, od, kV, doc, pm, an, ct, osl, rfl, lk⟩ := F.lk
  obtain ⟨ar, har, hara⟩ := F.hd
  obtain ⟨ccl, cdd, vs, ccs, file, tf, hcode, hvs, hfile⟩ := F.code
  obtain ⟨cl, cld, csl, hcell⟩ := F.cell
  obtain ⟨cd, hcd⟩ := F.cd
  obtain ⟨oD, hD1, hD2⟩ : ∃ oD, s.heap.get? C = some oD ∧ oD.data = .cls cd := by
    unfold PySem.W.clsIn at hcd
    split at hcd
    · rename_i c d cd' sl ho
      cases hcd
      exact ⟨_, KX _ _ ho, rfl⟩
    · cases hcd
  obtain ⟨t1, ho⟩ := exo_at I.hok hH
  obtain ⟨mb, hmb, hmv⟩ := I.mod.blt
  have naC : a ≠ C := fun z => by
    rw [z, hD1] at ho
    cases ho
    cases hD2
  refine PySem.ks_wpAt_MethodCall (pl := pl) ?_ hc
  rw [hX]
  obtain ⟨hp, g, d, t, os⟩ := s
  refine PySem.ks_wpAt_super_base (env := PySem.W.ksEnv qual (defScope st) L f (.ref cda) cc) hks hkc (by decide) rfl (KX _ _ lk) rfl har rfl (KX _ _ hcode) rfl hvs hfile F.top ?_
  have hk : (defScope st).kind = .function := by
    have z := I.ok.kind
    rw [hX] at z
    exact z
  refine PySem.W.ks_loadName_global (env := PySem.W.ksEnv qual (defScope st) L f (.ref cda) cc) hk hks (PySem.Calls.loadGlobal_builtin (env := PySem.W.ksEnv qual (defScope st) L f (.ref cda) cc) (I.mod.glob.keeps I.bk) hms (hmb.keeps I.bk) ((hmv _ (by decide)).trans PyProof.Rows.Boot.«super») ⟨rfl, ?_⟩)
  refine wpAny_loadName_free (env := PySem.W.ksEnv qual (defScope st) L f (.ref cda) cc) hk hkc rfl ⟨_, KX _ _ hcell, rfl⟩ ?_
  obtain ⟨m, hn, hl⟩ := I.loc
  obtain ⟨u0, r0, l0⟩ := hl i a0 (.ref a) hN hσ (by rw [hX]; exact .inl hka)
  obtain rfl : u0 = Value.ref a := r0
  rw [hX] at l0 hn
  have hm0 : m a0 = some (.ref a) := by
    rcases l0 with ⟨_, z⟩ | ⟨z, _⟩
    · exact z
    · have z' : (defScope st).names.lookup a0 = some .cell ∨ (defScope st).names.lookup a0 = some .free := z
      rw [hka] at z'
      rcases z' with z' | z' <;> cases z'
  rw [hara]
  refine wpAny_loadName_local (env := PySem.W.ksEnv qual (defScope st) L f (.ref cda) cc) hk hka hn hm0 ?_
  refine PySem.ks_wpAny_isType_cls hD1 hD2 ⟨rfl, ?_⟩
  refine PySem.ks_wpAny_call_super hD1 hD2 ho rfl (fun c z => by cases z) (PySem.W.looks_mroIn KX F.sub) (fun h' e' k => ?_)
  have I1 : Inv X pins σ H ⟨h', g, d, t, os⟩ := I.kept (t' := t) k
  have KX1 := I1.kIn
  have ho1 := k _ _ ho
  have LT : PySem.W.Looks (model X.prog X.w) h' (typeOf (.ref a)) (.ref C) := fun A Q E s k q => wpAny_typeOf_ref (k _ _ ho1) q
  have hfs := F.sup
  unfold PySem.W.ks_superIn at hfs
  rw [hcd] at hfs
  refine PySem.W.kxs_getMethod PySem.W.kxs_ValueError e' (PySem.W.looks_opaque KX1 F.opq) (l₀ := cd.mro) (fun A Q E s k q => wpAny_bind ((PySem.W.looks_clsIn KX1 hcd) A _ E s k (wpAny_pure q))) rfl KX1 hfs (LT.andThen (PySem.W.looks_subIn KX1 F.subV)) naC (by decide) ?_
  have I2 : Inv X pins σ H ⟨h'.push (PySem.W.kxs_mw "ValueError.__init__" a), g, d, t + 1, os⟩ := I1.kept (t' := t + 1) fun b o z => Heap.get?_push_of_some _ z
  have I3 : Inv X ((h'.objs.size, PySem.W.kxs_mw "ValueError.__init__" a) :: pins) σ H ⟨h'.push (PySem.W.kxs_mw "ValueError.__init__" a), g, d, t + 1, os⟩ := I2.pins_of fun p hp => by
    rcases List.mem_cons.mp hp with z | z
    · subst z
      exact ⟨Heap.get?_push_at rfl rfl, I1.hok.fresh (Nat.le_refl _), Nat.ne_of_gt I1.lt, I1.nofs (Nat.le_refl _), fun v z => by cases z⟩
    · exact I2.pin p (List.mem_append_right _ z)
  show wpAny _ _ (callWith pos (.ref h'.objs.size) [] (backTo pos (starEach (e :: es) (PySem.W.ksEnv qual (defScope st) L f (.ref cda) cc))) []) _ _ _
  rw [← hX]
  have HA : wpAny (model X.prog X.w) X.A (spliced (backTo pos (starEach (e :: es) X.env))) (fun us s1 => PySem.W.KxsAt "ValueError.__init__" h'.objs.size a s1.heap ∧ wpAny (model X.prog X.w) X.A (call (.ref h'.objs.size) us) Q X.xe s1) X.xe ⟨h'.push (PySem.W.kxs_mw "ValueError.__init__" a), g, d, t + 1, os⟩ := by
    refine thn (ha.run pos _ _ σ H _ I3 q) fun us s1 hs1 => ?_
    obtain ⟨vs, H1, I4, r, hl1, hH1, kq⟩ := hs1
    have pu := (I4.pin (h'.objs.size, PySem.W.kxs_mw "ValueError.__init__" a) (List.mem_append_right _ List.mem_cons_self)).1
    exact ⟨pu, mw_call F.oex I4 pu hH1 (by rw [← Paired.length r, sizeLine_eq]; omega) fun s' J => kq s' (J.pins_of fun p hp => J.pin p (List.mem_append_right _ (List.mem_cons_of_mem _ hp)))⟩
  rw [he] at HA ⊢
  refine PySem.W.kxs_callWith (i := "ValueError.__init__") (x := a) (by show (false || (backTo pos (starEach es X.env)).any (·.1)) = false; rw [hpl]; rfl) ?_
  exact PySem.Calls.evalArgs_plain HA
end
/-- the context of such an __init__ -/
def supCx (P : Program) (w : World) (K : PySem.W.Frag) (mg : Str → Option Value) (base : Heap) (N : List Str) (qual : Str) (scope : Scope) (f cda cc : Addr) (A : Around) (outer : List Env) (s : Shared) (H : Hp) (E : XK) : Cx where
  prog := P
  w := w
  K := K
  mg := mg
  base := base
  A := A.deeper (PySem.W.ksEnv qual scope s.heap.objs.size f (.ref cda) cc)
  N := N
  s_0 := s
  H_0 := H
  env := PySem.W.ksEnv qual scope s.heap.objs.size f (.ref cda) cc
  outer := outer
  stack := PySem.W.ksEnv qual scope s.heap.objs.size f (.ref cda) cc :: outer
  ex := []
  fn := fun _ => false
  calm := true
  pn := []
  xe := fun e s' => wpAny (model P w) (A.deeper (PySem.W.ksEnv qual scope s.heap.objs.size f (.ref cda) cc)) (leaving (PySem.W.ksEnv qual scope s.heap.objs.size f (.ref cda) cc) e) (fun _ s'' => CX0 outer H s E e s'') (fun e' s'' => CX0 outer H s E e' s'') s'
/-- what such an __init__'s scope must be -/
structure SupS (p0 p1 : Str) (sc : Scope) : Prop where
  kind : sc.kind = .function
  co : sc.isCoroutine = false
  gen : sc.isGenerator = false
  ne : p0 ≠ p1
  l0 : sc.names.lookup p0 = some .local
  l1 : sc.names.lookup p1 = some .local
  nocell : ∀ x ∈ sc.names, x.2 ≠ .cell
  free : ∀ x ∈ sc.names, x.2 = .free → x.1 = ("__class__" : Str)
  sup : sc.names.lookup ("super" : Str) = some .globalImplicit
  cls : sc.names.lookup ("__class__" : Str) = some .free
section
variable {P : Program} {w : World} {K : PySem.W.Frag} {mg : Str → Option Value} {base : Heap} {A : Around} {outer : List Env} {s : Shared} {H : Hp} {E : XK} {C f cda cc : Addr} {fd : FuncData} {qual p0 p1 : Str} {st : Stmt}
theorem sup_start {h₁ : Heap} {tk : Nat} {x0 x1 : V} {u0 u1 : Value} (S : SupS p0 p1 (defScope st)) (hd : A.handled = none) (e0 : Env0 P w K mg base A outer s H) (hc : ∃ cl cld csl, K.lookup cc = some ⟨cl, cld, .cell (some (.ref C)), csl⟩) (r0 : RelV x0 u0) (r1 : RelV x1 u1)
    (hns : h₁.Ns s.heap.objs.size fun x => [(p0, u0), (p1, u1)].reverse.lookup x) (hk : ∀ b o, s.heap.get? b = some o → h₁.get? b = some o) :
    Inv (supCx P w K mg base [p0, p1] qual (defScope st) f cda cc A outer s H E) [] (start [p0, p1] [x0, x1]) H { s with heap := h₁, toks := tk } := by
  obtain ⟨cl, cld, csl, hcell⟩ := hc
  have hbc := e0.bs _ _ (e0.mod.kin _ _ hcell)
  have noA : ∀ b : Addr, b ∉ (supCx P w K mg base [p0, p1] qual (defScope st) f cda cc A outer s H E).ex := fun b z => absurd (show b ∈ ([] : List Addr) from z) (by simp)
  have cl1 : ∀ {y : Str} {c : Addr}, List.lookup y [(("__class__" : Str), cc)] = some c → y = "__class__" ∧ c = cc := fun {y c} e => by
    have hm := PySem.mem_of_lookup e
    rw [List.mem_singleton] at hm
    cases hm
    exact ⟨rfl, rfl⟩
  refine ⟨⟨e0.mod, S.kind, rfl, rfl, Nat.le_refl _, fun y z c h1 h2 => ?_, fun y hy => ?_, fun y c z _ => (Bool.false_ne_true z).elim, fun _ => hd, Around.frames_deeper e0.frames, .inr ⟨rfl, rfl⟩, fun b z => absurd z (noA b), e0.bs, e0.bsz, fun b _ _ => noA b, fun b z => absurd z (noA b), e0.funs, e0.frf⟩,
    rfl, e0.bare, Un.kept hk, ⟨_, hns, fun i y v h1 h2 h3 => ?_⟩, fun y c h => ?_, e0.hok.fresh (Nat.le_refl _), fun y c h => ?_, fun p hp => absurd (show p ∈ ([] : List (Addr × Obj)) from hp) (by simp), e0.hok.kept hk, rfl⟩
  · exact (cl1 h1).1.trans (cl1 h2).1.symm
  · have hy : (defScope st).names.lookup y = some .cell ∨ (defScope st).names.lookup y = some .free := hy
    rcases hy with hy | hy
    · exact absurd rfl (S.nocell _ (PySem.mem_of_lookup hy))
    · have := S.free _ (PySem.mem_of_lookup hy) rfl
      obtain rfl : y = "__class__" := this
      exact ⟨cc, rfl⟩
  · have h1 : ([p0, p1] : List Str)[i]? = some y := h1
    have h2 : ([some x0, some x1] : List (Option V))[i]? = some (some v) := h2
    have n01 := S.ne
    match i, h1, h2 with
    | 0, h1, h2 =>
      cases h1
      cases h2
      exact ⟨u0, r0, .inl ⟨S.l0, by simp [List.lookup, (show (p0 == p1) = false from by simpa using n01)]⟩⟩
    | 1, h1, h2 =>
      cases h1
      cases h2
      exact ⟨u1, r1, .inl ⟨S.l1, by simp [List.lookup]⟩⟩
    | (n + 2), h1, h2 => simp at h1
  · obtain ⟨_, rfl⟩ := cl1 h
    exact ⟨_, _, hk _ _ hbc.1, rfl⟩
  · obtain ⟨_, rfl⟩ := cl1 h
    exact hbc.2
/-- THE RULE: def __init__(p0, p1): one statement; super().__init__(e ..) -/
theorem sup_def {sp : Sp} {k : Nat} {s1 : Stmt} {e : Expr} {es : List Expr} {q0 q1 q2 q3 q4 : Pos} (F : SupF P K C f cda cc fd qual st p0) (S : SupS p0 p1 (defScope st)) (hms : mg "super" = none)
    (hb : defBody st = [s1, .Expr (.Call (.Attribute (.Call (.Name "super" q0) [] [] q1) "__init__" q2) (e :: es) [] q3) q4]) (len : ∀ vs H Q E, sp vs H Q E → vs.length = 2)
    (hbody : ∀ (A : Around) (outer : List Env) (s : Shared) (H : Hp) (vs : List V) (Q : VK) (E : XK), Room k (A.deeper (PySem.W.ksEnv qual (defScope st) s.heap.objs.size f (.ref cda) cc)) → sp vs H Q E →
      ∃ (a : Addr) (t : TS) (ta : TA), PS (supCx P w K mg base [p0, p1] qual (defScope st) f cda cc A outer s H E) s1 t ∧ PA (supCx P w K mg base [p0, p1] qual (defScope st) f cda cc A outer s H E) (e :: es) ta ∧
        t { nx := fun σ H' => σ[0]? = some (some (.ref a)) ∧ ∃ dx, H' a = some (exo a C (some dx)) ∧ ∀ R : List V → Hp → Prop, (∀ vs H1, vs.length ≤ 1000 → H1 a = some (exo a C (some dx)) → Q .non H1 → R vs H1) → ta σ H' R, rt := fun _ _ => False } (start [p0, p1] vs) H)
    (hsw : ∀ env : Env, swapsWith (.Call (.Attribute (.Call (.Name "super" q0) [] [] q1) "__init__" q2) (e :: es) [] q3) none q4.line env = pure false := by intro env; rfl)
    {pl : Sem Bool} (he : ∀ env : Env, starEach (e :: es) env = (false, eval e env) :: starEach es env := by intro env; rfl) (hpl : ∀ env : Env, (backTo q3 (starEach es env)).any (·.1) = false := by intro env; rfl)
    (hc : ∀ env : Env, eval (.Call (.Attribute (.Call (.Name "super" q0) [] [] q1) "__init__" q2) (e :: es) [] q3) env = (do
      let ov ← attributeBase (.Call (.Name "super" q0) [] [] q1) "__init__" env (eval (.Call (.Name "super" q0) [] [] q1) env)
      standAt q2.atName
      let (f, first) ← holding [ov] (getMethod ov "__init__" pl)
      callWith q3 f first (backTo q3 (starEach (e :: es) env)) []) := by intro env; rfl) : FnOk P w K mg base CX0 (k + 1) f fd [p0, p1] sp := by
  refine ⟨len, fun A outer s H args us vs Q E hr e0 hbd r hsp => ?_⟩
  have F' := F
  obtain ⟨oc, od, kV, doc, pm, an, ct, osl, rfl, lk⟩ := F'.lk
  have KX : K.In s.heap := e0.mod.kin.keeps fun b o e => (e0.bs b o e).1
  have lim : s.heap.NoLimit := e0.mod.nolimit.keeps fun b o e => (e0.bs b o e).1
  have hl2 := len _ _ _ _ hsp
  obtain ⟨a, t, ta, h1, h2, hq⟩ := hbody A outer s H vs Q E (hr.deeper _) hsp
  match vs, us, r, hl2 with
  | [x0, x1], [u0, u1], .cons r0 (.cons r1 .nil), _ =>
    refine PySem.ks_codeAny_call_defAt (binds := [(p0, u0), (p1, u1)]) hr.depth (KX _ _ lk) rfl lim (PySem.W.codeRec_of KX F.recd) rfl hbd S.nocell (fun x hx => ?_) (fun h₁ hns hk₁ => ?_) S.co S.gen S.kind
    · rcases List.mem_cons.mp hx with z | z
      · subst z
        exact S.l0
      · rw [List.mem_singleton] at z
        subst z
        exact S.l1
    · have I := sup_start (qual := qual) (f := f) (cda := cda) (E := E) (tk := s.toks + 2) S hr.hd e0 F.cell r0 r1 hns hk₁
      have hrun := h1.run [] _ _ H _ I hq
      show _root_.PySem.wpAt (model P w) (A.deeper (PySem.W.ksEnv qual (defScope st) s.heap.objs.size f (.ref cda) cc)) (.func (defBody st) (PySem.W.ksEnv qual (defScope st) s.heap.objs.size f (.ref cda) cc)) (execs (defBody st) (PySem.W.ksEnv qual (defScope st) s.heap.objs.size f (.ref cda) cc)) _ _ _
      generalize defBody st = bd at hb ⊢
      rw [show execs bd (PySem.W.ksEnv qual (defScope st) s.heap.objs.size f (.ref cda) cc) = execs [s1, .Expr (.Call (.Attribute (.Call (.Name "super" q0) [] [] q1) "__init__" q2) (e :: es) [] q3) q4] (PySem.W.ksEnv qual (defScope st) s.heap.objs.size f (.ref cda) cc) from by rw [hb]]
      refine PySem.ks_wpAt_execs_cons (PySem.wpAt_of_wpAny (wpAny_mono hrun (fun fl s' hs => ?_) fun e s' hs => hs))
      cases fl with
      | next =>
        obtain ⟨σ', H', J, hσ, dx, hH, hta⟩ := hs
        refine PySem.ks_wpAt_execs_cons (PySem.ks_wpAt_Expr_any (sup_expr (pl := pl) F rfl hms S.sup S.cls (i := 0) rfl S.l0 h2 J hσ hH (hta _ fun vs H1 hl hH1 q => ⟨hl, hH1, fun s2 J2 => ?_⟩) (he _) (hpl _) (hc _)) (hi := J.quiet) (hs := hsw _))
        exact PySem.wpAt_of_wpAny (wpAny_execs_nil ⟨.non, H1, J2.os, J2.bare, J2.base, J2.hok, rfl, q⟩)
      | brk =>
        obtain ⟨_, _, _, z⟩ := hs
        exact False.elim z
      | cont =>
        obtain ⟨_, _, _, z⟩ := hs
        exact False.elim z
      | ret u =>
        obtain ⟨_, _, _, _, _, z⟩ := hs
        exact False.elim z
end
end Nm
set_option maxRecDepth 100000
set_option maxHeartbeats 4000000
/-! != of two dicts of lists of texts, the same ones; repr of a bool -/
namespace Nm
open PySem PySem.Spec PyProof.Rows L2
section
variable {X : Cx} {pins : List (Addr × Obj)} {σ : L2.St} {H : Hp} {s : Shared}
theorem strs_hit {A : Around} : ∀ {zs : List Str} {us ws : List Value}, Vals (zs.map V.str) us → Vals (zs.map V.str) ws → us.length = ws.length ∧ ∀ j (h1 : j < us.length) (h2 : j < ws.length), SeqAt.EqAt A s us[j] ws[j] true
  | [], _, _, .nil, .nil => ⟨rfl, fun j h1 => absurd h1 (Nat.not_lt_zero j)⟩
  | z :: zs, _, _, .cons r t, .cons r' t' => by
    obtain ⟨e, k⟩ := strs_hit t t'
    refine ⟨by simp [e], fun j h1 h2 => ?_⟩
    cases j with
    | zero => exact eqAt_same r r' rfl
    | succ j => exact k j (Nat.lt_of_succ_lt_succ h1) (Nat.lt_of_succ_lt_succ h2)
/-- two lists of the same texts -/
theorem lists_hit (I : Inv X pins σ H s) {A : Around} (hu : A.units < cLine) {u v : Addr} {zs : List Str} (hu' : H u = some (.lst (zs.map V.str))) (hv : H v = some (.lst (zs.map V.str))) : SeqAt.EqAt A s (.ref u) (.ref v) true := by
  by_cases e : u = v
  · subst e
    exact SeqAt.EqAt.same _
  obtain ⟨us, r1, p1, _⟩ := I.list (SqL.of hu')
  obtain ⟨ws, r2, p2, _⟩ := I.list (SqL.of hv)
  obtain ⟨sz, items⟩ := strs_hit (s := s) (A := A.in1) r1 r2
  have z := SeqAt.RcAt.lists (A := A) (e := fun _ => true) p1.isList p2.isList (by simpa using sz) hu fun j h1 h2 => by simpa using items j (by simpa using h1) (by simpa using h2)
  rw [show ((List.range us.toArray.size).all fun _ => true) = true from List.all_eq_true.mpr fun _ _ => rfl] at z
  exact SeqAt.EqAt.of_refs e z
/-- each key leads to a list of the same texts -/
def SameLists (H : Hp) (ks ls : List (Key × V)) : Prop := ks.length = ls.length ∧ ∀ p ∈ ks, ∃ (u v : Addr) (zs : List Str), p.2 = V.ref u ∧ valV ls p.1 = some (V.ref v) ∧ H u = some (.lst (zs.map V.str)) ∧ H v = some (.lst (zs.map V.str))
theorem dict_hits (I : Inv X pins σ H s) {A : Around} (hu : A.units < cLine) {ls : List (Key × V)} {vb : List (Key × Value)} (rb : KV ls vb) : ∀ {ks : List (Key × V)} {va : List (Key × Value)}, KV ks va →
    (∀ p ∈ ks, ∃ (u v : Addr) (zs : List Str), p.2 = V.ref u ∧ valV ls p.1 = some (V.ref v) ∧ H u = some (.lst (zs.map V.str)) ∧ H v = some (.lst (zs.map V.str))) → PySem.W.KeqHits A s vb va true := by
  intro ks va ra
  unfold KV at ra
  induction ra with
  | nil => exact fun _ => .nil
  | @cons p q ps qs h t ih =>
    intro hp
    obtain ⟨e1, e2⟩ := h
    obtain ⟨u, v, zs, ep, ev, hu1, hv1⟩ := hp p List.mem_cons_self
    have there : RelO (some (V.ref v)) (valueAt vb p.1) := by rw [← ev]; exact rb.val p.1
    obtain ⟨y, hy, ry⟩ := there.some_of
    obtain ⟨key, z⟩ := q
    obtain rfl : p.1 = key := e1
    rw [ep] at e2
    cases (show z = Value.ref u from e2)
    cases (show y = Value.ref v from ry)
    exact PySem.W.KeqHits.hit (b := true) (e := true) hy (lists_hit I hu hu1 hv1) (ih fun p' m => hp p' (List.mem_cons_of_mem _ m))
def rNeL : R2 := fun x y H Q => ∃ a b ks ls, x = V.ref a ∧ y = V.ref b ∧ H a = some (.dK ks) ∧ H b = some (.dK ls) ∧ SameLists H ks ls ∧ Q (.bl false) H
theorem op_neL (hu : X.A.units + 1 < cLine) : OpR X (compareOp .NotEq) rNeL := by
  intro pins s σ H x y v u Q I rx ry h
  obtain ⟨a, b, ks, ls, rfl, rfl, ha, hb, ⟨len, each⟩, q⟩ := h
  cases (show v = Value.ref a from rx)
  cases (show u = Value.ref b from ry)
  obtain ⟨_, ya, va, ra, da⟩ := (show ObjOk X.prog X.w H s.heap a (.dK ks) from I.hok a _ ha)
  obtain ⟨_, yb, vb, rb, db⟩ := (show ObjOk X.prog X.w H s.heap b (.dK ls) from I.hok b _ hb)
  have same : va.length = vb.length := by rw [← ra.length, ← rb.length]; exact len
  refine PySem.W.keq_ne (knd := mixKind X.prog X.w) (r := true) ya yb da db (by omega) (fun _ => dict_hits I (A := X.A.in1) (show X.A.units + 1 < cLine from hu) rb ra each) ?_
  rw [same]
  exact ⟨.bl false, H, I, by show Value.bool (!(vb.length == vb.length && true)) = Value.bool false; simp, q⟩
/-- repr of a bool -/
theorem call_reprB : CallR X (.builtin "repr") (fun xs H Q => ∃ b : Bool, xs = [.bl b] ∧ Q (.str (if b then "True" else "False")) H) := by
  intro pins s σ H xs us Q I r h
  obtain ⟨b, rfl, q⟩ := h
  cases r with
  | cons r t =>
    cases t
    cases (show _ = Value.bool b from r)
    exact PySem.P.repr_of_bool ⟨.str (if b then "True" else "False"), H, I.tok _, ⟨_, rfl⟩, q⟩
end
end Nm
set_option maxRecDepth 100000
set_option maxHeartbeats 4000000
/-! != of two lists of the same texts -/
namespace Nm
open PySem PySem.Spec PyProof.Rows L2
section
variable {X : Cx}
def rNeS (K : PySem.W.Frag) : R2 := fun x y H Q => ∃ (a b : Addr) (zs : List Str), x = V.ref a ∧ y = V.ref b ∧ SqL K H a (zs.map V.str) ∧ SqL K H b (zs.map V.str) ∧ Q (.bl false) H
theorem op_neS (hu : X.A.units + 1 < cLine) : OpR X (compareOp .NotEq) (rNeS X.K) := by
  intro pins s σ H x y v u Q I rx ry h
  obtain ⟨a, b, zs, rfl, rfl, ha, hb, q⟩ := h
  cases (show v = Value.ref a from rx)
  cases (show u = Value.ref b from ry)
  obtain ⟨us, r1, p1, _⟩ := I.list ha
  obtain ⟨ws, r2, p2, _⟩ := I.list hb
  obtain ⟨sz, items⟩ := strs_hit (s := s) (A := X.A.in1) r1 r2
  have z := SeqAt.RcNeAt.lists (A := X.A) (e := fun _ => true) p1.isList p2.isList (by simpa using sz) (by omega) fun j h1 h2 => by simpa using items j (by simpa using h1) (by simpa using h2)
  rw [show ((List.range us.toArray.size).all fun _ => true) = true from List.all_eq_true.mpr fun _ _ => rfl] at z
  exact z X.prog X.w X.xe (EP X pins σ Q) ⟨.bl false, H, I, rfl, q⟩
end
end Nm
set_option maxRecDepth 100000
set_option maxHeartbeats 4000000
/-! x != y where the class has an own __eq__ and no own __ne__ -/
namespace Nm
open PySem PySem.Spec PyProof.Rows L2
section
variable {prog : Program} {w : World} {A : Around} {E : Value → Shared → Prop} {s : Shared} {K : PySem.W.Frag} {x y C D f : Addr} {ox oy : Obj} {od od' : Option Obj}
/-- a special method that is built in, of an own class -/
theorem bound_built {M : Model} {B id : String} {name : Str} {args : List Value} {Q : Option Value → Shared → Prop} (X : K.In s.heap) (I : PySem.W.InstAt s.heap x ox C od) (hs : PySem.W.findIn K (.ref C) name = some (some (.builtin id))) (S : Slot B name id)
    (h : wpAny M A (call (.builtin id) (.ref x :: args)) (fun v => Q (some v)) E s) : wpAny M A (callSpecialIfBound? (.ref x) name args) Q E s := by
  simp only [callSpecialIfBound?, bindSpecialIfBound?]
  refine wpAny_holding (wpAny_bind (wpAny_bind (wpAny_bind (I.type.here ((PySem.W.looks_findIn X hs).here ?_)))))
  simp only [S.bind]
  refine wpAny_bind (wpAny_askSetting (wpAny_ite ?_))
  have fin : wpAny M A (call (.builtin id) ([.ref x] ++ args) >>= fun v => pure (some v)) Q E s := wpAny_bind (wpAny_mono h (fun v s' h' => wpAny_pure h') fun _ _ h' => h')
  split
  · exact wpAny_bind (wpAny_pure (wpAny_pure (by exact fin)))
  · exact wpAny_tryCatch (wpAny_bind (wpAny_pure (wpAny_pure (by exact fin))))
theorem obj_sub {X : K.In s.heap} {cd : ClassData} (I : PySem.W.InstAt s.heap x ox C od) (hc : PySem.W.clsIn K C = some cd) (ho : PySem.W.onlyObject cd.mro = true) : PySem.W.Looks (model prog w) s.heap (isInstance (.ref x) (.type "object")) true := by
  have ne : cd.mro.isEmpty = false := by cases q : cd.mro with | nil => rw [q] at ho; cases ho | cons _ _ => rfl
  exact I.type.andThen (PySem.W.looks_mroIn X (by unfold PySem.W.mroIn; rw [hc, Option.bind_some, if_neg (by rw [ne]; decide), PySem.W.only_has ho]))
/-- object.__ne__ where the own __eq__ tells a truth value -/
theorem ne_entry {Q : Fin → Shared → Prop} (hu : A.units < cLine) (X : K.In s.heap) (I : PySem.W.InstAt s.heap x ox C od) (hs : PySem.W.findIn K (.ref C) "__eq__" = some (some (.ref f))) (hf : PySem.W.isFn K (.ref f) = true)
    (h : wpAny (model prog w) A (call (.ref f) [.ref x, .ref y]) (fun v s' => ∃ r : Bool, v = .bool r ∧ Q (.done (.ret (.bool (!r)))) s') E s) : wpAny (model prog w) A (Builtin.«object.__ne__» ⟨[.ref x, .ref y], []⟩) Q E s := by
  have e : wpAny (model prog w) A (callSpecialIfBound? (.ref x) "__eq__" [.ref y]) (fun o s' => ∃ r : Bool, o = some (.bool r) ∧ Q (.done (.ret (.bool (!r)))) s') E s := PySem.W.ifBound_K X I hs hf (wpAny_mono h (fun v s' z => by
    obtain ⟨r, rfl, q⟩ := z
    exact ⟨r, rfl, q⟩) fun _ _ z => z)
  unfold Builtin.«object.__ne__»
  repeat (first | with_reducible refine wpAny_cRoomFor hu ?_ | with_reducible refine wpAny_mono e (fun o s' z => ?_) (fun _ _ z => z) | wp_step)
  obtain ⟨r, rfl, q⟩ := z
  repeat wp_step
  exact q
/-- x != y -/
theorem cmp_neK {L : Addr} {h₀ : Heap} {m : Str → Option Value} {cd : ClassData} {tb : Value} {Q : Value → Shared → Prop} (hu : A.units + 1 < cLine) (Fr0 : PyProof.Rows.Fr h₀ L s.heap m) (X₀ : K.In h₀) (I : PySem.W.InstAt s.heap x ox C od) (hb : PySem.W.Looks (model prog w) s.heap (typeOf (.ref y)) tb) (hn : PySem.W.notFirst K C tb = true)
    (hc : PySem.W.clsIn K C = some cd) (ho : PySem.W.onlyObject cd.mro = true) (hne : PySem.W.findIn K (.ref C) "__ne__" = some (some (.builtin "object.__ne__")))
    (hs : PySem.W.findIn K (.ref C) "__eq__" = some (some (.ref f))) (hf : PySem.W.isFn K (.ref f) = true)
    (h : wpAny (model prog w) A.in1 (call (.ref f) [.ref x, .ref y]) (fun v s' => ∃ r : Bool, v = .bool r ∧ Q (.bool (!r)) s') E s) : wpAny (model prog w) A (richCompare .NotEq (.ref x) (.ref y)) Q E s := by
  have X := X₀.keeps Fr0.keep
  have one : wpAny (model prog w) A (tryCompare (.ref x) "__ne__" (.ref y)) (fun r s' => ∃ v, r = some v ∧ Q v s') E s := by
    unfold tryCompare
    refine wpAny_bind (bound_built X I hne PySem.F.cmp_object.ne (wpAny_call (codeAny_call_builtin PySem.F.cmp_object.ne.plain PySem.F.cmpEntry_ne (@PySem.W.check_slot (model prog w) _ _ s "object.__ne__" "object" "__ne__" (.ref x) [.ref y] [] _ PySem.F.cmpKind_ne PySem.F.cmpSplit_ne (obj_sub (X := X) I hc ho) (PySem.F.cmpArgs_ne _ _) ?_))))
    refine ne_entry (A := A.in1) (by show A.units + 1 < cLine; exact hu) X I hs hf (wpAny_mono h (fun v s' z => ?_) fun _ _ z => z)
    obtain ⟨r, rfl, q⟩ := z
    exact ⟨r, rfl, wpAny_pure ⟨_, rfl, q⟩⟩
  unfold richCompare
  simp only [oneThing_ref, cmpInfo_NotEq]
  refine wpAny_holding (wpAny_bind (wpAny_cRoomFor (Nat.lt_of_succ_lt hu) ?_))
  refine wpAny_bind (I.type.here (wpAny_bind (hb.here ?_)))
  split
  · rename_i q
    have e : PySem.W.subIn K tb (.ref C) = some false := by
      rcases Bool.or_eq_true_iff.mp hn with e | e
      · rw [beq_iff_eq.mp e] at q; simp at q
      · exact beq_iff_eq.mp e
    refine wpAny_bind ((PySem.W.looks_subIn X e).here ?_)
    simp only [Bool.false_eq_true, if_false]
    refine wpAny_bind (wpAny_mono one (fun r s' z => ?_) fun _ _ e => e)
    obtain ⟨v, rfl, hq⟩ := z
    exact wpAny_pure hq
  · refine wpAny_bind (wpAny_pure ?_)
    simp only [Bool.false_eq_true, if_false]
    refine wpAny_bind (wpAny_mono one (fun r s' z => ?_) fun _ _ e => e)
    obtain ⟨v, rfl, hq⟩ := z
    exact wpAny_pure hq
end
section
variable {X : Cx} {n : Nat}
/-- the facts of such a class -/
structure NeC (K : PySem.W.Frag) (C f : Addr) : Prop where
  cd : ∃ cd, PySem.W.clsIn K C = some cd ∧ PySem.W.onlyObject cd.mro = true
  ne : PySem.W.findIn K (.ref C) "__ne__" = some (some (.builtin "object.__ne__"))
  eq : PySem.W.findIn K (.ref C) "__eq__" = some (some (.ref f))
  fn : PySem.W.isFn K (.ref f) = true
def rNeOwn (C : Addr) (sp : Sp) (E : XK) : R2 := fun x y H Q => ∃ (a b dx dy : Addr) (fs gs : List (Str × V)), x = .ref a ∧ y = .ref b ∧ H a = some (.ins C dx fs) ∧ H b = some (.ins C dy gs) ∧ sp [.ref a, .ref b] H (fun v H' => ∃ r : Bool, v = .bl r ∧ Q (.bl (!r)) H') E
theorem op_neOwn {CX : CXT} {C f : Addr} {fd : FuncData} {ps : List Str} {sp : Sp} {E : XK} (F : FnOk X.prog X.w X.K X.mg X.base CX n f fd ps sp) (T : NeC X.K C f) (hb : Binds X.K fd ps []) (hx : Passes CX X E) (hr : Room (n + 1) X.A) : OpR X (compareOp .NotEq) (rNeOwn C sp E) := by
  intro pins s σ H x y v u Q I rx ry h
  obtain ⟨a, b, dx, dy, fs, gs, rfl, rfl, ha, hb', hsp⟩ := h
  cases rx
  cases ry
  obtain ⟨mA, J, _⟩ := ins_get I.hok ha
  obtain ⟨mB, J', _⟩ := ins_get I.hok hb'
  obtain ⟨od, J, _⟩ := J.look
  obtain ⟨od', J', _⟩ := J'.look
  obtain ⟨m, hF⟩ := I.fr
  obtain ⟨cd, hc, ho⟩ := T.cd
  show wpAny (model X.prog X.w) X.A (richCompare .NotEq (.ref a) (.ref b)) (EP X pins σ Q) X.xe s
  refine cmp_neK (tb := .ref C) (by have := hr.units; omega) hF I.ok.mod.kin J J'.type (by simp [PySem.W.notFirst]) hc ho T.ne T.eq T.fn ?_
  have e0 : Env0 X.prog X.w X.K X.mg X.base X.A.in1 X.stack s H := by
    have e := I.env0
    exact ⟨e.frames, e.mod, e.bs, e.bsz, e.funs, e.frf, e.hok, e.bare⟩
  have hl := F.len _ _ _ _ hsp
  have r2 : Vals [V.ref a, V.ref b] [Value.ref a, Value.ref b] := .cons rfl (.cons rfl .nil)
  refine wpAny_call (codeAny_mono (F.run X.A.in1 X.stack s H ⟨[.ref a, .ref b], []⟩ [.ref a, .ref b] [.ref a, .ref b] _ E hr.in1 e0 (by
    have := hb s [.ref a, .ref b] I.kIn (by simpa using hl)
    simpa using this) r2 hsp) fun r s' hq => ?_)
  cases r with
  | error e => exact hx pins σ H s e s' I hq
  | ok fl =>
    cases fl with
    | ret w =>
      obtain ⟨z, H', I', rz, r, ez, q⟩ := I.after hq
      subst ez
      cases rz
      exact ⟨r, rfl, .bl (!r), H', I', rfl, q⟩
    | next => exact False.elim hq
    | brk => exact False.elim hq
    | cont => exact False.elim hq
end
end Nm
set_option maxRecDepth 100000
set_option maxHeartbeats 4000000
/-! == of two webs that are alike -/
namespace Nm
open PySem PySem.Spec PyProof.Rows L2
structure TxtQW (K : PySem.W.Frag) (mg : Str → Option Value) (C : Addr) : Prop extends TxtW K mg C where
  mgC : mg "Web" = some (.ref C)
  ins : C8.InsC K C
theorem col_flat {nm cl : List Str} (h : nm.length ≤ cl.length) (nd : nm.Nodup) : ∀ p ∈ colK nm cl, valV (colK nm cl) p.1 = some p.2 ∧ flatB p.2 = true := fun p hp => by
  refine ⟨val_of_mem (colK_nd h nd) hp, ?_⟩
  obtain ⟨⟨x, y⟩, _, rfl⟩ := List.mem_map.mp hp
  rfl
/-- two lists of the same ties -/
theorem ties_same {K : PySem.W.Frag} {H : Hp} {r r' : Addr} {nm : List Str} {rs : List RowV} (h : OrdAt H r nm rs) (h' : OrdAt H r' nm rs) : DList (DTup K DFlat) (.ref r) (.ref r') H := by
  obtain ⟨ts, h1, h2⟩ := h
  obtain ⟨us, g1, g2⟩ := h'
  refine ⟨r, r', _, _, rfl, rfl, h1, g1, by rw [List.length_map, List.length_map, Paired.length h2, Paired.length g2], fun i x y hx hy => ?_⟩
  rw [List.getElem?_map] at hx hy
  obtain ⟨t, ht, rfl⟩ := Option.map_eq_some_iff.mp hx
  obtain ⟨u, hu, rfl⟩ := Option.map_eq_some_iff.mp hy
  obtain ⟨a, ha, x1, y1, e1, e2, z⟩ := paired_get h2 ht
  obtain ⟨b, hb, x2, y2, f1, f2, z'⟩ := paired_get g2 hu
  rw [ha] at hb
  cases hb
  rw [e1] at f1
  rw [e2] at f2
  cases f1
  cases f2
  refine ⟨t, u, _, _, rfl, rfl, SqT.of z, SqT.of z', rfl, fun j v w hv hw => ?_⟩
  rw [hv] at hw
  cases hw
  have hm := List.mem_of_getElem? hv
  have hf : flatV v = true := by
    simp only [List.mem_cons, List.not_mem_nil, or_false] at hm
    rcases hm with rfl | rfl | rfl | rfl <;> rfl
  refine ⟨hf, hf, ?_⟩
  simp only [List.mem_cons, List.not_mem_nil, or_false] at hm
  rcases hm with rfl | rfl | rfl | rfl <;> simp [eqV]
section
variable {P : Program} {w : World} {K : PySem.W.Frag} {mg : Str → Option Value} {base : Heap}
def spEqW (C : Addr) : Sp := fun vs H Q _ => ∃ (p q dc r wd p' q' dc' r' wd' : Addr) (nm cl : List Str) (rs : List RowV), vs = [.ref p, .ref p'] ∧ WebX C H p q dc r wd nm cl rs ∧ WebX C H p' q' dc' r' wd' nm cl rs ∧ nm.Nodup ∧ nm.length ≤ cl.length ∧ ∀ H', Same H H' → Q (.bl true) H'
theorem scEq : FnScope ["self", "other"] ["self", "other"] (defScope sWebEq) := ⟨rfl, rfl, rfl, by decide +kernel, rfl, by decide +kernel, by decide +kernel⟩
theorem ok_eqW {f C : Addr} {fd : FuncData} (F : Fun K "__eq__" "Web.__eq__" sWebEq f fd) (T : TxtQW K mg C) : FnOk P w K mg base CX0 3 f fd ["self", "other"] (spEqW C) := by
  refine F.ok scEq (fun vs H Q E h => ?_) (fun cdv A outer s H vs Q E hr h => ?_)
  · obtain ⟨_, _, _, _, _, _, _, _, _, _, _, _, _, rfl, _⟩ := h
    rfl
  · obtain ⟨p, q, dc, r, wd, p', q', dc', r', wd', nm, cl, rs, rfl, W, W', nd, hc, k⟩ := h
    obtain ⟨dx, hp⟩ := W.hp
    obtain ⟨dx', hp'⟩ := W'.hp
    have hu := hu_of hr
    refine ⟨_, pss_cons (ps_if (pt_not (pt_val (pe_callB (C8.call_isC T.ins) (by rfl) T.isinstance (by decide +kernel) (pa_cons (pv 1) (pa_cons (pe_glob (v := V.ref C) (by rfl) T.mgC rfl) pa_nil))))) (pss_one (ps_ret pe_bl)) pss_nil)
      (pss_cons (ps_if (PW.pt (pw_or (pt_cmpR (op_neS hu) (pe_fld (pv 0) rfl) (pe_fld (pv 1) rfl) (nomark _)) (pw_or1 (pt_cmpR (op_ne_dictA (Nat.lt_of_succ_lt hu)) (pe_fld (pv 0) rfl) (pe_fld (pv 1) rfl) (nomark _))))) (pss_one (ps_ret pe_bl)) pss_nil)
      (pss_one (ps_ret (pe_cmpR (op_eqG (rcG_list (mon_tup mon_flat) (eqG_tup mon_flat eqG_flat)) hr) (pe_fld (pv 0) rfl) (pe_fld (pv 1) rfl) (nomark _))))), ?_⟩
    refine ⟨_, rfl, p', dx', _, rfl, hp', _, rfl, iteF ?_⟩
    refine ⟨_, rfl, p, C, dx, _, _, rfl, hp, T.cl, T.nNa, rfl, _, rfl, p', C, dx', _, _, rfl, hp', T.cl, T.nNa, rfl, q, q', nm, rfl, rfl, SqL.of W.hq, SqL.of W'.hq, _, rfl, iteF ?_⟩
    refine ⟨_, rfl, p, C, dx, _, _, rfl, hp, T.cl, T.nCo, rfl, _, rfl, p', C, dx', _, _, rfl, hp', T.cl, T.nCo, rfl, dc, dc', _, _, rfl, rfl, W.hdc, W'.hdc, rfl, col_flat hc nd, _, rfl, iteF ?_⟩
    exact ⟨_, rfl, p, C, dx, _, _, rfl, hp, T.cl, T.nTi, rfl, _, rfl, p', C, dx', _, _, rfl, hp', T.cl, T.nTi, rfl, ties_same W.hr W'.hr, fun H' e => k H' e⟩
end
end Nm
set_option maxRecDepth 100000
set_option maxHeartbeats 4000000
/-! for i, x in enumerate(a tuple) -/
namespace Nm
open PySem PySem.Spec PyProof.Rows L2
open PySem.AutoSeq1 (wpAny_loadPart')
/-- the call of the type -/
theorem en_new (l : Addr) (xs : Array Value) (n : Nat) (dd : Option Addr) (sl : Array (Option Value)) :
    Meets (Builtin.«enumerate.__new__» ⟨[.type "enumerate", .ref l], []⟩) (fun _ R s => s.heap.get? l = some { cls := .type "tuple", dict := dd, data := .seq xs n, slots := sl } ∧
      R (.ok (.ret (.ref (s.heap.push { cls := .type "tuple_iterator", data := .fields #[.ref l, .int 0 0] }).objs.size)))
        { s with heap := (s.heap.push { cls := .type "tuple_iterator", data := .fields #[.ref l, .int 0 0] }).push { cls := .type "enumerate", data := .fields #[.none, .bool false, .ref s.heap.objs.size, rawInt 0, .none, .none] } }) :=
  .of_wp fun prog w A R s h => by
    obtain ⟨hp, g, d, tk, os⟩ := s; obtain ⟨ht0, h⟩ := h
    have hsub := sub_enumerate
    have hT : Heap.IsTuple (Shared.heap ⟨hp, g, d, tk, os⟩) l xs := ⟨_, ht0, rfl, n, rfl⟩
    wp_walk using wpAny_loadPart' ht0
    refine wpAny_stack_any fun st => wpAny_pure ?_
    split
    · rename_i c _ _ _ _ _
      cases (c == Value.type "enumerate")
      · wp_walk using wpAny_loadPart' ht0, wpAny_pyIter_tuple hT
        exact ⟨_, rfl, h⟩
      · wp_walk using wpAny_loadPart' ht0, wpAny_pyIter_tuple hT
        exact ⟨_, rfl, h⟩
    · wp_walk using wpAny_loadPart' ht0, wpAny_pyIter_tuple hT
      exact ⟨_, rfl, h⟩
section
variable {prog : Program} {w : World} {A : Around} {E : Value → Shared → Prop} {s : Shared}
theorem en_call {l : Addr} {xs : Array Value} {Q : Value → Shared → Prop} (hT : s.heap.IsTuple l xs)
    (h : ∀ h', IsEnum h' (s.heap.objs.size + 1) s.heap.objs.size 0 .none → h'.IsTupleIter s.heap.objs.size l 0 → h'.objs.size = s.heap.objs.size + 2 →
      (∀ b o, s.heap.get? b = some o → h'.get? b = some o) → Q (.ref (s.heap.objs.size + 1)) { s with heap := h' }) : wpAny (model prog w) A (call (.type "enumerate") [.ref l]) Q E s := by
  obtain ⟨⟨c, dd, dt, sl⟩, hl, hc, n, hd⟩ := hT
  replace hc : c = .type "tuple" := hc
  replace hd : dt = .seq xs n := hd
  subst hc hd
  refine callType_new F.called_enumerate (by decide) (F.typeCall_enumerate_1 _) (F.newCall_enumerate_1 _) (fun obj => F.args_object_init_2 obj _) F.entry_enumerate_new (en_new l xs n dd sl) ⟨hl, ?_⟩
  have hz : (s.heap.push { cls := .type "tuple_iterator", data := .fields #[.ref l, .int 0 0] }).objs.size = s.heap.objs.size + 1 := Heap.size_push ..
  show _ ∧ _
  rw [hz]
  have he : IsEnum ((s.heap.push { cls := .type "tuple_iterator", data := .fields #[.ref l, .int 0 0] }).push
      { cls := .type "enumerate", data := .fields #[.none, .bool false, .ref s.heap.objs.size, rawInt 0, .none, .none] }) (s.heap.objs.size + 1) s.heap.objs.size 0 .none := by
    have := Heap.get?_push_size (s.heap.push { cls := .type "tuple_iterator", data := .fields #[.ref l, .int 0 0] })
      (o := { cls := .type "enumerate", data := .fields #[.none, .bool false, .ref s.heap.objs.size, rawInt 0, .none, .none] }) rfl
    rw [hz] at this; exact this
  exact ⟨⟨_, he, rfl⟩, h _ he ⟨_, Heap.get?_push_of_some _ (Heap.get?_push_size _ rfl), rfl, rfl⟩ (by rw [Heap.size_push, hz]) fun b o x => Heap.get?_push_of_some _ (Heap.get?_push_of_some _ x)⟩
/-- one turn -/
theorem en_next {e it l : Addr} {i : Nat} {xs : Array Value} {x old : Value} {Q : Value → Shared → Prop} (he : IsEnum s.heap e it i old) (hit : s.heap.IsTupleIter it l i) (hl : s.heap.IsTuple l xs) (hx : xs[i]? = some x) (hne : e ≠ it)
    (hQ : ∀ h', IsEnumOut h' e it ((i : Int) + 1) x s.heap.objs.size → h'.IsTupleIter it l (i + 1) → h'.get? s.heap.objs.size = some { cls := .type "tuple", data := .seq #[.int i s.toks, x] } → h'.objs.size = s.heap.objs.size + 1 →
      (∀ b o, b ≠ e → b ≠ it → s.heap.get? b = some o → h'.get? b = some o) → Q (.ref s.heap.objs.size) { s with heap := h', toks := s.toks + 1 }) :
    wpAny (model prog w) A (Builtin.«enumerate.__next__» ⟨[.ref e], []⟩) (fun fin s' => ∃ v, fin = .done (.ret v) ∧ Q v s') E s := by
  obtain ⟨hp, g, d, tk, os⟩ := s
  show wpAny _ _ (field (.ref e) 2 >>= _) _ _ _
  refine wpAny_bind (wpAny_field he rfl (x := .ref it) rfl (wpAny_bind (RZ.nextOf_tuple_item hit hl hx fun h₁ hit₁ hs₁ => ?_)))
  replace hs₁ : Heap.SameBut it hp h₁ := hs₁
  have he₁ : IsEnum h₁ e it i old := (hs₁.2 e hne).trans he
  show wpAny _ _ (field (.ref e) 3 >>= _) _ _ ⟨h₁, g, d, tk, os⟩
  refine wpAny_bind (wpAny_field he₁ rfl (x := rawInt i) rfl ?_)
  show wpAny _ _ (field (.ref e) 4 >>= _) _ _ ⟨h₁, g, d, tk, os⟩
  refine wpAny_bind (wpAny_field he₁ rfl (x := .none) rfl ?_)
  show wpAny _ _ (mkInt i >>= _) _ _ ⟨h₁, g, d, tk, os⟩
  refine wpAny_bind (wpAny_mkInt ?_)
  show wpAny _ _ (setField (.ref e) 3 (rawInt ((i : Int) + 1)) >>= _) _ _ ⟨h₁, g, d, tk + 1, os⟩
  refine wpAny_bind (wpAny_setField_rec he₁ (by simp) fun h₂ he₂ hs₂ => ?_)
  replace hs₂ : Heap.SameBut e h₁ h₂ := hs₂
  replace he₂ : IsEnum h₂ e it ((i : Int) + 1) old := he₂
  show wpAny _ _ (setField (.ref e) 4 .none >>= _) _ _ ⟨h₂, g, d, tk + 1, os⟩
  refine wpAny_bind (wpAny_setField_rec he₂ (by simp) fun h₃ he₃ hs₃ => ?_)
  replace hs₃ : Heap.SameBut e h₂ h₃ := hs₃
  replace he₃ : IsEnum h₃ e it ((i : Int) + 1) old := he₃
  show wpAny _ _ (newTuple [.int i tk, x] >>= _) _ _ ⟨h₃, g, d, tk + 1, os⟩
  refine wpAny_bind (wpAny_newTuple ?_)
  have he₄ : IsEnum (h₃.push { cls := .type "tuple", data := .seq #[.int i tk, x] }) e it ((i : Int) + 1) old := Heap.get?_push_of_some _ he₃
  generalize hh₄ : h₃.push { cls := .type "tuple", data := .seq #[.int i tk, x] } = h₄ at he₄
  have hsz : h₃.objs.size = hp.objs.size := by rw [hs₃.1, hs₂.1, hs₁.1]
  have hel : e < hp.objs.size := Heap.lt_size he
  have ht₄ : h₄.get? hp.objs.size = some { cls := .type "tuple", data := .seq #[.int i tk, x] } := by rw [← hh₄, ← hsz]; exact Heap.get?_push_size _ rfl
  have hz₄ : h₄.objs.size = hp.objs.size + 1 := by rw [← hh₄, Heap.size_push, hsz]
  have hk₄ : ∀ b o, b ≠ e → b ≠ it → hp.get? b = some o → h₄.get? b = some o := fun b o hbe hbi hb => by
    rw [← hh₄]; exact Heap.get?_push_of_some _ (hs₃.extBut b o hbe (hs₂.extBut b o hbe (hs₁.extBut b o hbi hb)))
  have hit₄ : h₄.IsTupleIter it l (i + 1) := by
    rw [← hh₄]; obtain ⟨o, ho, r⟩ := (hit₁.extBut hs₂.extBut (Ne.symm hne)).extBut hs₃.extBut (Ne.symm hne); exact ⟨o, Heap.get?_push_of_some _ ho, r⟩
  show wpAny _ _ (Builtin.SmallTypes.ownedTupleIsFree (.ref e) >>= _) _ _ ⟨h₄, g, d, tk + 1, os⟩
  rw [hsz]
  clear hh₄ he₃ hs₃ he₂ hs₂ he₁ hs₁ hit₁ hsz h₃ h₂ h₁
  refine wpAny_bind ?_
  unfold Builtin.SmallTypes.ownedTupleIsFree
  refine wpAny_bind (wpAny_field he₄ rfl (x := .none) rfl (wpAny_pure ?_))
  simp only [if_true]
  refine wpAny_bind (wpAny_rule ?_)
  refine wpAny_bind (wpAny_field he₄ rfl (x := old) rfl ?_)
  refine wpAny_bind (wpAny_setField_rec he₄ (by simp) fun h₅ he₅ hs₅ => ?_)
  replace hs₅ : Heap.SameBut e h₄ h₅ := hs₅
  replace he₅ : IsEnum h₅ e it ((i : Int) + 1) x := he₅
  show wpAny _ _ (Builtin.SmallTypes.ownedTupleHandOut (.ref e) (.ref hp.objs.size) >>= _) _ _ ⟨h₅, g, d, tk + 1, os⟩
  refine wpAny_bind ?_
  unfold Builtin.SmallTypes.ownedTupleHandOut
  refine wpAny_bind (wpAny_setField_rec he₅ (by simp) fun h₆ he₆ hs₆ => ?_)
  replace hs₆ : Heap.SameBut e h₅ h₆ := hs₆
  replace he₆ : IsEnumOut h₆ e it ((i : Int) + 1) x hp.objs.size := he₆
  refine wpAny_setField_rec he₆ (by simp) fun h₇ he₇ hs₇ => ?_
  replace hs₇ : Heap.SameBut e h₆ h₇ := hs₇
  replace he₇ : IsEnumOut h₇ e it ((i : Int) + 1) x hp.objs.size := he₇
  refine wpAny_bind (wpAny_letGo (wpAny_pure ⟨_, rfl, hQ h₇ he₇ ?_ ?_ ?_ ?_⟩))
  · exact ((hit₄.extBut hs₅.extBut (Ne.symm hne)).extBut hs₆.extBut (Ne.symm hne)).extBut hs₇.extBut (Ne.symm hne)
  · exact hs₇.extBut _ _ (Nat.ne_of_gt hel) (hs₆.extBut _ _ (Nat.ne_of_gt hel) (hs₅.extBut _ _ (Nat.ne_of_gt hel) ht₄))
  · rw [hs₇.1, hs₆.1, hs₅.1, hz₄]
  · exact fun b o hbe hbi hb => hs₇.extBut b o hbe (hs₆.extBut b o hbe (hs₅.extBut b o hbe (hk₄ b o hbe hbi hb)))
theorem en_item {e it l : Addr} {i : Nat} {xs : Array Value} {x old : Value} {Q : Option Value → Shared → Prop} (he : IsEnum s.heap e it i old) (hit : s.heap.IsTupleIter it l i) (hl : s.heap.IsTuple l xs) (hx : xs[i]? = some x) (hne : e ≠ it)
    (hQ : ∀ h', IsEnumOut h' e it ((i : Int) + 1) x s.heap.objs.size → h'.IsTupleIter it l (i + 1) → h'.get? s.heap.objs.size = some { cls := .type "tuple", data := .seq #[.int i s.toks, x] } → h'.objs.size = s.heap.objs.size + 1 →
      (∀ b o, b ≠ e → b ≠ it → s.heap.get? b = some o → h'.get? b = some o) → Q (some (.ref s.heap.objs.size)) { s with heap := h', toks := s.toks + 1 }) : wpAny (model prog w) A (pyNext (.ref e)) Q E s := by
  have hT : s.TypeIs (.ref e) "enumerate" := ⟨_, he, rfl⟩
  unfold pyNext
  exact wpAny_bind (wpAny_attempt (wpAny_callSpecial?_slot (name := Str.ofString "__next__") hT F.slot_enumerate_next (wpAny_call_entry F.slot_enumerate_next hT F.entry_enumerate_next
    (en_next he hit hl hx hne fun h' a b c d k => wpAny_pure (hQ h' a b c d k)) (F.args_enumerate_next_1 _))))
theorem en_end {e it l : Addr} {i : Nat} {xs : Array Value} {old : Value} {Q : Option Value → Shared → Prop} (hh : A.handled = none) (he : IsEnum s.heap e it i old) (hit : s.heap.IsTupleIter it l i) (hl : s.heap.IsTuple l xs) (hx : xs[i]? = none)
    (hQ : ∀ h', Heap.ExtBut it s.heap h' → Q none { s with heap := h' }) : wpAny (model prog w) A (pyNext (.ref e)) Q E s := by
  have hT : s.TypeIs (.ref e) "enumerate" := ⟨_, he, rfl⟩
  unfold pyNext
  refine wpAny_bind (wpAny_attempt (wpAny_callSpecial?_slot (name := Str.ofString "__next__") hT F.slot_enumerate_next (wpAny_call_entry F.slot_enumerate_next hT F.entry_enumerate_next ?_ (F.args_enumerate_next_1 _))))
  show wpAny _ _ (field (.ref e) 2 >>= _) _ _ _
  refine wpAny_bind (wpAny_field he rfl (x := .ref it) rfl (wpAny_bind (RZ.nextOf_tuple_end hh hit hl hx fun h' x he' hx' => ?_)))
  obtain ⟨o, ho, hc⟩ := hx'
  exact wpAny_bind (wpAny_isInstance (T := "StopIteration") (b := true) ⟨o, ho, hc⟩ isSubtype_stop (wpAny_pure (hQ _ he')))
end
/-- the tuple at a, each item in a new pair with its number -/
def ItT (K : PySem.W.Frag) (a : Addr) : It :=
  ⟨fun i H => ∃ (xs : List V) (x : V), SqT K H a xs ∧ xs[i]? = some x, fun i H v H' => ∃ T x, v = .ref T ∧ H T = none ∧ H' = upd H T (.tup [.int (i : Nat), x]) ∧ ∀ xs, SqT K H a xs → xs[i]? = some x, fun i H => ∃ xs : List V, SqT K H a xs ∧ xs.length ≤ i⟩
theorem turn_enT {P : Program} {w : World} {K : PySem.W.Frag} {elts : List Expr} {kk : Nat} {tpos : Pos} (a e it : Addr) :
    Turn P w K (.Tuple elts kk tpos) (ItT K a) [e, it] e (fun i h => (∃ old, IsEnum h e it ((i : Nat) : Int) old) ∧ h.IsTupleIter it a i ∧ e ≠ it) where
  mem := by simp
  obj := fun i h st b hb => by
    obtain ⟨⟨old, he⟩, ⟨o, ho, hc, hd⟩, _⟩ := st
    have e' : b = e ∨ b = it := by simpa using hb
    rcases e' with z | z
    · rw [z]; exact ⟨_, he, fun v q => nomatch q⟩
    · rw [z]; exact ⟨o, ho, fun v q => by rw [hd] at q; cases q⟩
  keep := fun i h h' st k => by
    obtain ⟨⟨old, he⟩, ⟨o, ho, r⟩, hne⟩ := st
    exact ⟨⟨old, k e (by simp) _ he⟩, ⟨o, k it (by simp) o ho, r⟩, hne⟩
  item := by
    intro X hP hw hK hc i pins s σ H E I hf st hg
    subst hP hw hK
    obtain ⟨⟨old, he⟩, hit, hne⟩ := st
    obtain ⟨xs, x, hq, hx⟩ := hg
    obtain ⟨its, rv, p, hz⟩ := I.tuple hq
    obtain ⟨u, hu, ru⟩ := rv.get hx
    have hel : e < s.heap.objs.size := Heap.lt_size he
    have hil : it < s.heap.objs.size := by obtain ⟨_, q, _⟩ := hit; exact Heap.lt_size q
    refine en_item (l := a) (xs := its.toArray) he hit p (x := u) (by simpa using hu) hne fun h' ho hit' hT hsz hk => ?_
    refine ⟨_, rfl, wpAny_letOwnedTupleGo_enum (s := { s with heap := h', toks := s.toks + 1 }) ho fun h'' he' sb => ?_⟩
    have hT2 : h''.get? s.heap.objs.size = some { cls := .type "tuple", data := .seq #[.int i s.toks, u] } := (sb.2 _ (Nat.ne_of_gt hel)).trans hT
    have new : ObjOk X.prog X.w (upd H s.heap.objs.size (.tup [.int (i : Nat), x])) h'' s.heap.objs.size (.tup [.int (i : Nat), x]) :=
      ⟨by show 2 ≤ sizeLine; decide, [.int i s.toks, u], .cons ⟨_, rfl⟩ (.cons ru .nil), ⟨_, hT2, rfl, _, rfl⟩⟩
    have I1 : Inv X pins σ (upd H s.heap.objs.size (.tup [.int (i : Nat), x])) { s with heap := h'', toks := s.toks + 1 } :=
      I.turnedNew (ch := [e, it]) (fun b ob hb q => (sb.2 b (fun z => hb (by simp [z]))).trans (hk b ob (fun z => hb (by simp [z])) (fun z => hb (by simp [z])) q)) hf (Nat.le_refl _) new
    have hit'' : h''.IsTupleIter it a (i + 1) := by
      obtain ⟨o, ho2, r⟩ := hit'
      exact ⟨o, (sb.2 it (Ne.symm hne)).trans ho2, r⟩
    refine ⟨.ref s.heap.objs.size, _, I1, rfl, ⟨_, x, rfl, I.hok.fresh (Nat.le_refl _), rfl, fun ys hy => by rw [I.tuple_inj hy hq]; exact hx⟩, ⟨⟨u, ?_⟩, hit'', hne⟩, fun b hb => ?_⟩
    · have e1 : ((i + 1 : Nat) : Int) = (i : Int) + 1 := by omega
      rw [e1]; exact he'
    · have hb' : b < s.heap.objs.size := by
        have e' : b = e ∨ b = it := by simpa using hb
        rcases e' with z | z <;> rw [z] <;> assumption
      rw [upd_ne (Nat.ne_of_lt hb')]
      exact (hf b hb).1
  done := by
    intro X hP hw hK hc i pins s σ H E I hf st hg
    subst hP hw hK
    obtain ⟨⟨old, he⟩, hit, hne⟩ := st
    obtain ⟨xs, hq, hx⟩ := hg
    obtain ⟨its, rv, p, hz⟩ := I.tuple hq
    obtain ⟨f0, f1, f2, f3, f4, f5⟩ := hf it (by simp)
    have hl := rv.length
    exact en_end (l := a) (xs := its.toArray) (I.ok.hd hc) he hit p (by simp; omega) fun h' eb => ⟨rfl, I.turned (t' := s.toks) (fun b o hb q => eb b o hb q) f0 f1 f3 f4 f5⟩
  self := fun A i s Q E st h => let ⟨⟨_, he⟩, _⟩ := st; wpAny_pyIter_enum he h
/-- enumerate(xs), xs a list or a tuple -/
def iEnumA (K : PySem.W.Frag) (ta : TA) : TI := fun σ H R => ta σ H fun vs H1 => ∃ a xs, vs = [.ref a] ∧ ((SqL K H1 a xs ∧ R (Ite K a) H1) ∨ (SqT K H1 a xs ∧ R (ItT K a) H1))
theorem pi_enumA {X : Cx} {e : Expr} {ta : TA} {p pos tpos : Pos} {elts : List Expr} {kk : Nat} (hg : Gl X "enumerate") (hm : X.mg "enumerate" = none) (ha : PA X [e] ta) (hs : starEach [e] X.env = [(false, eval e X.env)] := by rfl) :
    PI X (.Tuple elts kk tpos) (.Call (.Name "enumerate" p) [e] [] pos) (iEnumA X.K ta) := by
  refine ⟨fun pins s σ H R I h => ?_⟩
  refine Call_ (ld_blt I hg hm boot_enumerate (PyProof.Rows.callWith_type1 (thn (ha.run pos pins s σ H _ I h) fun us s1 ⟨vs, H1, I1, r1, q1⟩ => ?_) hs rfl))
  obtain ⟨a, xs, ex, q⟩ := q1
  subst ex
  obtain ⟨u, rfl, ru⟩ := vals1 r1
  obtain rfl : u = Value.ref a := ru
  have bnd : ∀ b ∈ [s1.heap.objs.size + 1, s1.heap.objs.size], s1.heap.objs.size ≤ b := fun b hb => by
    have e' : b = s1.heap.objs.size + 1 ∨ b = s1.heap.objs.size := by simpa using hb
    omega
  rcases q with ⟨hq, q⟩ | ⟨hq, q⟩
  · obtain ⟨its, rv, p', hz⟩ := I1.list hq
    refine call_enumerate_list p'.isList fun h' he hit hsz hk => wpAny_pyIter_enum he ?_
    have I2 : Inv X pins σ H1 { s1 with heap := h' } := I1.kept (t' := s1.toks) hk
    exact ⟨s1.heap.objs.size + 1, [s1.heap.objs.size + 1, s1.heap.objs.size], _, _, H1, rfl, I2, turn_enum a (s1.heap.objs.size + 1) s1.heap.objs.size, ⟨⟨.none, he⟩, hit, Nat.succ_ne_self _⟩, fun b hb => I1.fpOk (bnd b hb) (I1.hok.fresh (bnd b hb)), q⟩
  · obtain ⟨its, rv, p', hz⟩ := I1.tuple hq
    refine en_call (l := a) (xs := its.toArray) p' fun h' he hit hsz hk => wpAny_pyIter_enum he ?_
    have I2 : Inv X pins σ H1 { s1 with heap := h' } := I1.kept (t' := s1.toks) hk
    exact ⟨s1.heap.objs.size + 1, [s1.heap.objs.size + 1, s1.heap.objs.size], _, _, H1, rfl, I2, turn_enT a (s1.heap.objs.size + 1) s1.heap.objs.size, ⟨⟨.none, he⟩, hit, Nat.succ_ne_self _⟩, fun b hb => I1.fpOk (bnd b hb) (I1.hok.fresh (bnd b hb)), q⟩
theorem walk_enT {K : PySem.W.Frag} {a : Addr} {xs : List V} : Walk (ItT K a) xs.length (fun H => SqT K H a xs) (YPair (fun i => some (.int (i : Nat))) (fun i => xs[i]?)) := by
  refine ⟨fun i _ hi q => ⟨xs, xs[i], q, by simp [hi]⟩, fun _ q => ⟨xs, q, Nat.le_refl _⟩, fun i H v H' _ q y => ?_⟩
  obtain ⟨T, x, h1, h2, h3, h4⟩ := y
  exact ⟨T, .int (i : Nat), x, h1, h2, h3, rfl, h4 xs q⟩
end Nm
set_option maxRecDepth 100000
set_option maxHeartbeats 4000000
/-! own __len__; the fields of an exception that is being made; defs that let exceptions out; kept; BadNumber.__init__ -/
namespace Nm
open PySem PySem.Spec PyProof.Rows L2
section
variable {X : Cx}
/-- o.f, o an exception that is being made -/
def tExoF (K : PySem.W.Frag) (f : Str) (te : TE) : TE := fun σ H Q => te σ H fun x H1 => ∃ (a C dx : Addr) (fs : List (Str × V)) (v : V), x = .ref a ∧ XfC K C ∧ PySem.W.findIn K (.ref C) f = some none ∧ H1 a = some (exo a C (some dx)) ∧ H1 dx = some (exd dx fs) ∧ fs.lookup f = some v ∧ Q v H1
theorem pe_exoF {e : Expr} {te : TE} {f : Str} {pos : Pos} (he : PE X e te) (hb : attributeBase e f X.env (eval e X.env) = eval e X.env := by rfl) : PE X (.Attribute e f pos) (tExoF X.K f te) := by
  refine ⟨fun pins s σ H Q I h => ?_⟩
  refine attr_of hb (thn (he.run pins s σ H _ I h) fun u s1 hh => ?_)
  obtain ⟨x, H1, I1, rx, a, C, dx, fs, v, ex, T, hno, ha, hd, hl, q⟩ := hh
  subst ex
  obtain rfl : u = Value.ref a := rx
  obtain ⟨t1, ho⟩ := exo_at I1.hok ha
  obtain ⟨mA, hns, hr⟩ := exd_at I1.hok hd
  obtain ⟨od, hod, hlk⟩ := lookIn_ns hns
  obtain ⟨w', hw, rw'⟩ := RelO.some_of (v := v) (o := mA f) (by rw [← hl]; exact hr f)
  have J : PySem.W.InstAt s1.heap a _ C (some od) := ⟨ho, rfl, rfl, hod⟩
  exact HandSPX.exc_get I1.kIn J T.ga T.gg T.exC (PySem.W.findObj_own T.hdC hno rfl (by rw [hlk, hw])) (handed_of rw') ⟨v, H1, I1.tok _, rw', q⟩
/-- a body that is never reached -/
theorem pss_no {b : List Stmt} : PSs X b (fun _ _ _ => False) := ⟨fun _ _ _ _ _ _ h => h.elim⟩
end
section
variable {P : Program} {w : World} {K : PySem.W.Frag} {mg : Str → Option Value} {base : Heap}
/-- a def that may let exceptions out -/
theorem okX {x qual : Str} {st : Stmt} {f : Addr} {fd : FuncData} {N ps : List Str} {k : Nat} {sp : Sp} (F : Fun K x qual st f fd) (S : FnScope N ps (defScope st)) (len : ∀ vs H Q E, sp vs H Q E → vs.length = ps.length)
    (hbody : ∀ (cdv : Value) (A : Around) (outer : List Env) (s : Shared) (H : Hp) (vs : List V) (Q : VK) (E : XK), Room k (A.deeper (envOfC qual (defScope st) s.heap.objs.size f cdv)) → sp vs H Q E →
      ∃ t, PSs (cxOf (L2.CX P w) P w K mg base N qual (defScope st) f cdv A outer s H E) (defBody st) t ∧ t { nx := fun _ H' => Q .non H', rt := Q } (start N vs) H) : FnOk P w K mg base (L2.CX P w) (k + 1) f fd ps sp := by
  obtain ⟨oc, od, kV, doc, pm, an, cdv, ct, osl, rfl, lk, hcd⟩ := F.ex
  exact fn_of lk hcd S len fun A outer s H vs Q E hr hsp => hbody cdv A outer s H vs Q E hr hsp
/-! ### kept, of a number or a text -/
structure TxtKe (mg : Str → Option Value) : Prop where
  isinstance : mg "isinstance" = none
  list : mg "list" = none
  tuple : mg "tuple" = none
  dict : mg "dict" = none

def spKept : Sp := fun vs H Q _ => ∃ x : V, vs = [x] ∧ ((∃ i, x = .int i) ∨ ∃ z, x = .str z) ∧ Q x H
abbrev nKe : List Str := ["value", "part", "key"]
theorem scKe : FnScope ["value"] ["value"] (defScope sKept) := ⟨rfl, rfl, rfl, by decide +kernel, rfl, by decide +kernel, by decide +kernel⟩
theorem ok_kept {f : Addr} {fd : FuncData} (F : Fun K "kept" "kept" sKept f fd) (T : TxtKe mg) : FnOk P w K mg base CX0 1 f fd ["value"] spKept := by
  refine F.ok scKe (fun vs H Q E h => ?_) (fun cdv A outer s H vs Q E hr h => ?_)
  · obtain ⟨_, rfl, _⟩ := h
    rfl
  · obtain ⟨x, rfl, hx, k⟩ := h
    refine ⟨_, pss_cons (ps_if (pt_val (pe_callB call_isi (by rfl) T.isinstance (by decide +kernel) (pa_cons (pv 0) (pa_cons (pe_bltn (v := .ty "list") (by rfl) T.list (by decide +kernel) rfl) pa_nil)))) pss_no pss_nil)
      (pss_cons (ps_if (pt_val (pe_callB call_isi (by rfl) T.isinstance (by decide +kernel) (pa_cons (pv 0) (pa_cons (pe_bltn (v := .ty "tuple") (by rfl) T.tuple (by decide +kernel) rfl) pa_nil)))) pss_no pss_nil)
      (pss_cons (ps_if (pt_val (pe_callB call_isi (by rfl) T.isinstance (by decide +kernel) (pa_cons (pv 0) (pa_cons (pe_bltn (v := .ty "dict") (by rfl) T.dict (by decide +kernel) rfl) pa_nil)))) pss_no pss_nil)
      (pss_one (ps_ret (pv 0))))), ?_⟩
    rcases hx with ⟨i, rfl⟩ | ⟨z, rfl⟩
    · refine ⟨_, rfl, _, _, _, _, false, rfl, ClsV.ty "list", TyX.base (TyOf.int i), kit_ty (by decide +kernel), _, rfl, iteF ?_⟩
      refine ⟨_, rfl, _, _, _, _, false, rfl, ClsV.ty "tuple", TyX.base (TyOf.int i), kit_ty (by decide +kernel), _, rfl, iteF ?_⟩
      refine ⟨_, rfl, _, _, _, _, false, rfl, ClsV.ty "dict", TyX.base (TyOf.int i), kit_ty (by decide +kernel), _, rfl, iteF ?_⟩
      exact ⟨_, rfl, k⟩
    · refine ⟨_, rfl, _, _, _, _, false, rfl, ClsV.ty "list", TyX.base (TyOf.str z), kit_ty (by decide +kernel), _, rfl, iteF ?_⟩
      refine ⟨_, rfl, _, _, _, _, false, rfl, ClsV.ty "tuple", TyX.base (TyOf.str z), kit_ty (by decide +kernel), _, rfl, iteF ?_⟩
      refine ⟨_, rfl, _, _, _, _, false, rfl, ClsV.ty "dict", TyX.base (TyOf.str z), kit_ty (by decide +kernel), _, rfl, iteF ?_⟩
      exact ⟨_, rfl, k⟩
end
section
variable {P : Program} {w : World} {K : PySem.W.Frag} {mg : Str → Option Value} {base : Heap}
/-! ### BadNumber.__init__ -/
def spBadI (C : Addr) : Sp := fun vs H Q _ => ∃ (a : Addr) (n : Nat), vs = [.ref a, .int (n : Int)] ∧ n ≤ 100000 ∧ H a = some (exo a C none) ∧ ∀ d : Addr, H d = none → d ≠ a → Q .non (upd (upd H d (exd d [("number", .int (n : Int))])) a (exo a C (some d)))
theorem ssBad : SupS "self" "number" (defScope sBadNumberInit) := ⟨rfl, rfl, rfl, by decide, rfl, rfl, by decide +kernel, by decide +kernel, rfl, rfl⟩
theorem num_text {n : Nat} (h : n ≤ 100000) : ((toString (n : Int) : String) : Str).length ≤ 10 := by
  have e := PySem.int_text_length_le10 (a := (n : Int)) (k := 9) (by decide) (by rw [Int.natAbs_natCast]; omega)
  rw [PySem.ofString_length]
  exact e
theorem num_log {n : Nat} (h : n ≤ 100000) : ((n : Int)).natAbs.log2 < 1920 := by
  rw [Int.natAbs_natCast]
  by_cases z : n = 0
  · subst z
    decide
  · exact (Nat.log2_lt z).mpr (Nat.lt_of_le_of_lt h (by decide +kernel))
theorem ok_badI {C f cda cc : Addr} {fd : FuncData} (F : SupF P K C f cda cc fd "BadNumber.__init__" sBadNumberInit "self") (X0 : XfC K C) (nN : PySem.W.findIn K (.ref C) "number" = some none) (hms : mg "super" = none)
    (Gk : Def P w K mg base "kept" ["value"] 1 spKept) : FnOk P w K mg base CX0 2 f fd ["self", "number"] (spBadI C) := by
  obtain ⟨fk, fdk, Gk, mk, kk, bk⟩ := Gk.ex
  refine sup_def (k := 1) F ssBad hms rfl (fun vs H Q E h => ?_) (fun A outer s H vs Q E hr h => ?_)
  · obtain ⟨_, _, rfl, _⟩ := h
    rfl
  · obtain ⟨a, n, rfl, hn, ha, k⟩ := h
    refine ⟨a, _, _, ps_ost (pv 0) (pe_call Gk hr (by rfl) mk kk bk .nil pass0 (pa_cons (pv 1) pa_nil)), pa_cons (pe_joined (PJ.cons pe_str (PJ.cons (pe_fmtR (pe_exoF (pv 0))) PJ.nil))) pa_nil, ?_⟩
    refine ⟨_, rfl, _, rfl, .inl ⟨_, rfl⟩, _, rfl, a, C, rfl, F.oex, nN, .inl ⟨ha, fun d hd hda => ⟨rfl, d, upd_same, fun R hR => ?_⟩⟩⟩
    have hd2 : (upd (upd H d (exd d [("number", .int (n : Int))])) a (exo a C (some d))) d = some (exd d [("number", .int (n : Int))]) := by
      rw [upd_ne hda]
      exact upd_same
    refine ⟨_, rfl, (by decide +kernel), _, rfl, a, C, d, _, _, rfl, X0, nN, upd_same, hd2, rfl, .inr ⟨(n : Int), rfl, num_log hn, _, rfl, ?_, ?_⟩⟩
    · have := num_text hn
      rw [strLen_append, strLen_append, sizeLine_eq]
      have e1 : Str.empty.length = 0 := rfl
      have e2 : ("a wrong number, length or place in a list: " : Str).length = 43 := by decide +kernel
      omega
    · exact hR _ _ (by show (1 : Nat) ≤ 1000; decide) upd_same (k d hd hda)
end
section
variable {P : Program} {w : World} {K : PySem.W.Frag} {mg : Str → Option Value} {base : Heap}
/-! ### is_number of anything -/
inductive NumX (H : Hp) : V → Prop where
  | int (i : Int) : NumX H (.int i)
  | bl (b : Bool) : NumX H (.bl b)
  | non : NumX H .non
  | str (z : Str) : NumX H (.str z)
  | lst {a : Addr} {ys : List V} (e : H a = some (.lst ys)) : NumX H (.ref a)
  | tup {a : Addr} {ys : List V} (e : H a = some (.tup ys)) : NumX H (.ref a)
theorem NumX.ext {H H' : Hp} {x : V} (h : NumX H x) (s : Same H H') : NumX H' x := by
  cases h with
  | int i => exact .int i
  | bl b => exact .bl b
  | non => exact .non
  | str z => exact .str z
  | lst e => exact .lst (s _ _ e)
  | tup e => exact .tup (s _ _ e)
def isIntV : V → Bool
  | .int _ => true
  | _ => false
def spInt : Sp := fun vs H Q _ => ∃ x : V, vs = [x] ∧ NumX H x ∧ Q (.bl (isIntV x)) H
theorem ok_int {f : Addr} {fd : FuncData} (F : Fun K "is_integer" "is_integer" sIsInteger f fd) (T : TxtG mg) : FnOk P w K mg base CX0 1 f fd ["value"] spInt := by
  refine F.ok scInteger (fun vs H Q E h => ?_) (fun cdv A outer s H vs Q E hr h => ?_)
  · obtain ⟨_, rfl, _⟩ := h
    rfl
  · obtain ⟨x, rfl, hx, k⟩ := h
    refine ⟨_, pss_one (ps_ret (pe_and (pe_callB call_isi (by rfl) T.isinstance (by decide +kernel) (pa_cons (pv 0) (pa_cons (pe_bltn (v := .ty "int") (by rfl) T.int (by decide +kernel) rfl) pa_nil)))
      (pe_one (pe_not (pe_callB call_isi (by rfl) T.isinstance (by decide +kernel) (pa_cons (pv 0) (pa_cons (pe_bltn (v := .ty "bool") (by rfl) T.bool (by decide +kernel) rfl) pa_nil))))))), ?_⟩
    cases hx with
    | int i =>
      refine ⟨_, rfl, _, _, _, _, true, rfl, ClsV.ty "int", TyX.base (TyOf.int i), kit_ty (by decide +kernel), _, rfl, iteT ?_⟩
      exact ⟨_, rfl, _, _, _, _, false, rfl, ClsV.ty "bool", TyX.base (TyOf.int i), kit_ty (by decide +kernel), _, rfl, k⟩
    | bl b =>
      refine ⟨_, rfl, _, _, _, _, true, rfl, ClsV.ty "int", TyX.base (TyOf.bl b), kit_ty (by decide +kernel), _, rfl, iteT ?_⟩
      exact ⟨_, rfl, _, _, _, _, true, rfl, ClsV.ty "bool", TyX.base (TyOf.bl b), kit_ty (by decide +kernel), _, rfl, k⟩
    | non => exact ⟨_, rfl, _, _, _, _, false, rfl, ClsV.ty "int", TyX.base TyOf.non, kit_ty (by decide +kernel), _, rfl, iteF k⟩
    | str z => exact ⟨_, rfl, _, _, _, _, false, rfl, ClsV.ty "int", TyX.base (TyOf.str z), kit_ty (by decide +kernel), _, rfl, iteF k⟩
    | lst e => exact ⟨_, rfl, _, _, _, _, false, rfl, ClsV.ty "int", TyX.base (TyOf.lst e), kit_ty (by decide +kernel), _, rfl, iteF k⟩
    | tup e => exact ⟨_, rfl, _, _, _, _, false, rfl, ClsV.ty "int", TyX.base (TyOf.tup e), kit_ty (by decide +kernel), _, rfl, iteF k⟩
end
section
variable {P : Program} {w : World} {K : PySem.W.Frag} {mg : Str → Option Value} {base : Heap}
structure TxtBad (P : Program) (w : World) (K : PySem.W.Frag) (mg : Str → Option Value) (base : Heap) (CB : Addr) : Prop where
  mB : mg "BadNumber" = some (.ref CB)
  oex : OexC K CB
  xf : XfC K CB
  nNu : PySem.W.findIn K (.ref CB) "number" = some none
  ini : ∃ f fd, PySem.W.findIn K (.ref CB) "__init__" = some (some (.ref f)) ∧ PySem.W.typeIn K (.ref f) = some (.type "function") ∧ FnOk P w K mg base CX0 2 f fd ["self", "number"] (spBadI CB) ∧ Binds K fd ["self", "number"] []
/-- what the making of the exception leaves -/
theorem made_bad {H1 : Hp} {a d CB : Addr} {fs : List (Str × V)} (h1 : H1 a = none) (h2 : upd H1 a (exo a CB none) d = none) (h3 : d ≠ a) {H2 : Hp} (e : H2 = upd (upd (upd H1 a (exo a CB none)) d (exd d fs)) a (exo a CB (some d))) : H1 d = none ∧ Same H1 (upd (del H2 a) d (.xd fs)) := by
  have hd : H1 d = none := by
    rw [upd_ne h3] at h2
    exact h2
  refine ⟨hd, fun b o hb => ?_⟩
  have n1 : b ≠ a := ne_of_none hb h1
  have n2 : b ≠ d := ne_of_none hb hd
  rw [upd_ne n2, del_ne n1, e, upd_ne n1, upd_ne n2, upd_ne n1]
  exact hb
theorem raise_bad {CB : Addr} {H H4 : Hp} {a : Addr} {n : Nat} {E : XK} (hn : n ≤ 100000) (ha : H4 a = none) (s : Same H H4) (ke : ∀ (d : Addr) (H' : Hp), H d = none → H' d = some (.xd [("number", .int (n : Int))]) → Same H H' → E (.ref CB) (some d) H') :
    spBadI CB (V.ref a :: ([V.int (n : Int)] ++ [])) (upd H4 a (exo a CB none)) (fun v H2 => v = .non ∧ ∃ (d : Addr) (fs : List (Str × V)), H2 a = some (exo a CB (some d)) ∧ H2 d = some (exd d fs) ∧ H4 d = none ∧ E (.ref CB) (some d) (upd (del H2 a) d (.xd fs))) (fun _ _ _ => False) := by
  refine ⟨a, n, rfl, hn, upd_same, fun d hd hda => ?_⟩
  obtain ⟨h1, h2⟩ := made_bad (fs := [("number", .int (n : Int))]) ha hd hda rfl
  exact ⟨rfl, d, _, upd_same, by rw [upd_ne hda]; exact upd_same, h1, ke d _ (s.free h1) upd_same fun b o e => h2 _ _ (s _ _ e)⟩
end
section
variable {X : Cx}
/-- C(), C an own class of exceptions without an own __init__ -/
theorem pmk_bare {C : Addr} {bmB : List Value} {B newId initId : String} {x : Str} {p pos : Pos} (F : ExcBaseFacts B newId initId bmB) (q : PySem.W.excIn X.K C bmB newId = true) (gC : X.mg x = some (.ref C))
    (kC : PySem.W.keepIn X.K (.ref C) = true) (r : Raises X (.ref C)) (hg : Gl X x) (hdb : (x == ("__debug__" : Str)) = false := by decide) : PMk X (.Call (.Name x p) [] [] pos) (fun _ H Q => Q (.ref C) none H) := by
  intro pins s σ H Q I h
  obtain ⟨bm, N, nm, qn, bs, hdct, sn, sub, ab, col, dd, k0, k1, k2, k3, k5, mN, hC, hN, hni, T⟩ := exc_obj I.kIn q
  refine wpAny_Call_Name_kw (ld_glob I hg gC (PySem.W.callWith_K0 I.kIn kC ?_) hdb)
  exact wpAny_call_exc_subT F T hC hN hni (fun h' e hm => mk_of I hm r h (I.hok.gone hm.new)) (Nat.zero_le _)
end
end Nm
set_option maxRecDepth 100000
set_option maxHeartbeats 4000000
/-! need_turns -/
namespace Nm
open PySem PySem.Spec PyProof.Rows L2
/-- what is wrong in a list of turns, if anything -/
def turnsDue (xs : List V) (m : Nat) : Option Nat := match xs.findIdx? fun x => !isIntV x with
  | some i => some i
  | none => if xs.length = m then none else some xs.length
theorem tdue_at {xs : List V} {m i : Nat} {x : V} (h : ∀ y ∈ xs.take i, isIntV y = true) (hx : xs[i]? = some x) (hb : isIntV x = false) : turnsDue xs m = some i := by
  have e : xs.findIdx? (fun x => !isIntV x) = some i := by
    rw [List.findIdx?_eq_some_iff_getElem]
    have hi := (List.getElem?_eq_some_iff.mp hx).1
    refine ⟨hi, ?_, fun j hj => ?_⟩
    · have := (List.getElem?_eq_some_iff.mp hx).2
      rw [this, hb]
      rfl
    · have hm : xs[j]'(by omega) ∈ xs.take i := by
        rw [List.mem_take_iff_getElem]
        exact ⟨j, by omega, rfl⟩
      rw [h _ hm]
      decide
  unfold turnsDue
  rw [e]
theorem tdue_len {xs : List V} {m : Nat} (h : ∀ y ∈ xs, isIntV y = true) : turnsDue xs m = if xs.length = m then none else some xs.length := by
  have e : xs.findIdx? (fun x => !isIntV x) = none := List.findIdx?_eq_none_iff.mpr fun x hx => by
    rw [h x hx]
    rfl
  unfold turnsDue
  rw [e]
section
variable {P : Program} {w : World} {K : PySem.W.Frag} {mg : Str → Option Value} {base : Heap}
def spNeedTu (K : PySem.W.Frag) (CB : Addr) : Sp := fun vs H Q E => ∃ (l c : Addr) (us xs : List V), vs = [.ref l, .ref c] ∧ SqL K H l us ∧ (SqL K H c xs ∨ SqT K H c xs) ∧ us.length ≤ 5000 ∧ xs.length ≤ 5000 ∧ (∀ x ∈ xs, NumX H x) ∧
  (∀ H', Same H H' → turnsDue xs us.length = none → Q .non H') ∧ ∀ (n : Nat) (d : Addr) (H' : Hp), turnsDue xs us.length = some n → H d = none → H' d = some (.xd [("number", .int (n : Int))]) → Same H H' → E (.ref CB) (some d) H'
abbrev nTu : List Str := ["ties", "turns", "at", "turn"]
theorem scTu : FnScope nTu ["ties", "turns"] (defScope sNeedTurns) := ⟨rfl, rfl, rfl, by decide +kernel, rfl, by decide +kernel, by decide +kernel⟩
theorem sq_ext {c : Addr} {xs : List V} {H H' : Hp} (h : SqL K H c xs ∨ SqT K H c xs) (s : Same H H') : SqL K H' c xs ∨ SqT K H' c xs := h.imp (fun h => h.elim (fun h => .inl (h.elim (fun h => .inl (s _ _ h)) fun ⟨o, h⟩ => .inr ⟨o, s _ _ h⟩)) .inr) fun h => h.elim (fun h => .inl (h.elim (fun h => .inl (s _ _ h)) fun ⟨o, h⟩ => .inr ⟨o, s _ _ h⟩)) .inr
theorem sq_l {c : Addr} {xs : List V} {H H' : Hp} (s : Same H H') (h : SqL K H c xs) : SqL K H' c xs := h.elim (fun h => .inl (h.elim (fun h => .inl (s _ _ h)) fun ⟨o, h⟩ => .inr ⟨o, s _ _ h⟩)) .inr
theorem sq_t {c : Addr} {xs : List V} {H H' : Hp} (s : Same H H') (h : SqT K H c xs) : SqT K H' c xs := h.elim (fun h => .inl (h.elim (fun h => .inl (s _ _ h)) fun ⟨o, h⟩ => .inr ⟨o, s _ _ h⟩)) .inr
theorem ok_needTu {f CB : Addr} {fd : FuncData} (F : Fun K "need_turns" "need_turns" sNeedTurns f fd) (Tl : mg "len" = none) (Te : mg "enumerate" = none) (T : TxtBad P w K mg base CB) (Gn : Def P w K mg base "is_integer" ["value"] 1 spInt) :
    FnOk P w K mg base (L2.CX P w) 4 f fd ["ties", "turns"] (spNeedTu K CB) := by
  obtain ⟨fn, fdn, Gn, mn, kn, bn⟩ := Gn.ex
  obtain ⟨fi, fdi, iC, tI, Gi, bi⟩ := T.ini
  refine okX (k := 3) F scTu (fun vs H Q E h => ?_) (fun cdv A outer s H vs Q E hr h => ?_)
  · obtain ⟨_, _, _, _, rfl, _⟩ := h
    rfl
  · obtain ⟨l, c, us, xs, rfl, hl, hc, hul, hxl, hxs, kq, ke⟩ := h
    have tk := takes_of (X := cxOf (L2.CX P w) P w K mg base nTu "need_turns" (defScope sNeedTurns) f cdv A outer s H E) (E := E) rfl rfl rfl rfl
    refine ⟨_, pss_cons (ps_for (passes_of rfl) rfl (pi_enumA (by rfl) Te (pa_cons (pv 1) pa_nil)) (pg_tup rfl (pgs_cons (pg_name (i := 2) scTu.nd rfl (.inl rfl)) (pgs_cons (pg_name (i := 3) scTu.nd rfl (.inl rfl)) pgs_nil)))
        (pss_one (ps_if (pt_not (pt_val (pe_call Gn (hr.mono (by decide)) (by rfl) mn kn bn .nil pass0 (pa_cons (pv 3) pa_nil)))) (pss_one (ps_raise rfl tk (pmk_oex T.oex iC tI Gi (hr.mono (by decide)) bi .nil pass0 (by rfl) T.mB (pa_cons (pv 2) pa_nil)))) pss_nil)))
      (pss_one (ps_if (pt_cmpR op_ne (pe_callB call_len_seq (by rfl) Tl PySem.boot_len (pa_cons (pv 1) pa_nil)) (pe_callB call_len_seq (by rfl) Tl PySem.boot_len (pa_cons (pv 0) pa_nil)) (nomark _))
        (pss_one (ps_raise rfl tk (pmk_oex T.oex iC tI Gi (hr.mono (by decide)) bi .nil pass0 (by rfl) T.mB (pa_cons (pe_callB call_len_seq (by rfl) Tl PySem.boot_len (pa_cons (pv 1) pa_nil)) pa_nil)))) pss_nil)), ?_⟩
    refine ⟨_, rfl, c, xs, rfl, ?_⟩
    have hc0 := hc
    rcases hc with hc | hc
    · refine .inl ⟨hc, ?_⟩
      refine for_it (walk_enum (xs := xs)) (fun i σ H2 => ∃ v2 v3, σ = [some (.ref l), some (.ref c), v2, v3] ∧ (∀ y ∈ xs.take i, isIntV y = true) ∧ Same H H2) ⟨none, none, rfl, by simp, fun b o e => e⟩ (fun i σ H2 _ ⟨_, _, _, _, h⟩ => (sq_l h hc)) ?_ ?_
      · rintro i x σ H2 H3 hi ⟨v2, v3, rfl, hok, s2⟩ ⟨T', x1, y1, rfl, hT, rfl, e1, e2⟩
        cases e1
        have sT := same_new (o := .tup [V.int (i : Nat), y1]) hT
        have s3 : Same H (upd H2 T' (.tup [V.int (i : Nat), y1])) := fun b o e => sT _ _ (s2 b o e)
        refine ⟨T', _, rfl, SqT.of upd_same, rfl, _, _, rfl, _, _, rfl, rfl, ?_⟩
        generalize upd H2 T' (.tup [V.int (i : Nat), y1]) = H4 at *
        refine ⟨_, rfl, y1, rfl, (hxs y1 (List.mem_of_getElem? e2)).ext s3, ?_⟩
        cases hn : isIntV y1 with
        | true =>
          refine ⟨_, rfl, iteF ⟨_, _, rfl, fun y hy => ?_, s3⟩⟩
          have e2 : xs[i]? = some y1 := e2
          rw [List.take_add_one, e2] at hy
          rcases List.mem_append.mp hy with z | z
          · exact hok y z
          · obtain rfl : y = y1 := by simpa using z
            exact hn
        | false =>
          exact ⟨_, rfl, iteT ⟨_, rfl, by show (1 : Nat) ≤ 1000; decide, fun a ha => raise_bad (by omega) ha s3 fun d H' h1 h2 h3 => ke i d H' (tdue_at hok e2 hn) h1 h2 h3⟩⟩
      · rintro σ H2 ⟨v2, v3, rfl, hok, s2⟩
        rw [List.take_length] at hok
        refine ⟨_, rfl, c, xs, rfl, sq_ext hc0 s2, _, rfl, l, us, rfl, .inl (sq_l s2 hl), rfl, _, rfl, ?_⟩
        show (if (!decide (V.int ((xs.length : Nat) : Int) = V.int ((us.length : Nat) : Int))) = true then _ else _)
        have hdue := tdue_len (m := us.length) hok
        by_cases hlen : xs.length = us.length
        · rw [if_pos hlen] at hdue
          rw [hlen, decide_eq_true rfl]
          exact iteF (kq _ s2 hdue)
        · rw [if_neg hlen] at hdue
          rw [decide_eq_false (fun e => hlen (by have := V.int.inj e; omega))]
          refine iteT ⟨_, rfl, c, xs, rfl, sq_ext hc0 s2, by show (1 : Nat) ≤ 1000; decide, fun a ha => raise_bad (by omega) ha s2 fun d H' h1 h2 h3 => ke _ d H' hdue h1 h2 h3⟩
    · refine .inr ⟨hc, ?_⟩
      refine for_it (walk_enT (xs := xs)) (fun i σ H2 => ∃ v2 v3, σ = [some (.ref l), some (.ref c), v2, v3] ∧ (∀ y ∈ xs.take i, isIntV y = true) ∧ Same H H2) ⟨none, none, rfl, by simp, fun b o e => e⟩ (fun i σ H2 _ ⟨_, _, _, _, h⟩ => (sq_t h hc)) ?_ ?_
      · rintro i x σ H2 H3 hi ⟨v2, v3, rfl, hok, s2⟩ ⟨T', x1, y1, rfl, hT, rfl, e1, e2⟩
        cases e1
        have sT := same_new (o := .tup [V.int (i : Nat), y1]) hT
        have s3 : Same H (upd H2 T' (.tup [V.int (i : Nat), y1])) := fun b o e => sT _ _ (s2 b o e)
        refine ⟨T', _, rfl, SqT.of upd_same, rfl, _, _, rfl, _, _, rfl, rfl, ?_⟩
        generalize upd H2 T' (.tup [V.int (i : Nat), y1]) = H4 at *
        refine ⟨_, rfl, y1, rfl, (hxs y1 (List.mem_of_getElem? e2)).ext s3, ?_⟩
        cases hn : isIntV y1 with
        | true =>
          refine ⟨_, rfl, iteF ⟨_, _, rfl, fun y hy => ?_, s3⟩⟩
          have e2 : xs[i]? = some y1 := e2
          rw [List.take_add_one, e2] at hy
          rcases List.mem_append.mp hy with z | z
          · exact hok y z
          · obtain rfl : y = y1 := by simpa using z
            exact hn
        | false =>
          exact ⟨_, rfl, iteT ⟨_, rfl, by show (1 : Nat) ≤ 1000; decide, fun a ha => raise_bad (by omega) ha s3 fun d H' h1 h2 h3 => ke i d H' (tdue_at hok e2 hn) h1 h2 h3⟩⟩
      · rintro σ H2 ⟨v2, v3, rfl, hok, s2⟩
        rw [List.take_length] at hok
        refine ⟨_, rfl, c, xs, rfl, sq_ext hc0 s2, _, rfl, l, us, rfl, .inl (sq_l s2 hl), rfl, _, rfl, ?_⟩
        show (if (!decide (V.int ((xs.length : Nat) : Int) = V.int ((us.length : Nat) : Int))) = true then _ else _)
        have hdue := tdue_len (m := us.length) hok
        by_cases hlen : xs.length = us.length
        · rw [if_pos hlen] at hdue
          rw [hlen, decide_eq_true rfl]
          exact iteF (kq _ s2 hdue)
        · rw [if_neg hlen] at hdue
          rw [decide_eq_false (fun e => hlen (by have := V.int.inj e; omega))]
          refine iteT ⟨_, rfl, c, xs, rfl, sq_ext hc0 s2, by show (1 : Nat) ≤ 1000; decide, fun a ha => raise_bad (by omega) ha s2 fun d H' h1 h2 h3 => ke _ d H' hdue h1 h2 h3⟩
end
end Nm
set_option maxRecDepth 100000
set_option maxHeartbeats 4000000
/-! a web by its names and widths; Web.width -/
namespace Nm
open PySem L2
/-- a web stands at p: its places, its widths -/
structure Net (C : Addr) (H : Hp) (p : Addr) (nm : List Str) (W : Str → Str → Str → Nat) : Prop where
  ex : ∃ (q dc r wd : Addr) (cl : List Str) (rs : List RowV), WebX C H p q dc r wd nm cl rs ∧ nm.length ≤ cl.length ∧ RowsFit nm.length rs ∧ W = wN nm rs
  nd : nm.Nodup
  le : nm.length ≤ 240
  two : ∀ a b k, W a b k ≤ 1000000
theorem Net.same {C : Addr} {H H' : Hp} {p : Addr} {nm : List Str} {W : Str → Str → Str → Nat} (h : Net C H p nm W) (s : Same H H') : Net C H' p nm W := by
  obtain ⟨⟨q, dc, r, wd, cl, rs, h1, h2, h3, h4⟩, nd, le, two⟩ := h
  exact ⟨⟨q, dc, r, wd, cl, rs, h1.same s, h2, h3, h4⟩, nd, le, two⟩
theorem Net.ins {C : Addr} {H : Hp} {p : Addr} {nm : List Str} {W : Str → Str → Str → Nat} (h : Net C H p nm W) : ∃ dx q dc r wd, H p = some (.ins C dx (webF dc q r wd)) := by
  obtain ⟨⟨q, dc, r, wd, cl, rs, h1, _⟩, _⟩ := h
  obtain ⟨dx, e⟩ := h1.hp
  exact ⟨dx, _, _, _, _, e⟩
section
variable {P : Program} {w : World} {K : PySem.W.Frag} {mg : Str → Option Value} {base : Heap}
/-- what Web.__contains__ tells of a name that is there -/
theorem Net.has {C : Addr} {H : Hp} {p : Addr} {nm : List Str} {W : Str → Str → Str → Nat} (h : Net C H p nm W) {z : Str} (hz : z ∈ nm) {Q : VK} {E : XK} (k : Q (.bl true) H) : spHas C [.ref p, .str z] H Q E := by
  obtain ⟨⟨q, dc, r, wd, cl, rs, h1, h2, _⟩, _⟩ := h
  exact ⟨p, q, dc, r, wd, nm, cl, rs, z, rfl, h1, h2, by rw [decide_eq_true hz]; exact k⟩
theorem Net.places {C : Addr} {H : Hp} {p : Addr} {nm : List Str} {W : Str → Str → Str → Nat} (h : Net C H p nm W) {Q : VK} {E : XK} (k : ∀ (l : Addr) (H' : Hp), H l = none → H' l = some (.lst (nm.map V.str)) → Same H H' → Q (.ref l) H') : spPlaces C [.ref p] H Q E := by
  obtain ⟨⟨q, dc, r, wd, cl, rs, h1, h2, _⟩, _, le, _⟩ := h
  exact ⟨p, q, dc, r, wd, nm, cl, rs, rfl, h1, by omega, k⟩
def spWidth (C : Addr) : Sp := fun vs H Q _ => ∃ (p : Addr) (nm : List Str) (W : Str → Str → Str → Nat) (a b kd : Str), vs = [.ref p, .str a, .str b, .str kd] ∧ Net C H p nm W ∧ a ∈ nm ∧ b ∈ nm ∧ ∀ u : Addr, H u = none → Q (.int (W a b kd : Nat)) (upd H u (.tup [.str a, .str b, .str kd]))
theorem scWidth : FnScope ["self", "one", "other", "kind"] ["self", "one", "other", "kind"] (defScope sWebWidth) := ⟨rfl, rfl, rfl, by decide +kernel, rfl, by decide +kernel, by decide +kernel⟩
theorem ok_width {f C : Addr} {fd : FuncData} (F : Fun K "width" "Web.width" sWebWidth f fd) (T : TxtW K mg C) (Gh : MethD P w K mg base C "__contains__" ["self", "name"] 1 (spHas C)) : FnOk P w K mg base CX0 2 f fd ["self", "one", "other", "kind"] (spWidth C) := by
  obtain ⟨fh, fdh, Gh, mh, bh⟩ := Gh.ex
  refine F.ok scWidth (fun vs H Q E h => ?_) (fun cdv A outer s H vs Q E hr h => ?_)
  · obtain ⟨_, _, _, _, _, _, rfl, _⟩ := h
    rfl
  · obtain ⟨p, nm, W, a, b, kd, rfl, N, ha, hb, k⟩ := h
    have hu := hu_of hr
    refine ⟨_, pss_cons (ps_if (pt_cmpR (op_notInOwn Gh mh (hr.mono (by decide)) bh pass0 spHas_mono) (pv 1) (pv 0) (by rfl)) pss_nope pss_nil)
      (pss_cons (ps_if (pt_cmpR (op_notInOwn Gh mh (hr.mono (by decide)) bh pass0 spHas_mono) (pv 2) (pv 0) (by rfl)) pss_nope pss_nil)
      (pss_cons (ps_if (pt_not (pt_val (pe_callB call_isi (by rfl) T.isinstance (by decide +kernel) (pa_cons (pv 3) (pa_cons (pe_bltn (v := .ty "str") (by rfl) T.str (by decide +kernel) rfl) pa_nil))))) (pss_one (ps_ret pe_int)) pss_nil)
      (pss_one (ps_ret (pe_dget2 hu (pe_fld (pv 0) rfl) (pe_tup (pa_cons (pv 1) (pa_cons (pv 2) (pa_cons (pv 3) pa_nil)))) pe_int ⟨rfl, rfl, rfl, rfl⟩))))), ?_⟩
    obtain ⟨dx, _, _, _, _, hp⟩ := N.ins
    refine ⟨_, rfl, _, rfl, p, dx, _, rfl, hp, N.has ha ⟨true, rfl, _, rfl, iteF ?_⟩⟩
    refine ⟨_, rfl, _, rfl, p, dx, _, rfl, hp, N.has hb ⟨true, rfl, _, rfl, iteF ?_⟩⟩
    refine ⟨_, rfl, _, _, _, _, true, rfl, ClsV.ty "str", TyX.base (TyOf.str kd), kit_ty (by decide +kernel), _, rfl, iteF ?_⟩
    obtain ⟨⟨q, dc, r, wd, cl, rs, WX, hc, FT, rfl⟩, nd, _, _⟩ := id N
    obtain ⟨dx2, hp2⟩ := WX.hp
    refine ⟨_, rfl, p, C, dx2, _, _, rfl, hp2, T.cl, T.nWi, rfl, wd, rfl, .inr ⟨_, .inl WX.hwd⟩, _, rfl, _, rfl, _, rfl, (by show 3 ≤ sizeLine; decide), fun u hu0 => ?_⟩
    have su := same_new (o := .tup [V.str a, V.str b, V.str kd]) hu0
    refine ⟨_, DGet.t (k := [Sum.inr a, Sum.inr b, Sum.inr kd]) (su _ _ WX.hwd) upd_same, ?_⟩
    rw [wid_at nd FT a b kd]
    exact k u hu0
end
end Nm
set_option maxRecDepth 100000
set_option maxHeartbeats 4000000
/-! t[lo:hi:st] of a tuple, any step but 0 and 1 -/
namespace Nm
open PySem PySem.Spec PyProof.Rows L2
def tupIx (lo hi : Option Int) (st : Int) (n : Nat) : List Nat := (List.range (Builtin.Slice.slicePlaces (Builtin.Slice.sliceAdjust lo hi st (n : Int)).1 (Builtin.Slice.sliceAdjust lo hi st (n : Int)).2 st)).map fun (m : Nat) => ((Builtin.Slice.sliceAdjust lo hi st (n : Int)).1 + (m : Int) * st).toNat
def cutS (xs : List V) (lo hi : Option Int) (st : Int) : List V := (tupIx lo hi st xs.length).filterMap (xs[·]?)
section
variable {prog : Program} {w : World} {A : Around} {E : Value → Shared → Prop} {s : Shared}
theorem getItem_tuple_step {t sl : Addr} {items : Array Value} {vl vu vs : Value} {lo hi : Option Int} {st : Int} {Q : Value → Shared → Prop} (ht : IsTup s.heap t items) (hs : s.heap.IsSliceOf sl vl vu vs) (pl : IsPart vl lo) (pu : IsPart vu hi) (ps : IsPart vs (some st))
    (h0 : st ≠ 0) (h1 : st ≠ 1)
    (h : Q (.ref s.heap.objs.size) { s with heap := s.heap.push { cls := .type "tuple", data := .seq ((tupIx lo hi st items.size).filterMap (items.toList[·]?)).toArray } })
    (hsz : ((tupIx lo hi st items.size).filterMap (items.toList[·]?)).length ≤ sizeLine) : wpAny (model prog w) A (getItem (.ref t) (.ref sl)) Q E s := by
  have htake : sizeOk (.seq ((tupIx lo hi st items.size).filterMap (items.toList[·]?)).toArray) := by
    show ((tupIx lo hi st items.size).filterMap (items.toList[·]?)).toArray.size ≤ sizeLine
    rw [List.size_toArray]
    exact hsz
  obtain ⟨os, hos, hcs, hds⟩ := id hs
  have hTs : s.TypeIs (.ref sl) "slice" := ⟨os, hos, hcs⟩
  unfold getItem
  try with_reducible refine wpAny_holding ?_
  first | refine wpAny_bind (wpAny_pure ?_) | skip
  refine wpAny_bind (wpAny_sequenceKey ht.typeIs (by decide) ?_)
  refine wpAny_bind (wpAny_callSpecial?_slot (name := Str.ofString "__getitem__") ht.typeIs PyProof.Rows.slot_tuple_getitem
    (wpAny_call_entry PyProof.Rows.slot_tuple_getitem ht.typeIs PyProof.Rows.entry_tuple_getitem ?_ (PyProof.Rows.args_tuple_getitem _ _)))
  show wpAny _ _ (Builtin.Tuple.tupleItemsOf (.ref t) >>= _) _ _ s
  refine wpAny_bind (PyProof.Rows.tupleItemsOf_ ht ?_)
  refine wpAny_bind (wpAny_typeOf hTs ?_)
  rw [if_pos (by decide)]
  have app : ∀ {A2 : Around} {R : Int × Int × Nat → Shared → Prop}, R ((Builtin.Slice.sliceAdjust lo hi st (items.size : Int)).1, st, Builtin.Slice.slicePlaces (Builtin.Slice.sliceAdjust lo hi st (items.size : Int)).1 (Builtin.Slice.sliceAdjust lo hi st (items.size : Int)).2 st) s → wpAny (model prog w) A2 (Builtin.Slice.sliceApplied (.ref sl) (pure (items.size : Int))) R E s := by
    intro A2 R hR
    unfold Builtin.Slice.sliceApplied Builtin.Slice.sliceFields
    refine wpAny_bind (wpAny_bind (wpAny_field hos hds (x := vl) rfl (wpAny_bind (wpAny_field hos hds (x := vu) rfl (wpAny_bind (wpAny_field hos hds (x := vs) rfl (wpAny_pure ?_)))))))
    refine wpAny_bind (HT.slicePart_ ps ?_)
    show wpAny _ _ (if (st == 0) = true then _ else _) _ _ s
    rw [if_neg (fun z => h0 (eq_of_beq z))]
    refine wpAny_bind (HT.slicePart_ pl (wpAny_bind (HT.slicePart_ pu (wpAny_bind (wpAny_pure ?_)))))
    exact wpAny_pure hR
  refine wpAny_bind (app ?_)
  have hno : ¬ (((Builtin.Slice.sliceAdjust lo hi st (items.size : Int)).1 == 0 && st == 1 && Builtin.Slice.slicePlaces (Builtin.Slice.sliceAdjust lo hi st (items.size : Int)).1 (Builtin.Slice.sliceAdjust lo hi st (items.size : Int)).2 st == items.size) = true) := by
    intro q
    rw [Bool.and_eq_true, Bool.and_eq_true] at q
    exact h1 (eq_of_beq q.1.2)
  have hpick : ((List.range (Builtin.Slice.slicePlaces (Builtin.Slice.sliceAdjust lo hi st (items.size : Int)).1 (Builtin.Slice.sliceAdjust lo hi st (items.size : Int)).2 st)).filterMap fun (m : Nat) => items[((Builtin.Slice.sliceAdjust lo hi st (items.size : Int)).1 + (m : Int) * st).toNat]?).toArray = ((tupIx lo hi st items.size).filterMap (items.toList[·]?)).toArray := by
    unfold tupIx
    rw [List.filterMap_map]
    congr 2
    funext m
    exact (Array.getElem?_toList).symm
  show wpAny _ _ (if ((Builtin.Slice.sliceAdjust lo hi st (items.size : Int)).1 == 0 && st == 1 && Builtin.Slice.slicePlaces (Builtin.Slice.sliceAdjust lo hi st (items.size : Int)).1 (Builtin.Slice.sliceAdjust lo hi st (items.size : Int)).2 st == items.size) = true then _ else _) _ _ s
  rw [if_neg hno, hpick]
  first
    | exact wpAny_bind (m := Builtin.Tuple.tupleExact _) (wpAny_newObj_type (wpAny_pure ⟨_, rfl, wpAny_pure h⟩) htake)
    | exact wpAny_bind (m := Builtin.Tuple.tupleExact _) (wpAny_newObj_type (wpAny_bind (wpAny_pure (wpAny_pure ⟨_, rfl, wpAny_pure h⟩))) htake)
    | exact wpAny_bind (wpAny_bind (m := Builtin.Tuple.tupleExact _) (wpAny_newObj_type (wpAny_pure (wpAny_pure ⟨_, rfl, wpAny_pure h⟩)) htake))
    | exact wpAny_bind (wpAny_bind (m := Builtin.Tuple.tupleExact _) (wpAny_newObj_type (wpAny_pure ⟨_, rfl, wpAny_pure h⟩) htake))
end
/-- t[lo::st] -/
def wStepT (K : PySem.W.Frag) (x : V) (lo o : Option Int) (H : Hp) (Q : VK) : Prop := ∃ a xs, x = .ref a ∧ o.isSome = true ∧ o.getD 1 ≠ 0 ∧ o.getD 1 ≠ 1 ∧ SqT K H a xs ∧ (cutS xs lo none (o.getD 1)).length ≤ sizeLine ∧ ∀ p, H p = none → Q (.ref p) (upd H p (.tup (cutS xs lo none (o.getD 1))))
def tStepT (K : PySem.W.Frag) (te : TE) (tl : TO) (ts : TE) : TE := fun σ H Q => te σ H fun x H1 => tl σ H1 fun lo H2 => ts σ H2 fun y H3 => ∃ st, y = .int st ∧ wStepT K x lo (some st) H3 Q
section
variable {X : Cx}
theorem pe_stepT {e es : PySem.Expr} {lo : Option PySem.Expr} {te ts : TE} {tl : TO} {p3 pos : Pos} (he : PE X e te) (hl : PO X lo tl) (hs : PE X es ts) : PE X (.Subscript e (.Slice lo none (some es) p3) pos) (tStepT X.K te tl ts) := by
  refine ⟨fun pins s σ H Q I h => ?_⟩
  refine Subscript_ (thn (he.run pins s σ H _ I h) fun v s1 ⟨x, H1, I1, r1, q1⟩ => ?_)
  refine wpAny_Slice (thn (hl.run pins s1 σ H1 _ I1 q1) fun vl s2 ⟨l, H2, I2, pl, q2⟩ => ?_)
  refine thn (po_none.run pins s2 σ H2 (fun o H3 => o = none ∧ H3 = H2) I2 ⟨rfl, rfl⟩) fun vu s3 ⟨u, H3, I3, pu, eu, e3⟩ => ?_
  subst eu e3
  refine thn ((po_some hs).run pins s3 σ H3 (fun o H4 => wStepT X.K x l o H4 Q) I3 q2) fun vs s4 ⟨o, H4, I4, ps, a, xs, ex, ho, h0, h1, hx, hz, q⟩ => ?_
  obtain ⟨st, rfl⟩ := Option.isSome_iff_exists.mp ho
  replace h0 : st ≠ 0 := h0
  replace h1 : st ≠ 1 := h1
  replace hz : (cutS xs l none st).length ≤ sizeLine := hz
  replace q : ∀ p, H4 p = none → Q (.ref p) (upd H4 p (.tup (cutS xs l none st))) := q
  subst ex
  cases r1
  have I5 : Inv X pins σ H4 { s4 with heap := s4.heap.push { cls := .type "slice", data := .fields #[vl, vu, vs] } } := I4.kept (t' := s4.toks) fun b ob q => Heap.get?_push_of_some _ q
  obtain ⟨its, r, ht, hz2⟩ := I5.tuple hx
  have hlen : its.toArray.size = xs.length := by rw [List.size_toArray]; exact r.length.symm
  have r2 : Vals (cutS xs l none st) ((tupIx l none st xs.length).filterMap (its[·]?)) := vals_filter _ r
  show wpAny (model X.prog X.w) X.A (subscriptTail e (.Slice lo none (some es) p3) (.ref a) (.ref s4.heap.objs.size)) (EP X pins σ Q) X.xe { s4 with heap := s4.heap.push { cls := .type "slice", data := .fields #[vl, vu, vs] } }
  refine tail_any (ops := [.ref a, .ref s4.heap.objs.size]) ht.typeIs PyProof.Rows.slot_tuple_getitem.lookup ?_ (by with_unfolding_all rfl)
  refine getItem_tuple_step ht (Heap.IsSliceOf.new _ vl vu vs) pl pu ps h0 h1 ?_ ?_
  · rw [hlen]
    refine ⟨.ref _, _, I5.laid (t' := s4.toks) (o := .tup (cutS xs l none st)) (fun b ob q => Heap.get?_push_of_some _ q) (Nat.le_refl _) ?_, rfl, q _ (I5.hok.fresh (Nat.le_refl _))⟩
    exact ⟨hz, _, r2, IsTup.new _ _⟩
  · rw [hlen]
    show ((tupIx l none st xs.length).filterMap (its[·]?)).length ≤ sizeLine
    rw [← r2.length]
    exact hz
end
/-! ### what is taken -/
theorem cutS_rev (xs : List V) : cutS xs none none (-1) = xs.reverse := by
  refine List.ext_getElem? fun i => ?_
  have e1 : Builtin.Slice.sliceAdjust none none (-1) (xs.length : Int) = ((xs.length : Int) - 1, -1) := rfl
  have e2 : Builtin.Slice.slicePlaces ((xs.length : Int) - 1) (-1) (-1) = xs.length := by
    unfold Builtin.Slice.slicePlaces
    rw [if_neg (by decide)]
    split
    · rw [show (-(-1) : Int) = 1 from rfl, Int.ediv_one]
      omega
    · omega
  have e3 : tupIx none none (-1) xs.length = (List.range xs.length).map fun m => xs.length - 1 - m := by
    unfold tupIx
    rw [e1]
    show (List.range (Builtin.Slice.slicePlaces ((xs.length : Int) - 1) (-1) (-1))).map _ = _
    rw [e2]
    refine List.map_congr_left fun m hm => ?_
    have := List.mem_range.mp hm
    show ((xs.length : Int) - 1 + (m : Int) * -1).toNat = _
    omega
  unfold cutS
  rw [e3]
  have e4 : ((List.range xs.length).map fun m => xs.length - 1 - m).filterMap (xs[·]?) = xs.reverse := by
    rw [List.filterMap_map]
    have : ∀ n, n ≤ xs.length → (List.range n).filterMap ((fun x => xs[x]?) ∘ fun m => xs.length - 1 - m) = xs.reverse.take n := fun n hn => by
      induction n with
      | zero => rfl
      | succ n ih =>
        rw [List.range_succ, List.filterMap_append, ih (by omega), List.take_add_one, List.getElem?_reverse (by omega)]
        obtain ⟨x, hx⟩ : ∃ x, xs[xs.length - 1 - n]? = some x := ⟨_, List.getElem?_eq_getElem (by omega)⟩
        simp [hx]
    rw [this _ (Nat.le_refl _), List.take_of_length_le (by simp)]
  rw [e4]
/-- every other one, from the second on -/
def oddV : List V → List V
  | _ :: y :: r => y :: oddV r
  | _ => []
theorem oddV_len : ∀ xs : List V, (oddV xs).length = xs.length / 2
  | [] => rfl
  | [_] => by simp [oddV]
  | _ :: _ :: r => by
    show (oddV r).length + 1 = (r.length + 1 + 1) / 2
    rw [oddV_len r]
    omega
theorem oddV_at : ∀ (xs : List V) (m : Nat), (oddV xs)[m]? = xs[2 * m + 1]?
  | [], m => by simp [oddV]
  | [_], m => by simp [oddV]
  | _ :: y :: r, 0 => rfl
  | _ :: y :: r, m + 1 => by
    show (oddV r)[m]? = _
    rw [oddV_at r m]
    rfl
theorem cutS_odd (xs : List V) (h : 1 ≤ xs.length) : cutS xs (some 1) none 2 = oddV xs := by
  have e1 : Builtin.Slice.sliceAdjust (some 1) none 2 (xs.length : Int) = (1, (xs.length : Int)) := by
    have : min (1 : Int) (xs.length : Int) = 1 := by omega
    show ((if (1 : Int) < 0 then max (1 + (xs.length : Int)) 0 else min 1 (xs.length : Int)), (xs.length : Int)) = _
    rw [if_neg (by decide), this]
  have e2 : Builtin.Slice.slicePlaces 1 (xs.length : Int) 2 = xs.length / 2 := by
    unfold Builtin.Slice.slicePlaces
    rw [if_pos (by decide)]
    split <;> omega
  have e3 : tupIx (some 1) none 2 xs.length = (List.range (xs.length / 2)).map fun m => 2 * m + 1 := by
    unfold tupIx
    rw [e1]
    show (List.range (Builtin.Slice.slicePlaces 1 (xs.length : Int) 2)).map _ = _
    rw [e2]
    refine List.map_congr_left fun m hm => ?_
    show (1 + (m : Int) * 2).toNat = _
    omega
  unfold cutS
  rw [e3, List.filterMap_map]
  have : ∀ n, n ≤ xs.length / 2 → (List.range n).filterMap ((fun x => xs[x]?) ∘ fun m => 2 * m + 1) = (oddV xs).take n := fun n hn => by
    induction n with
    | zero => rfl
    | succ n ih =>
      rw [List.range_succ, List.filterMap_append, ih (by omega), List.take_add_one, oddV_at]
      obtain ⟨x, hx⟩ : ∃ x, xs[2 * n + 1]? = some x := ⟨_, List.getElem?_eq_getElem (by omega)⟩
      simp [hx]
  rw [this _ (Nat.le_refl _), List.take_of_length_le (by rw [oddV_len]; exact Nat.le_refl _)]
end Nm
set_option maxRecDepth 100000
set_option maxHeartbeats 4000000
/-! need_way, way_product -/
namespace Nm
open PySem L2
/-- a way as it is told -/
def wayL : Str → Steps → List Str
  | a, [] => [a]
  | a, s :: r => a :: s.1 :: wayL s.2 r
theorem wayL_len : ∀ (a : Str) (l : Steps), (wayL a l).length = 2 * l.length + 1
  | _, [] => rfl
  | a, s :: r => by
    show (wayL s.2 r).length + 1 + 1 = 2 * (r.length + 1) + 1
    rw [wayL_len s.2 r]
    omega
theorem wayL_head : ∀ (a : Str) (l : Steps), ∃ r, wayL a l = a :: r
  | a, [] => ⟨_, rfl⟩
  | a, s :: r => ⟨_, rfl⟩
theorem wayL_drop : ∀ (a : Str) (l : Steps) (i : Nat), i ≤ l.length → (wayL a l).drop (2 * i) = wayL (lastW a (l.take i)) (l.drop i)
  | a, l, 0, _ => rfl
  | a, [], i + 1, h => by simp at h
  | a, s :: r, i + 1, h => by
    show (wayL s.2 r).drop (2 * i) = _
    rw [wayL_drop s.2 r i (by simpa using h), List.take_succ_cons, lastW_cons]
    rfl
theorem wayL_at {a : Str} {l : Steps} {i : Nat} {s : Str × Str} (h : l[i]? = some s) : ∃ r, (wayL a l).drop (2 * i) = lastW a (l.take i) :: s.1 :: s.2 :: r := by
  have hi := (List.getElem?_eq_some_iff.mp h).1
  rw [wayL_drop a l i (by omega)]
  have e : l.drop i = s :: l.drop (i + 1) := by
    rw [List.drop_eq_getElem_cons hi]
    congr 1
    exact (List.getElem?_eq_some_iff.mp h).2
  rw [e]
  obtain ⟨r, hr⟩ := wayL_head s.2 (l.drop (i + 1))
  exact ⟨r, by show lastW a (l.take i) :: s.1 :: wayL s.2 (l.drop (i + 1)) = _; rw [hr]⟩
theorem wayL_snoc : ∀ (a : Str) (l : Steps) (s : Str × Str), wayL a (l ++ [s]) = wayL a l ++ [s.1, s.2]
  | a, [], s => rfl
  | a, b :: l, s => by
    show a :: b.1 :: wayL b.2 (l ++ [s]) = a :: b.1 :: (wayL b.2 l ++ [s.1, s.2])
    rw [wayL_snoc b.2 l s]
def wayV (a : Str) (l : Steps) : List V := (wayL a l).map V.str
theorem wayV_len (a : Str) (l : Steps) : (wayV a l).length = 2 * l.length + 1 := by unfold wayV; rw [List.length_map, wayL_len]
theorem wayV_get {a : Str} {l : Steps} {i : Nat} {s : Str × Str} (h : l[i]? = some s) : (wayV a l)[2 * i]? = some (.str (lastW a (l.take i))) ∧ (wayV a l)[2 * i + 1]? = some (.str s.1) ∧ (wayV a l)[2 * i + 2]? = some (.str s.2) := by
  obtain ⟨r, hr⟩ := wayL_at (a := a) h
  have g : ∀ j, (wayL a l)[2 * i + j]? = (lastW a (l.take i) :: s.1 :: s.2 :: r)[j]? := fun j => by rw [← hr, List.getElem?_drop]
  unfold wayV
  rw [List.getElem?_map, List.getElem?_map, List.getElem?_map, g 1, g 2]
  have := g 0
  rw [Nat.add_zero] at this
  rw [this]
  exact ⟨rfl, rfl, rfl⟩
theorem wayV_last (a : Str) (l : Steps) : (wayV a l)[2 * l.length]? = some (.str (lastW a l)) := by
  have g : (wayL a l)[2 * l.length]? = ((wayL a l).drop (2 * l.length))[0]? := by rw [List.getElem?_drop, Nat.add_zero]
  unfold wayV
  rw [List.getElem?_map, g, wayL_drop a l l.length (Nat.le_refl _), List.take_length, List.drop_length]
  rfl
theorem wayV_cut {a : Str} {l : Steps} {i : Nat} {s : Str × Str} (h : l[i]? = some s) : cutV (wayV a l) (some ((2 * (i : Int)))) (some (2 * (i : Int) + 3)) = [.str (lastW a (l.take i)), .str s.1, .str s.2] := by
  obtain ⟨r, hr⟩ := wayL_at (a := a) h
  have hi := (List.getElem?_eq_some_iff.mp h).1
  unfold cutV
  have e1 : HT.sIx (wayV a l).length 0 (some (2 * (i : Int))) = 2 * i := by
    unfold HT.sIx
    simp only
    rw [if_neg (by omega), wayV_len]
    omega
  have e2 : HT.sIx (wayV a l).length (wayV a l).length (some (2 * (i : Int) + 3)) = 2 * i + 3 := by
    unfold HT.sIx
    simp only
    rw [if_neg (by omega), wayV_len]
    omega
  rw [e1, e2]
  unfold wayV
  rw [← List.map_drop, hr, show 2 * i + 3 - 2 * i = 3 by omega]
  rfl
theorem cut_whole {xs : List V} {lo hi : Option Int} (h : HT.sIx xs.length 0 lo = 0 ∧ HT.sIx xs.length xs.length hi = xs.length) : cutV xs lo hi = xs := by
  unfold cutV
  rw [h.1, h.2]
  simp
theorem WayOk.mid {A : List Str} {W : Str → Str → Str → Nat} : ∀ {a : Str} {l : Steps} (i : Nat), WayOk A W a l → lastW a (l.take i) ∈ A
  | a, l, 0, h => h.head
  | a, [], i + 1, h => h
  | a, b :: l, i + 1, h => by
    rw [List.take_succ_cons, lastW_cons]
    exact h.2.2.mid i
theorem slA_of {K : PySem.W.Frag} {lo hi : Option Int} {H : Hp} {Q : VK} {a : Addr} {xs : List V} (hx : H a = some (.tup xs)) (k : ∀ (q : Addr) (H' : Hp), Same H H' → H' q = some (.tup (cutV xs lo hi)) → Q (.ref q) H') : rSlA K (.ref a) lo hi H Q :=
  ⟨a, xs, rfl, SqT.of hx, fun w => k a H (fun _ _ e => e) (by rw [cut_whole w]; exact hx), fun _ p hp => k p _ (same_new hp) upd_same⟩
theorem rg2 : ∀ k : Nat, k < 10 → RgC 1 (2 * (k : Int) + 1) 2 k := by
  intro k hk
  have : k = 0 ∨ k = 1 ∨ k = 2 ∨ k = 3 ∨ k = 4 ∨ k = 5 ∨ k = 6 ∨ k = 7 ∨ k = 8 ∨ k = 9 := by omega
  rcases this with rfl | rfl | rfl | rfl | rfl | rfl | rfl | rfl | rfl | rfl <;> exact ⟨by decide, by decide, by decide +kernel, by decide +kernel⟩
section
variable {P : Program} {w : World} {K : PySem.W.Frag} {mg : Str → Option Value} {base : Heap}
def spNeedWay (C : Addr) : Sp := fun vs H Q _ => ∃ (p t : Addr) (nm : List Str) (W : Str → Str → Str → Nat) (a : Str) (l : Steps), vs = [.ref p, .ref t] ∧ Net C H p nm W ∧ H t = some (.tup (wayV a l)) ∧ WayOk nm W a l ∧ l.length ≤ 8 ∧ ∀ H', Same H H' → Q .non H'
abbrev nNy : List Str := ["web", "way", "word", "number", "one", "kind", "other"]
theorem scNy : FnScope nNy ["web", "way"] (defScope sNeedWay) := ⟨rfl, rfl, rfl, by decide +kernel, rfl, by decide +kernel, by decide +kernel⟩
theorem ok_needWay {f C : Addr} {fd : FuncData} (F : Fun K "need_way" "need_way" sNeedWay f fd) (T : TxtW K mg C) (Gh : MethD P w K mg base C "__contains__" ["self", "name"] 1 (spHas C)) (Gw : MethD P w K mg base C "width" ["self", "one", "other", "kind"] 2 (spWidth C)) : FnOk P w K mg base CX0 3 f fd ["web", "way"] (spNeedWay C) := by
  obtain ⟨fh, fdh, Gh, mh, bh⟩ := Gh.ex
  obtain ⟨fw, fdw, Gw, mw, bw⟩ := Gw.ex
  refine F.ok scNy (fun vs H Q E h => ?_) (fun cdv A outer s H vs Q E hr h => ?_)
  · obtain ⟨_, _, _, _, _, _, rfl, _⟩ := h
    rfl
  · obtain ⟨p, t, nm, W, a, l, rfl, N, ht, ok, hl8, k⟩ := h
    have hu := hu_of hr
    refine ⟨_, Evl.pss_cut (ps_if (PW.pt (pw_or (pt_not (pt_val (pe_callB call_isi (by rfl) T.isinstance (by decide +kernel) (pa_cons (pv 1) (pa_cons (pe_bltn (v := .ty "tuple") (by rfl) T.tuple (by decide +kernel) rfl) pa_nil))))) (pw_or (pt_cmpR op_eq (pe_op op_mod (pe_callB call_len_seq (by rfl) T.len PySem.boot_len (pa_cons (pv 1) pa_nil)) pe_int) pe_int (nomark _)) (pw_or1 (pt_not (pt_val (pe_callB (cr_all rfl) (by rfl) T.all (by decide +kernel) (pa_cons (pe_lc (own := [("word", 2)]) (g := gName 2) (tt := tYes) (te := tCB (rIsi K) (tCons (tVar 2) (tCons (tC (.ty "str")) tNil))) rfl scNy.nd (pi_tup (pv 1))
          (blkOk_by (N := nNy) (sc := defScope sNeedWay) (by decide +kernel)) (fun _ _ _ _ _ => pg_name (i := 2) scNy.nd rfl (Or.inl rfl)) (fun _ _ _ _ _ => pts_nil)
          (fun _ _ _ _ _ => by exact pe_callB call_isi (by rfl) T.isinstance (by decide +kernel) (pa_cons (pv 2) (pa_cons (pe_bltn (v := .ty "str") (by rfl) T.str (by decide +kernel) rfl) pa_nil)))) pa_nil)))))))) pss_nope pss_nil)
      (pss_cons (ps_if (pt_cmpR (op_notInOwn Gh mh (hr.mono (by decide)) bh pass0 spHas_mono) (pe_ix ix_tup (pv 1) pe_int (fun _ _ => rfl)) (pv 0) (by rfl)) pss_nope pss_nil)
      (pss_one (ps_for PassesOwn.never rfl (pi_range1 (by rfl) T.range (pa_cons (pe_op op_fdiv (pe_callB call_len_seq (by rfl) T.len PySem.boot_len (pa_cons (pv 1) pa_nil)) pe_int) pa_nil)) (pg_name (i := 3) scNy.nd rfl (Or.inl rfl))
        (pss_cons (ps_asg (pe_slice sl_tupA (pv 1) (po_some (pe_op op_mul pe_int (pv 3))) (po_some (pe_op op_add (pe_op op_mul pe_int (pv 3)) pe_int))) (pg_tup rfl (pgs_cons (pg_name (i := 4) scNy.nd rfl (.inl rfl)) (pgs_cons (pg_name (i := 5) scNy.nd rfl (.inl rfl)) (pgs_cons (pg_name (i := 6) scNy.nd rfl (.inl rfl)) pgs_nil)))))
        (pss_one (ps_if (PW.pt (pw_or (pt_cmpR (op_notInOwn Gh mh (hr.mono (by decide)) bh pass0 spHas_mono) (pv 6) (pv 0) (by rfl)) (pw_or1 (pt_cmpR op_eq (pe_meth (pv 0) T.cl mw Gw hr bw .nil pass0 (pa_cons (pv 4) (pa_cons (pv 6) (pa_cons (pv 5) pa_nil)))) pe_int (nomark _))))) pss_nope pss_nil)))))), ?_⟩
    have hlen := wayV_len a l
    refine ⟨fun σ H1 => σ = [some (.ref p), some (.ref t), none, none, none, none, none] ∧ Same H H1, ?_, ?_⟩
    · refine ⟨_, rfl, _, _, _, _, true, rfl, ClsV.ty "tuple", TyX.base (TyOf.tup ht), kit_ty (by decide +kernel), _, rfl, iteF ?_⟩
      refine ⟨_, rfl, t, _, rfl, .inr (SqT.of ht), ?_⟩
      rw [hlen]
      refine ⟨_, _, rfl, rfl, (by show (0 : Int) < 2; decide), rfl, _, rfl, ?_⟩
      have e1 : decide (V.int (((2 * l.length + 1 : Nat) : Int) % 2) = V.int 0) = false := decide_eq_false fun z => by
        injection z with z
        omega
      rw [e1]
      refine iteF ?_
      refine ⟨_, rfl, t, rfl, ⟨_, SqT.of ht⟩, fun D hD => ?_⟩
      refine lc_tup (xs := wayV a l) (fun i H1 => ∃ bs : List Bool, H1 D = some (.lst (bs.map V.bl)) ∧ bs.length = i ∧ (∀ b ∈ bs, b = true) ∧ Same H H1) ⟨[], upd_same, rfl, (fun b hb => (List.not_mem_nil hb).elim), same_new hD⟩ (fun i H1 _ ⟨_, _, _, _, h⟩ => SqT.of (h _ _ ht)) ?_ ?_
      · rintro i x H1 hi ⟨bs, hD1, hbl, hbt, s1⟩
        have hil := (List.getElem?_eq_some_iff.mp hi).1
        rw [hlen] at hil
        unfold wayV at hi
        rw [List.getElem?_map] at hi
        obtain ⟨z, hz, rfl⟩ := Option.map_eq_some_iff.mp hi
        refine ⟨rfl, tyes ?_⟩
        refine ⟨_, rfl, _, _, _, _, true, rfl, ClsV.ty "str", TyX.base (TyOf.str z), kit_ty (by decide +kernel), _, hD1, Evl.sz_lt (by rw [List.length_map]; omega), bs ++ [true], ?_, by simp [hbl], ?_, fun b o e => ?_⟩
        · rw [upd_same, List.map_append]
          rfl
        · intro b hb
          rcases List.mem_append.mp hb with q | q
          · exact hbt b q
          · exact List.mem_singleton.mp q
        · rw [upd_ne (ne_of_none e hD)]
          exact s1 b o e
      · rintro H1 ⟨bs, hD1, hbl, hbt, s1⟩
        refine ⟨D, bs, rfl, SqL.of hD1, ?_⟩
        have : bs.all id = true := List.all_eq_true.mpr fun b hb => hbt b hb
        rw [this]
        exact ⟨_, rfl, iteF ⟨rfl, s1⟩⟩
    rintro σ H1 ⟨rfl, s1⟩
    have N1 := N.same s1
    have ht1 := s1 _ _ ht
    obtain ⟨dx, _, _, _, _, hp1⟩ := N1.ins
    have h0 : (wayV a l)[0]? = some (.str a) := by
      obtain ⟨r, hr⟩ := wayL_head a l
      unfold wayV
      rw [hr]
      rfl
    refine ⟨_, rfl, t, _, 0, _, rfl, rfl, SqT.of ht1, atI_nat (j := 0) h0, _, rfl, p, dx, _, rfl, hp1, N1.has ok.head ⟨true, rfl, _, rfl, iteF ?_⟩⟩
    refine ⟨_, rfl, t, _, rfl, .inr (SqT.of ht1), ?_⟩
    rw [hlen]
    have hdiv : ((2 * l.length + 1 : Nat) : Int) / 2 = (l.length : Nat) := by omega
    refine ⟨_, _, rfl, rfl, ⟨by omega, by omega⟩, _, rfl, ?_⟩
    rw [hdiv]
    refine ⟨by omega, by omega, ?_⟩
    refine for_range (lo := 0) (n := ((l.length : Nat) : Int).toNat) (fun i σ H2 => ∃ v3 v4 v5 v6, σ = [some (.ref p), some (.ref t), none, v3, v4, v5, v6] ∧ Same H H2) ⟨none, none, none, none, rfl, s1⟩ ?_ ?_
    · rintro i σ H2 hi ⟨v3, v4, v5, v6, rfl, s2⟩
      have hil : i < l.length := by omega
      obtain ⟨st, hst⟩ : ∃ st, l[i]? = some st := ⟨_, List.getElem?_eq_getElem hil⟩
      obtain ⟨m1, m2⟩ := ok.at hst
      rw [Int.zero_add]
      refine ⟨_, rfl, _, rfl, _, _, rfl, rfl, .inl (by decide), _, rfl, _, rfl, _, _, rfl, rfl, .inl (by decide), _, _, rfl, rfl, _, rfl, slA_of (s2 _ _ ht) fun q H3 s3 hq => ?_⟩
      rw [wayV_cut hst] at hq
      have s23 := s2.trans s3
      have N3 := N.same s23
      obtain ⟨dx3, _, _, _, _, hp3⟩ := N3.ins
      refine ⟨q, _, rfl, SqT.of hq, rfl, _, _, rfl, _, _, rfl, _, _, rfl, rfl, ?_⟩
      refine ⟨_, rfl, _, rfl, p, dx3, _, rfl, hp3, N3.has m1 ⟨true, rfl, _, rfl, iteF ?_⟩⟩
      refine ⟨_, rfl, p, dx3, _, rfl, hp3, rfl, _, rfl, _, rfl, _, rfl, p, nm, W, _, _, _, rfl, N3, ok.mid i, m1, fun u hu0 => ?_⟩
      have e1 : decide (V.int (W (lastW a (l.take i)) st.2 st.1 : Nat) = V.int 0) = false := decide_eq_false fun z => by
        injection z with z
        omega
      refine ⟨rfl, _, rfl, ?_⟩
      rw [e1]
      exact iteF ⟨_, _, _, _, rfl, s23.trans (same_new hu0)⟩
    · rintro σ H2 ⟨v3, v4, v5, v6, rfl, s2⟩
      exact k H2 s2
/-! ### way_product -/
def spWayP (C : Addr) : Sp := fun vs H Q _ => ∃ (p t : Addr) (nm : List Str) (W : Str → Str → Str → Nat) (a : Str) (l : Steps), vs = [.ref p, .ref t] ∧ Net C H p nm W ∧ H t = some (.tup (wayV a l)) ∧ WayOk nm W a l ∧ l.length ≤ 8 ∧ (∀ i, prodW W a (l.take i) ≤ 100000) ∧ ∀ H', Same H H' → Q (.int (prodW W a l : Nat)) H'
abbrev nWP : List Str := ["web", "way", "result", "at"]
theorem scWP : FnScope nWP ["web", "way"] (defScope sWayProduct) := ⟨rfl, rfl, rfl, by decide +kernel, rfl, by decide +kernel, by decide +kernel⟩
theorem ok_wayP {f C : Addr} {fd : FuncData} (F : Fun K "way_product" "way_product" sWayProduct f fd) (T : TxtW K mg C) (Gn : Def P w K mg base "need_way" ["web", "way"] 3 (spNeedWay C)) (Gw : MethD P w K mg base C "width" ["self", "one", "other", "kind"] 2 (spWidth C)) : FnOk P w K mg base CX0 4 f fd ["web", "way"] (spWayP C) := by
  obtain ⟨fn, fdn, Gn, mn, kn, bn⟩ := Gn.ex
  obtain ⟨fw, fdw, Gw, mw, bw⟩ := Gw.ex
  refine F.ok scWP (fun vs H Q E h => ?_) (fun cdv A outer s H vs Q E hr h => ?_)
  · obtain ⟨_, _, _, _, _, _, rfl, _⟩ := h
    rfl
  · obtain ⟨p, t, nm, W, a, l, rfl, N, ht, ok, hl8, hpr, k⟩ := h
    have hu := hu_of hr
    refine ⟨_, pss_cons (ps_expr (pe_call Gn hr (by rfl) mn kn bn .nil pass0 (pa_cons (pv 0) (pa_cons (pv 1) pa_nil))))
      (pss_cons (ps_set (i := 2) scWP.nd rfl (Or.inl rfl) pe_int)
      (pss_cons (ps_for PassesOwn.never rfl (pi_range3 (by rfl) T.range (pa_cons pe_int (pa_cons (pe_callB call_len_seq (by rfl) T.len PySem.boot_len (pa_cons (pv 1) pa_nil)) (pa_cons pe_int pa_nil)))) (pg_name (i := 3) scWP.nd rfl (Or.inl rfl))
        (pss_one (ps_set (i := 2) scWP.nd rfl (Or.inl rfl) (pe_op op_mul (pv 2) (pe_meth (pv 0) T.cl mw Gw (hr.mono (by decide)) bw .nil pass0 (pa_cons (pe_ix ix_tup (pv 1) (pe_op op_sub (pv 3) pe_int) (fun _ _ => rfl)) (pa_cons (pe_ix ix_tup (pv 1) (pe_op op_add (pv 3) pe_int) (fun _ _ => rfl)) (pa_cons (pe_ix ix_tup (pv 1) (pv 3) (fun _ _ => rfl)) pa_nil))))))))
      (pss_one (ps_ret (pv 2))))), ?_⟩
    have hlen := wayV_len a l
    refine ⟨_, rfl, _, rfl, p, t, nm, W, a, l, rfl, N, ht, ok, hl8, fun H1 s1 => ?_⟩
    refine ⟨_, rfl, t, _, rfl, .inr (SqT.of (s1 _ _ ht)), ?_⟩
    rw [hlen]
    refine ⟨_, _, _, _, rfl, (by have := rg2 l.length (by omega); rw [show ((2 * l.length + 1 : Nat) : Int) = 2 * (l.length : Int) + 1 by omega]; exact this), ?_⟩
    refine for_rangeC (lo := 1) (c := 2) (n := l.length) (fun i σ H2 => ∃ v3, σ = [some (.ref p), some (.ref t), some (.int (prodW W a (l.take i) : Nat)), v3] ∧ Same H H2) ⟨none, rfl, s1⟩ ?_ ?_
    · rintro i σ H2 hil ⟨v3, rfl, s2⟩
      obtain ⟨st, hst⟩ : ∃ st, l[i]? = some st := ⟨_, List.getElem?_eq_getElem hil⟩
      obtain ⟨m1, m2⟩ := ok.at hst
      obtain ⟨g1, g2, g3⟩ := wayV_get (a := a) hst
      have N2 := N.same s2
      obtain ⟨dx2, _, _, _, _, hp2⟩ := N2.ins
      have ht2 := s2 _ _ ht
      have i1 : (1 + (i : Nat) * 2 - 1 : Int) = ((2 * i : Nat) : Int) := by omega
      have i2 : (1 + (i : Nat) * 2 + 1 : Int) = ((2 * i + 2 : Nat) : Int) := by omega
      have i3 : (1 + (i : Nat) * 2 : Int) = ((2 * i + 1 : Nat) : Int) := by omega
      have hp1 := hpr i
      have hp2' := N.two (lastW a (l.take i)) st.2 st.1
      refine ⟨_, rfl, _, rfl, p, dx2, _, rfl, hp2, rfl, _, rfl, _, rfl, _, _, rfl, rfl, t, _, _, V.str (lastW a (l.take i)), rfl, rfl, SqT.of ht2, (by rw [i1]; exact atI_nat g1), _, rfl, _, rfl, _, _, rfl, rfl, t, _, _, V.str st.2, rfl, rfl, SqT.of ht2, (by rw [i2]; exact atI_nat g3), _, rfl, _, rfl, t, _, _, V.str st.1, rfl, rfl, SqT.of ht2, (by rw [i3]; exact atI_nat g2), ?_⟩
      have e4 : prodW W a (l.take (i + 1)) = prodW W a (l.take i) * W (lastW a (l.take i)) st.2 st.1 := by
        rw [List.take_add_one, hst]
        exact prodW_snoc W a (l.take i) st
      refine ⟨p, nm, W, _, _, _, rfl, N2, ok.mid i, m1, fun u hu0 => ⟨_, _, rfl, rfl, .inl ⟨by omega, by omega⟩, ?_⟩⟩
      refine ⟨some (.int (1 + (i : Nat) * 2)), ?_, s2.trans (same_new hu0)⟩
      rw [e4, Int.natCast_mul]
      rfl
    · rintro σ H2 ⟨v3, rfl, s2⟩
      rw [List.take_length]
      exact ⟨_, rfl, k H2 s2⟩
end
end Nm
set_option maxRecDepth 100000
set_option maxHeartbeats 4000000
namespace Nm
open PySem L2
theorem tNil_in {σ : L2.St} {H : Hp} {k : List V → Hp → Prop} (h : k [] H) : tNil σ H k := h
section
variable {P : Program} {w : World} {K : PySem.W.Frag} {mg : Str → Option Value} {base : Heap}
/-! ### places_over -/
def spPO (C : Addr) : Sp := fun vs H Q _ => ∃ (ov we fo : Addr) (nm' nm : List Str) (W' W : Str → Str → Str → Nat) (fkv : List (Key × V)) (g : Str → Str), vs = [.ref ov, .ref we, .ref fo] ∧ Net C H ov nm' W' ∧ Net C H we nm W ∧ H fo = some (.dK fkv) ∧
  (∀ x ∈ nm', valV fkv (Sum.inr x) = some (V.str (g x)) ∧ g x ∈ nm) ∧
  ∀ (D : Addr) (as : List Addr) (H' : Hp), H D = none → H' D = some (.dK (poKV nm as)) → as.length = nm.length → (∀ (q : Nat) (a : Addr) (y : Str), as[q]? = some a → nm[q]? = some y → H a = none ∧ H' a = some (.lst ((overL nm' g y).map V.str))) → Same H H' → Q (.ref D) H'
abbrev nPO : List Str := ["over", "web", "folding", "found", "name", "place"]
theorem scPO : FnScope nPO ["over", "web", "folding"] (defScope sPlacesOver) := ⟨rfl, rfl, rfl, by decide +kernel, rfl, by decide +kernel, by decide +kernel⟩
theorem ok_placesOver {f C : Addr} {fd : FuncData} (F : Fun K "places_over" "places_over" sPlacesOver f fd) (T : TxtW K mg C) (Gm : MethD P w K mg base C "places" ["self"] 1 (spPlaces C)) : FnOk P w K mg base CX0 2 f fd ["over", "web", "folding"] (spPO C) := by
  obtain ⟨fm, fdm, Gm, mm, bm⟩ := Gm.ex
  refine F.ok scPO (fun vs H Q E h => ?_) (fun cdv A outer s H vs Q E hr h => ?_)
  · obtain ⟨_, _, _, _, _, _, _, _, _, rfl, _⟩ := h
    rfl
  · obtain ⟨ov, we, fo, nm', nm, W', W, fkv, g, rfl, hov, hwe, hfo, hg, k⟩ := h
    have nd := hwe.nd
    have hn := hwe.le
    have hn' := hov.le
    have hu := hu_of hr
    refine ⟨_, Evl.pss_cut (ps_setDc (n := 3) (own := [("place", 5)]) (g := gName 5) (tt := tYes) rfl scPO.nd rfl rfl (sw_dict rfl rfl rfl (by decide +kernel)) (pi_list (pe_meth0 (pv 1) T.cl mm Gm hr bm .nil pass0))
        (blkOk_by (N := nPO) (sc := defScope sPlacesOver) (by decide +kernel)) (fun _ _ _ _ _ => pg_name (i := 5) scPO.nd rfl (Or.inl rfl)) (fun _ _ _ _ _ => pts_nil) (fun _ _ _ _ _ => pv 5) (fun _ _ _ _ _ => pe_lst pa_nil))
      (pss_cons (ps_for PassesOwn.never rfl (pi_list (pe_meth0 (pv 0) T.cl mm Gm hr bm .nil pass0)) (pg_name (i := 4) scPO.nd rfl (.inl rfl))
        (pss_one (ps_expr (pe_bm PySem.F.plainAttrs_list PySem.F.slot_list_append PySem.F.type_list_append mt_append (pe_dget hu (pv 3) (pe_dget hu (pv 2) (pv 4) (fun _ _ => rfl)) (fun _ _ => rfl)) (pa_cons (pv 4) pa_nil)))))
      (pss_one (ps_ret (pv 3)))), ?_⟩
    refine ⟨fun σ H1 => ∃ D as, σ = [some (.ref ov), some (.ref we), some (.ref fo), some (.ref D), none, none] ∧ H D = none ∧ H1 D = some (.dK (poKV nm as)) ∧ as.length = nm.length ∧ as.Nodup ∧ (∀ a ∈ as, H a = none ∧ H1 a = some (.lst [])) ∧ Same H H1, ?_, ?_⟩
    · obtain ⟨dw, _, _, _, _, hw1⟩ := hwe.ins
      refine ⟨_, rfl, we, dw, _, rfl, hw1, rfl, ?_⟩
      refine tNil_in (hwe.places fun r H1 hr0 hr1 s1 => ?_)
      refine ⟨r, rfl, ⟨_, SqL.of hr1⟩, fun D hD => ?_⟩
      have hD0 := s1.free hD
      refine dc_walk (walk_list (xs := nm.map V.str)) (fun i H2 => ∃ as, H2 D = some (.dK (poKV (nm.take i) as)) ∧ as.length = (nm.take i).length ∧ as.Nodup ∧ (∀ a ∈ as, H a = none ∧ H2 a = some (.lst [])) ∧ Same H1 H2) ⟨[], upd_same, rfl, List.nodup_nil, (fun a ha => (List.not_mem_nil ha).elim), same_new hD⟩ (fun i H2 _ ⟨_, _, _, _, _, h⟩ => SqL.of (h _ _ hr1)) ?_ ?_
      · rintro i x H2 H3 hi ⟨as, hD2, hal, hand, hae, s2⟩ ⟨rfl, hx⟩
        rw [List.length_map] at hi
        rw [List.getElem?_map] at hx
        obtain ⟨y, hy, rfl⟩ := Option.map_eq_some_iff.mp hx
        refine ⟨rfl, tyes ?_⟩
        refine ⟨_, rfl, (by show 0 ≤ sizeLine; decide), fun u hu' => ?_⟩
        have su := same_new (o := .lst []) hu'
        have nuD : u ≠ D := fun e => by subst e; rw [hD2] at hu'; cases hu'
        have hua : u ∉ as := fun hm => by have := (hae u hm).2; rw [hu'] at this; cases this
        have hnew : valV (poKV (nm.take i) as) (Sum.inr y) = none := nm_new nd hy (po_keys hal)
        have hkl : (poKV (nm.take i) as).length ≤ i := by
          unfold poKV
          rw [List.length_map, List.length_zip, List.length_take]
          omega
        refine ⟨_, Sum.inr y, rfl, su _ _ hD2, Evl.sz_lt (by omega), as ++ [u], ?_, ?_, ?_, ?_, fun b o e => ?_⟩
        · rw [upd_same, putK_new _ hnew, List.take_add_one, hy]
          unfold poKV
          rw [Option.toList_some, List.zip_append hal.symm, List.map_append]
          rfl
        · rw [List.take_add_one, hy]
          simp [hal]
        · rw [List.nodup_append]
          refine ⟨hand, by simp, fun a ha b hb e => ?_⟩
          rw [List.mem_singleton] at hb
          subst hb e
          exact hua ha
        · intro a ha
          rcases List.mem_append.mp ha with z | z
          · have na : a ≠ D := ne_of (hae a z).2 hD2 (by intro z; cases z)
            exact ⟨(hae a z).1, by rw [upd_ne na]; exact su _ _ (hae a z).2⟩
          · rw [List.mem_singleton] at z
            subst z
            exact ⟨(s1.trans s2).free hu', by rw [upd_ne nuD]; exact upd_same⟩
        · rw [upd_ne (ne_of_none e hD)]
          exact su _ _ (s2 b o e)
      · rintro H2 ⟨as, hD2, hal, hand, hae, s2⟩
        rw [List.length_map, List.take_of_length_le (Nat.le_refl _)] at hD2 hal
        exact ⟨D, as, rfl, hD0, hD2, hal, hand, hae, s1.trans s2⟩
    rintro σ H1 ⟨D, as, rfl, hD0, hD1, hal, hand, hae, s1⟩
    obtain ⟨dw, _, _, _, _, hw1⟩ := (hov.same s1).ins
    refine ⟨_, rfl, ov, dw, _, rfl, hw1, rfl, ?_⟩
    refine tNil_in ((hov.same s1).places fun r H2 hr0 hr2 s2 => ?_)
    refine ⟨r, rfl, ⟨_, SqL.of hr2⟩, ?_⟩
    have hr00 := s1.free hr0
    have s12 := s1.trans s2
    have hra : ∀ a ∈ as, r ≠ a := fun a ha e => by subst e; rw [(hae r ha).2] at hr0; cases hr0
    refine for_list (xs := nm'.map V.str) (fun i σ H3 => ∃ v4, σ = [some (.ref ov), some (.ref we), some (.ref fo), some (.ref D), v4, none] ∧ H3 D = some (.dK (poKV nm as)) ∧ H3 r = some (.lst (nm'.map V.str)) ∧ (∀ (q : Nat) (a : Addr) (y : Str), as[q]? = some a → nm[q]? = some y → H3 a = some (.lst ((overL (nm'.take i) g y).map V.str))) ∧ Same H H3)
      ⟨none, rfl, s2 _ _ hD1, hr2, fun q a y ha _ => s2 _ _ (hae a (List.mem_of_getElem? ha)).2, s12⟩ (fun i σ H3 _ ⟨_, _, _, h, _, _⟩ => SqL.of h) ?_ ?_
    · rintro i v σ H3 hi ⟨v4, rfl, hD3, hr3, hq3, s3⟩
      have hil := (List.getElem?_eq_some_iff.mp hi).1
      rw [List.length_map] at hil
      rw [List.getElem?_map] at hi
      obtain ⟨x, hx, rfl⟩ := Option.map_eq_some_iff.mp hi
      obtain ⟨hg1, hg2⟩ := hg x (List.mem_of_getElem? hx)
      obtain ⟨q, hq⟩ := List.getElem?_of_mem hg2
      have hql := (List.getElem?_eq_some_iff.mp hq).1
      obtain ⟨a, ha⟩ : ∃ a, as[q]? = some a := ⟨_, List.getElem?_eq_getElem (by omega)⟩
      have ha3 := hq3 q a _ ha hq
      have d1 : DGet H3 fo (V.str x) (some (V.str (g x))) := by rw [← hg1]; exact DGet.k (k := Sum.inr x) (s3 _ _ hfo)
      have d2 : DGet H3 D (V.str (g x)) (some (V.ref a)) := by rw [← po_at hal nd hq ha]; exact DGet.k (k := Sum.inr (g x)) hD3
      refine ⟨_, rfl, _, rfl, _, rfl, fo, _, rfl, d1, D, _, rfl, d2, .inl ⟨rfl, _, SqL.of ha3⟩, _, rfl, a, _, _, rfl, rfl, ha3, Evl.sz_lt (by rw [List.length_map]; have := overL_len (nm'.take i) g (g x); rw [List.length_take] at this; omega), ?_⟩
      have naD : a ≠ D := ne_of ha3 hD3 (by intro z; cases z)
      refine ⟨_, rfl, by rw [upd_ne naD.symm]; exact hD3, by rw [upd_ne (hra a (List.mem_of_getElem? ha))]; exact hr3, fun q' a' y' ha' hy' => ?_, fun b o e => ?_⟩
      · by_cases e : q' = q
        · subst e
          rw [ha] at ha'
          cases ha'
          rw [hq] at hy'
          cases hy'
          rw [upd_same, overL_yes hx rfl, List.map_append]
          rfl
        · have naa : a' ≠ a := fun z => by
            subst z
            have h1 := (List.getElem?_eq_some_iff.mp ha').1
            exact e ((List.getElem?_inj h1 hand).mp (by rw [ha, ha']))
          have nyy : ¬ g x = y' := fun z => by
            subst z
            have h1 := (List.getElem?_eq_some_iff.mp hy').1
            exact e ((List.getElem?_inj h1 nd).mp (by rw [hq, hy']))
          rw [upd_ne naa, overL_no hx nyy]
          exact hq3 q' a' y' ha' hy'
      · rw [upd_ne (ne_of_none e (hae a (List.mem_of_getElem? ha)).1)]
        exact s3 b o e
    · rintro σ H3 ⟨v4, rfl, hD3, hr3, hq3, s3⟩
      rw [List.length_map, List.take_of_length_le (Nat.le_refl _)] at hq3
      exact ⟨_, rfl, k D as H3 hD0 hD3 hal (fun q a y ha hy => ⟨(hae a (List.mem_of_getElem? ha)).1, hq3 q a y ha hy⟩) s3⟩
end
end Nm
set_option maxRecDepth 100000
set_option maxHeartbeats 4000000
/-! dict(zip(a list, a list or a tuple)), of one length -/
namespace Nm
open PySem PySem.Spec PyProof.Rows L2
/-- at i an iterator over the list or tuple at l, k turns on -/
def It2 (h : Heap) (i l : Addr) (k : Nat) (ys : Array Value) : Prop := (h.IsListIter i l k ∧ h.IsList l ys) ∨ (h.IsTupleIter i l k ∧ h.IsTuple l ys)
theorem It2.there {h : Heap} {i l : Addr} {k : Nat} {ys : Array Value} (x : It2 h i l k ys) : (∃ o, h.get? i = some o) ∧ ∃ o, h.get? l = some o := by
  rcases x with ⟨⟨o, e, _⟩, ⟨u, f, _⟩⟩ | ⟨⟨o, e, _⟩, ⟨u, f, _⟩⟩ <;> exact ⟨⟨o, e⟩, ⟨u, f⟩⟩
theorem It2.goes {h h' : Heap} {i l : Addr} {k : Nat} {ys : Array Value} (x : It2 h i l k ys) (a : ∀ o, h.get? i = some o → h'.get? i = some o) (b : ∀ o, h.get? l = some o → h'.get? l = some o) : It2 h' i l k ys := by
  rcases x with ⟨⟨o, e, r⟩, ⟨u, f, q⟩⟩ | ⟨⟨o, e, r⟩, ⟨u, f, q⟩⟩
  · exact .inl ⟨⟨o, a o e, r⟩, ⟨u, b u f, q⟩⟩
  · exact .inr ⟨⟨o, a o e, r⟩, ⟨u, b u f, q⟩⟩
section
variable {P : Program} {w : World} {A : Around} {E : Value → Shared → Prop} {s : Shared} {z TI TO T i1 i2 l1 l2 : Addr} {xs ys : Array Value}
theorem it2_next {k : Nat} {y : Value} {Q : Value → Shared → Prop} (x : It2 s.heap i2 l2 k ys) (n : l2 ≠ i2) (hy : ys[k]? = some y) (hQ : ∀ h', It2 h' i2 l2 (k + 1) ys → Heap.SameBut i2 s.heap h' → Q y { s with heap := h' }) :
    wpAny (model P w) A (Builtin.SmallTypes.nextOf (.ref i2)) Q E s := by
  rcases x with ⟨a, b⟩ | ⟨a, b⟩
  · exact wpAny_nextOf_list_item a b hy fun h' c sb => hQ h' (.inl ⟨c, b.extBut sb.extBut n⟩) sb
  · exact RZ.nextOf_tuple_item a b hy fun h' c sb => hQ h' (.inr ⟨c, b.extBut sb.extBut n⟩) sb
/-- the first turn: the zip's own pair is handed out -/
theorem zm_first {k : Nat} {x y a b : Value} {Q : Value → Shared → Prop} (D : ZipApart z TI TO i1 i2 l1 l2) (hz : IsZip s.heap z TI TO .none) (hTI : IsPair s.heap TI (.ref i1) (.ref i2)) (hTO : IsPair s.heap TO a b)
    (g1 : s.heap.IsListIter i1 l1 k) (g2 : It2 s.heap i2 l2 k ys) (gl : s.heap.IsList l1 xs) (hx : xs[k]? = some x) (hy : ys[k]? = some y)
    (hQ : ∀ h', IsZip h' z TI TO (rawInt s.heap.objs.size) → IsPair h' TO x y → h'.IsListIter i1 l1 (k + 1) → It2 h' i2 l2 (k + 1) ys → IsPair h' s.heap.objs.size x y → h'.objs.size = s.heap.objs.size + 1 →
      (∀ c o, c ≠ z → c ≠ TO → c ≠ i1 → c ≠ i2 → s.heap.get? c = some o → h'.get? c = some o) → Q (.ref s.heap.objs.size) { s with heap := h' }) :
    wpAny (model P w) A (Builtin.«zip.__next__» ⟨[.ref z], []⟩) (fun fin s' => ∃ v, fin = .done (.ret v) ∧ Q v s') E s := by
  show wpAny _ _ (field (.ref z) 2 >>= _) _ _ _
  refine wpAny_bind (wpAny_field hz rfl (x := .bool false) rfl ?_)
  show wpAny _ _ (field (.ref z) 3 >>= _) _ _ _
  refine wpAny_bind (wpAny_field hz rfl (x := .ref TI) rfl (wpAny_bind (wpAny_seqItems hTI rfl ?_)))
  show wpAny _ _ (Builtin.SmallTypes.ownedTupleIsFree (.ref z) >>= _) _ _ _
  refine wpAny_bind ?_
  unfold Builtin.SmallTypes.ownedTupleIsFree
  refine wpAny_bind (wpAny_field hz rfl (x := .none) rfl (wpAny_pure ?_))
  simp only [if_true]
  refine wpAny_bind (wpAny_rule (wpAny_bind (wpAny_field hz rfl (x := .ref TO) rfl (wpAny_bind (wpAny_setField_rec hz (by simp) fun ha za sa => ?_)))))
  replace za : IsZip ha z TI TO .ellipsis := za
  refine wpAny_bind ?_
  simp only [List.zipIdx_cons, List.zipIdx_nil, List.forIn_cons, List.forIn_nil]
  refine wpAny_bind (wpAny_bind (wpAny_onRaise ?_))
  show wpAny _ _ (Builtin.SmallTypes.nextOf (.ref i1) >>= _) _ _ _
  refine wpAny_bind (wpAny_nextOf_list_item (g1.extBut sa.extBut D.i1z) (gl.extBut sa.extBut D.l1z) hx fun hb gb sb => wpAny_pure ?_)
  have tb : IsPair hb TO a b := sb.extBut _ _ D.TOi1 (sa.extBut _ _ D.TOz hTO)
  refine wpAny_bind (wpAny_seqItems tb rfl (wpAny_bind (wpAny_updateSeq_pair tb fun hc tc sc => ?_)))
  replace tc : IsPair hc TO x b := tc
  refine wpAny_bind (wpAny_letGo (wpAny_pure ?_))
  refine wpAny_bind (wpAny_bind (wpAny_onRaise ?_))
  show wpAny _ _ (Builtin.SmallTypes.nextOf (.ref i2) >>= _) _ _ _
  have g2c : It2 hc i2 l2 k ys := g2.goes (fun o e => sc.extBut _ _ D.TOi2.symm (sb.extBut _ _ D.i12.symm (sa.extBut _ _ D.i2z e))) fun o e => sc.extBut _ _ D.l2TO (sb.extBut _ _ D.l2i1 (sa.extBut _ _ D.l2z e))
  refine wpAny_bind (it2_next (s := { s with heap := hc }) g2c D.l2i2 hy fun hd gd sd => wpAny_pure ?_)
  have td : IsPair hd TO x b := sd.extBut _ _ D.TOi2 tc
  refine wpAny_bind (wpAny_seqItems td rfl (wpAny_bind (wpAny_updateSeq_pair td fun he te se => ?_)))
  replace te : IsPair he TO x y := te
  refine wpAny_bind (wpAny_letGo (wpAny_pure (wpAny_pure ?_)))
  refine wpAny_bind (wpAny_seqItems te rfl (wpAny_bind (wpAny_newTuple ?_)))
  have size : he.objs.size = s.heap.objs.size := by rw [se.1, sd.1, sc.1, sb.1, sa.1]
  have ze : IsZip he z TI TO .ellipsis := se.extBut _ _ D.TOz.symm (sd.extBut _ _ D.i2z.symm (sc.extBut _ _ D.TOz.symm (sb.extBut _ _ D.i1z.symm za)))
  have ke : ∀ c o, c ≠ z → c ≠ TO → c ≠ i1 → c ≠ i2 → s.heap.get? c = some o → he.get? c = some o := fun c o n1 n2 n3 n4 e => se.extBut _ _ n2 (sd.extBut _ _ n4 (sc.extBut _ _ n2 (sb.extBut _ _ n3 (sa.extBut _ _ n1 e))))
  have ge : he.IsListIter i1 l1 (k + 1) := ((gb.extBut sc.extBut D.TOi1.symm).extBut sd.extBut D.i12).extBut se.extBut D.TOi1.symm
  have g2e : It2 he i2 l2 (k + 1) ys := gd.goes (fun o e => se.extBut _ _ D.TOi2.symm e) fun o e => se.extBut _ _ D.l2TO e
  have zlt : z < he.objs.size := Heap.lt_size ze
  show wpAny _ _ (Builtin.SmallTypes.ownedTupleHandOut (.ref z) (.ref he.objs.size) >>= _) _ _ _
  refine wpAny_bind ?_
  unfold Builtin.SmallTypes.ownedTupleHandOut
  have zf : IsZip (he.push { cls := .type "tuple", data := .seq #[x, y] }) z TI TO .ellipsis := Heap.get?_push_of_some _ ze
  refine wpAny_bind (wpAny_setField_rec zf (by simp) fun hg zg sg => ?_)
  replace zg : IsZip hg z TI TO (rawInt he.objs.size) := zg
  refine wpAny_setField_rec zg (by simp) fun hi zi si => ?_
  replace zi : IsZip hi z TI TO (rawInt he.objs.size) := zi
  have up : ∀ c o, c ≠ z → he.get? c = some o → hi.get? c = some o := fun c o n e => si.extBut _ _ n (sg.extBut _ _ n (Heap.get?_push_of_some _ e))
  have Ti : IsPair hi he.objs.size x y := si.extBut _ _ (Nat.ne_of_gt zlt) (sg.extBut _ _ (Nat.ne_of_gt zlt) (Heap.get?_push_size _ rfl))
  have sz : hi.objs.size = he.objs.size + 1 := by rw [si.1, sg.1, Heap.size_push]
  rw [size] at zi Ti sz
  refine wpAny_pure ⟨_, rfl, ?_⟩
  show Q (.ref he.objs.size) _
  rw [size]
  exact hQ hi zi (up _ _ D.TOz te) (ge.at fun o e => up _ o D.i1z e) (g2e.goes (fun o e => up _ o D.i2z e) fun o e => up _ o D.l2z e) Ti sz fun c o n1 n2 n3 n4 e => up c o n1 (ke c o n1 n2 n3 n4 e)
/-- a later turn, the pair held elsewhere: a new one -/
theorem zm_later {k : Nat} {f : Bool} {oT : Obj} {x y : Value} {Q : Value → Shared → Prop} (D : ZipApart z TI TO i1 i2 l1 l2) (hz : IsZipHeld s.heap z TI TO T f) (hT : s.heap.get? T = some oT) (hTI : IsPair s.heap TI (.ref i1) (.ref i2))
    (g1 : s.heap.IsListIter i1 l1 k) (g2 : It2 s.heap i2 l2 k ys) (gl : s.heap.IsList l1 xs) (hx : xs[k]? = some x) (hy : ys[k]? = some y)
    (hQ : ∀ h', IsZipHeld h' z TI TO T true → h'.IsListIter i1 l1 (k + 1) → It2 h' i2 l2 (k + 1) ys → IsPair h' s.heap.objs.size x y → (∀ c o, c ≠ z → c ≠ i1 → c ≠ i2 → s.heap.get? c = some o → h'.get? c = some o) → Q (.ref s.heap.objs.size) { s with heap := h' }) :
    wpAny (model P w) A (Builtin.«zip.__next__» ⟨[.ref z], []⟩) (fun fin s' => ∃ v, fin = .done (.ret v) ∧ Q v s') E s := by
  show wpAny _ _ (field (.ref z) 2 >>= _) _ _ _
  refine wpAny_bind (wpAny_field hz rfl (x := .bool false) rfl ?_)
  show wpAny _ _ (field (.ref z) 3 >>= _) _ _ _
  refine wpAny_bind (wpAny_field hz rfl (x := .ref TI) rfl (wpAny_bind (wpAny_seqItems hTI rfl ?_)))
  show wpAny _ _ (Builtin.SmallTypes.ownedTupleIsFree (.ref z) >>= _) _ _ _
  refine wpAny_bind (wpAny_tupleHeld_zip hz hT fun ha za sa => ?_)
  simp only [Bool.false_eq_true, if_false]
  refine wpAny_bind ?_
  rw [← Array.forIn_toList]
  simp only [List.forIn_cons, List.forIn_nil]
  refine wpAny_bind (wpAny_bind (wpAny_holding ?_))
  show wpAny _ _ (Builtin.SmallTypes.nextOf (.ref i1) >>= _) _ _ _
  refine wpAny_bind (wpAny_nextOf_list_item (s := { s with heap := ha }) (g1.extBut sa.extBut D.i1z) (gl.extBut sa.extBut D.l1z) hx fun hb gb sb => wpAny_pure (wpAny_pure ?_))
  refine wpAny_bind (wpAny_bind (wpAny_holding ?_))
  show wpAny _ _ (Builtin.SmallTypes.nextOf (.ref i2) >>= _) _ _ _
  have g2b : It2 hb i2 l2 k ys := g2.goes (fun o e => sb.extBut _ _ D.i12.symm (sa.extBut _ _ D.i2z e)) fun o e => sb.extBut _ _ D.l2i1 (sa.extBut _ _ D.l2z e)
  refine wpAny_bind (it2_next (s := { s with heap := hb }) g2b D.l2i2 hy fun hc gc sc => wpAny_pure (wpAny_pure (wpAny_pure ?_)))
  show wpAny _ _ (newTuple [x, y] >>= _) _ _ _
  refine wpAny_bind (wpAny_newTuple ?_)
  have size : hc.objs.size = s.heap.objs.size := by rw [sc.1, sb.1, sa.1]
  have zc : IsZipHeld hc z TI TO T true := sc.extBut _ _ D.i2z.symm (sb.extBut _ _ D.i1z.symm za)
  have kc : ∀ c o, c ≠ z → c ≠ i1 → c ≠ i2 → s.heap.get? c = some o → hc.get? c = some o := fun c o n1 n2 n3 e => sc.extBut _ _ n3 (sb.extBut _ _ n2 (sa.extBut _ _ n1 e))
  have gc1 : hc.IsListIter i1 l1 (k + 1) := gb.extBut sc.extBut D.i12
  refine wpAny_pure ⟨_, rfl, ?_⟩
  show Q (.ref hc.objs.size) _
  have np : IsPair (hc.push { cls := .type "tuple", data := .seq #[x, y] }) hc.objs.size x y := Heap.get?_push_size _ rfl
  rw [size] at np ⊢
  exact hQ _ (Heap.get?_push_of_some _ zc) (gc1.at fun o e => Heap.get?_push_of_some _ e) (gc.goes (fun o e => Heap.get?_push_of_some _ e) fun o e => Heap.get?_push_of_some _ e) np fun c o n1 n2 n3 e => Heap.get?_push_of_some _ (kc c o n1 n2 n3 e)
/-- the end: the list has no more -/
theorem zm_end {k : Nat} {f : Bool} {oT : Obj} {Q : PySem.Fin → Shared → Prop} (hh : A.handled = none) (D : ZipApart z TI TO i1 i2 l1 l2) (hz : IsZipHeld s.heap z TI TO T f) (hT : s.heap.get? T = some oT) (hTI : IsPair s.heap TI (.ref i1) (.ref i2))
    (g1 : s.heap.IsListIter i1 l1 k) (gl : s.heap.IsList l1 xs) (hx : xs[k]? = none)
    (hE : ∀ h' e, (∀ c o, c ≠ z → c ≠ i1 → c ≠ i2 → s.heap.get? c = some o → h'.get? c = some o) → (∃ o, h'.get? e = some o ∧ o.cls = .type "StopIteration") → E (.ref e) { s with heap := h' }) :
    wpAny (model P w) A (Builtin.«zip.__next__» ⟨[.ref z], []⟩) Q E s := by
  show wpAny _ _ (field (.ref z) 2 >>= _) _ _ _
  refine wpAny_bind (wpAny_field hz rfl (x := .bool false) rfl ?_)
  show wpAny _ _ (field (.ref z) 3 >>= _) _ _ _
  refine wpAny_bind (wpAny_field hz rfl (x := .ref TI) rfl (wpAny_bind (wpAny_seqItems hTI rfl ?_)))
  show wpAny _ _ (Builtin.SmallTypes.ownedTupleIsFree (.ref z) >>= _) _ _ _
  refine wpAny_bind (wpAny_tupleHeld_zip hz hT fun ha za sa => ?_)
  simp only [Bool.false_eq_true, if_false]
  refine wpAny_bind ?_
  rw [← Array.forIn_toList]
  simp only [List.forIn_cons, List.forIn_nil]
  refine wpAny_bind (wpAny_bind (wpAny_holding ?_))
  show wpAny _ _ (Builtin.SmallTypes.nextOf (.ref i1) >>= _) _ _ _
  refine wpAny_bind (wpAny_nextOf_list_end (s := { s with heap := ha }) hh (g1.extBut sa.extBut D.i1z) (gl.extBut sa.extBut D.l1z) hx fun hb e sb st => ?_)
  exact hE hb e (fun c o n1 n2 _ q => sb _ _ n2 (sa.extBut _ _ n1 q)) st
/-- the five objects of zip(a list, a tuple) -/
def zmHeap (h : Heap) (l1 l2 : Addr) : Heap := ((((h.push { cls := .type "list_iterator", data := .fields #[.ref l1, .int 0 0] }).push { cls := .type "tuple_iterator", data := .fields #[.ref l2, .int 0 0] }).push
  { cls := .type "tuple", data := .seq #[.ref h.objs.size, .ref (h.objs.size + 1)] }).push { cls := .type "tuple", data := .seq #[.none, .none] }).push { cls := .type "zip", data := .fields #[.none, .bool false, .bool false, .ref (h.objs.size + 2), .ref (h.objs.size + 3)] }
theorem zm_new (l1 l2 : Addr) (xs ys : Array Value) :
    Meets (Builtin.«zip.__new__» ⟨[.type "zip", .ref l1, .ref l2], []⟩) (fun _ R s => s.heap.IsList l1 xs ∧ s.heap.IsTuple l2 ys ∧ R (.ok (.ret (.ref (s.heap.objs.size + 4)))) { s with heap := zmHeap s.heap l1 l2 }) :=
  .of_wp fun prog w A R s h => by
    obtain ⟨hp, g, d, tk, os⟩ := s
    obtain ⟨a1, a2, h⟩ := h
    have b1 : Heap.IsList (Shared.heap ⟨hp, g, d, tk, os⟩) l1 xs := a1
    have b2 : Heap.IsTuple (Shared.heap ⟨hp.push { cls := .type "list_iterator", data := .fields #[.ref l1, .int 0 0] }, g, d, tk, os⟩) l2 ys := Heap.IsTuple.push a2 _
    have hsub := sub_zip
    unfold zmHeap at h
    wp_walk using wpAny_pyIter_list b1, wpAny_pyIter_tuple b2
    refine ⟨_, rfl, ?_⟩
    simp only [Heap.size_push, Nat.add_assoc, Nat.reduceAdd]
    exact h
theorem zm_call {Q : Value → Shared → Prop} (gl : s.heap.IsList l1 xs) (g2 : s.heap.IsList l2 ys ∨ s.heap.IsTuple l2 ys)
    (h : ∀ h', IsZip h' (s.heap.objs.size + 4) (s.heap.objs.size + 2) (s.heap.objs.size + 3) .none → IsPair h' (s.heap.objs.size + 2) (.ref s.heap.objs.size) (.ref (s.heap.objs.size + 1)) → IsPair h' (s.heap.objs.size + 3) .none .none →
      h'.IsListIter s.heap.objs.size l1 0 → It2 h' (s.heap.objs.size + 1) l2 0 ys → h'.objs.size = s.heap.objs.size + 5 → (∀ c o, s.heap.get? c = some o → h'.get? c = some o) → Q (.ref (s.heap.objs.size + 4)) { s with heap := h' }) :
    wpAny (model P w) A (call (.type "zip") [.ref l1, .ref l2]) Q E s := by
  rcases g2 with g2 | g2
  · exact call_zip_2 gl g2 fun h' a b c d e f k => h h' a b c d (.inl ⟨e, g2.at fun o q => k _ o q⟩) f k
  · refine callType_new F.called_zip (by decide) (F.typeCall_zip_2 _ _) (F.newCall_zip_2 _ _) (fun obj => F.args_object_init_3 obj _ _) F.entry_zip_new (zm_new l1 l2 xs ys) ⟨gl, g2, ?_⟩
    have up : ∀ c o, s.heap.get? c = some o → (zmHeap s.heap l1 l2).get? c = some o := fun c o q => by
      unfold zmHeap
      exact Heap.get?_push_of_some _ (Heap.get?_push_of_some _ (Heap.get?_push_of_some _ (Heap.get?_push_of_some _ (Heap.get?_push_of_some _ q))))
    have p0 : (zmHeap s.heap l1 l2).get? s.heap.objs.size = some { cls := .type "list_iterator", data := .fields #[.ref l1, .int 0 0] } := by
      unfold zmHeap
      exact Heap.get?_push_of_some _ (Heap.get?_push_of_some _ (Heap.get?_push_of_some _ (Heap.get?_push_of_some _ (Heap.get?_push_size _ rfl))))
    have p1 : (zmHeap s.heap l1 l2).get? (s.heap.objs.size + 1) = some { cls := .type "tuple_iterator", data := .fields #[.ref l2, .int 0 0] } := by
      unfold zmHeap
      exact Heap.get?_push_of_some _ (Heap.get?_push_of_some _ (Heap.get?_push_of_some _ (Heap.get?_push_at (by simp only [Heap.size_push]) rfl)))
    have p2 : (zmHeap s.heap l1 l2).get? (s.heap.objs.size + 2) = some { cls := .type "tuple", data := .seq #[.ref s.heap.objs.size, .ref (s.heap.objs.size + 1)] } := by
      unfold zmHeap
      exact Heap.get?_push_of_some _ (Heap.get?_push_of_some _ (Heap.get?_push_at (by simp only [Heap.size_push]) rfl))
    have p3 : (zmHeap s.heap l1 l2).get? (s.heap.objs.size + 3) = some { cls := .type "tuple", data := .seq #[.none, .none] } := by
      unfold zmHeap
      exact Heap.get?_push_of_some _ (Heap.get?_push_at (by simp only [Heap.size_push]) rfl)
    have p4 : (zmHeap s.heap l1 l2).get? (s.heap.objs.size + 4) = some { cls := .type "zip", data := .fields #[.none, .bool false, .bool false, .ref (s.heap.objs.size + 2), .ref (s.heap.objs.size + 3)] } := by
      unfold zmHeap
      exact Heap.get?_push_at (by simp only [Heap.size_push]) rfl
    exact ⟨⟨_, p4, rfl⟩, h _ p4 p2 p3 ⟨_, p0, rfl, rfl⟩ (.inr ⟨⟨_, p1, rfl, rfl⟩, g2.at fun o q => up _ o q⟩) (by unfold zmHeap; simp only [Heap.size_push]) up⟩
/-- such a zip as dict's argument -/
theorem zm_arg (D : ZipApart z TI TO i1 i2 l1 l2) (same : xs.size = ys.size) (pos : 0 < xs.size) :
    PairArg P w "zip" z [z, TI, TO, i1, i2, l1, l2] [z, TO, i1, i2] xs.size (fun i k v => xs[i]? = some k ∧ ys[i]? = some v)
      (fun h => IsZip h z TI TO .none ∧ IsPair h TI (.ref i1) (.ref i2) ∧ (∃ a b, IsPair h TO a b) ∧ h.IsListIter i1 l1 0 ∧ It2 h i2 l2 0 ys ∧ h.IsList l1 xs) where
  type := fun s ok => ⟨_, ok.1, rfl⟩
  notDict := by decide
  keep := fun h h' ok up => by
    obtain ⟨a1, a2, ⟨a, b, a3⟩, a4, a5, a6⟩ := ok
    exact ⟨up _ _ a1, up _ _ a2, ⟨a, b, up _ _ a3⟩, a4.at fun o e => up _ o e, a5.goes (fun o e => up _ o e) fun o e => up _ o e, a6.at fun o e => up _ o e⟩
  there := fun h ok b hb => by
    obtain ⟨a1, a2, ⟨a, c, a3⟩, ⟨o1, a4, _⟩, a5, ⟨o3, a6, _⟩⟩ := ok
    obtain ⟨⟨o2, q2⟩, ⟨o4, q4⟩⟩ := a5.there
    simp only [List.mem_cons, List.not_mem_nil, or_false] at hb
    rcases hb with rfl | rfl | rfl | rfl | rfl | rfl | rfl
    · exact ⟨_, a1⟩
    · exact ⟨_, a2⟩
    · exact ⟨_, a3⟩
    · exact ⟨_, a4⟩
    · exact ⟨_, q2⟩
    · exact ⟨_, a6⟩
    · exact ⟨_, q4⟩
  sub := fun b hb => by
    simp only [List.mem_cons, List.not_mem_nil, or_false] at hb ⊢
    rcases hb with rfl | rfl | rfl | rfl <;> simp
  noKeys := fun A s Q E hA ok h => getAttrOr_miss_zip ok.1 rfl rfl rfl zip_no_keys (by decide +kernel) hA h
  iter := fun A s d Q E hA ok hd hdf h => by
    obtain ⟨a1, a2, ⟨a, b, a3⟩, a4, a5, a6⟩ := ok
    simp only [List.mem_cons, List.not_mem_nil, or_false, not_or] at hdf
    obtain ⟨dz, dTI, dTO, di1, di2, dl1, dl2⟩ := hdf
    refine wpAny_pyIter_zip a1 (h z [z, TO, i1, i2] (fun i h => IsPair h TI (.ref i1) (.ref i2) ∧ h.IsListIter i1 l1 i ∧ It2 h i2 l2 i ys ∧ h.IsList l1 xs ∧
      ((i = 0 ∧ IsZip h z TI TO .none ∧ ∃ a b, IsPair h TO a b) ∨ ∃ T f oT, IsZipHeld h z TI TO T f ∧ h.get? T = some oT ∧ T ≠ z ∧ T ≠ i1 ∧ T ≠ i2 ∧ T ≠ d)) s.heap s.toks ?_ ⟨a2, a4, a5, a6, .inl ⟨rfl, a1, a, b, a3⟩⟩ (fun _ _ e => e) fun b hb => .inl hb)
    exact {
      off := fun hm => by
        simp only [List.mem_cons, List.not_mem_nil, or_false] at hm
        rcases hm with e | e | e | e
        · exact dz e
        · exact dTO e
        · exact di1 e
        · exact di2 e
      frame := fun i h₁ h₂ st hk => by
        obtain ⟨b1, b2, b3, b4, b5⟩ := st
        refine ⟨hk _ _ (Ne.symm dTI) b1, b2.at fun o e => hk _ o (Ne.symm di1) e, b3.goes (fun o e => hk _ o (Ne.symm di2) e) fun o e => hk _ o (Ne.symm dl2) e, b4.at fun o e => hk _ o (Ne.symm dl1) e, ?_⟩
        rcases b5 with ⟨e0, c1, a, b, c2⟩ | ⟨T, f, oT, c1, c2, r1, r2, r3, r4⟩
        · exact .inl ⟨e0, hk _ _ (Ne.symm dz) c1, a, b, hk _ _ (Ne.symm dTO) c2⟩
        · exact .inr ⟨T, f, oT, hk _ _ (Ne.symm dz) c1, hk _ _ r4 c2, r1, r2, r3, r4⟩
      item := fun i s₁ Q₁ E₁ hi st hds hQ => by
        obtain ⟨b1, b2, b3, b4, b5⟩ := st
        have ex := Array.getElem?_eq_getElem hi
        have ey := Array.getElem?_eq_getElem (show i < ys.size by omega)
        have lt : ∀ {c o}, s₁.heap.get? c = some o → s₁.heap.objs.size ≠ c := fun e => Nat.ne_of_gt (Heap.lt_size e)
        have n1 : s₁.heap.objs.size ≠ i1 := let ⟨_, e, _⟩ := b2; lt e
        have n2 : s₁.heap.objs.size ≠ i2 := let ⟨⟨_, e⟩, _⟩ := b3.there; lt e
        rcases b5 with ⟨e0, c1, a, b, c2⟩ | ⟨T, f, oT, c1, c2, r1, r2, r3, r4⟩
        · have hTy : s₁.TypeIs (.ref z) "zip" := ⟨_, c1, rfl⟩
          unfold pyNext
          refine wpAny_bind (wpAny_attempt (wpAny_callSpecial?_slot (name := Str.ofString "__next__") hTy F.slot_zip_next (wpAny_call_entry F.slot_zip_next hTy F.entry_zip_next
            (zm_first D c1 b1 c2 b2 b3 b4 ex ey fun h' q1 q2 q3 q4 q5 q6 hk => wpAny_pure ?_) (F.args_zip_next_1 _))))
          exact hQ s₁.heap.objs.size _ _ h' s₁.toks ⟨ex, ey⟩ (.inl ⟨_, q5, rfl, _, rfl⟩)
            ⟨hk _ _ D.TIz D.TITO D.TIi1 D.TIi2 b1, q3, q4, b4.at fun o e => hk _ o D.l1z D.l1TO D.l1i1 D.l1i2 e, .inr ⟨s₁.heap.objs.size, false, _, q1, q5, lt c1, n1, n2, Nat.ne_of_gt hds⟩⟩
            fun c o hc e => hk c o (fun x => hc (by simp [x])) (fun x => hc (by simp [x])) (fun x => hc (by simp [x])) (fun x => hc (by simp [x])) e
        · have hTy : s₁.TypeIs (.ref z) "zip" := ⟨_, c1, rfl⟩
          unfold pyNext
          refine wpAny_bind (wpAny_attempt (wpAny_callSpecial?_slot (name := Str.ofString "__next__") hTy F.slot_zip_next (wpAny_call_entry F.slot_zip_next hTy F.entry_zip_next
            (zm_later D c1 c2 b1 b2 b3 b4 ex ey fun h' q1 q3 q4 q5 hk => wpAny_pure ?_) (F.args_zip_next_1 _))))
          exact hQ s₁.heap.objs.size _ _ h' s₁.toks ⟨ex, ey⟩ (.inl ⟨_, q5, rfl, _, rfl⟩)
            ⟨hk _ _ D.TIz D.TIi1 D.TIi2 b1, q3, q4, b4.at fun o e => hk _ o D.l1z D.l1i1 D.l1i2 e, .inr ⟨T, true, oT, q1, hk _ _ r1 r2 r3 c2, r1, r2, r3, r4⟩⟩
            fun c o hc e => hk c o (fun x => hc (by simp [x])) (fun x => hc (by simp [x])) (fun x => hc (by simp [x])) e
      done := fun s₁ Q₁ E₁ st hQ => by
        obtain ⟨b1, b2, b3, b4, b5⟩ := st
        rcases b5 with ⟨e0, _⟩ | ⟨T, f, oT, c1, c2, r1, r2, r3, r4⟩
        · omega
        · have hTy : s₁.TypeIs (.ref z) "zip" := ⟨_, c1, rfl⟩
          unfold pyNext
          refine wpAny_bind (wpAny_attempt (wpAny_callSpecial?_slot (name := Str.ofString "__next__") hTy F.slot_zip_next (wpAny_call_entry F.slot_zip_next hTy F.entry_zip_next
            (zm_end hA D c1 c2 b1 b2 b4 (Array.getElem?_eq_none (Nat.le_refl _)) fun h' e hk he => ?_) (F.args_zip_next_1 _))))
          obtain ⟨o, ho, hc⟩ := he
          exact wpAny_bind (wpAny_isInstance (T := "StopIteration") (b := true) ⟨o, ho, hc⟩ isSubtype_stop (wpAny_pure (hQ h' s₁.toks fun c o hc e => hk c o (fun x => hc (by simp [x])) (fun x => hc (by simp [x])) (fun x => hc (by simp [x])) e))) }
end
/-- dict(zip(xs, ys)), xs a list of texts or ints of which none comes twice, ys a list or a tuple as long -/
def tDictZip (K : PySem.W.Frag) (t : TA) : TE := fun σ H Q => t σ H fun vs H1 => ∃ (a b : Addr) (ks : List Key) (ys : List V), vs = [.ref a, .ref b] ∧ SqL K H1 a (ks.map kV) ∧ (SqL K H1 b ys ∨ SqT K H1 b ys) ∧ ks.length = ys.length ∧ ks ≠ [] ∧
  ∀ p : Addr, H1 p = none → Q (.ref p) (upd H1 p (.dK (mergeK [] (ks.zip ys))))
section
variable {X : Cx}
theorem zip_kv : ∀ {ks : List Key} {ys : List V} {us vs : List Value}, Vals (ks.map kV) us → Vals ys vs → KV (ks.zip ys) (ks.zip vs)
  | [], _, _, _, _, _ => by
    rw [List.zip_nil_left, List.zip_nil_left]
    exact .nil
  | k :: ks, [], _, _, _, .nil => by
    rw [List.zip_nil_right, List.zip_nil_right]
    exact .nil
  | k :: ks, y :: ys, us, v :: vs, r1, .cons q r2 => by
    rw [List.map_cons] at r1
    cases r1 with
    | cons r r1 => exact .cons ⟨rfl, q⟩ (zip_kv r1 r2)
theorem pe_dictZip {e e2 : Expr} {t : TA} {p p2 q pos : Pos} (hc : X.calm = true) (g1 : Gl X "dict") (m1 : X.mg "dict" = none) (g2 : Gl X "zip") (m2 : X.mg "zip" = none) (ha : PA X [e, e2] t)
    (n1 : starEach [e, e2] X.env = (false, eval e X.env) :: starEach [e2] X.env := by rfl) (n2 : (backTo q (starEach [e2] X.env)).any (·.1) = false := by rfl)
    (n3 : starEach [.Call (.Name "zip" p2) [e, e2] [] q] X.env = (false, eval (.Call (.Name "zip" p2) [e, e2] [] q) X.env) :: starEach [] X.env := by rfl) :
    PE X (.Call (.Name "dict" p) [.Call (.Name "zip" p2) [e, e2] [] q] [] pos) (tDictZip X.K t) := by
  refine ⟨fun pins s σ H Q I h => ?_⟩
  refine Call_ (ld_blt I g1 m1 (show bootBuiltins "dict" = some (.type "dict") by decide +kernel) (PyProof.Rows.callWith_type1 (PyProof.Rows.args_cons ?_ n3) n3 rfl))
  refine Call_ (ld_blt I g2 m2 PyProof.Rows.boot_zip (PyProof.Rows.callWith_type1 (thn (ha.run q pins s σ H _ I h) fun us s1 ⟨vs, H1, I1, r1, q1⟩ => ?_) n1 n2))
  obtain ⟨a, b, ks, ys, rfl, hqx, hqy, same, hne, k⟩ := q1
  obtain ⟨u, v, rfl, ru, rv⟩ := vals2 r1
  obtain rfl : u = Value.ref a := ru
  obtain rfl : v = Value.ref b := rv
  obtain ⟨its, rx, px, zx⟩ := I1.list hqx
  have two : ∃ its2 : List Value, Vals ys its2 ∧ (s1.heap.IsList b its2.toArray ∨ s1.heap.IsTuple b its2.toArray) ∧ b < s1.heap.objs.size := by
    rcases hqy with z | z
    · obtain ⟨its2, r, p2', _⟩ := I1.list z
      exact ⟨its2, r, .inl p2'.isList, p2'.lt⟩
    · obtain ⟨its2, r, p2', _⟩ := I1.tuple z
      exact ⟨its2, r, .inr p2', p2'.lt⟩
  obtain ⟨its2, ry, py, hb⟩ := two
  have e1 := rx.length
  have e2' := ry.length
  rw [List.length_map] at e1 zx
  have kpos : 0 < ks.length := List.length_pos_iff.mpr hne
  refine zm_call (l1 := a) (l2 := b) (xs := its.toArray) (ys := its2.toArray) px.isList py fun h1 z1 z2 z3 z4 z5 z6 kp => PyProof.Rows.args_nil ?_
  have D := PySem.W.ktu_apart s1.heap.objs.size a b px.lt hb
  have arg := zm_arg (P := X.prog) (w := X.w) (xs := its.toArray) (ys := its2.toArray) D (by simp only [List.size_toArray]; omega) (by simp only [List.size_toArray]; omega)
  have kv := zip_kv rx ry
  refine _root_.PySem.call_dict_pairs (s := { s1 with heap := h1 }) (knd := mixKind X.prog X.w) (kvs := ks.zip its2) arg (I1.ok.hd hc) ⟨z1, z2, ⟨_, _, z3⟩, z4, z5, px.isList.at fun o q => kp _ o q⟩ ⟨?_, fun i key v hr => ?_⟩ (by simp only [List.size_toArray]; omega) fun h' tk hd' hk => ?_
  · simp only [List.length_zip, List.size_toArray]
    omega
  · obtain ⟨hr1, hr2⟩ := hr
    have hi : i < its.length := by
      have := (Array.getElem?_eq_some_iff.mp hr1).1
      simpa using this
    obtain ⟨kk, hkk⟩ : ∃ kk, ks[i]? = some kk := ⟨_, List.getElem?_eq_getElem (by omega)⟩
    obtain ⟨w', hw', rw'⟩ := rx.get (show (ks.map kV)[i]? = some (kV kk) by rw [List.getElem?_map, hkk]; rfl)
    have : w' = key := by
      have z : its.toArray[i]? = its[i]? := by simp
      rw [z, hw'] at hr1
      exact Option.some.inj hr1
    subst this
    refine ⟨kk, ?_, kV_is rw'⟩
    rw [List.getElem?_zip_eq_some]
    exact ⟨hkk, by simpa using hr2⟩
  · have big : s1.heap.objs.size ≤ h1.objs.size := by omega
    have keep : ∀ b o, s1.heap.get? b = some o → h'.get? b = some o := fun b o e => hk b o (fun hm => by
      have lt : b < s1.heap.objs.size := Heap.lt_size e
      simp only [List.mem_cons, List.not_mem_nil, or_false] at hm
      rcases hm with z | z | z | z <;> rw [z] at lt
      · exact absurd lt (Nat.not_lt.mpr (Nat.le_add_right _ _))
      · exact absurd lt (Nat.not_lt.mpr (Nat.le_add_right _ _))
      · exact absurd lt (Nat.lt_irrefl _)
      · exact absurd lt (Nat.not_lt.mpr (Nat.le_add_right _ _))) (kp b o e)
    have hm : (h1.objs.size == sysModules) = false := beq_eq_false_iff_ne.mpr (Nat.ne_of_gt (Nat.lt_of_lt_of_le I1.big big))
    have hlen : (mergeK [] (ks.zip ys)).length ≤ sizeLine := by
      refine Nat.le_trans (length_mergeK (ks.zip ys) []) ?_
      rw [List.length_nil, Nat.zero_add, List.length_zip]
      omega
    exact ⟨.ref h1.objs.size, upd H1 h1.objs.size (.dK (mergeK [] (ks.zip ys))), I1.laid (t' := tk) keep big (show ObjOk X.prog X.w _ _ _ (.dK (mergeK [] (ks.zip ys))) from ⟨hlen, hm, merged [] (ks.zip its2), KV.merge kv .nil, hd'⟩), rfl, k _ (I1.hok.fresh big)⟩
end
end Nm
set_option maxRecDepth 100000
set_option maxHeartbeats 4000000
/-! zip of two, each a list or a tuple, in a for or a comprehension -/
namespace Nm
open PySem PySem.Spec PyProof.Rows L2 RZ
section
variable {P : Program} {w : World} {A : Around} {E : Value → Shared → Prop} {s : Shared} {z TI TO T i1 i2 l1 l2 : Addr} {xs ys : Array Value}
/-- the first turn: the zip's own pair is handed out -/
theorem zz_first {k : Nat} {x y a b : Value} {Q : Value → Shared → Prop} (D : ZipApart z TI TO i1 i2 l1 l2) (hz : IsZip s.heap z TI TO .none) (hTI : IsPair s.heap TI (.ref i1) (.ref i2)) (hTO : IsPair s.heap TO a b)
    (g1 : It2 s.heap i1 l1 k xs) (g2 : It2 s.heap i2 l2 k ys) (hx : xs[k]? = some x) (hy : ys[k]? = some y)
    (hQ : ∀ h', IsZip h' z TI TO (rawInt s.heap.objs.size) → IsPair h' TO x y → It2 h' i1 l1 (k + 1) xs → It2 h' i2 l2 (k + 1) ys → IsPair h' s.heap.objs.size x y → h'.objs.size = s.heap.objs.size + 1 →
      (∀ c o, c ≠ z → c ≠ TO → c ≠ i1 → c ≠ i2 → s.heap.get? c = some o → h'.get? c = some o) → Q (.ref s.heap.objs.size) { s with heap := h' }) :
    wpAny (model P w) A (Builtin.«zip.__next__» ⟨[.ref z], []⟩) (fun fin s' => ∃ v, fin = .done (.ret v) ∧ Q v s') E s := by
  show wpAny _ _ (field (.ref z) 2 >>= _) _ _ _
  refine wpAny_bind (wpAny_field hz rfl (x := .bool false) rfl ?_)
  show wpAny _ _ (field (.ref z) 3 >>= _) _ _ _
  refine wpAny_bind (wpAny_field hz rfl (x := .ref TI) rfl (wpAny_bind (wpAny_seqItems hTI rfl ?_)))
  show wpAny _ _ (Builtin.SmallTypes.ownedTupleIsFree (.ref z) >>= _) _ _ _
  refine wpAny_bind ?_
  unfold Builtin.SmallTypes.ownedTupleIsFree
  refine wpAny_bind (wpAny_field hz rfl (x := .none) rfl (wpAny_pure ?_))
  simp only [if_true]
  refine wpAny_bind (wpAny_rule (wpAny_bind (wpAny_field hz rfl (x := .ref TO) rfl (wpAny_bind (wpAny_setField_rec hz (by simp) fun ha za sa => ?_)))))
  replace za : IsZip ha z TI TO .ellipsis := za
  refine wpAny_bind ?_
  simp only [List.zipIdx_cons, List.zipIdx_nil, List.forIn_cons, List.forIn_nil]
  refine wpAny_bind (wpAny_bind (wpAny_onRaise ?_))
  show wpAny _ _ (Builtin.SmallTypes.nextOf (.ref i1) >>= _) _ _ _
  have g1a : It2 ha i1 l1 k xs := g1.goes (fun o e => sa.extBut _ _ D.i1z e) fun o e => sa.extBut _ _ D.l1z e
  refine wpAny_bind (it2_next (s := { s with heap := ha }) g1a D.l1i1 hx fun hb gb sb => wpAny_pure ?_)
  have tb : IsPair hb TO a b := sb.extBut _ _ D.TOi1 (sa.extBut _ _ D.TOz hTO)
  refine wpAny_bind (wpAny_seqItems tb rfl (wpAny_bind (wpAny_updateSeq_pair tb fun hc tc sc => ?_)))
  replace tc : IsPair hc TO x b := tc
  refine wpAny_bind (wpAny_letGo (wpAny_pure ?_))
  refine wpAny_bind (wpAny_bind (wpAny_onRaise ?_))
  show wpAny _ _ (Builtin.SmallTypes.nextOf (.ref i2) >>= _) _ _ _
  have g2c : It2 hc i2 l2 k ys := g2.goes (fun o e => sc.extBut _ _ D.TOi2.symm (sb.extBut _ _ D.i12.symm (sa.extBut _ _ D.i2z e))) fun o e => sc.extBut _ _ D.l2TO (sb.extBut _ _ D.l2i1 (sa.extBut _ _ D.l2z e))
  refine wpAny_bind (it2_next (s := { s with heap := hc }) g2c D.l2i2 hy fun hd gd sd => wpAny_pure ?_)
  have td : IsPair hd TO x b := sd.extBut _ _ D.TOi2 tc
  refine wpAny_bind (wpAny_seqItems td rfl (wpAny_bind (wpAny_updateSeq_pair td fun he te se => ?_)))
  replace te : IsPair he TO x y := te
  refine wpAny_bind (wpAny_letGo (wpAny_pure (wpAny_pure ?_)))
  refine wpAny_bind (wpAny_seqItems te rfl (wpAny_bind (wpAny_newTuple ?_)))
  have size : he.objs.size = s.heap.objs.size := by rw [se.1, sd.1, sc.1, sb.1, sa.1]
  have ze : IsZip he z TI TO .ellipsis := se.extBut _ _ D.TOz.symm (sd.extBut _ _ D.i2z.symm (sc.extBut _ _ D.TOz.symm (sb.extBut _ _ D.i1z.symm za)))
  have ke : ∀ c o, c ≠ z → c ≠ TO → c ≠ i1 → c ≠ i2 → s.heap.get? c = some o → he.get? c = some o := fun c o n1 n2 n3 n4 e => se.extBut _ _ n2 (sd.extBut _ _ n4 (sc.extBut _ _ n2 (sb.extBut _ _ n3 (sa.extBut _ _ n1 e))))
  have ge : It2 he i1 l1 (k + 1) xs := gb.goes (fun o e => se.extBut _ _ D.TOi1.symm (sd.extBut _ _ D.i12 (sc.extBut _ _ D.TOi1.symm e))) fun o e => se.extBut _ _ D.l1TO (sd.extBut _ _ D.l1i2 (sc.extBut _ _ D.l1TO e))
  have g2e : It2 he i2 l2 (k + 1) ys := gd.goes (fun o e => se.extBut _ _ D.TOi2.symm e) fun o e => se.extBut _ _ D.l2TO e
  have zlt : z < he.objs.size := Heap.lt_size ze
  show wpAny _ _ (Builtin.SmallTypes.ownedTupleHandOut (.ref z) (.ref he.objs.size) >>= _) _ _ _
  refine wpAny_bind ?_
  unfold Builtin.SmallTypes.ownedTupleHandOut
  have zf : IsZip (he.push { cls := .type "tuple", data := .seq #[x, y] }) z TI TO .ellipsis := Heap.get?_push_of_some _ ze
  refine wpAny_bind (wpAny_setField_rec zf (by simp) fun hg zg sg => ?_)
  replace zg : IsZip hg z TI TO (rawInt he.objs.size) := zg
  refine wpAny_setField_rec zg (by simp) fun hi zi si => ?_
  replace zi : IsZip hi z TI TO (rawInt he.objs.size) := zi
  have up : ∀ c o, c ≠ z → he.get? c = some o → hi.get? c = some o := fun c o n e => si.extBut _ _ n (sg.extBut _ _ n (Heap.get?_push_of_some _ e))
  have Ti : IsPair hi he.objs.size x y := si.extBut _ _ (Nat.ne_of_gt zlt) (sg.extBut _ _ (Nat.ne_of_gt zlt) (Heap.get?_push_size _ rfl))
  have sz : hi.objs.size = he.objs.size + 1 := by rw [si.1, sg.1, Heap.size_push]
  rw [size] at zi Ti sz
  refine wpAny_pure ⟨_, rfl, ?_⟩
  show Q (.ref he.objs.size) _
  rw [size]
  exact hQ hi zi (up _ _ D.TOz te) (ge.goes (fun o e => up _ o D.i1z e) fun o e => up _ o D.l1z e) (g2e.goes (fun o e => up _ o D.i2z e) fun o e => up _ o D.l2z e) Ti sz fun c o n1 n2 n3 n4 e => up c o n1 (ke c o n1 n2 n3 n4 e)
/-- the five objects of zip(a tuple, a list) -/
def znHeap (h : Heap) (l1 l2 : Addr) : Heap := ((((h.push { cls := .type "tuple_iterator", data := .fields #[.ref l1, .int 0 0] }).push { cls := .type "list_iterator", data := .fields #[.ref l2, .int 0 0] }).push
  { cls := .type "tuple", data := .seq #[.ref h.objs.size, .ref (h.objs.size + 1)] }).push { cls := .type "tuple", data := .seq #[.none, .none] }).push { cls := .type "zip", data := .fields #[.none, .bool false, .bool false, .ref (h.objs.size + 2), .ref (h.objs.size + 3)] }
theorem zn_new (l1 l2 : Addr) (xs ys : Array Value) :
    Meets (Builtin.«zip.__new__» ⟨[.type "zip", .ref l1, .ref l2], []⟩) (fun _ R s => s.heap.IsTuple l1 xs ∧ s.heap.IsList l2 ys ∧ R (.ok (.ret (.ref (s.heap.objs.size + 4)))) { s with heap := znHeap s.heap l1 l2 }) :=
  .of_wp fun prog w A R s h => by
    obtain ⟨hp, g, d, tk, os⟩ := s
    obtain ⟨a1, a2, h⟩ := h
    have b1 : Heap.IsTuple (Shared.heap ⟨hp, g, d, tk, os⟩) l1 xs := a1
    have b2 : Heap.IsList (Shared.heap ⟨hp.push { cls := .type "tuple_iterator", data := .fields #[.ref l1, .int 0 0] }, g, d, tk, os⟩) l2 ys := Heap.IsList.push a2 _
    have hsub := sub_zip
    unfold znHeap at h
    wp_walk using wpAny_pyIter_tuple b1, wpAny_pyIter_list b2
    refine ⟨_, rfl, ?_⟩
    simp only [Heap.size_push, Nat.add_assoc, Nat.reduceAdd]
    exact h
theorem zn_call {Q : Value → Shared → Prop} (g1 : s.heap.IsTuple l1 xs) (g2 : s.heap.IsList l2 ys)
    (h : ∀ h', IsZip h' (s.heap.objs.size + 4) (s.heap.objs.size + 2) (s.heap.objs.size + 3) .none → IsPair h' (s.heap.objs.size + 2) (.ref s.heap.objs.size) (.ref (s.heap.objs.size + 1)) → IsPair h' (s.heap.objs.size + 3) .none .none →
      It2 h' s.heap.objs.size l1 0 xs → It2 h' (s.heap.objs.size + 1) l2 0 ys → h'.objs.size = s.heap.objs.size + 5 → (∀ c o, s.heap.get? c = some o → h'.get? c = some o) → Q (.ref (s.heap.objs.size + 4)) { s with heap := h' }) :
    wpAny (model P w) A (call (.type "zip") [.ref l1, .ref l2]) Q E s := by
  refine callType_new F.called_zip (by decide) (F.typeCall_zip_2 _ _) (F.newCall_zip_2 _ _) (fun obj => F.args_object_init_3 obj _ _) F.entry_zip_new (zn_new l1 l2 xs ys) ⟨g1, g2, ?_⟩
  have up : ∀ c o, s.heap.get? c = some o → (znHeap s.heap l1 l2).get? c = some o := fun c o q => by
    unfold znHeap
    exact Heap.get?_push_of_some _ (Heap.get?_push_of_some _ (Heap.get?_push_of_some _ (Heap.get?_push_of_some _ (Heap.get?_push_of_some _ q))))
  have p0 : (znHeap s.heap l1 l2).get? s.heap.objs.size = some { cls := .type "tuple_iterator", data := .fields #[.ref l1, .int 0 0] } := by
    unfold znHeap
    exact Heap.get?_push_of_some _ (Heap.get?_push_of_some _ (Heap.get?_push_of_some _ (Heap.get?_push_of_some _ (Heap.get?_push_size _ rfl))))
  have p1 : (znHeap s.heap l1 l2).get? (s.heap.objs.size + 1) = some { cls := .type "list_iterator", data := .fields #[.ref l2, .int 0 0] } := by
    unfold znHeap
    exact Heap.get?_push_of_some _ (Heap.get?_push_of_some _ (Heap.get?_push_of_some _ (Heap.get?_push_at (by simp only [Heap.size_push]) rfl)))
  have p2 : (znHeap s.heap l1 l2).get? (s.heap.objs.size + 2) = some { cls := .type "tuple", data := .seq #[.ref s.heap.objs.size, .ref (s.heap.objs.size + 1)] } := by
    unfold znHeap
    exact Heap.get?_push_of_some _ (Heap.get?_push_of_some _ (Heap.get?_push_at (by simp only [Heap.size_push]) rfl))
  have p3 : (znHeap s.heap l1 l2).get? (s.heap.objs.size + 3) = some { cls := .type "tuple", data := .seq #[.none, .none] } := by
    unfold znHeap
    exact Heap.get?_push_of_some _ (Heap.get?_push_at (by simp only [Heap.size_push]) rfl)
  have p4 : (znHeap s.heap l1 l2).get? (s.heap.objs.size + 4) = some { cls := .type "zip", data := .fields #[.none, .bool false, .bool false, .ref (s.heap.objs.size + 2), .ref (s.heap.objs.size + 3)] } := by
    unfold znHeap
    exact Heap.get?_push_at (by simp only [Heap.size_push]) rfl
  exact ⟨⟨_, p4, rfl⟩, h _ p4 p2 p3 (.inr ⟨⟨_, p0, rfl, rfl⟩, g1.at fun o q => up _ o q⟩) (.inl ⟨⟨_, p1, rfl, rfl⟩, g2.at fun o q => up _ o q⟩) (by unfold znHeap; simp only [Heap.size_push]) up⟩
end
end Nm
set_option maxRecDepth 100000
set_option maxHeartbeats 4000000
/-! zip of two, each a list or a tuple: as a rule -/
namespace Nm
open PySem PySem.Spec PyProof.Rows L2 RZ
section
variable {prog : Program} {w : World} {A : Around} {E : Value → Shared → Prop} {s : Shared} {z TI TO i1 i2 l1 l2 : Addr} {xs ys : Array Value}
theorem it2_end {k : Nat} {i l : Addr} {Q : Value → Shared → Prop} (hh : A.handled = none) (x : It2 s.heap i l k ys) (hy : ys[k]? = none) (hE : ∀ h' e, Heap.ExtBut i s.heap h' → (∃ o, h'.get? e = some o ∧ o.cls = .type "StopIteration") → E (.ref e) { s with heap := h' }) :
    wpAny (model prog w) A (Builtin.SmallTypes.nextOf (.ref i)) Q E s := by
  rcases x with ⟨a, b⟩ | ⟨a, b⟩
  · exact wpAny_nextOf_list_end hh a b hy hE
  · exact RZ.nextOf_tuple_end hh a b hy hE
theorem zz_end0 {k : Nat} {a b : Value} {Q : PySem.Fin → Shared → Prop} (hh : A.handled = none) (D : ZipApart z TI TO i1 i2 l1 l2) (hz : IsZip s.heap z TI TO .none) (hTI : IsPair s.heap TI (.ref i1) (.ref i2)) (hTO : IsPair s.heap TO a b)
    (g1 : It2 s.heap i1 l1 k xs) (hx : xs[k]? = none)
    (hE : ∀ h' e, (∀ c o, c ≠ z → c ≠ TO → c ≠ i1 → c ≠ i2 → s.heap.get? c = some o → h'.get? c = some o) → (∃ o, h'.get? e = some o ∧ o.cls = .type "StopIteration") → E (.ref e) { s with heap := h' }) :
    wpAny (model prog w) A (Builtin.«zip.__next__» ⟨[.ref z], []⟩) Q E s := by
  show wpAny _ _ (field (.ref z) 2 >>= _) _ _ _
  refine wpAny_bind (wpAny_field hz rfl (x := .bool false) rfl ?_)
  show wpAny _ _ (field (.ref z) 3 >>= _) _ _ _
  refine wpAny_bind (wpAny_field hz rfl (x := .ref TI) rfl ?_)
  refine wpAny_bind (wpAny_seqItems hTI rfl ?_)
  show wpAny _ _ (Builtin.SmallTypes.ownedTupleIsFree (.ref z) >>= _) _ _ _
  refine wpAny_bind ?_
  unfold Builtin.SmallTypes.ownedTupleIsFree
  refine wpAny_bind (wpAny_field hz rfl (x := .none) rfl (wpAny_pure ?_))
  simp only [if_true]
  refine wpAny_bind (wpAny_rule ?_)
  refine wpAny_bind (wpAny_field hz rfl (x := .ref TO) rfl ?_)
  refine wpAny_bind (wpAny_setField_rec hz (by simp) fun h₁ hz₁ hs₁ => ?_)
  replace hz₁ : IsZip h₁ z TI TO .ellipsis := hz₁
  refine wpAny_bind ?_
  simp only [List.zipIdx_cons, List.zipIdx_nil, List.forIn_cons, List.forIn_nil]
  refine wpAny_bind (wpAny_bind (wpAny_onRaise ?_))
  show wpAny _ _ (Builtin.SmallTypes.nextOf (.ref i1) >>= _) _ _ _
  refine wpAny_bind (it2_end (s := { s with heap := h₁ }) hh (g1.goes (fun o e => hs₁.extBut _ _ D.i1z e) fun o e => hs₁.extBut _ _ D.l1z e) hx fun h₂ e hs₂ he => ?_)
  obtain ⟨oe, hoe, hce⟩ := he
  have hz₂ : IsZip h₂ z TI TO .ellipsis := hs₂ _ _ D.i1z.symm hz₁
  have hez : e ≠ z := fun x => by subst x; rw [hz₂] at hoe; cases hoe; simp at hce
  exact wpAny_setField_rec hz₂ (by simp) fun h₃ _ hs₃ => hE h₃ e (fun c o c1 _ c3 _ x => hs₃.extBut _ _ c1 (hs₂ _ _ c3 (hs₁.extBut _ _ c1 x))) ⟨oe, hs₃.extBut _ _ hez hoe, hce⟩
theorem pyNext_zz_item {k : Nat} {x y a b : Value} {Q : Option Value → Shared → Prop} (D : ZipApart z TI TO i1 i2 l1 l2)
    (hz : IsZip s.heap z TI TO .none) (hTI : IsPair s.heap TI (.ref i1) (.ref i2)) (hTO : IsPair s.heap TO a b)
    (h1 : It2 s.heap i1 l1 k xs) (h2 : It2 s.heap i2 l2 k ys) (hx : xs[k]? = some x) (hy : ys[k]? = some y)
    (hQ : ∀ h', IsZip h' z TI TO (rawInt s.heap.objs.size) → IsPair h' TO x y → It2 h' i1 l1 (k + 1) xs → It2 h' i2 l2 (k + 1) ys → IsPair h' s.heap.objs.size x y → h'.objs.size = s.heap.objs.size + 1 →
      (∀ c o, c ≠ z → c ≠ TO → c ≠ i1 → c ≠ i2 → s.heap.get? c = some o → h'.get? c = some o) → Q (some (.ref s.heap.objs.size)) { s with heap := h' }) :
    wpAny (model prog w) A (pyNext (.ref z)) Q E s := by
  have hT : s.TypeIs (.ref z) "zip" := ⟨_, hz, rfl⟩
  unfold pyNext
  exact wpAny_bind (wpAny_attempt (wpAny_callSpecial?_slot (name := Str.ofString "__next__") hT F.slot_zip_next
    (wpAny_call_entry F.slot_zip_next hT F.entry_zip_next
      (zz_first D hz hTI hTO h1 h2 hx hy fun h' a1 a2 a3 a4 a5 a6 a7 => wpAny_pure (hQ h' a1 a2 a3 a4 a5 a6 a7)) (F.args_zip_next_1 _))))
theorem pyNext_zz_end {k : Nat} {a b : Value} {Q : Option Value → Shared → Prop} (hh : A.handled = none) (D : ZipApart z TI TO i1 i2 l1 l2)
    (hz : IsZip s.heap z TI TO .none) (hTI : IsPair s.heap TI (.ref i1) (.ref i2)) (hTO : IsPair s.heap TO a b)
    (h1 : It2 s.heap i1 l1 k xs) (hend : xs[k]? = none)
    (hQ : ∀ h', (∀ c o, c ≠ z → c ≠ TO → c ≠ i1 → c ≠ i2 → s.heap.get? c = some o → h'.get? c = some o) → Q none { s with heap := h' }) : wpAny (model prog w) A (pyNext (.ref z)) Q E s := by
  have hT : s.TypeIs (.ref z) "zip" := ⟨_, hz, rfl⟩
  unfold pyNext
  refine wpAny_bind (wpAny_attempt (wpAny_callSpecial?_slot (name := Str.ofString "__next__") hT F.slot_zip_next
    (wpAny_call_entry F.slot_zip_next hT F.entry_zip_next (zz_end0 hh D hz hTI hTO h1 hend fun h' e hk he => ?_) (F.args_zip_next_1 _))))
  obtain ⟨o, ho, hc⟩ := he
  refine wpAny_bind (wpAny_isInstance (T := "StopIteration") (b := true) ⟨o, ho, hc⟩ isSubtype_stop ?_)
  exact wpAny_pure (hQ _ hk)
theorem zz_call {Q : Value → Shared → Prop} (g1 : s.heap.IsList l1 xs ∨ s.heap.IsTuple l1 xs) (g2 : s.heap.IsList l2 ys ∨ s.heap.IsTuple l2 ys)
    (h : ∀ h', IsZip h' (s.heap.objs.size + 4) (s.heap.objs.size + 2) (s.heap.objs.size + 3) .none → IsPair h' (s.heap.objs.size + 2) (.ref s.heap.objs.size) (.ref (s.heap.objs.size + 1)) → IsPair h' (s.heap.objs.size + 3) .none .none →
      It2 h' s.heap.objs.size l1 0 xs → It2 h' (s.heap.objs.size + 1) l2 0 ys → h'.objs.size = s.heap.objs.size + 5 → (∀ c o, s.heap.get? c = some o → h'.get? c = some o) → Q (.ref (s.heap.objs.size + 4)) { s with heap := h' }) :
    wpAny (model prog w) A (call (.type "zip") [.ref l1, .ref l2]) Q E s := by
  rcases g1 with g1 | g1
  · exact zm_call g1 g2 fun h' a b c d e f k => h h' a b c (.inl ⟨d, g1.at fun o q => k _ o q⟩) e f k
  · rcases g2 with g2 | g2
    · exact zn_call g1 g2 h
    · exact RZ.call_zipT g1 g2 fun h' a b c d e f k => h h' a b c (.inr ⟨d, g1.at fun o q => k _ o q⟩) (.inr ⟨e, g2.at fun o q => k _ o q⟩) f k
end
/-- a list (k) or a tuple of these -/
def SqB (k : Bool) (K : PySem.W.Frag) (H : Hp) (a : Addr) (xs : List V) : Prop := match k with
  | true => SqL K H a xs
  | false => SqT K H a xs
def IterB (k : Bool) (h : Heap) (i a : Addr) (n : Nat) : Prop := match k with
  | true => h.IsListIter i a n
  | false => h.IsTupleIter i a n
def SeqB (k : Bool) (h : Heap) (l : Addr) (xs : Array Value) : Prop := match k with
  | true => h.IsList l xs
  | false => h.IsTuple l xs
theorem sqB_at {X : Cx} {pins : List (Addr × Obj)} {σ : L2.St} {H : Hp} {s : Shared} {a : Addr} {xs : List V} {k : Bool} (I : Inv X pins σ H s) (h : SqB k X.K H a xs) : ∃ its, Vals xs its ∧ SeqB k s.heap a its.toArray := by
  cases k with
  | true =>
    obtain ⟨its, rv, p, _⟩ := I.list h
    exact ⟨its, rv, p.isList⟩
  | false =>
    obtain ⟨its, rv, p, _⟩ := I.tuple h
    exact ⟨its, rv, p⟩
theorem sqB_inj {X : Cx} {pins : List (Addr × Obj)} {σ : L2.St} {H : Hp} {s : Shared} {a : Addr} {xs ys : List V} {k : Bool} (I : Inv X pins σ H s) (h : SqB k X.K H a xs) (h' : SqB k X.K H a ys) : xs = ys := by
  cases k with
  | true => exact I.list_inj h h'
  | false => exact I.tuple_inj h h'
theorem seqB_or {k : Bool} {h : Heap} {l : Addr} {xs : Array Value} (p : SeqB k h l xs) : h.IsList l xs ∨ h.IsTuple l xs := by
  cases k with
  | true => exact .inl p
  | false => exact .inr p
theorem seqB_lt {k : Bool} {h : Heap} {l : Addr} {xs : Array Value} (p : SeqB k h l xs) : l < h.objs.size := by
  cases k with
  | true =>
    obtain ⟨o, e, _⟩ := p
    exact Heap.lt_size e
  | false =>
    obtain ⟨o, e, _⟩ := p
    exact Heap.lt_size e
theorem seqB_keep {k : Bool} {h h' : Heap} {l : Addr} {xs : Array Value} (p : SeqB k h l xs) (e : ∀ o, h.get? l = some o → h'.get? l = some o) : SeqB k h' l xs := by
  cases k with
  | true => exact Heap.IsList.at p e
  | false => exact Heap.IsTuple.at p e
theorem it2_mk {k : Bool} {h : Heap} {i l : Addr} {n : Nat} {xs : Array Value} (x : IterB k h i l n) (p : SeqB k h l xs) : It2 h i l n xs := by
  cases k with
  | true => exact .inl ⟨x, p⟩
  | false => exact .inr ⟨x, p⟩
theorem it2_back {k : Bool} {h : Heap} {i l : Addr} {n : Nat} {xs ys : Array Value} (x : It2 h i l n xs) (p : SeqB k h l ys) : IterB k h i l n := by
  rcases x with ⟨a, b⟩ | ⟨a, b⟩
  · cases k with
    | true => exact a
    | false =>
      obtain ⟨o, e, r, _⟩ := b
      obtain ⟨o', e', r', _⟩ := p
      rw [e] at e'
      cases e'
      rw [r] at r'
      simp at r'
  · cases k with
    | false => exact a
    | true =>
      obtain ⟨o, e, r, _⟩ := b
      obtain ⟨o', e', r', _⟩ := p
      rw [e] at e'
      cases e'
      rw [r] at r'
      simp at r'
theorem iterB_rec {k : Bool} {h : Heap} {i l : Addr} {n : Nat} (x : IterB k h i l n) : ∃ o, h.get? i = some o ∧ ∀ v, o.data ≠ .cell v := by
  cases k with
  | true =>
    obtain ⟨o, e, _, d⟩ := x
    exact ⟨o, e, fun v q => by rw [d] at q; cases q⟩
  | false =>
    obtain ⟨o, e, _, d⟩ := x
    exact ⟨o, e, fun v q => by rw [d] at q; cases q⟩
theorem iterB_at {k : Bool} {h h' : Heap} {i l : Addr} {n : Nat} (x : IterB k h i l n) (e : ∀ o, h.get? i = some o → h'.get? i = some o) : IterB k h' i l n := by
  cases k with
  | true => exact Heap.IsListIter.at x e
  | false => exact Heap.IsTupleIter.at x e
/-- both as they stand at each turn, the items in new pairs -/
def ItzB (k1 k2 : Bool) (K : PySem.W.Frag) (a b : Addr) : It :=
  ⟨fun i H => ∃ (xs ys : List V) (x y : V), SqB k1 K H a xs ∧ SqB k2 K H b ys ∧ xs[i]? = some x ∧ ys[i]? = some y,
    fun i H v H' => ∃ T x y, v = .ref T ∧ H T = none ∧ H' = upd H T (.tup [x, y]) ∧ (∀ xs, SqB k1 K H a xs → xs[i]? = some x) ∧ ∀ ys, SqB k2 K H b ys → ys[i]? = some y,
    fun i H => ∃ xs : List V, SqB k1 K H a xs ∧ xs.length ≤ i⟩
theorem turn_zz {P : Program} {w : World} {K : PySem.W.Frag} {elts : List Expr} {kk : Nat} {tpos : Pos} {k1 k2 : Bool} {a b z TI TO i1 i2 : Addr} (D : ZipApart z TI TO i1 i2 a b) :
    Turn P w K (.Tuple elts kk tpos) (ItzB k1 k2 K a b) [z, TI, TO, i1, i2] z (fun i h => IsZip h z TI TO .none ∧ IsPair h TI (.ref i1) (.ref i2) ∧ (∃ x y, IsPair h TO x y) ∧ IterB k1 h i1 a i ∧ IterB k2 h i2 b i) where
  mem := by simp
  obj := fun i h st c hc => by
    obtain ⟨hz, hTI, ⟨x, y, hTO⟩, h1, h2⟩ := st
    obtain ⟨o1, e1, d1⟩ := iterB_rec h1
    obtain ⟨o2, e2, d2⟩ := iterB_rec h2
    have e' : c = z ∨ c = TI ∨ c = TO ∨ c = i1 ∨ c = i2 := by simpa using hc
    rcases e' with q | q | q | q | q
    · rw [q]; exact ⟨_, hz, fun v q => nomatch q⟩
    · rw [q]; exact ⟨_, hTI, fun v q => nomatch q⟩
    · rw [q]; exact ⟨_, hTO, fun v q => nomatch q⟩
    · rw [q]; exact ⟨o1, e1, d1⟩
    · rw [q]; exact ⟨o2, e2, d2⟩
  keep := fun i h h' st k => by
    obtain ⟨hz, hTI, ⟨x, y, hTO⟩, h1, h2⟩ := st
    exact ⟨k z (by simp) _ hz, k TI (by simp) _ hTI, ⟨x, y, k TO (by simp) _ hTO⟩, iterB_at h1 fun o q => k i1 (by simp) o q, iterB_at h2 fun o q => k i2 (by simp) o q⟩
  item := by
    intro X hP hw hK hc i pins s σ H E I hf st hg
    subst hP hw hK
    obtain ⟨hz, hTI, ⟨x0, y0, hTO⟩, h1, h2⟩ := st
    obtain ⟨xs, ys, x, y, hqx, hqy, hx, hy⟩ := hg
    obtain ⟨its, rv, p⟩ := sqB_at I hqx
    obtain ⟨its2, rv2, p2⟩ := sqB_at I hqy
    obtain ⟨u, hu, ru⟩ := rv.get hx
    obtain ⟨u2, hu2, ru2⟩ := rv2.get hy
    have hzl : z < s.heap.objs.size := Heap.lt_size hz
    refine pyNext_zz_item D hz hTI hTO (it2_mk h1 p) (it2_mk h2 p2) (x := u) (y := u2) (by simpa using hu) (by simpa using hu2) fun h' z' TO' h1' h2' hT hsz hk => ?_
    refine ⟨_, rfl, wpAny_letOwnedTupleGo_zip (s := { s with heap := h' }) z' fun h'' z'' sb => ?_⟩
    have hT2 : h''.get? s.heap.objs.size = some { cls := .type "tuple", data := .seq #[u, u2] } := (sb.2 _ (Nat.ne_of_gt hzl)).trans hT
    have new : ObjOk X.prog X.w (upd H s.heap.objs.size (.tup [x, y])) h'' s.heap.objs.size (.tup [x, y]) :=
      ⟨by show 2 ≤ sizeLine; decide, [u, u2], .cons ru (.cons ru2 .nil), ⟨_, hT2, rfl, _, rfl⟩⟩
    have I1 : Inv X pins σ (upd H s.heap.objs.size (.tup [x, y])) { s with heap := h'' } :=
      I.turnedNew (t' := s.toks) (ch := [z, TI, TO, i1, i2]) (fun c o hb q => (sb.2 c (fun q' => hb (by simp [q']))).trans (hk c o (fun q' => hb (by simp [q'])) (fun q' => hb (by simp [q'])) (fun q' => hb (by simp [q'])) (fun q' => hb (by simp [q'])) q)) hf (Nat.le_refl _) new
    refine ⟨.ref s.heap.objs.size, _, I1, rfl, ⟨_, x, y, rfl, I.hok.fresh (Nat.le_refl _), rfl, fun l hl => by rw [sqB_inj I hl hqx]; exact hx, fun l hl => by rw [sqB_inj I hl hqy]; exact hy⟩, ⟨z'', ?_, ⟨u, u2, ?_⟩, ?_, ?_⟩, fun c hcm => ?_⟩
    · exact (sb.2 _ D.TIz).trans (hk _ _ D.TIz D.TITO D.TIi1 D.TIi2 hTI)
    · exact (sb.2 _ D.TOz).trans TO'
    · exact iterB_at (it2_back h1' (seqB_keep p fun o q => hk _ o D.l1z D.l1TO D.l1i1 D.l1i2 q)) fun o q => (sb.2 _ D.i1z).trans q
    · exact iterB_at (it2_back h2' (seqB_keep p2 fun o q => hk _ o D.l2z D.l2TO D.l2i1 D.l2i2 q)) fun o q => (sb.2 _ D.i2z).trans q
    · have hlt : c < s.heap.objs.size := by
        have e' : c = z ∨ c = TI ∨ c = TO ∨ c = i1 ∨ c = i2 := by simpa using hcm
        rcases e' with q | q | q | q | q
        · rw [q]; exact hzl
        · rw [q]; exact Heap.lt_size hTI
        · rw [q]; exact Heap.lt_size hTO
        · rw [q]; obtain ⟨_, e1, _⟩ := iterB_rec h1; exact Heap.lt_size e1
        · rw [q]; obtain ⟨_, e2, _⟩ := iterB_rec h2; exact Heap.lt_size e2
      rw [upd_ne (Nat.ne_of_lt hlt)]
      exact (hf c hcm).1
  done := by
    intro X hP hw hK hc i pins s σ H E I hf st hg
    subst hP hw hK
    obtain ⟨hz, hTI, ⟨x0, y0, hTO⟩, h1, h2⟩ := st
    obtain ⟨xs, hqx, hend⟩ := hg
    obtain ⟨its, rv, p⟩ := sqB_at I hqx
    have l1 := rv.length
    exact pyNext_zz_end (I.ok.hd hc) D hz hTI hTO (it2_mk h1 p) (by simp; omega) fun h' hk => ⟨rfl, I.turnedL (t' := s.toks) (ch := [z, TI, TO, i1, i2]) (fun c o hb q =>
      hk c o (fun q' => hb (by simp [q'])) (fun q' => hb (by simp [q'])) (fun q' => hb (by simp [q'])) (fun q' => hb (by simp [q'])) q) hf⟩
  self := fun A i s Q E st h => wpAny_pyIter_zip st.1 h
def iZz (K : PySem.W.Frag) (ta : TA) : TI := fun σ H R => ta σ H fun vs H1 => ∃ (k1 k2 : Bool) (a b : Addr) (xs ys : List V), vs = [.ref a, .ref b] ∧ SqB k1 K H1 a xs ∧ SqB k2 K H1 b ys ∧ R (ItzB k1 k2 K a b) H1
theorem pi_zz {X : Cx} {e e2 : Expr} {ta : TA} {p pos tpos : Pos} {elts : List Expr} {kk : Nat} (hg : Gl X "zip") (hm : X.mg "zip" = none) (ha : PA X [e, e2] ta)
    (hs : starEach [e, e2] X.env = (false, eval e X.env) :: starEach [e2] X.env := by rfl) (hpl : (backTo pos (starEach [e2] X.env)).any (·.1) = false := by rfl) :
    PI X (.Tuple elts kk tpos) (.Call (.Name "zip" p) [e, e2] [] pos) (iZz X.K ta) := by
  refine ⟨fun pins s σ H R I h => ?_⟩
  refine Call_ (ld_blt I hg hm PyProof.Rows.boot_zip (PyProof.Rows.callWith_type1 (thn (ha.run pos pins s σ H _ I h) fun us s1 ⟨vs, H1, I1, r1, q1⟩ => ?_) hs hpl))
  obtain ⟨k1, k2, a, b, xs, ys, ex, hqx, hqy, q⟩ := q1
  subst ex
  cases r1 with
  | cons r rr =>
    cases rr with
    | cons r' rr =>
      cases rr
      cases r
      cases r'
      have fresh5 : ∀ c, c ∈ [s1.heap.objs.size + 4, s1.heap.objs.size + 2, s1.heap.objs.size + 3, s1.heap.objs.size, s1.heap.objs.size + 1] → FpOk X pins H1 c := fun c hcm => by
        have e' : c = s1.heap.objs.size + 4 ∨ c = s1.heap.objs.size + 2 ∨ c = s1.heap.objs.size + 3 ∨ c = s1.heap.objs.size ∨ c = s1.heap.objs.size + 1 := by simpa using hcm
        have hle : s1.heap.objs.size ≤ c := by
          rcases e' with z | z | z | z | z
          · rw [z]; exact Nat.le_add_right _ _
          · rw [z]; exact Nat.le_add_right _ _
          · rw [z]; exact Nat.le_add_right _ _
          · rw [z]; exact Nat.le_refl _
          · rw [z]; exact Nat.le_add_right _ _
        exact I1.fpOk hle (I1.hok.fresh hle)
      obtain ⟨its, rv, p1⟩ := sqB_at I1 hqx
      obtain ⟨its2, rv2, p2⟩ := sqB_at I1 hqy
      refine zz_call (ys := its2.toArray) (seqB_or p1) (seqB_or p2) fun h' hz hTI hTO h1 h2 hsz hk => wpAny_pyIter_zip hz ?_
      have I2 : Inv X pins σ H1 { s1 with heap := h' } := I1.kept (t' := s1.toks) hk
      exact ⟨s1.heap.objs.size + 4, [s1.heap.objs.size + 4, s1.heap.objs.size + 2, s1.heap.objs.size + 3, s1.heap.objs.size, s1.heap.objs.size + 1], _, _, H1, rfl, I2, turn_zz (PySem.W.ktu_apart s1.heap.objs.size a b (seqB_lt p1) (seqB_lt p2)), ⟨hz, hTI, ⟨_, _, hTO⟩, it2_back h1 (seqB_keep p1 fun o q => hk _ o q), it2_back h2 (seqB_keep p2 fun o q => hk _ o q)⟩, fresh5, q⟩
theorem walk_zz {k1 k2 : Bool} {K : PySem.W.Frag} {a b : Addr} {xs ys : List V} (hn : xs.length ≤ ys.length) : Walk (ItzB k1 k2 K a b) xs.length (fun H => SqB k1 K H a xs ∧ SqB k2 K H b ys) (YPair (fun i => xs[i]?) (fun i => ys[i]?)) := by
  refine ⟨fun i _ hi q => ?_, fun _ q => ⟨xs, q.1, Nat.le_refl _⟩, fun i H v H' _ q y => ?_⟩
  · exact ⟨xs, ys, xs[i], ys[i]'(by omega), q.1, q.2, List.getElem?_eq_getElem hi, List.getElem?_eq_getElem (by omega)⟩
  · obtain ⟨T, x, y, h1, h2, h3, h4, h5⟩ := y
    exact ⟨T, x, y, h1, h2, h3, h4 xs q.1, h5 ys q.2⟩
end Nm
set_option maxRecDepth 100000
set_option maxHeartbeats 4000000
/-! {k: v for .. in .. for .. in ..}, no tests: the machine's turns -/
namespace Nm
open PySem PySem.Spec PyProof.Rows L2
abbrev DC2 (kx vx t0 i0 t1 i1 : Expr) (scope : Scope) (pos : Pos) : Expr := .DictComp kx vx [⟨t0, i0, [], 0⟩, ⟨t1, i1, [], 0⟩] scope pos
section
variable {kx vx t0 i0 t1 i1 : Expr} {scope : Scope} {pos : Pos} {it acc : Value} {D : Addr} {env : Env}
theorem turn_outer : compTurn (DC2 kx vx t0 i0 t1 i1 scope pos) 0 it acc env = (standAt i0.pos >>= fun _ => pyNext it >>= fun r => match r with
    | none => pure (.done .next)
    | some item => letOwnedTupleGo t0 it item >>= fun _ => assign t0 env item >>= fun _ => (eval i1 env >>= fun src => standAt i1.pos >>= fun _ => foldedSetIterable i1 env src >>= fun src => holding [src] (pyIter src) >>= fun it1 =>
        runOwn (.compStart (DC2 kx vx t0 i0 t1 i1 scope pos) 1 it1 acc env) env >>= fun _ => again (.compLoop (DC2 kx vx t0 i0 t1 i1 scope pos) 0 it acc env))) := by rfl
theorem turn_inner : compTurn (DC2 kx vx t0 i0 t1 i1 scope pos) 1 it (.ref D) env = (standAt i1.pos >>= fun _ => pyNext it >>= fun r => match r with
    | none => pure (.done .next)
    | some item => letOwnedTupleGo t1 it item >>= fun _ => assign t1 env item >>= fun _ => ((eval kx env >>= fun kv => holding [kv] (eval vx env) >>= fun vv => standAt { kx.pos with endLine := vx.pos.endLine, endCol := vx.pos.endCol } >>= fun _ =>
        holding [kv, vv] (dictSet D kv vv)) >>= fun _ => again (.compLoop (DC2 kx vx t0 i0 t1 i1 scope pos) 1 it (.ref D) env))) := by rfl
variable {prog : Program} {w : World} {A : Around} {R : Result → Shared → Prop} {s : Shared}
/-- what is raised in a block is noted there -/
abbrev Nt (prog : Program) (w : World) (A : Around) (env : Env) (R : Result → Shared → Prop) : Value → Shared → Prop := notedBy (model prog w) A env fun x s' => R (.error x) s'
theorem loop_outer (plain : ∀ x, foldedSetIterable i1 env x = pure x) (I : Nat → Shared → Prop)
    (go : ∀ n s, I n s → wpAny (model prog w) A (pyNext it) (fun r sa => match r with
      | none => R (.ok .next) sa
      | some item => wpAny (model prog w) A (letOwnedTupleGo t0 it item) (fun _ sb => wpAny (model prog w) A (assign t0 env item) (fun _ sc => wpAny (model prog w) A (eval i1 env) (fun src sd => wpAny (model prog w) A (pyIter src) (fun it1 se =>
          codeAny (model prog w) A (.compStart (DC2 kx vx t0 i0 t1 i1 scope pos) 1 it1 acc env) (fun r s' => match r with
            | .ok _ => ∃ m, m < n ∧ I m s'
            | .error _ => False) se) (Nt prog w A env R) sd) (Nt prog w A env R) sc) (Nt prog w A env R) sb) (Nt prog w A env R) sa) (Nt prog w A env R) s)
    (n : Nat) (h : I n s) : codeAny (model prog w) A (.compLoop (DC2 kx vx t0 i0 t1 i1 scope pos) 0 it acc env) R s := by
  refine codeAny_loop rfl I (fun n s hI => ?_) n h
  show wpAny _ A ((compTurn (DC2 kx vx t0 i0 t1 i1 scope pos) 0 it acc env).onRaise (fun x => do noteFrame x env; theTreesLotGoes x)) _ _ s
  rw [turn_outer]
  refine wpAny_noted (wpAny_bind (wpAny_standAt (wpAny_bind (wpAny_mono (go n s hI) (fun r sa ha => ?_) fun _ _ z => z))))
  cases r with
  | none => exact wpAny_pure ha
  | some item =>
    refine wpAny_bind (wpAny_mono ha (fun _ sb hb => wpAny_bind (wpAny_mono hb (fun _ sc hc => wpAny_bind (wpAny_mono hc (fun src sd hd => ?_) fun _ _ z => z)) fun _ _ z => z)) fun _ _ z => z)
    refine wpAny_bind (wpAny_standAt (wpAny_bind (wpAny_of_eq (plain src) (wpAny_bind (wpAny_holding (wpAny_mono hd (fun it1 se he => wpAny_bind (wpAny_runOwn ?_)) fun _ _ z => z))))))
    rw [Around.mark_none]
    refine codeAny_mono he fun r s' hr => ?_
    cases r with
    | error e => exact hr.elim
    | ok f => exact wpAny_pure ⟨rfl, hr⟩
theorem loop_inner (I : Nat → Shared → Prop)
    (go : ∀ n s, I n s → wpAny (model prog w) A (pyNext it) (fun r sa => match r with
      | none => R (.ok .next) sa
      | some item => wpAny (model prog w) A (letOwnedTupleGo t1 it item) (fun _ sb => wpAny (model prog w) A (assign t1 env item) (fun _ sc => wpAny (model prog w) A (eval kx env) (fun kv sd => wpAny (model prog w) A (eval vx env) (fun vv se =>
          wpAny (model prog w) A (dictSet D kv vv) (fun _ sf => ∃ m, m < n ∧ I m sf) (Nt prog w A env R) se) (Nt prog w A env R) sd) (Nt prog w A env R) sc) (Nt prog w A env R) sb) (Nt prog w A env R) sa) (Nt prog w A env R) s)
    (n : Nat) (h : I n s) : codeAny (model prog w) A (.compLoop (DC2 kx vx t0 i0 t1 i1 scope pos) 1 it (.ref D) env) R s := by
  refine codeAny_loop rfl I (fun n s hI => ?_) n h
  show wpAny _ A ((compTurn (DC2 kx vx t0 i0 t1 i1 scope pos) 1 it (.ref D) env).onRaise (fun x => do noteFrame x env; theTreesLotGoes x)) _ _ s
  rw [turn_inner]
  refine wpAny_noted (wpAny_bind (wpAny_standAt (wpAny_bind (wpAny_mono (go n s hI) (fun r sa ha => ?_) fun _ _ z => z))))
  cases r with
  | none => exact wpAny_pure ha
  | some item =>
    refine wpAny_bind (wpAny_mono ha (fun _ sb hb => wpAny_bind (wpAny_mono hb (fun _ sc hc => ?_) fun _ _ z => z)) fun _ _ z => z)
    exact wpAny_bind (wpAny_bind (wpAny_mono hc (fun kv sd hd => wpAny_bind (wpAny_holding (wpAny_mono hd (fun vv se he => wpAny_bind (wpAny_standAt (wpAny_holding (wpAny_mono he (fun _ sf hf => wpAny_pure ⟨rfl, hf⟩) fun _ _ z => z)))) fun _ _ z => z))) fun _ _ z => z))
/-- the inner walk's start -/
theorem start_inner (h0 : codeAny (model prog w) A (.compLoop (DC2 kx vx t0 i0 t1 i1 scope pos) 1 it acc env) R s)
    (h : wpAny (model prog w) A (pyIter it) (fun it' s' => codeAny (model prog w) A (.compLoop (DC2 kx vx t0 i0 t1 i1 scope pos) 1 it' acc env) R s') (Nt prog w A env R) s) :
    codeAny (model prog w) A (.compStart (DC2 kx vx t0 i0 t1 i1 scope pos) 1 it acc env) R s := by
  refine codeAny_of_tree ?_
  show wpAny _ _ ((compStart (DC2 kx vx t0 i0 t1 i1 scope pos) 1 it acc env).onRaise (fun x => do noteFrame x env; standAt theWindowsPlace)) _ _ s
  refine wpAny_notedAt ?_
  unfold compStart
  show wpAny _ _ (ask >>= _) _ _ s
  refine wpAny_bind (wpAny_askSetting (wpAny_ite ?_))
  split
  · first
      | exact wpAny_bind (wpAny_pure (wpAny_pure ⟨rfl, h0⟩))
      | exact wpAny_pure ⟨rfl, h0⟩
  · refine wpAny_bind (wpAny_rule ?_)
    show wpAny _ _ (standAt i1.pos >>= _) _ _ s
    exact wpAny_bind (wpAny_standAt (wpAny_bind (wpAny_mono h (fun it' s' z => wpAny_pure ⟨rfl, z⟩) fun _ _ z => z)))
end
end Nm
set_option maxRecDepth 100000
set_option maxHeartbeats 8000000
/-! {k: v for .. in .. for .. in ..}, no tests: the rule -/
namespace Nm
open PySem PySem.Spec PyProof.Rows L2
/-- the walk of the first source; within each turn the walk of the second -/
def tDc2 (wi : TI) (g : TG) (wi1 : TI) (g1 : TG) (tk tv : TE) (vs vs1 : List Nat) : TE := fun σ H Q => wi σ H fun J Ha => ∀ D, Ha D = none → ∃ W : Nat → Nat → Hp → Prop, (∃ m, W 0 m (upd Ha D (.dK []))) ∧ ∀ i m H, W i m H →
  (J.stop i H ∧ Q (.ref D) H) ∨ (J.go i H ∧ ∃ Nx : Hp → Prop, (∀ H', Nx H' → ∃ m', m' < m ∧ W (i + 1) m' H') ∧ ∀ x H', J.yld i H x H' → g x (wipe σ vs) H' fun σ2 Hb => wipe σ2 vs = wipe σ vs ∧
    wi1 σ2 Hb fun J1 Hc => ∃ V : Nat → Nat → Hp → Prop, (∃ m, V 0 m Hc) ∧ ∀ j k H, V j k H →
      (J1.stop j H ∧ Nx H) ∨ (J1.go j H ∧ ∃ Ny : Hp → Prop, (∀ H', Ny H' → ∃ k', k' < k ∧ V (j + 1) k' H') ∧ ∀ x H', J1.yld j H x H' → g1 x (wipe σ2 vs1) H' fun σ3 Hd => wipe σ3 vs1 = wipe σ2 vs1 ∧
        tk σ3 Hd fun y He => tv σ3 He fun z Hf => ∃ kvs key, y = kV key ∧ Hf D = some (.dK kvs) ∧ kvs.length < sizeLine ∧ Ny (upd Hf D (.dK (putK kvs key z)))))
/-- what holds in any block of this comprehension -/
abbrev AllB (X : Cx) (scope : Scope) (q : Cx → Prop) : Prop := ∀ (s : Shared) (H : Hp) (C : Addr) (cl : List (Str × Addr)) (fp : List Addr), q (X.blk s H scope (compEnvC scope cl C X.env) fp)
section
variable {X : Cx}
theorem dc2_run {pins : List (Addr × Obj)} {s : Shared} {σ : L2.St} {H : Hp} {Q : VK} {kx vx t0 i0 t1 i1 : Expr} {scope : Scope} {own : List (Str × Nat)} {vs1 : List Nat} {pos pos' : Pos} {wi wi1 : TI} {g g1 : TG} {tk tv : TE} {use : Option (Value → Sem Unit)} {Qf : Value → Shared → Prop}
    (calm : X.calm = true) (nd : X.N.Nodup) (I : Inv X pins σ H s) (w0 : PI X t0 i0 wi) (blk : BlkOk X.N X.env.scope scope own) (sub : ∀ i ∈ vs1, i ∈ own.map (·.2)) (b0 : AllB X scope fun Y => PG Y t0 g) (w1 : AllB X scope fun Y => PI Y t1 i1 wi1) (b1 : AllB X scope fun Y => PG Y t1 g1)
    (bk : AllB X scope fun Y => PE Y kx tk) (bv : AllB X scope fun Y => PE Y vx tv) (p0 : ∀ x, foldedSetIterable i0 X.env x = pure x) (p1 : ∀ env x, foldedSetIterable i1 env x = pure x) (hyp : tDc2 wi g wi1 g1 tk tv (own.map (·.2)) vs1 σ H Q)
    (back : ∀ D C s' m H', Inv X pins σ H' s' → Q (.ref D) H' → s'.heap.Ns C m → FpOk X pins H' C → compPost (model X.prog X.w) X.A X.xe use Qf (.ref D) C (.ok .next) s') :
    wpAny (model X.prog X.w) X.A (comprehension (DC2 kx vx t0 i0 t1 i1 scope pos) scope X.env pos' newDict false (eval i0 X.env) use) Qf X.xe s := by
  have free_ : ∀ y ∈ scope.names, y.2 = .free → ∃ c, X.env.cells.lookup y.1 = some c := fun y hy e => (blk.free y hy e).elim (fun z => I.ok.has _ (.inl z)) fun z => I.ok.has _ (.inr z)
  refine wpAny_comprehension_free (use := use) rfl p0 (closure_ok free_) blk.kind (fun y hy e => by rw [blk.uniq y hy, e]) (thn (w0.run pins s σ H _ I hyp) fun _ _ hx => thn hx fun _ sa ha => ?_)
  obtain ⟨it, fp, tn, J, Ha, rfl, Ia, T, sta, fa, q⟩ := ha
  refine wpAny_newObj_type (newEnv_comp ?_)
  generalize eD : sa.heap.objs.size = D
  obtain ⟨W, ⟨m0, wz⟩, turn⟩ := q D (Ia.hok.fresh (Nat.le_of_eq eD))
  -- the dict that is made
  generalize eb : ({ sa with heap := sa.heap.push { cls := .type "dict", data := .dict #[] } } : Shared) = sb
  have hpb : sb.heap = sa.heap.push { cls := .type "dict", data := .dict #[] } := by rw [← eb]
  have Ib : Inv X pins σ (upd Ha D (.dK [])) sb := by
    rw [← eb]
    refine Ia.laid (t' := sa.toks) (fun b o e => Heap.get?_push_of_some _ e) (Nat.le_of_eq eD) ?_
    rw [← eD]
    exact dk_empty sa.heap Ia.big
  have fb : ∀ b ∈ fp, FpOk X pins (upd Ha D (.dK [])) b ∧ b < sb.heap.objs.size := fun b hb => by
    obtain ⟨o, e, _⟩ := T.obj _ _ sta b hb
    have lt := Heap.lt_size e
    refine ⟨⟨?_, (fa b hb).2⟩, by rw [hpb, Heap.size_push]; exact Nat.lt_succ_of_lt lt⟩
    rw [upd_ne (by rw [← eD]; exact Nat.ne_of_lt lt)]
    exact (fa b hb).1
  have stb : tn 0 sb.heap := T.keep _ _ _ sta fun b _ o e => by rw [hpb]; exact Heap.get?_push_of_some _ e
  have Ic := block_start Ib blk nd fb
  generalize hL : sb.heap.objs.size = L at Ic
  have pb0 := b0 sb (upd Ha D (.dK [])) L (cellsFrom (L + 1) scope.names (cloFrom X.env.cells scope.names [])) fp
  have pw1 := w1 sb (upd Ha D (.dK [])) L (cellsFrom (L + 1) scope.names (cloFrom X.env.cells scope.names [])) fp
  have pb1 := b1 sb (upd Ha D (.dK [])) L (cellsFrom (L + 1) scope.names (cloFrom X.env.cells scope.names [])) fp
  have pbk := bk sb (upd Ha D (.dK [])) L (cellsFrom (L + 1) scope.names (cloFrom X.env.cells scope.names [])) fp
  have pbv := bv sb (upd Ha D (.dK [])) L (cellsFrom (L + 1) scope.names (cloFrom X.env.cells scope.names [])) fp
  show codeAny _ _ (.compStart (DC2 kx vx t0 i0 t1 i1 scope pos) 0 (.ref it) (.ref D) (compEnvC scope (cellsFrom (L + 1) scope.names (cloFrom X.env.cells scope.names [])) L X.env)) (compPost (model X.prog X.w) X.A X.xe use Qf (.ref D) L) { sb with heap := pushCells (sb.heap.push { cls := .type "dict", data := .dict #[] }) scope.names }
  generalize hce : compEnvC scope (cellsFrom (L + 1) scope.names (cloFrom X.env.cells scope.names [])) L X.env = ce at Ic pb0 pw1 pb1 pbk pbv ⊢
  have ceL : ce.locals = L := by subst hce; rfl
  generalize upd Ha D (.dK []) = Hb at *
  generalize hsc : ({ sb with heap := pushCells (sb.heap.push { cls := .type "dict", data := .dict #[] }) scope.names } : Shared) = sc at Ic ⊢
  have stc : tn 0 sc.heap := T.keep _ _ _ stb fun b _ o e => by rw [← hsc]; exact pushCells_keeps _ _ _ _ (Heap.get?_push_of_some _ e)
  have clean : ∀ {σ' : L2.St} {H' : Hp} {s' : Shared}, Inv (X.blk sb Hb scope ce fp) [] σ' H' s' → (∀ b ∈ fp, H' b = none) → ∀ b ∈ fp, FpOk (X.blk sb Hb scope ce fp) [] H' b := fun {σ' H' s'} J' hn b hb =>
    ⟨hn b hb, (J'.ok.exf b hb).1, J'.ok.exfs b hb, .inl hb, fun x c e => (J'.ok.exf b hb).2 x c e, fun p hp => absurd (show p ∈ ([] : List (Addr × Obj)) ++ [] from hp) (by simp)⟩
  have go : codeAny (model X.prog X.w) X.A (.compLoop (DC2 kx vx t0 i0 t1 i1 scope pos) 0 (.ref it) (.ref D) ce) (compPost (model X.prog X.w) X.A X.xe use Qf (.ref D) L) sc := by
    refine loop_outer (p1 ce) (fun n s' => ∃ i H', Inv (X.blk sb Hb scope ce fp) [] (wipe σ (own.map (·.2))) H' s' ∧ tn i s'.heap ∧ (∀ b ∈ fp, H' b = none) ∧ W i n H') ?_ m0 ⟨0, Hb, Ic, stc, fun b hb => (fb b hb).1.1, wz⟩
    rintro n sd ⟨i, Hd, Id, std, nofp, wd⟩
    rcases turn i n Hd wd with ⟨stop, qq⟩ | ⟨more, Nx, hNx, step⟩
    · refine thnF (T.done (X.blk sb Hb scope ce fp) rfl rfl rfl calm i [] sd _ Hd (fun _ _ => False) Id (clean Id nofp) std stop) fun r se ⟨hr, Ie⟩ => ?_
      subst hr
      have If : Inv X pins σ Hd se := Ib.call' (ch := fp) Ie.os Ie.base Ie.hok Ie.bare fun b hb => ⟨(fb b hb).1.2.2.2.1, (fb b hb).1.2.1, (fb b hb).1.2.2.2.2.1, (fb b hb).1.2.2.2.2.2⟩
      have nL : Hd L = none := by
        have z : Hd ce.locals = none := Ie.free
        rwa [ceL] at z
      obtain ⟨m, hn, _⟩ := Ie.loc
      have hn : se.heap.Ns ce.locals m := hn
      rw [ceL] at hn
      exact back D L se m Hd If qq hn (Ib.fpOk (Nat.le_of_eq hL) nL)
    · refine thnF (T.item (X.blk sb Hb scope ce fp) rfl rfl rfl calm i [] sd _ Hd (fun _ _ => False) Id (clean Id nofp) std more) fun r se ⟨u, hr, he⟩ => ?_
      subst hr
      refine thnF he fun _ sf ⟨x, Hf, If, rf, yf, stf, nof⟩ => ?_
      refine thnF (pb0.run _ sf _ Hf x u _ (If.pinned (clean If nof) (T.obj _ _ stf)) rf (step x Hf yf)) fun _ sg ⟨σg, Hg, Ig, hwg, qg⟩ => ?_
      -- what a turn leaves
      have done_ : ∀ {σ9 : L2.St} {s' : Shared} {H' : Hp}, Inv (X.blk sb Hb scope ce fp) ([] ++ pinsAt fp sf.heap) σ9 H' s' → (wipe σ (own.map (·.2))).length = σ9.length → (∀ (j : Nat) v, (wipe σ (own.map (·.2)))[j]? = some (some v) → σ9[j]? = some (some v)) → Nx H' →
          ∃ m, m < n ∧ ∃ i H', Inv (X.blk sb Hb scope ce fp) [] (wipe σ (own.map (·.2))) H' s' ∧ tn i s'.heap ∧ (∀ b ∈ fp, H' b = none) ∧ W i m H' := fun {σ9 s' H'} J' len kept nx => by
        obtain ⟨m', hm, w'⟩ := hNx H' nx
        have stays : ∀ b ∈ fp, ∀ o, sf.heap.get? b = some o → s'.heap.get? b = some o ∧ H' b = none := fun b hb o e =>
          have z := J'.pin (b, o) (List.mem_append_right _ (List.mem_append_right _ (mem_pinsAt hb e)))
          ⟨z.1, z.2.1⟩
        refine ⟨m', hm, i + 1, H', (J'.unpinned (pins := [])).weak len kept, T.keep _ _ _ stf fun b hb o e => (stays b hb o e).1, fun b hb => ?_, w'⟩
        obtain ⟨o, e, _⟩ := T.obj _ _ stf b hb
        exact (stays b hb o e).2
      have leng : (wipe σ (own.map (·.2))).length = σg.length := by rw [← hwg, wipe_length]
      have keptg : ∀ (j : Nat) v, (wipe σ (own.map (·.2)))[j]? = some (some v) → (wipe σg vs1)[j]? = some (some v) := fun j v e => by
        rw [← hwg] at e
        obtain ⟨e1, e2⟩ := wipe_some e
        rwa [wipe_out fun z => e2 (sub j z)]
      refine thnF (pw1.run _ sg σg Hg _ Ig qg) fun _ sh hx => thnF hx fun _ si hi => ?_
      obtain ⟨it1, fp1, tn1, J1, Hi, rfl, Ii, T1, sti, fi, V, ⟨m1, vz⟩, turn1⟩ := hi
      have clean1 : ∀ {H' : Hp}, (∀ b ∈ fp1, H' b = none) → ∀ b ∈ fp1, FpOk (X.blk sb Hb scope ce fp) ([] ++ pinsAt fp sf.heap) H' b := fun hn b hb => ⟨hn b hb, (fi b hb).2⟩
      have go1 : codeAny (model X.prog X.w) X.A (.compLoop (DC2 kx vx t0 i0 t1 i1 scope pos) 1 (.ref it1) (.ref D) ce)
          (fun r s' => match r with
            | .ok _ => ∃ m, m < n ∧ ∃ i H', Inv (X.blk sb Hb scope ce fp) [] (wipe σ (own.map (·.2))) H' s' ∧ tn i s'.heap ∧ (∀ b ∈ fp, H' b = none) ∧ W i m H'
            | .error _ => False) si := by
        refine loop_inner (fun k s' => ∃ j H', Inv (X.blk sb Hb scope ce fp) ([] ++ pinsAt fp sf.heap) (wipe σg vs1) H' s' ∧ tn1 j s'.heap ∧ (∀ b ∈ fp1, H' b = none) ∧ V j k H') ?_ m1 ⟨0, Hi, Ii.weak (wipe_length _ _) (fun j v e => (wipe_some e).1), sti, fun b hb => (fi b hb).1, vz⟩
        rintro k sj ⟨j, Hj, Ij, stj, noj, vj⟩
        rcases turn1 j k Hj vj with ⟨stop1, nx1⟩ | ⟨more1, Ny, hNy, step1⟩
        · refine thnF (T1.done (X.blk sb Hb scope ce fp) rfl rfl rfl calm j _ sj (wipe σg vs1) Hj (fun _ _ => False) Ij (clean1 noj) stj stop1) fun r sk ⟨hr, Ik⟩ => ?_
          subst hr
          exact done_ Ik (leng.trans (wipe_length σg vs1).symm) keptg nx1
        · refine thnF (T1.item (X.blk sb Hb scope ce fp) rfl rfl rfl calm j _ sj (wipe σg vs1) Hj (fun _ _ => False) Ij (clean1 noj) stj more1) fun r sk ⟨u1, hr, hk⟩ => ?_
          subst hr
          refine thnF hk fun _ sl ⟨x1, Hl, Il, rl, yl, stl, nol⟩ => ?_
          refine thnF (pb1.run _ sl (wipe σg vs1) Hl x1 u1 _ (Il.pinned (clean1 nol) (T1.obj _ _ stl)) rl (step1 x1 Hl yl)) fun _ sm ⟨σm, Hm, Im, hwm, qm⟩ => ?_
          refine thnF (pbk.run _ sm σm Hm _ Im qm) fun _ sn ⟨yk, Hn, In, rn, qn⟩ => ?_
          refine thnF (pbv.run _ sn σm Hn _ In qn) fun _ so ⟨yv, Ho, Io, ro, kvs, key, ek, hD, hz, nx⟩ => ?_
          subst ek
          refine d_dictSet (X := X.blk sb Hb scope ce fp) Io hD hz rn ro fun sp Ip => ?_
          obtain ⟨k', hk', v'⟩ := hNy _ nx
          have stays : ∀ b ∈ fp1, ∀ o, sl.heap.get? b = some o → sp.heap.get? b = some o ∧ _ := fun b hb o e =>
            have z := Ip.pin (b, o) (List.mem_append_right _ (List.mem_append_right _ (mem_pinsAt hb e)))
            ⟨z.1, z.2.1⟩
          refine ⟨k', hk', j + 1, _, Ip.unpinned.weak (by rw [← hwm, wipe_length]) (fun j v e => by rw [← hwm] at e; exact (wipe_some e).1), T1.keep _ _ _ stl fun b hb o e => (stays b hb o e).1, fun b hb => ?_, v'⟩
          obtain ⟨o, e, _⟩ := T1.obj _ _ stl b hb
          exact (stays b hb o e).2
      exact start_inner go1 (T1.self X.A 0 _ _ _ sti go1)
  exact codeAny_compStart_dict go (T.self X.A 0 _ _ _ stc go)
/-- as a value -/
theorem pe_dc2 {kx vx t0 i0 t1 i1 : Expr} {scope : Scope} {own : List (Str × Nat)} {vs1 : List Nat} {pos : Pos} {wi wi1 : TI} {g g1 : TG} {tk tv : TE}
    (calm : X.calm = true) (nd : X.N.Nodup) (w0 : PI X t0 i0 wi) (blk : BlkOk X.N X.env.scope scope own) (sub : ∀ i ∈ vs1, i ∈ own.map (·.2)) (b0 : AllB X scope fun Y => PG Y t0 g) (w1 : AllB X scope fun Y => PI Y t1 i1 wi1) (b1 : AllB X scope fun Y => PG Y t1 g1)
    (bk : AllB X scope fun Y => PE Y kx tk) (bv : AllB X scope fun Y => PE Y vx tv) (p0 : ∀ x, foldedSetIterable i0 X.env x = pure x := by intro _; rfl) (p1 : ∀ env x, foldedSetIterable i1 env x = pure x := by intro _ _; rfl) :
    PE X (DC2 kx vx t0 i0 t1 i1 scope pos) (tDc2 wi g wi1 g1 tk tv (own.map (·.2)) vs1) := by
  refine ⟨fun pins s σ H Q I hyp => ?_⟩
  unfold DC2
  rw [arm_eval_DictComp]
  refine dc2_run calm nd I w0 blk sub b0 w1 b1 bk bv p0 p1 hyp fun D C s' m H' I' q hn f => ⟨m, hn, fun h'' sb => ?_⟩
  obtain ⟨f0, f1, f2, f3, f4, f5⟩ := f
  exact ⟨.ref D, H', I'.turned (t' := s'.toks) (fun b o hb e => (sb.2 b hb).trans e) f0 f1 f3 f4 f5, rfl, q⟩
/-- name = .., the name a local -/
theorem ps_setDc2 {n : Nat} {z : Str} {zp spos : Pos} {kx vx t0 i0 t1 i1 : Expr} {scope : Scope} {own : List (Str × Nat)} {vs1 : List Nat} {pos : Pos} {wi wi1 : TI} {g g1 : TG} {tk tv : TE}
    (calm : X.calm = true) (nd : X.N.Nodup) (at_ : X.N[n]? = some z) (loc : X.env.scope.names.lookup z = some .local) (sw : swapsWith (DC2 kx vx t0 i0 t1 i1 scope pos) (some (.Name z zp)) spos.line X.env = pure true) (w0 : PI X t0 i0 wi) (blk : BlkOk X.N X.env.scope scope own) (sub : ∀ i ∈ vs1, i ∈ own.map (·.2))
    (b0 : AllB X scope fun Y => PG Y t0 g) (w1 : AllB X scope fun Y => PI Y t1 i1 wi1) (b1 : AllB X scope fun Y => PG Y t1 g1) (bk : AllB X scope fun Y => PE Y kx tk) (bv : AllB X scope fun Y => PE Y vx tv)
    (p0 : ∀ x, foldedSetIterable i0 X.env x = pure x := by intro _; rfl) (p1 : ∀ env x, foldedSetIterable i1 env x = pure x := by intro _ _; rfl) :
    PS X (.Assign [.Name z zp] (DC2 kx vx t0 i0 t1 i1 scope pos) spos) (tAsg (tDc2 wi g wi1 g1 tk tv (own.map (·.2)) vs1) (gName n)) := by
  refine ⟨fun pins s σ H D I hyp => ?_⟩
  rw [exec_Assign_Name_used _ _ _ _ sw]
  refine wpAny_bind (wpAny_standAt (wpAny_bind ?_))
  show wpAny _ X.A (do let _ ← comprehension (DC2 kx vx t0 i0 t1 i1 scope pos) scope X.env (firstIterPos [⟨t0, i0, [], 0⟩, ⟨t1, i1, [], 0⟩] pos) newDict false (eval i0 X.env) (some (assign (.Name z zp) X.env))) _ _ s
  have hyp' : tDc2 wi g wi1 g1 tk tv (own.map (·.2)) vs1 σ H (fun x H1 => gName n x σ H1 D.nx) := hyp
  have core := dc2_run (pos := pos) (pos' := firstIterPos [⟨t0, i0, [], 0⟩, ⟨t1, i1, [], 0⟩] pos) (use := some (assign (.Name z zp) X.env)) (Qf := fun _ s' => SP X pins D .next s') calm nd I w0 blk sub b0 w1 b1 bk bv p0 p1 hyp' fun L C s' m H' I' q hn f => ?_
  · exact wpAny_bind (thn core fun _ s' hq => wpAny_pure (wpAny_pure hq))
  show wpAny _ _ (assign (.Name z zp) X.env (.ref L)) _ _ _
  refine wpAny_assign_Name (store_ok2 (v := V.ref L) I' nd at_ (.inl loc) rfl (fun s2 I2 ⟨a, sb, ha⟩ => ?_) (.inr loc))
  have ⟨f0, f1, f2, f3, f4, f5⟩ := f
  have haC : C ≠ a := ha.elim (fun e => e ▸ f1) (fun e w => f4 z a e w.symm)
  exact ⟨m, hn.sameBut sb haC, fun h3 sb3 => ⟨_, H', I2.turned (t' := s2.toks) (fun b o hb e => (sb3.2 b hb).trans e) f0 f1 f3 f4 f5, q⟩⟩
end
end Nm
set_option maxRecDepth 100000
set_option maxHeartbeats 8000000
/-! turned_copies -/
namespace Nm
open PySem PySem.Spec PyProof.Rows L2
section
variable {X : Cx}
/-- len(o), o an instance whose class has its own __len__ -/
def rLenOwn (C : Addr) (sp : Sp) (E : XK) : List V → Hp → VK → Prop := fun xs H Q => ∃ (a dx : Addr) (fs : List (Str × V)), xs = [.ref a] ∧ H a = some (.ins C dx fs) ∧ sp [.ref a] H (fun v H1 => ∃ n : Nat, v = .int n ∧ n ≤ 1000000 ∧ Q (.int n) H1) E
theorem call_lenOwn {k : Nat} {f C : Addr} {fd : FuncData} {ps : List Str} {sp : Sp} {CX : CXT} {E : XK} (F : FnOk X.prog X.w X.K X.mg X.base CX k f fd ps sp) (M : Meth X.K C "__len__" f) (hr : Room (k + 1) X.A) (hb : Binds X.K fd ps []) (hx : Passes CX X E) :
    CallR X (.builtin "len") (rLenOwn C sp E) := by
  intro pins s σ H xs us Q I r h
  obtain ⟨a, dx, fs, rfl, ha, h⟩ := h
  obtain ⟨u, rfl, ru⟩ := vals1 r
  obtain rfl : u = Value.ref a := ru
  obtain ⟨mA, O, _⟩ := ins_get I.hok ha
  obtain ⟨od, J, _⟩ := O.look
  obtain ⟨m, fr⟩ := I.fr
  refine PySem.W.len_K fr I.ok.mod.kin J M.at_ M.fn ?_
  have hl : ([Value.ref a] : List Value).length = ps.length := by rw [← r.length]; exact F.len _ _ _ _ h
  have b := hb s [.ref a] I.kIn (by rw [List.append_nil]; exact hl)
  rw [List.append_nil] at b
  refine wpAny_call (codeAny_mono (F.run X.A.in1 X.stack s H ⟨[.ref a], []⟩ [.ref a] [.ref a] _ E hr.in1 I.env0.in1 b r h) fun r s' hq => ?_)
  cases r with
  | error e => exact hx pins σ H s e s' I hq
  | ok fl =>
    cases fl with
    | ret u =>
      obtain ⟨v, H', I', rv, n, rfl, hn, q⟩ := I.after hq
      obtain ⟨t, rfl⟩ := (show ∃ t, u = Value.int (n : Int) t from rv)
      exact ⟨⟨by omega, by omega⟩, .int n, H', I'.tok _, ⟨_, rfl⟩, q⟩
    | next => exact False.elim hq
    | brk => exact False.elim hq
    | cont => exact False.elim hq
end
/-- any walk, as a loop's wish -/
theorem walkW {J : It} {n : Nat} {G : Hp → Prop} {Y : Nat → Hp → V → Hp → Prop} (w : Walk J n G Y) {H0 : Hp} {Qd : Hp → Prop} {B : V → Hp → (Hp → Prop) → Prop} (Pv : Nat → Hp → Prop) (h0 : Pv 0 H0) (hG : ∀ i H, i ≤ n → Pv i H → G H)
    (hs : ∀ i x H H', i < n → Pv i H → Y i H x H' → B x H' (Pv (i + 1))) (hd : ∀ H, Pv n H → Qd H) :
    ∃ W : Nat → Nat → Hp → Prop, (∃ m, W 0 m H0) ∧ ∀ i m H, W i m H → (J.stop i H ∧ Qd H) ∨ (J.go i H ∧ ∃ Nx : Hp → Prop, (∀ H', Nx H' → ∃ m', m' < m ∧ W (i + 1) m' H') ∧ ∀ x H', J.yld i H x H' → B x H' Nx) := by
  refine ⟨fun i m H => m + i = n ∧ Pv i H, ⟨n, by omega, h0⟩, fun i m H ⟨e, p⟩ => ?_⟩
  have q := hG i H (by omega) p
  cases m with
  | zero =>
    obtain rfl : i = n := by omega
    exact .inl ⟨w.stops H q, hd H p⟩
  | succ m => exact .inr ⟨w.goes i H (by omega) q, Pv (i + 1), fun H' p' => ⟨m, by omega, by omega, p'⟩, fun x H' y => hs i x H H' (by omega) p (w.yields i H x H' (by omega) q y)⟩
theorem tdue_none {xs : List V} {m : Nat} (h : turnsDue xs m = none) : xs.length = m ∧ ∀ x ∈ xs, isIntV x = true := by
  unfold turnsDue at h
  split at h
  · cases h
  · rename_i e
    rw [List.findIdx?_eq_none_iff] at e
    split at h
    · rename_i hl
      exact ⟨hl, fun x hx => by simpa using e x hx⟩
    · cases h
theorem same_off {H H' : Hp} {D : Addr} {o : HO} (s : Same H H') (h : H D = none) : Same H (upd H' D o) := fun b u e => by
  rw [upd_ne (ne_of_none e h)]
  exact s _ _ e
theorem tdue_ints : ∀ {xs : List V}, (∀ x ∈ xs, isIntV x = true) → ∃ ts : List Int, xs = ts.map V.int
  | [], _ => ⟨[], rfl⟩
  | x :: xs, h => by
    obtain ⟨ts, rfl⟩ := tdue_ints (xs := xs) fun y hy => h y (List.mem_cons_of_mem _ hy)
    have hx := h x List.mem_cons_self
    cases x with
    | int i => exact ⟨i :: ts, rfl⟩
    | _ => simp [isIntV] at hx
theorem sqB_same {k : Bool} {K : PySem.W.Frag} {H H' : Hp} {a : Addr} {xs : List V} (h : SqB k K H a xs) (s : Same H H') : SqB k K H' a xs := by
  cases k with
  | true => exact sq_l s h
  | false => exact sq_t s h
theorem sqB_or {k : Bool} {K : PySem.W.Frag} {H : Hp} {a : Addr} {xs : List V} (h : SqB k K H a xs) : SqL K H a xs ∨ SqT K H a xs := by
  cases k with
  | true => exact .inl h
  | false => exact .inr h
theorem sqB_thr {k : Bool} {K : PySem.W.Frag} {H H7 H' : Hp} {a p : Addr} {xs : List V} (h : SqB k K H a xs) (hp : H p = none) (s : Same H H7) (b : But p H7 H') : SqB k K H' a xs := by
  cases k with
  | true => exact h.elim (fun h => .inl (h.elim (fun h => .inl (b _ _ (s _ _ h) (ne_of_none h hp))) fun ⟨o, h⟩ => .inr ⟨o, b _ _ (s _ _ h) (ne_of_none h hp)⟩)) .inr
  | false => exact h.elim (fun h => .inl (h.elim (fun h => .inl (b _ _ (s _ _ h) (ne_of_none h hp))) fun ⟨o, h⟩ => .inr ⟨o, b _ _ (s _ _ h) (ne_of_none h hp)⟩)) .inr
/-- the places of the copies in the making -/
def PlA (m : Nat) (cl : List Str) (H : Hp) (D : Addr) (c : Nat) : Prop := ∃ us : List Addr, H D = some (.lst (us.map V.ref)) ∧ us.length = c ∧ ∀ (k : Nat) (t : Addr), us[k]? = some t → H t = some (.tup [.str (pN k), .str ((cl[k / m]?).getD "")])
theorem PlA.add {m : Nat} {cl : List Str} {H : Hp} {D u : Addr} {c : Nat} {y : Str} (h : PlA m cl H D c) (hu : H u = none) (hy : (cl[c / m]?).getD "" = y) : ∃ acc, (upd H u (.tup [.str (pN c), .str y])) D = some (.lst acc) ∧ acc.length = c ∧ PlA m cl (upd (upd H u (.tup [.str (pN c), .str y])) D (.lst (acc ++ [.ref u]))) D (c + 1) := by
  obtain ⟨us, h1, h2, h3⟩ := h
  have nu : u ≠ D := fun e => by subst e; rw [h1] at hu; cases hu
  have hD : (upd H u (.tup [.str (pN c), .str y])) D = some (.lst (us.map V.ref)) := by rw [upd_ne nu.symm]; exact h1
  refine ⟨_, hD, by rw [List.length_map]; exact h2, us ++ [u], by rw [upd_same, List.map_append]; rfl, by rw [List.length_append, h2]; rfl, fun k t hk => ?_⟩
  by_cases hkc : k < us.length
  · rw [List.getElem?_append_left hkc] at hk
    have := h3 k t hk
    rw [upd_ne (ne_of this h1 (by intro z; cases z)), upd_ne (ne_of_none this hu)]
    exact this
  · rw [List.getElem?_append_right (by omega)] at hk
    have hk0 : k - us.length = 0 := by
      have := (List.getElem?_eq_some_iff.mp hk).1
      simp at this
      omega
    rw [hk0] at hk
    cases hk
    have ek : k = c := by omega
    subst ek
    rw [upd_ne nu, upd_same, hy]
theorem PlA.same {m : Nat} {cl : List Str} {H H' : Hp} {D : Addr} {c : Nat} (h : PlA m cl H D c) (s : Same H H') : PlA m cl H' D c := by
  obtain ⟨us, h1, h2, h3⟩ := h
  exact ⟨us, s _ _ h1, h2, fun k t hk => s _ _ (h3 k t hk)⟩
theorem PlA.places {m : Nat} {cl : List Str} {H : Hp} {D : Addr} {c : Nat} (h : PlA m cl H D c) : PlacesAt H D (nmT c) (clT m cl c) := by
  obtain ⟨us, h1, h2, h3⟩ := h
  refine ⟨us, h1, by rw [nmT_len, h2], fun i t ht => ?_⟩
  have hi : i < c := by rw [← h2]; exact (List.getElem?_eq_some_iff.mp ht).1
  exact ⟨_, _, nmT_at hi, clT_at hi, h3 i t ht⟩
/-- the ties of the copies in the making -/
def TiA (H : Hp) (D : Addr) (tl : List TieV) : Prop := TiesAt H D tl
theorem TiA.add {H : Hp} {D u : Addr} {tl : List TieV} {t : TieV} (h : TiesAt H D tl) (hu : H u = none) : ∃ acc, (upd H u (.tup t.tup)) D = some (.lst acc) ∧ acc.length = tl.length ∧ TiesAt (upd (upd H u (.tup t.tup)) D (.lst (acc ++ [.ref u]))) D (tl ++ [t]) := by
  obtain ⟨us, h1, h2⟩ := h
  have nu : u ≠ D := fun e => by subst e; rw [h1] at hu; cases hu
  have hD : (upd H u (.tup t.tup)) D = some (.lst (us.map V.ref)) := by rw [upd_ne nu.symm]; exact h1
  refine ⟨_, hD, by rw [List.length_map, Paired.length h2], us ++ [u], by rw [upd_same, List.map_append]; rfl, paired_snoc (Paired.mapP h2 fun u' tv e => ?_) (by rw [upd_ne nu]; exact upd_same)⟩
  rw [upd_ne (ne_of e h1 (by intro z; cases z)), upd_ne (ne_of_none e hu)]
  exact e
theorem ties_same_of {H H' : Hp} {D : Addr} {tl : List TieV} (h : TiesAt H D tl) (s : Same H H') : TiesAt H' D tl := by
  obtain ⟨us, h1, h2⟩ := h
  exact ⟨us, s _ _ h1, Paired.mapP h2 fun u tv e => s _ _ e⟩
theorem places_but {H H' : Hp} {p pl : Addr} {nm cl : List Str} (h : PlacesAt H pl nm cl) (b : But p H H') (n : pl ≠ p) (ht : ∀ xs, H p ≠ some (.tup xs)) : PlacesAt H' pl nm cl := by
  obtain ⟨ts, h1, h2, h3⟩ := h
  refine ⟨ts, b _ _ h1 n, h2, fun i t ht' => ?_⟩
  obtain ⟨x, y, hx, hy, e⟩ := h3 i t ht'
  exact ⟨x, y, hx, hy, b _ _ e fun z => by subst z; exact ht _ e⟩
/-- what the written part says of TooMany -/
structure TxtToo (K : PySem.W.Frag) (mg : Str → Option Value) (CT : Addr) : Prop where
  q : PySem.W.excIn K CT [.type "ValueError", .type "Exception", .type "BaseException", .type "object"] "ValueError.__new__" = true
  mT : mg "TooMany" = some (.ref CT)
  kT : PySem.W.keepIn K (.ref CT) = true
  isE : PySem.W.subIn K (.ref CT) (.type "BaseException") = some true
  isT : PySem.W.typeIn K (.ref CT) = some (.type "type")
/-- the copies as a web and the dict that leads them down -/
def Copied (C : Addr) (H H' : Hp) (res : Addr) (m : Nat) (nm cl : List Str) (rs : List RowV) (ts : List Int) : Prop := ∃ (w2 q2 dc2 r2 wd2 d2 : Addr) (rs2 : List RowV), H' res = some (.tup [.ref w2, .ref d2]) ∧ (H w2 = none ∧ H q2 = none ∧ H dc2 = none ∧ H r2 = none ∧ H wd2 = none ∧ H d2 = none ∧ H res = none) ∧
  WebX C H' w2 q2 dc2 r2 wd2 (nmT (nm.length * m)) (clT m cl (nm.length * m)) rs2 ∧ rs2.Perm (cRows m rs ts (rs.length * m)) ∧ rs2.Pairwise (fun x y => lexK (rowK y.key) (rowK x.key) = false) ∧ H' d2 = some (.dK (foldK m nm (nm.length * m)))
section
variable {P : Program} {w : World} {K : PySem.W.Frag} {mg : Str → Option Value} {base : Heap}
def spTC (K : PySem.W.Frag) (C CB CT : Addr) : Sp := fun vs H Q E => ∃ (we q dc r wd c : Addr) (nm cl : List Str) (rs : List RowV) (m mp : Int) (kb : Bool) (xs : List V), vs = [.ref we, .int m, .ref c, .int mp] ∧ WebX C H we q dc r wd nm cl rs ∧ nm.Nodup ∧ cl.length = nm.length ∧ (∀ x ∈ cl, isWordB x = true) ∧ RowsFit nm.length rs ∧ 1 ≤ nm.length ∧ nm.length ≤ 240 ∧
  (rs.length ≤ 4800 ∧ ∀ m' : Nat, m = (m' : Int) → nm.length * m' ≤ 240 → rs.length * m' ≤ 4800) ∧ SqB kb K H c xs ∧ xs.length ≤ 5000 ∧ (∀ x ∈ xs, NumX H x) ∧ 1 ≤ m ∧ mp ≤ 240 ∧
  (∀ (ts : List Int) (m' : Nat) (res : Addr) (H' : Hp), turnsDue xs rs.length = none → xs = ts.map V.int → m = (m' : Int) → 1 ≤ m' → (nm.length * m' : Nat) ≤ mp → Copied C H H' res m' nm cl rs ts → Same H H' → Q (.ref res) H') ∧
  (∀ H', turnsDue xs rs.length = none → mp < m * (nm.length : Int) → Same H H' → E (.ref CT) none H') ∧
  ∀ (n : Nat) (d : Addr) (H' : Hp), turnsDue xs rs.length = some n → H d = none → H' d = some (.xd [("number", .int (n : Int))]) → Same H H' → E (.ref CB) (some d) H'
abbrev nTC : List Str := ["web", "many", "turns", "most_places", "first_copy", "places", "folding", "ties", "one", "other", "kind", "width", "turn", "u", "end", "name", "at"]
abbrev psTC : List Str := ["web", "many", "turns", "most_places"]
theorem scTC : FnScope nTC psTC (defScope sTurnedCopies) := ⟨rfl, rfl, rfl, by decide +kernel, rfl, by decide +kernel, by decide +kernel⟩
/-- f"p{..}" -/
abbrev tP (t : TE) : TE := fun σ H Q => tJs [tC (.str "p"), tFmt t] Str.empty σ H fun out H1 => Q (.str out) H1
abbrev tFcU (K : PySem.W.Frag) (i j : Nat) : TE := tOp (rI0 fun i j => .int (i + j)) (tDGet (tVar 4) (tVar i)) (tVar j)
theorem p_text {k : Nat} (h : k < 240) {Q : Str → Hp → Prop} {H : Hp} (q : Q (pN k) H) : (Str.empty ++ ("p" : Str)).length ≤ sizeLine ∧ (((k : Int).natAbs.log2 < 1920) ∧ ((Str.empty ++ ("p" : Str)) ++ ((toString (k : Int) : String) : Str)).length ≤ sizeLine ∧ Q ((Str.empty ++ ("p" : Str)) ++ ((toString (k : Int) : String) : Str)) H) := by
  have e : Str.empty ++ ("p" : Str) = ("p" : Str) := by decide +kernel
  rw [e]
  have hl := pN_len k h
  refine ⟨by decide +kernel, num_log (by omega), ?_, q⟩
  show (pN k).length ≤ sizeLine
  rw [sizeLine_eq]
  omega
theorem ok_tc {f C fi CB CT : Addr} {fd fdi : FuncData} (F : FunD K "turned_copies" "turned_copies" (defArgs sTurnedCopies) (defBody sTurnedCopies) (defScope sTurnedCopies) [] [("most_places", .int 240)] f fd) (T : TxtM K mg C fi) (TB : TxtBad P w K mg base CB) (TT : TxtToo K mg CT)
    (Gn : ∃ f fd, FnOk P w K mg base (L2.CX P w) 4 f fd ["ties", "turns"] (spNeedTu K CB) ∧ mg "need_turns" = some (.ref f) ∧ PySem.W.keepIn K (.ref f) = true ∧ Binds K fd ["ties", "turns"] [])
    (Gt : MethD P w K mg base C "ties" ["self"] 1 (spTies C)) (Gp : MethD P w K mg base C "places" ["self"] 1 (spPlaces C)) (Gc : MethD P w K mg base C "colour" ["self", "name"] 2 (spColour C)) (Gl : MethD P w K mg base C "__len__" ["self"] 1 (spLen C))
    (Gi : FnOk P w K mg base CX0 5 fi fdi ["self", "places", "ties"] (spWebI C)) (bi : Binds K fdi ["self", "places", "ties"] []) : FnOk P w K mg base (L2.CX P w) 7 f fd psTC (spTC K C CB CT) := by
  obtain ⟨fn, fdn, Gn, mn, kn, bn⟩ := Gn
  obtain ⟨ft, fdt, Gt, mt, bt⟩ := Gt.ex
  obtain ⟨fp, fdp, Gp, mp', bp⟩ := Gp.ex
  obtain ⟨fc, fdc, Gc, mc, bc⟩ := Gc.ex
  obtain ⟨fl, fdl, Gl, ml, bl⟩ := Gl.ex
  refine FunD.ok (k := 6) F scTC (fun vs H Q E h => ?_) (fun cdv A outer s H vs Q E hr h => ?_)
  · obtain ⟨_, _, _, _, _, _, _, _, _, _, _, _, _, rfl, _⟩ := h
    rfl
  obtain ⟨we, q, dc, r, wd, c, nm, cl, rs, m, mp, kb, xs, rfl, W, nd, hcl, hcw, fit, n1, n240, small, hc, hxl, hxs, m1, mp240, kq, kt, ke⟩ := h
  have hu := hu_of hr
  have tk := takes_of (X := cxOf (L2.CX P w) P w K mg base nTC "turned_copies" (defScope sTurnedCopies) f cdv A outer s H E) (E := E) rfl rfl rfl rfl
  refine ⟨_, pss_cons (ps_expr (pe_call Gn (hr.mono (by decide)) (by rfl) mn kn bn .nil (passes_call tk fun _ _ _ _ h => h) (pa_cons (pe_meth0 (pv 0) T.cl mt Gt (hr.mono (by decide)) bt .nil pass0) (pa_cons (pv 2) pa_nil))))
    (Evl.pss_cut (ps_if (pt_cmpR op_gt (pe_op op_mul (pv 1) (pe_callB (call_lenOwn Gl ml (hr.mono (by decide)) bl pass0) (by rfl) T.len PySem.boot_len (pa_cons (pv 0) pa_nil))) (pv 3) (nomark _)) (pss_one (ps_raise rfl tk (pmk_bare PySem.F.excBase_ValueError TT.q TT.mT TT.kT (raises_own TT.isE TT.isT) (by rfl)))) pss_nil)
    (Evl.pss_cut (ps_set (i := 4) scTC.nd rfl (Or.inr rfl) (pe_dc (own := [("at", 16), ("name", 15)]) (g := gTup K 2 (gCons (gName 16) (gCons (gName 15) gNil))) (tt := tYes) (tk := tVar 15) (tv := tOp (rI CMul fun i j => .int (i * j)) (tVar 16) (tVar 1)) rfl scTC.nd (pi_enum (by rfl) T.enumerate (pa_cons (pe_meth0 (pv 0) T.cl mp' Gp (hr.mono (by decide)) bp .nil pass0) pa_nil)) (blkOk_by (N := nTC) (sc := defScope sTurnedCopies) (by decide +kernel))
        (fun _ _ _ _ _ => pg_tup rfl (pgs_cons (pg_name (i := 16) scTC.nd rfl (Or.inl rfl)) (pgs_cons (pg_name (i := 15) scTC.nd rfl (Or.inl rfl)) pgs_nil))) (fun _ _ _ _ _ => pts_nil) (fun _ _ _ _ _ => pv 15) (fun _ _ _ _ _ => by exact pe_op op_mul (pv 16) (pv 1))))
    (Evl.pss_cut (ps_setLc2 (i := 5) (own := [("name", 15), ("u", 13)]) (vs1 := [13]) (g := gName 15) (tt := tYes) (wi1 := iRng1 (tCons (tVar 1) tNil)) (g1 := gName 13) (tt1 := tYes) (te := tTup (tCons (tP (tFcU K 15 13)) (tCons (tMeth C "colour" (spColour C) [] E0 (tVar 0) (tCons (tVar 15) tNil)) tNil))) rfl scTC.nd rfl rfl (sw_true rfl rfl rfl (by decide +kernel)) (pi_list (pe_meth0 (pv 0) T.cl mp' Gp (hr.mono (by decide)) bp .nil pass0)) (blkOk_by (N := nTC) (sc := defScope sTurnedCopies) (by decide +kernel)) (by decide)
        (fun _ _ _ _ _ => pg_name (i := 15) scTC.nd rfl (Or.inl rfl)) (fun _ _ _ _ _ => pts_nil) (fun _ _ _ _ _ => by exact pi_range1 (by rfl) T.range (pa_cons (pv 1) pa_nil)) (fun _ _ _ _ _ => pg_name (i := 13) scTC.nd rfl (Or.inl rfl)) (fun _ _ _ _ _ => pts_nil)
        (fun _ _ _ _ _ => by exact pe_tup (pa_cons (pe_joined (PJ.cons pe_str (PJ.cons (pe_fmt (pe_op op_add (pe_dget hu (pv 4) (pv 15) (fun _ _ => rfl)) (pv 13))) PJ.nil))) (pa_cons (pe_meth (pv 0) T.cl mc Gc (hr.mono (by decide)) bc .nil pass0 (pa_cons (pv 15) pa_nil)) pa_nil))))
    (Evl.pss_cut (ps_setDc2 (n := 6) (own := [("name", 15), ("u", 13)]) (vs1 := [13]) (g := gName 15) (wi1 := iRng1 (tCons (tVar 1) tNil)) (g1 := gName 13) (tk := tP (tFcU K 15 13)) (tv := tVar 15) rfl scTC.nd rfl rfl (sw_dict rfl rfl rfl (by decide +kernel)) (pi_list (pe_meth0 (pv 0) T.cl mp' Gp (hr.mono (by decide)) bp .nil pass0)) (blkOk_by (N := nTC) (sc := defScope sTurnedCopies) (by decide +kernel)) (by decide)
        (fun _ _ _ _ _ => pg_name (i := 15) scTC.nd rfl (Or.inl rfl)) (fun _ _ _ _ _ => by exact pi_range1 (by rfl) T.range (pa_cons (pv 1) pa_nil)) (fun _ _ _ _ _ => pg_name (i := 13) scTC.nd rfl (Or.inl rfl))
        (fun _ _ _ _ _ => by exact pe_joined (PJ.cons pe_str (PJ.cons (pe_fmt (pe_op op_add (pe_dget hu (pv 4) (pv 15) (fun _ _ => rfl)) (pv 13))) PJ.nil))) (fun _ _ _ _ _ => pv 15))
    (pss_cons (ps_set (i := 7) scTC.nd rfl (Or.inl rfl) (pe_lst pa_nil))
    (Evl.pss_cut (ps_for (passes_of rfl) rfl (pi_zz (by rfl) T.zip (pa_cons (pe_meth0 (pv 0) T.cl mt Gt (hr.mono (by decide)) bt .nil pass0) (pa_cons (pv 2) pa_nil))) (pg_tup rfl (pgs_cons (pg_tup rfl (pgs_cons (pg_name (i := 8) scTC.nd rfl (.inl rfl)) (pgs_cons (pg_name (i := 9) scTC.nd rfl (.inl rfl)) (pgs_cons (pg_name (i := 10) scTC.nd rfl (.inl rfl)) (pgs_cons (pg_name (i := 11) scTC.nd rfl (.inl rfl)) pgs_nil))))) (pgs_cons (pg_name (i := 12) scTC.nd rfl (.inl rfl)) pgs_nil)))
      (pss_one (ps_for (passes_of rfl) rfl (pi_range1 (by rfl) T.range (pa_cons (pv 1) pa_nil)) (pg_name (i := 13) scTC.nd rfl (Or.inl rfl))
        (pss_cons (ps_set (i := 14) scTC.nd rfl (Or.inl rfl) (pe_op op_add (pe_dget hu (pv 4) (pv 9) (fun _ _ => rfl)) (pe_op op_mod (pe_op op_add (pv 13) (pv 12)) (pv 1))))
        (pss_one (ps_expr (pe_bm PySem.F.plainAttrs_list PySem.F.slot_list_append PySem.F.type_list_append mt_append (pv 7) (pa_cons (pe_tup (pa_cons (pe_joined (PJ.cons pe_str (PJ.cons (pe_fmt (pe_op op_add (pe_dget hu (pv 4) (pv 8) (fun _ _ => rfl)) (pv 13))) PJ.nil))) (pa_cons (pe_joined (PJ.cons pe_str (PJ.cons (pe_fmt (pv 14)) PJ.nil))) (pa_cons (pv 10) (pa_cons (pv 11) pa_nil))))) pa_nil))))))))
    (pss_one (ps_ret (pe_tup (pa_cons (pe_make T.mkC Gi (hr.mono (by decide)) (by rfl) T.mgC bi .nil pass0 (pa_cons (pv 5) (pa_cons (pv 7) pa_nil))) (pa_cons (pv 6) pa_nil))))))))))), ?_⟩
  obtain ⟨dx, hp⟩ := W.hp
  obtain ⟨rs4800, small⟩ := small
  refine ⟨_, rfl, we, dx, _, rfl, hp, rfl, we, q, dc, r, wd, nm, cl, rs, rfl, W, fun l H1 hl0 ho1 s1 => ?_⟩
  obtain ⟨ts1, hl1, hpr1⟩ := ho1
  have lu : (ts1.map V.ref).length = rs.length := by rw [List.length_map, Paired.length hpr1]
  refine ⟨_, rfl, l, c, _, xs, rfl, SqL.of hl1, sqB_or (sqB_same hc s1), by rw [lu]; omega, hxl, fun x hx => (hxs x hx).ext s1, fun H2 s2 hdue => ?_, fun n d H2 hdue hd hdd s2 => ke n d H2 (by rw [← lu]; exact hdue) (s1.free hd) hdd (s1.trans s2)⟩
  rw [lu] at hdue
  obtain ⟨lxs, hints⟩ := tdue_none hdue
  obtain ⟨ts, rfl⟩ := tdue_ints hints
  rw [List.length_map] at lxs
  have s02 := s1.trans s2
  refine ⟨fun σ H3 => σ = [some (.ref we), some (.int m), some (.ref c), some (.int mp), none, none, none, none, none, none, none, none, none, none, none, none, none] ∧ m * (nm.length : Int) ≤ mp ∧ Same H H3, ?_, ?_⟩
  · refine ⟨_, rfl, _, rfl, we, dx, _, rfl, s02 _ _ hp, we, q, dc, r, wd, nm, cl, rs, rfl, W.same s02, nm.length, rfl, by omega, _, _, rfl, rfl, .inr ⟨by omega, by omega⟩, _, rfl, _, _, rfl, rfl, _, rfl, ?_⟩
    refine ite2 (fun h => ?_) (fun h => ?_)
    · exact kt H2 hdue (of_decide_eq_true h) s02
    · exact ⟨rfl, by have := of_decide_eq_false (Bool.eq_false_iff.mpr h); omega, s02⟩
  clear s1 s2 hl1 hpr1 lu s02 H1 H2 ts1 l hl0
  rintro σ H3 ⟨rfl, hle, s03⟩
  obtain ⟨m', rfl⟩ := Int.eq_ofNat_of_zero_le (show 0 ≤ m by omega)
  have m1' : 1 ≤ m' := by omega
  have hle' : ((nm.length * m' : Nat) : Int) ≤ mp := by rw [Int.natCast_mul, Int.mul_comm]; exact hle
  have c240 : nm.length * m' ≤ 240 := by omega
  have sm := small m' rfl c240
  have mle : m' ≤ 240 := by have := Nat.le_mul_of_pos_left m' n1; omega
  have W3 := W.same s03
  have hp3 := s03 _ _ hp
  -- the first copies
  refine ⟨fun σ H4 => ∃ fa, σ = [some (.ref we), some (.int (m' : Int)), some (.ref c), some (.int mp), some (.ref fa), none, none, none, none, none, none, none, none, none, none, none, none] ∧ H4 fa = some (.dK (fcK m' nm nm.length)) ∧ Same H H4, ?_, ?_⟩
  · refine ⟨_, rfl, we, dx, _, rfl, hp3, rfl, we, q, dc, r, wd, nm, cl, rs, rfl, W3, by omega, fun pl H4 hpl0 hpl s4 => ?_⟩
    refine ⟨pl, _, rfl, SqL.of hpl, fun D hD => ?_⟩
    refine dc_walk (walk_enum (xs := nm.map V.str)) (fun i H5 => H5 D = some (.dK (fcK m' nm i)) ∧ Same H4 H5) ⟨upd_same, same_new hD⟩ (fun i H5 _ h => SqL.of (h.2 _ _ hpl)) ?_ ?_
    · rintro i x H5 H6 hi ⟨hD5, s5⟩ ⟨T', x1, y1, rfl, hT, rfl, e1, e2⟩
      rw [List.length_map] at hi
      have e2 : (nm.map V.str)[i]? = some y1 := e2
      rw [List.getElem?_map] at e2
      obtain ⟨z, hz, rfl⟩ := Option.map_eq_some_iff.mp e2
      cases e1
      have sT := same_new (o := .tup [V.int (i : Nat), V.str z]) hT
      refine ⟨T', _, rfl, SqT.of upd_same, rfl, _, _, rfl, _, _, rfl, rfl, rfl, tyes ?_⟩
      refine ⟨_, rfl, _, rfl, _, rfl, _, _, rfl, rfl, .inl ⟨by omega, by omega⟩, _, Sum.inr z, rfl, sT _ _ hD5, Evl.sz_lt (by unfold fcK; simp; omega), ?_, fun b o e => ?_⟩
      · rw [upd_same, putK_new _ (fc_new nd hz), fc_step hz, Int.natCast_mul]
      · rw [upd_ne (ne_of_none e hD)]
        exact sT _ _ (s5 b o e)
    · rintro H5 ⟨hD5, s5⟩
      rw [List.length_map] at hD5
      exact ⟨D, rfl, hD5, (s03.trans s4).trans s5⟩
  clear W3 hp3 s03 H3
  rintro σ H4 ⟨fa, rfl, hfa, s4⟩
  have W4 := W.same s4
  have hp4 := s4 _ _ hp
  -- the places
  refine ⟨fun σ H5 => ∃ pl, σ = [some (.ref we), some (.int (m' : Int)), some (.ref c), some (.int mp), some (.ref fa), some (.ref pl), none, none, none, none, none, none, none, none, none, none, none] ∧ PlA m' cl H5 pl (nm.length * m') ∧ Same H4 H5, ?_, ?_⟩
  · refine ⟨_, rfl, we, dx, _, rfl, hp4, rfl, we, q, dc, r, wd, nm, cl, rs, rfl, W4, by omega, fun nl H5 hnl0 hnl s5 => ?_⟩
    refine ⟨nl, rfl, ⟨_, SqL.of hnl⟩, fun D hD => ?_⟩
    refine walkW (walk_list (xs := nm.map V.str)) (fun i H6 => PlA m' cl H6 D (i * m') ∧ Same H5 H6) ⟨⟨[], upd_same, by rw [Nat.zero_mul]; rfl, fun k t h => by simp at h⟩, same_new hD⟩ (fun i H6 _ h => SqL.of (h.2 _ _ hnl)) ?_ ?_
    · rintro i x H6 H7 hi ⟨pa, s6⟩ ⟨rfl, hx⟩
      rw [List.length_map] at hi
      rw [List.getElem?_map] at hx
      obtain ⟨x0, hx0, rfl⟩ := Option.map_eq_some_iff.mp hx
      obtain ⟨y0, hy0⟩ : ∃ y0, cl[i]? = some y0 := ⟨_, List.getElem?_eq_getElem (by omega)⟩
      refine ⟨rfl, tyes ?_⟩
      refine ⟨_, rfl, _, rfl, by omega, by omega, ?_⟩
      refine walkW (walk_range (lo := 0) (n := m')) (fun j H8 => PlA m' cl H8 D (i * m' + j) ∧ Same H5 H8) ⟨pa, s6⟩ (fun _ _ _ _ => trivial) ?_ ?_
      · rintro j v H8 H9 hj ⟨pb, s8⟩ ⟨rfl, rfl⟩
        have kN : i * m' + j < nm.length * m' := by
          have := Nat.mul_le_mul_right m' (show i + 1 ≤ nm.length from hi)
          rw [Nat.add_mul, Nat.one_mul] at this
          omega
        have ek : ((i * m' : Nat) : Int) + (0 + (j : Int)) = ((i * m' + j : Nat) : Int) := by omega
        have s48 := s5.trans s8
        refine ⟨rfl, tyes ?_⟩
        refine ⟨_, rfl, ?_, _, rfl, _, rfl, fa, V.int ((i * m' : Nat) : Int), rfl, (by rw [← fc_at nd hx0]; exact DGet.k (k := Sum.inr x0) (s48 _ _ hfa)), _, rfl, _, _, rfl, rfl, .inr ⟨_, rfl, ?_⟩⟩
        · exact (p_text (k := 0) (by decide) (Q := fun _ _ => True) (H := H9) trivial).1
        rw [ek]
        obtain ⟨_, p2, p3, p4⟩ := p_text (k := i * m' + j) (by omega) (Q := fun z H => z = pN (i * m' + j)) (H := H9) rfl
        refine ⟨p2, _, rfl, p3, ?_⟩
        rw [p4]
        refine ⟨_, rfl, we, dx, _, rfl, s48 _ _ hp4, rfl, _, rfl, we, q, dc, r, wd, nm, cl, rs, i, x0, y0, rfl, W4.same s48, nd, by omega, hx0, hy0, (by show 2 ≤ sizeLine; decide), fun u hu0 => ?_⟩
        obtain ⟨acc, a1, a2, a3⟩ := pb.add hu0 (y := y0) (by rw [(dm hj).1, hy0]; rfl)
        exact ⟨acc, a1, Evl.sz_lt (by omega), a3, same_off (s8.trans (same_new hu0)) hD⟩
      · rintro H8 ⟨pb, s8⟩
        have e : i * m' + m' = (i + 1) * m' := by rw [Nat.add_mul, Nat.one_mul]
        exact ⟨by rw [← e]; exact pb, s8⟩
    · rintro H6 ⟨pa, s6⟩
      rw [List.length_map] at pa
      exact ⟨D, rfl, pa, s5.trans s6⟩
  rintro σ H5 ⟨pl, rfl, pl5, s45⟩
  have s5 := s4.trans s45
  have W5 := W.same s5
  have hp5 := s5 _ _ hp
  have hfa5 := s45 _ _ hfa
  -- the dict
  refine ⟨fun σ H6 => ∃ fo, σ = [some (.ref we), some (.int (m' : Int)), some (.ref c), some (.int mp), some (.ref fa), some (.ref pl), some (.ref fo), none, none, none, none, none, none, none, none, none, none] ∧ H6 fo = some (.dK (foldK m' nm (nm.length * m'))) ∧ H fo = none ∧ Same H5 H6, ?_, ?_⟩
  · refine ⟨_, rfl, we, dx, _, rfl, hp5, rfl, we, q, dc, r, wd, nm, cl, rs, rfl, W5, by omega, fun nl H6 hnl0 hnl s6 => ?_⟩
    refine ⟨nl, rfl, ⟨_, SqL.of hnl⟩, fun D hD => ?_⟩
    refine walkW (walk_list (xs := nm.map V.str)) (fun i H7 => H7 D = some (.dK (foldK m' nm (i * m'))) ∧ Same H6 H7) ⟨by rw [Nat.zero_mul]; exact upd_same, same_new hD⟩ (fun i H7 _ h => SqL.of (h.2 _ _ hnl)) ?_ ?_
    · rintro i x H7 H8 hi ⟨hD7, s7⟩ ⟨rfl, hx⟩
      rw [List.length_map] at hi
      rw [List.getElem?_map] at hx
      obtain ⟨x0, hx0, rfl⟩ := Option.map_eq_some_iff.mp hx
      refine ⟨rfl, ?_⟩
      refine ⟨_, rfl, _, rfl, by omega, by omega, ?_⟩
      refine walkW (walk_range (lo := 0) (n := m')) (fun j H8 => H8 D = some (.dK (foldK m' nm (i * m' + j))) ∧ Same H6 H8) ⟨hD7, s7⟩ (fun _ _ _ _ => trivial) ?_ ?_
      · rintro j v H8 H9 hj ⟨hD8, s8⟩ ⟨rfl, rfl⟩
        have kN : i * m' + j < nm.length * m' := by
          have := Nat.mul_le_mul_right m' (show i + 1 ≤ nm.length from hi)
          rw [Nat.add_mul, Nat.one_mul] at this
          omega
        have ek : ((i * m' : Nat) : Int) + (0 + (j : Int)) = ((i * m' + j : Nat) : Int) := by omega
        have s58 := s6.trans s8
        refine ⟨rfl, ?_⟩
        refine ⟨_, rfl, ?_, _, rfl, _, rfl, fa, V.int ((i * m' : Nat) : Int), rfl, (by rw [← fc_at nd hx0]; exact DGet.k (k := Sum.inr x0) (s58 _ _ hfa5)), _, rfl, _, _, rfl, rfl, .inr ⟨_, rfl, ?_⟩⟩
        · exact (p_text (k := 0) (by decide) (Q := fun _ _ => True) (H := H9) trivial).1
        rw [ek]
        obtain ⟨_, p2, p3, p4⟩ := p_text (k := i * m' + j) (by omega) (Q := fun z H => z = pN (i * m' + j)) (H := H9) rfl
        refine ⟨p2, _, rfl, p3, ?_⟩
        rw [p4]
        refine ⟨_, rfl, _, Sum.inr (pN (i * m' + j)), rfl, hD8, Evl.sz_lt (by rw [foldK_len]; omega), ?_, same_off s8 hD⟩
        rw [upd_same, putK_new _ (foldK_new (by omega)), show i * m' + (j + 1) = (i * m' + j) + 1 from rfl, foldK_step, (dm hj).1, hx0]
        rfl
      · rintro H8 ⟨hD8, s8⟩
        have e : i * m' + m' = (i + 1) * m' := by rw [Nat.add_mul, Nat.one_mul]
        exact ⟨by rw [← e]; exact hD8, s8⟩
    · rintro H7 ⟨hD7, s7⟩
      rw [List.length_map] at hD7
      exact ⟨D, rfl, hD7, s5.free (s6.free hD), s6.trans s7⟩
  rintro σ H6 ⟨fo, rfl, hfo, hfo0, s56⟩
  -- the list of the ties
  refine ⟨(by show 0 ≤ sizeLine; decide), fun ro hro => ?_⟩
  have s67 := same_new (o := .lst []) hro
  have hro7 : (upd H6 ro (.lst [])) ro = some (.lst (List.map V.ref [])) := upd_same
  have s57 := s56.trans s67
  have s7 := s5.trans s57
  have hro0 : H ro = none := s5.free (s56.free hro)
  have hfo7 := s67 _ _ hfo
  have pl7 := pl5.same s57
  have hfa7 := s57 _ _ hfa5
  generalize upd H6 ro (.lst []) = H7 at *
  have W7 := W.same s7
  have hp7 := s7 _ _ hp
  have nfa : fa ≠ ro := ne_of hfa7 hro7 (by intro z; cases z)
  have nfo : fo ≠ ro := ne_of hfo7 hro7 (by intro z; cases z)
  have npl : pl ≠ ro := fun e => by
    subst e
    obtain ⟨us, h1, h2, _⟩ := pl5
    have := s56 _ _ h1
    rw [hro] at this
    cases this
  refine ⟨fun σ H8 => ∃ v8 v9 v10 v11 v12 v13 v14, σ = [some (.ref we), some (.int (m' : Int)), some (.ref c), some (.int mp), some (.ref fa), some (.ref pl), some (.ref fo), some (.ref ro), v8, v9, v10, v11, v12, v13, v14, none, none] ∧ TiesAt H8 ro (cTies m' rs ts (rs.length * m')) ∧ But ro H7 H8, ?_, ?_⟩
  · refine ⟨_, rfl, we, dx, _, rfl, hp7, rfl, we, q, dc, r, wd, nm, cl, rs, rfl, W7, fun l H8 hl0 ho8 s8 => ?_⟩
    obtain ⟨ts1, hl1, hpr1⟩ := ho8
    have lu : (ts1.map V.ref).length = rs.length := by rw [List.length_map, Paired.length hpr1]
    have hc8 := sqB_same hc (s7.trans s8)
    have hro8 := s8 _ _ hro7
    have nlr : l ≠ ro := fun e => by subst e; rw [hro7] at hl0; cases hl0
    refine ⟨_, rfl, true, kb, l, c, _, _, rfl, SqL.of hl1, hc8, ?_⟩
    have b78 : But ro H7 H8 := But.of s8
    refine for_it (walk_zz (by simp only [List.length_map] at lu ⊢; omega)) (fun i σ H9 => ∃ v8 v9 v10 v11 v12 v13 v14, σ = [some (.ref we), some (.int (m' : Int)), some (.ref c), some (.int mp), some (.ref fa), some (.ref pl), some (.ref fo), some (.ref ro), v8, v9, v10, v11, v12, v13, v14, none, none] ∧ TiesAt H9 ro (cTies m' rs ts (i * m')) ∧ But ro H8 H9) ⟨none, none, none, none, none, none, none, rfl, ⟨[], hro8, by rw [Nat.zero_mul]; exact .nil⟩, fun b o e _ => e⟩ (fun i σ H9 _ ⟨_, _, _, _, _, _, _, _, _, h⟩ => ⟨SqL.of (h _ _ hl1 nlr), sqB_thr hc hro0 s7 (b78.trans h)⟩) ?_ ?_
    · rintro i x σ H9 H10 hi ⟨v8, v9, v10, v11, v12, v13, v14, rfl, ti9, b9⟩ ⟨T', x1, y1, rfl, hT, rfl, e1, e2⟩
      have e1 : (ts1.map V.ref)[i]? = some x1 := e1
      have e2 : (ts.map V.int)[i]? = some y1 := e2
      rw [List.getElem?_map] at e1 e2
      obtain ⟨tu, htu, rfl⟩ := Option.map_eq_some_iff.mp e1
      obtain ⟨t0, ht0, rfl⟩ := Option.map_eq_some_iff.mp e2
      rw [lu] at hi
      obtain ⟨rv, hrv, xa, xb, hxa, hxb, htt⟩ := paired_get hpr1 htu
      obtain ⟨hij, hjn⟩ := fit.lt rv (List.mem_of_getElem? hrv)
      have sT := same_new (o := .tup [V.ref tu, V.int t0]) hT
      have htt10 := sT _ _ (b9 _ _ htt (ne_of htt hro8 (by intro z; cases z)))
      refine ⟨T', _, rfl, SqT.of upd_same, rfl, _, _, rfl, ⟨tu, _, rfl, SqT.of htt10, rfl, _, _, rfl, _, _, rfl, _, _, rfl, _, _, rfl, rfl, _, _, rfl, rfl, ?_⟩⟩
      have b10 : But ro H8 (upd H9 T' (.tup [V.ref tu, V.int t0])) := b9.trans (But.of sT)
      have ti10 := ties_same_of ti9 sT
      generalize upd H9 T' (.tup [V.ref tu, V.int t0]) = H10 at *
      have hfa10 := b10 _ _ (s8 _ _ hfa7) nfa
      have dga : DGet H10 fa (V.str xa) (some (V.int ((rv.i * m' : Nat) : Int))) := by rw [← fc_at nd hxa]; exact DGet.k (k := Sum.inr xa) hfa10
      refine ⟨_, rfl, _, rfl, by omega, by omega, ?_⟩
      refine for_range (lo := 0) (n := m') (fun j σ H11 => ∃ v13 v14, σ = [some (.ref we), some (.int (m' : Int)), some (.ref c), some (.int mp), some (.ref fa), some (.ref pl), some (.ref fo), some (.ref ro), some (.str xa), some (.str xb), some (.str rv.kd), some (.int rv.w), some (.int t0), v13, v14, none, none] ∧ TiesAt H11 ro (cTies m' rs ts (i * m' + j)) ∧ But ro H8 H11) ⟨v13, v14, rfl, ti10, b10⟩ ?_ ?_
      · rintro j σ H11 hj ⟨u13, u14, rfl, ti11, b11⟩
        have hfa11 := b11 _ _ (s8 _ _ hfa7) nfa
        have cnt : i * m' + j < rs.length * m' := by
          have := Nat.mul_le_mul_right m' (show i + 1 ≤ rs.length from hi)
          rw [Nat.add_mul, Nat.one_mul] at this
          omega
        obtain ⟨r', hr', c1, c2, _⟩ := cRow_fit (ts := ts) fit m1' cnt
        have ecr := cRow_at hj hrv ht0
        rw [ecr] at c1 c2
        have c1 : rv.i * m' + j < rv.j * m' + toT m' j t0 := c1
        have c2 : rv.j * m' + toT m' j t0 < nm.length * m' := c2
        have ea : ((rv.i * m' : Nat) : Int) + (0 + (j : Int)) = ((rv.i * m' + j : Nat) : Int) := by omega
        have eb : ((rv.j * m' : Nat) : Int) + ((0 + (j : Int)) + t0) % (m' : Int) = ((rv.j * m' + toT m' j t0 : Nat) : Int) := by
          rw [Int.zero_add, Int.natCast_add, toT_int m1']
        refine ⟨_, rfl, _, rfl, fa, V.int ((rv.j * m' : Nat) : Int), rfl, (by rw [← fc_at nd hxb]; exact DGet.k (k := Sum.inr xb) hfa11), _, rfl, _, rfl, _, _, rfl, rfl, _, rfl, _, _, rfl, rfl, by omega, _, _, rfl, rfl, ?_⟩
        have ti11' := ti11
        obtain ⟨us, hus, _⟩ := ti11'
        refine ⟨_, rfl, .inl ⟨rfl, _, SqL.of hus⟩, ?_⟩
        refine ⟨_, rfl, ?_, _, rfl, _, rfl, fa, V.int ((rv.i * m' : Nat) : Int), rfl, (by rw [← fc_at nd hxa]; exact DGet.k (k := Sum.inr xa) hfa11), _, rfl, _, _, rfl, rfl, .inr ⟨_, rfl, ?_⟩⟩
        · exact (p_text (k := 0) (by decide) (Q := fun _ _ => True) (H := H11) trivial).1
        rw [ea]
        obtain ⟨_, p2, p3, p4⟩ := p_text (k := rv.i * m' + j) (by omega) (Q := fun z H => z = pN (rv.i * m' + j)) (H := H11) rfl
        refine ⟨p2, _, rfl, p3, ?_⟩
        rw [p4]
        refine ⟨_, rfl, ?_, _, rfl, .inr ⟨_, rfl, ?_⟩⟩
        · exact (p_text (k := 0) (by decide) (Q := fun _ _ => True) (H := H11) trivial).1
        rw [eb]
        obtain ⟨_, q2, q3, q4⟩ := p_text (k := rv.j * m' + toT m' j t0) (by omega) (Q := fun z H => z = pN (rv.j * m' + toT m' j t0)) (H := H11) rfl
        refine ⟨q2, _, rfl, q3, ?_⟩
        rw [q4]
        refine ⟨_, rfl, _, rfl, (by show 4 ≤ sizeLine; decide), fun o ho => ?_⟩
        have et : [V.str (pN (rv.i * m' + j)), V.str (pN (rv.j * m' + toT m' j t0)), V.str rv.kd, V.int rv.w] = (cTie m' rs ts (i * m' + j)).tup := by
          unfold cTie TieV.tup
          rw [ecr]
        rw [et]
        obtain ⟨acc, a1, a2, a3⟩ := TiA.add (t := cTie m' rs ts (i * m' + j)) ti11 ho
        rw [← cTies_step] at a3
        exact ⟨ro, _, _, rfl, rfl, a1, Evl.sz_lt (by rw [a2, cTies_len]; omega), _, _, rfl, a3, (b11.trans (But.of (same_new ho))).trans But.upd⟩
      · rintro σ H11 ⟨u13, u14, rfl, ti11, b11⟩
        have e : i * m' + m' = (i + 1) * m' := by rw [Nat.add_mul, Nat.one_mul]
        exact ⟨_, _, _, _, _, _, _, rfl, by rw [← e]; exact ti11, b11⟩
    · rintro σ H9 ⟨v8, v9, v10, v11, v12, v13, v14, rfl, ti9, b9⟩
      rw [lu] at ti9
      exact ⟨v8, v9, v10, v11, v12, v13, v14, rfl, ti9, b78.trans b9⟩
  rintro σ H8 ⟨v8, v9, v10, v11, v12, v13, v14, rfl, ti8, b8⟩
  have pl8 := places_but pl7.places b8 npl fun xs e => by rw [hro7] at e; cases e
  have hfo8 := b8 _ _ hfo7 nfo
  refine ⟨_, rfl, _, rfl, fun p dxp hp0 hdx0 ne => ?_⟩
  have s9 : Same H8 (upd (upd H8 dxp (.own p)) p (.ins C dxp [])) := (same_new hdx0).trans (same_new (by rw [upd_ne ne.symm]; exact hp0))
  have hp9 : (upd (upd H8 dxp (.own p)) p (.ins C dxp [])) p = some (.ins C dxp []) := upd_same
  generalize upd (upd H8 dxp (.own p)) p (.ins C dxp []) = H9 at *
  have NL : 1 ≤ nm.length * m' := Nat.mul_pos n1 m1'
  have s89 : Same H H9 := fun b o e => s9 _ _ (b8 _ _ (s7 _ _ e) (ne_of_none e hro0))
  have fr : ∀ {a : Addr}, H9 a = none → H a = none := fun {a} e => s89.free e
  refine ⟨p, dxp, pl, ro, nmT (nm.length * m'), clT m' cl (nm.length * m'), cTies m' rs ts (rs.length * m'), rfl, hp9, ?_, ties_same_of ti8 s9, by rw [nmT_len]; exact NL, by rw [nmT_len]; omega, nmT_nd c240, nmT_w c240, clT_w hcw (by rw [hcl]; exact Nat.le_refl _), cTies_ok fit m1' c240, cTies_spots fit m1' c240, by rw [cTies_len]; exact sm, fun q2 dc2 r2 wd2 rs2 rw2 H10 hq0 hdc0 hr0 hwd0 web pr pm srt bt => ⟨rfl, ?_⟩⟩
  · obtain ⟨us, h1, h2, h3⟩ := pl8
    exact ⟨us, s9 _ _ h1, h2, fun i t ht => by obtain ⟨x, y, hx, hy, e⟩ := h3 i t ht; exact ⟨x, y, hx, hy, s9 _ _ e⟩⟩
  have hp00 : H p = none := by
    cases e : H p with
    | none => rfl
    | some o =>
      have := b8 _ _ (s7 _ _ e) (ne_of_none e hro0)
      rw [hp0] at this
      cases this
  have nfp : fo ≠ p := fun e => by subst e; rw [hfo8] at hp0; cases hp0
  have s10 : Same H H10 := fun b o e => bt _ _ (s89 _ _ e) (ne_of_none e hp00)
  have hfo10 := bt _ _ (s9 _ _ hfo8) nfp
  refine ⟨_, rfl, (by show 2 ≤ sizeLine; decide), fun res hres => ?_⟩
  have s11 := same_new (o := .tup [V.ref p, V.ref fo]) hres
  have rows := rows_uniq (nmT_nd c240) pr (cTies_rows (ts := ts) fit m1')
  rw [rows] at pm
  exact kq ts m' res _ hdue rfl rfl m1' hle' ⟨p, q2, dc2, r2, wd2, fo, rs2, upd_same, ⟨hp00, fr hq0, fr hdc0, fr hr0, fr hwd0, hfo0, s10.free hres⟩, web.same s11, pm, srt, s11 _ _ hfo10⟩ (s10.trans s11)
end
end Nm
set_option maxRecDepth 100000
set_option maxHeartbeats 8000000
/-! ways_up -/
namespace Nm
open PySem L2
theorem wayV_snoc (a : Str) (l : Steps) (s : Str × Str) : wayV a (l ++ [s]) = wayV a l ++ [.str s.1, .str s.2] := by
  unfold wayV
  rw [wayL_snoc, List.map_append]
  rfl
theorem wayV_end (a : Str) (l : Steps) : ∃ xs, wayV a l = xs ++ [.str (lastW a l)] := by
  induction l using snoc_ind with
  | h0 => exact ⟨[], rfl⟩
  | hs l s _ =>
    refine ⟨wayV a l ++ [.str s.1], ?_⟩
    rw [wayV_snoc, lastW_snoc, List.append_assoc]
    rfl
/-- a list of ways stands at p -/
def WaysAt (H : Hp) (p : Addr) (a : Str) (ls : List Steps) : Prop := ∃ us : List Addr, H p = some (.lst (us.map V.ref)) ∧ Paired (fun u l => H u = some (.tup (wayV a l))) us ls
theorem WaysAt.same {H H' : Hp} {p : Addr} {a : Str} {ls : List Steps} (h : WaysAt H p a ls) (s : Same H H') : WaysAt H' p a ls := by
  obtain ⟨us, h1, h2⟩ := h
  exact ⟨us, s _ _ h1, Paired.mapP h2 fun _ _ e => s _ _ e⟩
theorem WaysAt.add {H : Hp} {D u : Addr} {a : Str} {ls : List Steps} {l : Steps} (h : WaysAt H D a ls) (hu : H u = none) : ∃ acc, (upd H u (.tup (wayV a l))) D = some (.lst acc) ∧ acc.length = ls.length ∧ WaysAt (upd (upd H u (.tup (wayV a l))) D (.lst (acc ++ [.ref u]))) D a (ls ++ [l]) := by
  obtain ⟨us, h1, h2⟩ := h
  have nu : u ≠ D := fun e => by subst e; rw [h1] at hu; cases hu
  have hD : (upd H u (.tup (wayV a l))) D = some (.lst (us.map V.ref)) := by rw [upd_ne nu.symm]; exact h1
  refine ⟨_, hD, by rw [List.length_map, Paired.length h2], us ++ [u], by rw [upd_same, List.map_append]; rfl, paired_snoc (Paired.mapP h2 fun u' tv e => ?_) (by rw [upd_ne nu]; exact upd_same)⟩
  rw [upd_ne (ne_of e h1 (by intro z; cases z)), upd_ne (ne_of_none e hu)]
  exact e
/-- what is told so far: the ways of the first i, and one way's first j ends -/
def partU (A : List Str) (WA : Str → Str → Str → Nat) (f : Str → Str) (x : Str) (us : List Steps) (s : Str × Str) (u : Steps) (j : Nat) : List Steps := stepU A WA f x us s ++ ((((overL A f s.2).take j).filter fun z => decide (0 < WA (lastW x u) z s.1)).map fun z => u ++ [(s.1, z)])
theorem partU_0 {A : List Str} {WA : Str → Str → Str → Nat} {f : Str → Str} {x : Str} {us : List Steps} {s : Str × Str} {u : Steps} : partU A WA f x us s u 0 = stepU A WA f x us s := by
  unfold partU
  simp
theorem partU_end {A : List Str} {WA : Str → Str → Str → Nat} {f : Str → Str} {x : Str} {us : List Steps} {s : Str × Str} {u : Steps} {i : Nat} (h : us[i]? = some u) : partU A WA f x (us.take i) s u (overL A f s.2).length = stepU A WA f x (us.take (i + 1)) s := by
  unfold partU stepU
  rw [List.take_length, List.take_add_one, h, Option.toList_some, List.flatMap_append]
  simp [endsU]
theorem partU_yes {A : List Str} {WA : Str → Str → Str → Nat} {f : Str → Str} {x : Str} {us : List Steps} {s : Str × Str} {u : Steps} {j : Nat} {z : Str} (h : (overL A f s.2)[j]? = some z) (c : 0 < WA (lastW x u) z s.1) : partU A WA f x us s u (j + 1) = partU A WA f x us s u j ++ [u ++ [(s.1, z)]] := by
  unfold partU
  rw [List.take_add_one, h, Option.toList_some, List.filter_append, List.map_append, List.append_assoc]
  simp [c]
theorem partU_no {A : List Str} {WA : Str → Str → Str → Nat} {f : Str → Str} {x : Str} {us : List Steps} {s : Str × Str} {u : Steps} {j : Nat} {z : Str} (h : (overL A f s.2)[j]? = some z) (c : ¬ 0 < WA (lastW x u) z s.1) : partU A WA f x us s u (j + 1) = partU A WA f x us s u j := by
  unfold partU
  rw [List.take_add_one, h, Option.toList_some, List.filter_append]
  simp [c]
theorem partU_le {A : List Str} {WA : Str → Str → Str → Nat} {f : Str → Str} {x : Str} {us : List Steps} {s : Str × Str} {u : Steps} {i j : Nat} (h : us[i]? = some u) : (partU A WA f x (us.take i) s u j).length ≤ (stepU A WA f x us s).length := by
  have e : stepU A WA f x us s = stepU A WA f x (us.take i) s ++ ((endsU A WA f (lastW x u) s).map fun z => u ++ [(s.1, z)]) ++ stepU A WA f x (us.drop (i + 1)) s := by
    have : us = us.take i ++ [u] ++ us.drop (i + 1) := by
      have hi := (List.getElem?_eq_some_iff.mp h).1
      have e1 : us.take (i + 1) = us.take i ++ [u] := by rw [List.take_add_one, h]; rfl
      rw [← e1, List.take_append_drop]
    conv => lhs; rw [this]
    unfold stepU
    rw [List.flatMap_append, List.flatMap_append]
    simp
  rw [e]
  unfold partU endsU
  rw [List.length_append, List.length_append, List.length_append, List.length_map, List.length_map]
  have : (((overL A f s.2).take j).filter fun z => decide (0 < WA (lastW x u) z s.1)).length ≤ ((overL A f s.2).filter fun z => decide (0 < WA (lastW x u) z s.1)).length := (List.Sublist.filter _ (List.take_sublist j _)).length_le
  omega
section
variable {P : Program} {w : World} {K : PySem.W.Frag} {mg : Str → Option Value} {base : Heap}
def spWaysUp (C : Addr) : Sp := fun vs H Q _ => ∃ (ov we fo t : Addr) (A B : List Str) (WA WB : Str → Str → Str → Nat) (fkv : List (Key × V)) (f : Str → Str) (x b : Str) (l : Steps), vs = [.ref ov, .ref we, .ref fo, .ref t, .str x] ∧ Net C H ov A WA ∧ Net C H we B WB ∧ H fo = some (.dK fkv) ∧ (∀ y ∈ A, valV fkv (Sum.inr y) = some (V.str (f y)) ∧ f y ∈ B) ∧
  H t = some (.tup (wayV b l)) ∧ WayOk B WB b l ∧ l.length ≤ 8 ∧ x ∈ A ∧ f x = b ∧ (∀ i, (ups A WA f x (l.take i)).length ≤ 1000) ∧ ∀ (r : Addr) (H' : Hp), WaysAt H' r x (ups A WA f x l) → Same H H' → Q (.ref r) H'
abbrev nWU : List Str := ["over", "web", "folding", "way", "start", "above", "ways", "at", "kind", "ends", "up", "end"]
theorem scWU : FnScope nWU ["over", "web", "folding", "way", "start"] (defScope sWaysUp) := ⟨rfl, rfl, rfl, by decide +kernel, rfl, by decide +kernel, by decide +kernel⟩
theorem ok_waysUp {f C : Addr} {fd : FuncData} (F : Fun K "ways_up" "ways_up" sWaysUp f fd) (T : TxtW K mg C) (Gh : MethD P w K mg base C "__contains__" ["self", "name"] 1 (spHas C)) (Gn : Def P w K mg base "need_way" ["web", "way"] 3 (spNeedWay C)) (Gw : MethD P w K mg base C "width" ["self", "one", "other", "kind"] 2 (spWidth C)) (Gp : Def P w K mg base "places_over" ["over", "web", "folding"] 2 (spPO C)) :
    FnOk P w K mg base CX0 4 f fd ["over", "web", "folding", "way", "start"] (spWaysUp C) := by
  obtain ⟨fh, fdh, Gh, mh, bh⟩ := Gh.ex
  obtain ⟨fn, fdn, Gn, mn, kn, bn⟩ := Gn.ex
  obtain ⟨fw, fdw, Gw, mw, bw⟩ := Gw.ex
  obtain ⟨fp, fdp, Gp, mp, kp, bp⟩ := Gp.ex
  refine F.ok scWU (fun vs H Q E h => ?_) (fun cdv A' outer s H vs Q E hr h => ?_)
  · obtain ⟨_, _, _, _, _, _, _, _, _, _, _, _, _, rfl, _⟩ := h
    rfl
  · obtain ⟨ov, we, fo, t, A, B, WA, WB, fkv, f, x, b, l, rfl, NA, NB, hfo, hf, ht, ok, hl8, hx, hfx, hle, k⟩ := h
    have hu := hu_of hr
    refine ⟨_, pss_cons (ps_expr (pe_call Gn hr (by rfl) mn kn bn .nil pass0 (pa_cons (pv 1) (pa_cons (pv 3) pa_nil))))
      (pss_cons (ps_if (PW.pt (pw_or (pt_cmpR (op_notInOwn Gh mh (hr.mono (by decide)) bh pass0 spHas_mono) (pv 4) (pv 0) (by rfl)) (pw_or1 (pt_cmpR op_ne (pe_dget hu (pv 2) (pv 4) (fun _ _ => rfl)) (pe_ix ix_tup (pv 3) pe_int (fun _ _ => rfl)) (nomark _))))) pss_nope pss_nil)
      (Evl.pss_cut (ps_set (i := 5) scWU.nd rfl (Or.inl rfl) (pe_call Gp (hr.mono (by decide)) (by rfl) mp kp bp .nil pass0 (pa_cons (pv 0) (pa_cons (pv 1) (pa_cons (pv 2) pa_nil)))))
      (pss_cons (ps_set (i := 6) scWU.nd rfl (Or.inl rfl) (pe_lst (pa_cons (pe_tup (pa_cons (pv 4) pa_nil)) pa_nil)))
      (pss_cons (ps_for PassesOwn.never rfl (pi_range3 (by rfl) T.range (pa_cons pe_int (pa_cons (pe_callB call_len_seq (by rfl) T.len PySem.boot_len (pa_cons (pv 3) pa_nil)) (pa_cons pe_int pa_nil)))) (pg_name (i := 7) scWU.nd rfl (Or.inl rfl))
        (pss_cons (ps_set (i := 8) scWU.nd rfl (Or.inr rfl) (pe_ix ix_tup (pv 3) (pv 7) (fun _ _ => rfl)))
        (Evl.pss_cut (ps_set (i := 9) scWU.nd rfl (Or.inr rfl) (pe_dget hu (pv 5) (pe_ix ix_tup (pv 3) (pe_op op_add (pv 7) pe_int) (fun _ _ => rfl)) (fun _ _ => rfl)))
        (pss_one (ps_setLc2 (i := 6) (own := [("up", 10), ("end", 11)]) (vs1 := [11]) (g := gName 10) (tt := tYes) (wi1 := iList K (tVar 9)) (g1 := gName 11)
          (tt1 := tTest (tOp (rI0 fun i j => .bl (decide (j < i))) (tMeth C "width" (spWidth C) [] E0 (tVar 0) (tCons (tOp (rIxT K) (tVar 10) (tUn (rU fun i => .int (-i)) (tC (.int 1)))) (tCons (tVar 11) (tCons (tVar 8) tNil)))) (tC (.int 0))))
          (te := tOp (rCatT K) (tVar 10) (tTup (tCons (tVar 8) (tCons (tVar 11) tNil)))) rfl scWU.nd rfl rfl (sw_true rfl rfl rfl (by decide +kernel)) (pi_list (pv 6)) (blkOk_by (N := nWU) (sc := defScope sWaysUp) (by decide +kernel)) (by decide)
          (fun _ _ _ _ _ => pg_name (i := 10) scWU.nd rfl (Or.inl rfl)) (fun _ _ _ _ _ => pts_nil) (fun _ _ _ _ _ => by exact pi_list (pv 9)) (fun _ _ _ _ _ => pg_name (i := 11) scWU.nd rfl (Or.inl rfl))
          (fun _ _ _ _ _ => by exact pts_one (pt_cmpR op_gt (pe_meth (pv 0) T.cl mw Gw (hr.mono (by decide)) bw .nil pass0 (pa_cons (pe_ix ix_tup (pv 10) (pe_un un_neg pe_int) (fun _ _ => rfl)) (pa_cons (pv 11) (pa_cons (pv 8) pa_nil)))) pe_int (nomark _)))
          (fun _ _ _ _ _ => by exact pe_op op_catT (pv 10) (pe_tup (pa_cons (pv 8) (pa_cons (pv 11) pa_nil)))))))))
      (pss_one (ps_ret (pv 6))))))), ?_⟩
    have hlen := wayV_len b l
    have h0 : (wayV b l)[0]? = some (.str b) := by
      obtain ⟨r, hr⟩ := wayL_head b l
      unfold wayV
      rw [hr]
      rfl
    obtain ⟨dA, _, _, _, _, hpA⟩ := NA.ins
    refine ⟨_, rfl, _, rfl, we, t, B, WB, b, l, rfl, NB, ht, ok, hl8, fun H1 s1 => ?_⟩
    have hov1 := s1 _ _ hpA
    refine ⟨_, rfl, _, rfl, ov, dA, _, rfl, hov1, (NA.same s1).has hx ⟨true, rfl, _, rfl, iteF ?_⟩⟩
    have e1 : (!decide (V.str b = V.str b)) = false := by rw [decide_eq_true rfl]; rfl
    subst hfx
    have e1 : (!decide (V.str (f x) = V.str (f x))) = false := by rw [decide_eq_true rfl]; rfl
    refine ⟨_, rfl, _, rfl, fo, V.str (f x), rfl, (by rw [← (hf x hx).1]; exact DGet.k (k := Sum.inr x) (s1 _ _ hfo)), _, rfl, t, _, 0, _, rfl, rfl, SqT.of (s1 _ _ ht), atI_nat (j := 0) h0, ⟨rfl, _, rfl, ?_⟩⟩
    rw [e1]
    refine iteF ?_
    refine ⟨fun σ H2 => ∃ D as, σ = [some (.ref ov), some (.ref we), some (.ref fo), some (.ref t), some (.str x), some (.ref D), none, none, none, none, none, none] ∧ H2 D = some (.dK (poKV B as)) ∧ as.length = B.length ∧ (∀ (q : Nat) (a : Addr) (y : Str), as[q]? = some a → B[q]? = some y → H2 a = some (.lst ((overL A f y).map V.str))) ∧ Same H H2, ?_, ?_⟩
    · refine ⟨_, rfl, _, rfl, _, rfl, ov, we, fo, A, B, WA, WB, fkv, f, rfl, NA.same s1, NB.same s1, s1 _ _ hfo, hf, fun D as H2 hD hD2 hal has s2 => ?_⟩
      exact ⟨D, as, rfl, hD2, hal, fun q a y ha hy => (has q a y ha hy).2, s1.trans s2⟩
    rintro σ H2 ⟨D, as, rfl, hD2, hal, has, s2⟩
    refine ⟨_, rfl, (by show 1 ≤ sizeLine; decide), fun t0 ht0 => ?_⟩
    refine ⟨(by show 1 ≤ sizeLine; decide), fun w0 hw0 => ?_⟩
    have s3 := (same_new (o := .tup [V.str x]) ht0).trans (same_new (o := .lst [V.ref t0]) hw0)
    have nt : t0 ≠ w0 := fun e => by subst e; rw [upd_same] at hw0; cases hw0
    have ways0 : WaysAt (upd (upd H2 t0 (.tup [V.str x])) w0 (.lst [V.ref t0])) w0 x [[]] := ⟨[t0], upd_same, .cons (by rw [upd_ne nt, upd_same]; rfl) .nil⟩
    have s03 := s2.trans s3
    generalize upd (upd H2 t0 (.tup [V.str x])) w0 (.lst [V.ref t0]) = H3 at *
    refine ⟨_, rfl, t, _, rfl, .inr (SqT.of (s03 _ _ ht)), ?_⟩
    rw [hlen]
    refine ⟨_, _, _, _, rfl, (by have := rg2 l.length (by omega); rw [show ((2 * l.length + 1 : Nat) : Int) = 2 * (l.length : Int) + 1 by omega]; exact this), ?_⟩
    refine for_rangeC (lo := 1) (c := 2) (n := l.length) (fun i σ H4 => ∃ ws v7 v8 v9, σ = [some (.ref ov), some (.ref we), some (.ref fo), some (.ref t), some (.str x), some (.ref D), some (.ref ws), v7, v8, v9, none, none] ∧ WaysAt H4 ws x (ups A WA f x (l.take i)) ∧ Same H3 H4) ⟨w0, none, none, none, rfl, ways0, fun _ _ e => e⟩ ?_ ?_
    · rintro i σ H4 hil ⟨ws, v7, v8, v9, rfl, hws, s4⟩
      obtain ⟨st, hst⟩ : ∃ st, l[i]? = some st := ⟨_, List.getElem?_eq_getElem hil⟩
      obtain ⟨m1, m2⟩ := ok.at hst
      obtain ⟨g1, g2, g3⟩ := wayV_get (a := f x) hst
      have s04 := s03.trans s4
      have i2 : (1 + (i : Nat) * 2 + 1 : Int) = ((2 * i + 2 : Nat) : Int) := by omega
      have i3 : (1 + (i : Nat) * 2 : Int) = ((2 * i + 1 : Nat) : Int) := by omega
      obtain ⟨q, hq⟩ := List.getElem?_of_mem m1
      have hql := (List.getElem?_eq_some_iff.mp hq).1
      obtain ⟨a, ha⟩ : ∃ a, as[q]? = some a := ⟨_, List.getElem?_eq_getElem (by omega)⟩
      have ha4 := s4 _ _ (s3 _ _ (has q a _ ha hq))
      refine ⟨_, rfl, _, rfl, t, _, _, V.str st.1, rfl, rfl, SqT.of (s04 _ _ ht), (by rw [i3]; exact atI_nat g2), ?_⟩
      refine ⟨fun σ H5 => σ = [some (.ref ov), some (.ref we), some (.ref fo), some (.ref t), some (.str x), some (.ref D), some (.ref ws), some (.int (1 + (i : Nat) * 2)), some (.str st.1), some (.ref a), none, none] ∧ H5 = H4, ?_, ?_⟩
      · refine ⟨_, rfl, _, rfl, _, rfl, _, _, rfl, rfl, t, _, _, V.str st.2, rfl, rfl, SqT.of (s04 _ _ ht), (by rw [i2]; exact atI_nat g3), D, V.ref a, rfl, (by rw [← po_at hal NB.nd hq ha]; exact DGet.k (k := Sum.inr st.2) (s4 _ _ (s3 _ _ hD2))), rfl, rfl⟩
      rintro σ H5 ⟨rfl, rfl⟩
      have e5 : ups A WA f x (l.take (i + 1)) = stepU A WA f x (ups A WA f x (l.take i)) st := by
        rw [List.take_add_one, hst]
        exact ups_snoc A WA f x (l.take i) st
      have len5 := hle (i + 1)
      rw [e5] at len5 ⊢
      have okU := fun u hu => ups_ok (WA := WA) (f := f) hx (l.take i) u hu
      generalize ups A WA f x (l.take i) = Lp at *
      obtain ⟨us, hws1, hws2⟩ := hws
      refine ⟨_, rfl, ws, rfl, ⟨_, SqL.of hws1⟩, fun D' hD' => ?_⟩
      refine walkW (walk_list (xs := us.map V.ref)) (fun i' H6 => WaysAt H6 D' x (stepU A WA f x (Lp.take i') st) ∧ Same H5 H6) ⟨⟨[], upd_same, .nil⟩, same_new hD'⟩ (fun i' H6 _ h => SqL.of (h.2 _ _ hws1)) ?_ ?_
      · rintro i' xv H6 H7 hi' ⟨wa, s6⟩ ⟨rfl, hxv⟩
        have hxv : (us.map V.ref)[i']? = some xv := hxv
        rw [List.getElem?_map] at hxv
        obtain ⟨u0, hu0, rfl⟩ := Option.map_eq_some_iff.mp hxv
        obtain ⟨u, hu, hu0t⟩ := Nm.paired_get hws2 hu0
        obtain ⟨ok1, ok2, _⟩ := okU u (List.mem_of_getElem? hu)
        obtain ⟨xs0, hxs0⟩ := wayV_end x u
        refine ⟨rfl, tyes ?_⟩
        refine ⟨_, rfl, a, rfl, ⟨_, SqL.of (s6 _ _ ha4)⟩, ?_⟩
        refine walkW (walk_list (xs := (overL A f st.2).map V.str)) (fun j H8 => WaysAt H8 D' x (partU A WA f x (Lp.take i') st u j) ∧ Same H5 H8) ⟨by rw [partU_0]; exact wa, s6⟩ (fun j H8 _ h => SqL.of (h.2 _ _ ha4)) ?_ ?_
        · rintro j zv H8 H9 hj ⟨wb, s8⟩ ⟨rfl, hzv⟩
          have hzv : ((overL A f st.2).map V.str)[j]? = some zv := hzv
          rw [List.getElem?_map] at hzv
          obtain ⟨z, hz, rfl⟩ := Option.map_eq_some_iff.mp hzv
          have hzA : z ∈ A := (List.mem_filter.mp (List.mem_of_getElem? hz)).1
          have s09 := s04.trans s8
          have NA9 := NA.same s09
          have lenP : (partU A WA f x (Lp.take i') st u j).length ≤ 1000 := Nat.le_trans (partU_le hu) len5
          refine ⟨rfl, ?_⟩
          refine ⟨_, rfl, ov, dA, _, rfl, s09 _ _ hpA, rfl, _, rfl, _, rfl, u0, _, _, V.str (lastW x u), rfl, rfl, SqT.of (s8 _ _ hu0t), (by rw [hxs0]; exact atI_last xs0 _), _, rfl, _, rfl, ?_⟩
          refine ⟨ov, A, WA, _, _, _, rfl, NA9, ok1.last, hzA, fun v hv => ⟨_, _, rfl, rfl, _, rfl, ?_⟩⟩
          have sv := same_new (o := .tup [V.str (lastW x u), V.str z, V.str st.1]) hv
          by_cases c : 0 < WA (lastW x u) z st.1
          · have ec : decide ((0 : Int) < ((WA (lastW x u) z st.1 : Nat) : Int)) = true := decide_eq_true (by omega)
            rw [ec]
            refine iteT ?_
            refine ⟨_, rfl, _, rfl, _, rfl, (by show 2 ≤ sizeLine; decide), fun q' hq' => ?_⟩
            have sq := sv.trans (same_new (o := .tup [V.str st.1, V.str z]) hq')
            refine ⟨u0, q', _, _, rfl, rfl, SqT.of (sq _ _ (s8 _ _ hu0t)), SqT.of upd_same, by rw [hxs0]; simp, ?_, (fun e => nomatch e), fun _ r hr0 => ?_⟩
            · rw [wayV_len]
              have h8 : u.length ≤ 8 := by
                have h1 := (okU u (List.mem_of_getElem? hu)).2.2.1
                have h2 := List.length_take_le i l
                rw [List.length_take] at h1
                omega
              show 2 * u.length + 1 + 2 ≤ sizeLine
              have lim : sizeLine = 16777216 := sizeLine_eq
              omega
            obtain ⟨acc, a1, a2, a3⟩ := (wb.same sq).add (l := u ++ [(st.1, z)]) hr0
            rw [wayV_snoc] at a1 a3
            refine ⟨acc, a1, Evl.sz_lt (by rw [a2]; omega), ?_, same_off (s8.trans (sq.trans (same_new hr0))) hD'⟩
            rw [partU_yes hz c]
            exact a3
          · have ec : decide ((0 : Int) < ((WA (lastW x u) z st.1 : Nat) : Int)) = false := decide_eq_false (by omega)
            rw [ec]
            refine iteF ?_
            exact ⟨by rw [partU_no hz c]; exact wb.same sv, s8.trans sv⟩
        · rintro H8 ⟨wb, s8⟩
          rw [List.length_map, partU_end hu] at wb
          exact ⟨wb, s8⟩
      · rintro H6 ⟨wa, s6⟩
        rw [List.length_map, Paired.length hws2, List.take_length] at wa
        exact ⟨D', _, _, _, rfl, wa, s4.trans s6⟩
    · rintro σ H4 ⟨ws, v7, v8, v9, rfl, hws, s4⟩
      rw [List.take_length] at hws
      exact ⟨_, rfl, k ws H4 hws (s03.trans s4)⟩
end
end Nm
set_option maxRecDepth 100000
set_option maxHeartbeats 8000000
/-! behind -/
namespace Nm
open PySem L2
/-- a dict that leads names to names -/
def ledK (nm : List Str) (f : Str → Str) : List (Key × V) := nm.map fun x => (Sum.inr x, V.str (f x))
theorem ledK_keys (nm : List Str) (f : Str → Str) : (ledK nm f).map (·.1) = nm.map Sum.inr := by
  unfold ledK
  rw [List.map_map]
  rfl
theorem ledK_nd {nm : List Str} {f : Str → Str} (nd : nm.Nodup) : ((ledK nm f).map (·.1)).Nodup := by
  rw [ledK_keys]
  exact List.Pairwise.map _ (fun a b hab e => hab (Sum.inr.inj e)) nd
theorem ledK_at {nm : List Str} {f : Str → Str} (nd : nm.Nodup) {x : Str} (h : x ∈ nm) : valV (ledK nm f) (Sum.inr x) = some (V.str (f x)) := val_of_mem (ledK_nd nd) (List.mem_map.mpr ⟨x, h, rfl⟩)
theorem ledK_len (nm : List Str) (f : Str → Str) : (ledK nm f).length = nm.length := by unfold ledK; rw [List.length_map]
/-- the key as a name -/
def keyS : Key → Str
  | .inr x => x
  | _ => ""
/-- any dict of names by names is of this form -/
theorem ledK_of {kvs : List (Key × V)} (nd : (kvs.map (·.1)).Nodup) (h : ∀ kv ∈ kvs, ∃ x y, kv = (Sum.inr x, V.str y)) : kvs = ledK (kvs.map fun kv => keyS kv.1) (leadG kvs) ∧ (kvs.map fun kv => keyS kv.1).Nodup := by
  constructor
  · unfold ledK
    rw [List.map_map]
    conv => lhs; rw [← List.map_id kvs]
    refine List.map_congr_left fun kv hm => ?_
    obtain ⟨x, y, rfl⟩ := h kv hm
    show (Sum.inr x, V.str y) = (Sum.inr x, V.str (leadG kvs x))
    unfold leadG
    rw [val_of_mem nd hm]
  · rw [List.Nodup, List.pairwise_map] at nd ⊢
    refine nd.imp_of_mem fun {a b} ha hb hab e => hab ?_
    obtain ⟨x, y, rfl⟩ := h a ha
    obtain ⟨x', y', rfl⟩ := h b hb
    have e : x = x' := e
    rw [e]
section
variable {P : Program} {w : World} {K : PySem.W.Frag} {mg : Str → Option Value} {base : Heap}
def spBehind : Sp := fun vs H Q _ => ∃ (a b : Addr) (nm : List Str) (f g : Str → Str) (k2 : List (Key × V)), vs = [.ref a, .ref b] ∧ a ≠ b ∧ H a = some (.dK (ledK nm f)) ∧ H b = some (.dK k2) ∧ nm.Nodup ∧ nm.length ≤ 1000 ∧ (∀ x ∈ nm, valV k2 (Sum.inr (f x)) = some (V.str (g (f x)))) ∧
  ∀ (D : Addr) (H' : Hp), H D = none → H' D = some (.dK (ledK nm (g ∘ f))) → Same H H' → Q (.ref D) H'
abbrev nBe : List Str := ["first", "last", "key"]
theorem scBe : FnScope nBe ["first", "last"] (defScope sBehind) := ⟨rfl, rfl, rfl, by decide +kernel, rfl, by decide +kernel, by decide +kernel⟩
theorem ok_behind {f : Addr} {fd : FuncData} (F : Fun K "behind" "behind" sBehind f fd) : FnOk P w K mg base CX0 1 f fd ["first", "last"] spBehind := by
  refine F.ok scBe (fun vs H Q E h => ?_) (fun cdv A outer s H vs Q E hr h => ?_)
  · obtain ⟨_, _, _, _, _, _, rfl, _⟩ := h
    rfl
  · obtain ⟨a, b, nm, f, g, k2, rfl, nab, ha, hb, nd, hl, hg, k⟩ := h
    have hu := hu_of hr
    refine ⟨_, Evl.pss_cut (ps_lock (ps_for PassesOwn.never rfl (pi_keys (pv 0)) (pg_name (i := 2) scBe.nd rfl (Or.inl rfl))
        (pss_one (ps_if (pt_cmp (pc_dnotin hu (pe_dget hu (pv 0) (pv 2) (fun _ _ => rfl)) (pv 1))) pss_nope pss_nil))))
      (pss_one (ps_ret (pe_lock (pe_dc (own := [("key", 2)]) (g := gName 2) (tt := tYes) (tk := tVar 2) (tv := tDGet (tVar 1) (tDGet (tVar 0) (tVar 2))) rfl scBe.nd (pi_keys (pv 0)) (blkOk_by (N := nBe) (sc := defScope sBehind) (by decide +kernel))
        (fun _ _ _ _ _ => pg_name (i := 2) scBe.nd rfl (Or.inl rfl)) (fun _ _ _ _ _ => pts_nil) (fun _ _ _ _ _ => pv 2) (fun _ _ _ _ _ => by exact pe_dget hu (pv 1) (pe_dget hu (pv 0) (pv 2) (fun _ _ => rfl)) (fun _ _ => rfl)))))), ?_⟩
    have gets : ∀ (od : Obj) (H1 : Hp), H1 a = some (.frz od (.dK (ledK nm f))) → ∀ x ∈ nm, DGet H1 a (V.str x) (some (V.str (f x))) := fun od H1 h1 x hx => .inl ⟨ledK nm f, Sum.inr x, .inr ⟨od, h1⟩, rfl, (ledK_at nd hx).symm⟩
    have back : ∀ (od : Obj) (H1 : Hp), Same (upd H a (.frz od (.dK (ledK nm f)))) H1 → Same H (upd H1 a (.dK (ledK nm f))) := fun od H1 s1 c o e => by
      by_cases ec : c = a
      · subst ec
        rw [upd_same, ← ha]
        exact e
      · rw [upd_ne ec]
        exact s1 _ _ (by rw [upd_ne ec]; exact e)
    have hb0 : ∀ od : Obj, (upd H a (.frz od (.dK (ledK nm f)))) b = some (.dK k2) := fun od => by rw [upd_ne nab.symm]; exact hb
    have keyAt : ∀ {i : Nat} {key : Key} {v : V}, (ledK nm f)[i]? = some (key, v) → ∃ x, nm[i]? = some x ∧ key = Sum.inr x ∧ v = V.str (f x) := fun {i key v} h => by
      unfold ledK at h
      rw [List.getElem?_map] at h
      obtain ⟨x, hx, e⟩ := Option.map_eq_some_iff.mp h
      cases e
      exact ⟨x, hx, rfl, rfl⟩
    refine ⟨fun σ H1 => ∃ v2, σ = [some (.ref a), some (.ref b), v2] ∧ Same H H1, ?_, ?_⟩
    · refine ⟨a, _, ha, trivial, fun od => ?_⟩
      refine ⟨_, rfl, a, od, rfl, .inl ⟨ledK nm f, upd_same, ?_⟩⟩
      refine for_it walk_keys (fun i σ H1 => ∃ v2, σ = [some (.ref a), some (.ref b), v2] ∧ H1 = upd H a (.frz od (.dK (ledK nm f)))) ⟨none, rfl, rfl⟩ (fun i σ H1 _ ⟨_, _, h⟩ => by rw [h]; exact upd_same) ?_ ?_
      · rintro i x σ H1 H2 hi ⟨v2, rfl, rfl⟩ ⟨rfl, key, v, hkv, rfl⟩
        obtain ⟨x, hx, rfl, rfl⟩ := keyAt hkv
        have hxm := List.mem_of_getElem? hx
        refine ⟨_, rfl, _, rfl, a, V.str (f x), rfl, gets od _ upd_same x hxm, _, rfl, b, some (V.str (g (f x))), rfl, (by rw [← hg x hxm]; exact DGet.k (k := Sum.inr (f x)) (hb0 od)), _, rfl, iteF ⟨some (.str x), rfl, rfl⟩⟩
      · rintro σ H1 ⟨v2, rfl, rfl⟩
        exact ⟨upd_same, v2, rfl, back od _ fun _ _ e => e⟩
    rintro σ H1 ⟨v2, rfl, s1⟩
    have ha1 := s1 _ _ ha
    have hb1 := s1 _ _ hb
    refine ⟨a, _, ha1, trivial, fun od => ?_⟩
    refine ⟨_, rfl, a, od, rfl, .inl ⟨ledK nm f, upd_same, fun D hD => ?_⟩⟩
    have nDa : D ≠ a := fun e => by subst e; rw [upd_same] at hD; cases hD
    have hb2 : (upd H1 a (.frz od (.dK (ledK nm f)))) b = some (.dK k2) := by rw [upd_ne nab.symm]; exact hb1
    have ha2 : (upd H1 a (.frz od (.dK (ledK nm f)))) a = some (.frz od (.dK (ledK nm f))) := upd_same
    have hD1 : H1 D = none := by rw [upd_ne nDa] at hD; exact hD
    have back1 : ∀ H2, Same (upd H1 a (.frz od (.dK (ledK nm f)))) H2 → Same H1 (upd H2 a (.dK (ledK nm f))) := fun H2 s2 c o e => by
      by_cases ec : c = a
      · subst ec
        rw [upd_same, ← ha1]
        exact e
      · rw [upd_ne ec]
        exact s2 _ _ (by rw [upd_ne ec]; exact e)
    generalize upd H1 a (.frz od (.dK (ledK nm f))) = Hl at *
    refine dc_walk walk_keys (fun i H2 => H2 D = some (.dK (ledK (nm.take i) (g ∘ f))) ∧ Same Hl H2) ⟨upd_same, same_new hD⟩ (fun i H2 _ ⟨_, h⟩ => h _ _ ha2) ?_ ?_
    · rintro i x H2 H3 hi ⟨hD2, s2⟩ ⟨rfl, key, v, hkv, rfl⟩
      obtain ⟨x, hx, rfl, rfl⟩ := keyAt hkv
      have hxm := List.mem_of_getElem? hx
      refine ⟨rfl, tyes ?_⟩
      refine ⟨_, rfl, _, rfl, _, rfl, _, rfl, a, V.str (f x), rfl, gets od _ (s2 _ _ ha2) x hxm, b, V.str (g (f x)), rfl, (by rw [← hg x hxm]; exact DGet.k (k := Sum.inr (f x)) (s2 _ _ hb2)), ?_⟩
      refine ⟨_, Sum.inr x, rfl, hD2, Evl.sz_lt (by rw [ledK_len, List.length_take]; omega), ?_, same_off s2 hD⟩
      have hnew : valV (ledK (nm.take i) (g ∘ f)) (Sum.inr x) = none := nm_new nd hx (ledK_keys _ _)
      rw [upd_same, putK_new _ hnew, List.take_add_one, hx]
      unfold ledK
      rw [Option.toList_some, List.map_append]
      rfl
    · rintro H2 ⟨hD2, s2⟩
      rw [ledK_len, List.take_length] at hD2
      exact ⟨s2 _ _ ha2, k D _ (s1.free hD1) (by rw [upd_ne nDa]; exact hD2) (s1.trans (back1 H2 s2))⟩
end
end Nm
set_option maxRecDepth 100000
set_option maxHeartbeats 4000000
/-! _law_bound_over -/
namespace Nm
open PySem L2
theorem stepP_ok {n : Nat} (h1 : 1 ≤ n) (ps : List Nat) (k : List Key) (hl : ps.length = n) (hp : ∀ x ∈ ps, x < n) : (stepP ps k).length = n ∧ ∀ x ∈ stepP ps k, x < n := by
  have g : ∀ i : Nat, (ps[i]?).getD 0 < n := fun i => by
    cases e : ps[i]? with
    | none => exact h1
    | some y => exact hp y (List.mem_of_getElem? e)
  unfold stepP
  split
  · refine ⟨by rw [List.length_map, hl], fun x hx => ?_⟩
    obtain ⟨y, hy, rfl⟩ := List.mem_map.mp hx
    split
    · exact g _
    · exact hp y hy
  · exact ⟨hl, hp⟩
theorem foldP_ok {n : Nat} (h1 : 1 ≤ n) : ∀ (ks : List (List Key)) (ps : List Nat), ps.length = n → (∀ x ∈ ps, x < n) → (ks.foldl stepP ps).length = n ∧ ∀ x ∈ ks.foldl stepP ps, x < n
  | [], ps, hl, hp => ⟨hl, hp⟩
  | k :: ks, ps, hl, hp => by
    obtain ⟨a, b⟩ := stepP_ok h1 ps k hl hp
    exact foldP_ok h1 ks _ a b
theorem PartsRel.ok {n : Nat} {kvs : List (List Key × V)} {ps : List Nat} (h1 : 1 ≤ n) (h : PartsRel n kvs ps) : ps.length = n ∧ ∀ x ∈ ps, x < n := by
  obtain ⟨ks, _, _, rfl⟩ := h
  exact foldP_ok h1 ks _ List.length_range fun x hx => List.mem_range.mp hx
section
variable {P : Program} {w : World} {K : PySem.W.Frag} {mg : Str → Option Value} {base : Heap}
def spBo : Sp := fun vs H Q _ => ∃ (s c wd a b t : Addr) (nm cl : List Str) (kvs : List (List Key × V)), vs = [.ref s, .ref wd, .int 5] ∧ Src H s c ∧ WorldOk H s c wd a b t nm cl kvs ∧ Ties nm.length 2 kvs ∧ totW kvs ≤ 160 ∧ nm.length ≤ 5 ∧
  ∀ (r wd' a' b' t' ld' : Addr) (nm' cl' : List Str) (kvs' : List (List Key × V)) (led : List Nat) (H' : Hp), H wd' = none → H a' = none → H b' = none → H t' = none → H ld' = none → H' r = some (.tup [.ref wd', .ref ld']) → WorldOk H' s c wd' a' b' t' nm' cl' kvs' → Ties nm'.length 4000 kvs' → kvs'.length ≤ 4000 → totW kvs' ≤ 800 →
    H' ld' = some (.lst (natV led)) → led.length = nm'.length → 1 ≤ led.length → led.length ≤ 5 → Cov kvs cl kvs' led cl' → (∀ x, x ∈ led ↔ x < nm.length) → Src H' s c → Kp s c H H' → Q (.ref r) H'
abbrev nBo : List Str := ["_law_source", "_law_ground", "_law_most", "_law_many"]
theorem scBo : FnScope nBo ["_law_source", "_law_ground", "_law_most"] (defScope sBoundOver) := ⟨rfl, rfl, rfl, by decide +kernel, rfl, by decide +kernel, by decide +kernel⟩
theorem ok_bo {f : Addr} {fd : FuncData} (F : Fun K "_law_bound_over" "_law_bound_over" sBoundOver f fd) (T : TxtE mg) (Gp : Def P w K mg base "_law_pick" ["_law_source", "_law_many"] 1 spPick) (Go : Def P w K mg base "_law_over" ["_law_source", "_law_world", "_law_numbers"] 4 spOver) : FnOk P w K mg base CX0 5 f fd ["_law_source", "_law_ground", "_law_most"] spBo := by
  obtain ⟨fp, fdp, Gp, mp, kp, bp⟩ := Gp.ex
  obtain ⟨fo, fdo, Go, mo, ko, bo⟩ := Go.ex
  refine F.ok scBo (fun vs H Q E h => ?_) (fun cdv A outer s H vs Q E hr h => ?_)
  · obtain ⟨_, _, _, _, _, _, _, _, _, rfl, _⟩ := h
    rfl
  obtain ⟨sa, ca, wd, a, b, t, nm, cl, kvs, rfl, S, W, ti, kl, n2, k⟩ := h
  have hu := hu_of hr
  have hr1 := hr.mono (by decide : 1 ≤ 4)
  refine ⟨_, Evl.pss_cut (ps_set (i := 3) scBo.nd rfl (Or.inl rfl) (pe_op op_add pe_int (pe_call Gp hr1 (by rfl) mp kp bp .nil pass0 (pa_cons (pv 0) (pa_cons (pe_callB (call_max2 rfl) (by rfl) T.max (by decide +kernel) (pa_cons pe_int (pa_cons (pe_op op_fdiv (pv 2) (pe_callB call_len_seq (by rfl) T.len PySem.boot_len (pa_cons (pe_dget hu (pv 1) pe_str (fun _ _ => rfl)) pa_nil))) pa_nil))) pa_nil)))))
    (pss_one (ps_ret (pe_call Go hr (by rfl) mo ko bo .nil pass0 (pa_cons (pv 0) (pa_cons (pv 1) (pa_cons (pe_op op_rep (pe_lst (pa_cons (pv 3) pa_nil)) (pe_callB call_len_seq (by rfl) T.len PySem.boot_len (pa_cons (pe_dget hu (pv 1) pe_str (fun _ _ => rfl)) pa_nil))) pa_nil)))))), ?_⟩
  have n1 := W.n1
  have lm : (nm.map V.str).length = nm.length := List.length_map _
  refine ⟨fun σ H1 => ∃ c : Nat, σ = [some (.ref sa), some (.ref wd), some (.int 5), some (.int (c : Int))] ∧ 1 ≤ c ∧ c * nm.length ≤ 5 ∧ Src H1 sa ca ∧ Kp sa ca H H1, ?_, ?_⟩
  · refine ⟨_, rfl, _, rfl, _, rfl, wd, _, rfl, dg_names W.d, a, _, rfl, .inl (SqL.of W.hn), _, _, rfl, rfl, ⟨by rw [lm]; omega, by rw [lm]; omega⟩, _, _, rfl, ?_⟩
    rw [lm]
    have b5 : (if (5 : Int) / (nm.length : Int) > 1 then (5 : Int) / (nm.length : Int) else 1) * (nm.length : Int) ≤ 5 ∧ 1 ≤ (if (5 : Int) / (nm.length : Int) > 1 then (5 : Int) / (nm.length : Int) else 1) ∧ (if (5 : Int) / (nm.length : Int) > 1 then (5 : Int) / (nm.length : Int) else 1) ≤ 5 := by
      have : nm.length = 1 ∨ nm.length = 2 ∨ nm.length = 3 ∨ nm.length = 4 ∨ nm.length = 5 := by omega
      rcases this with e | e | e | e | e <;> rw [e] <;> decide
    generalize (if (5 : Int) / (nm.length : Int) > 1 then (5 : Int) / (nm.length : Int) else 1) = mx at b5 ⊢
    refine ⟨sa, ca, mx, rfl, S, by omega, by omega, fun kk H1 k0 k1 S1 kp1 => ⟨_, _, rfl, rfl, (1 + kk).toNat, ?_, by omega, ?_, S1, kp1⟩⟩
    · rw [Int.toNat_of_nonneg (by omega)]
      rfl
    · have h1 : (1 + kk).toNat ≤ mx.toNat := by omega
      have h2 := Nat.mul_le_mul_right nm.length h1
      have h3 : ((mx.toNat * nm.length : Nat) : Int) ≤ 5 := by
        rw [Int.natCast_mul, Int.toNat_of_nonneg (by omega)]
        exact b5.1
      omega
  rintro σ H1 ⟨c, rfl, c1, c5, S1, kp1⟩
  have W1 := W.kp kp1
  refine ⟨_, rfl, _, rfl, _, rfl, (by show 1 ≤ sizeLine; decide), fun l hl => ?_⟩
  have sl := same_new (o := .lst [V.int (c : Int)]) hl
  refine ⟨_, rfl, wd, _, rfl, dg_names (sl _ _ W1.d), a, _, rfl, .inl (SqL.of (sl _ _ W1.hn)), l, _, _, rfl, rfl, upd_same, by rw [lm]; omega, by rw [lm]; omega, by rw [lm]; exact Evl.sz_of (by simp; omega), fun nu hnu => ?_⟩
  rw [lm, Int.toNat_natCast, List.flatten_replicate_singleton]
  have sn := sl.trans (same_new (o := .lst (List.replicate nm.length (V.int (c : Int)))) hnu)
  have hnu2 : (upd (upd H1 l (.lst [V.int (c : Int)])) nu (.lst (List.replicate nm.length (V.int (c : Int))))) nu = some (.lst (natV (List.replicate nm.length c))) := by
    rw [upd_same]
    unfold natV
    rw [List.map_replicate]
  have hnu1 : H1 nu = none := sl.free hnu
  obtain ⟨_, nnc⟩ := S1.ne hnu1
  generalize upd (upd H1 l (.lst [V.int (c : Int)])) nu (.lst (List.replicate nm.length (V.int (c : Int)))) = H2 at *
  have kp2 : Kp sa ca H H2 := kp1.trans (Kp.same sn)
  have S2 := S1.same sn
  have c5' : c ≤ 5 := by
    have := Nat.mul_le_mul_left c n1
    omega
  have rall : ∀ x ∈ List.replicate nm.length c, x = c := fun x hx => List.eq_of_mem_replicate hx
  refine ⟨sa, ca, wd, a, b, t, nu, nm, cl, 2, kvs, List.replicate nm.length c, rfl, S2, W1.same sn, ti, by omega, by omega, hnu2, nnc, by rw [List.length_replicate]; exact Nat.le_refl _, fun x hx => by rw [rall x hx]; exact c5', fun ps hps => ?_, ?_⟩
  · obtain ⟨pl, pn⟩ := hps.ok n1
    obtain ⟨p, hp⟩ : ∃ p, ps[0]? = some p := ⟨_, List.getElem?_eq_getElem (by omega)⟩
    have hpm := List.mem_of_getElem? hp
    exact ⟨p, hpm, c, by rw [List.getElem?_replicate, if_pos (pn p hpm)], c1⟩
  intro r wd' a' b' t' ld' nm' cl' kvs' led' H' z1 z2 z3 z4 z5 hr' W' hl' ti' hk' ht' hld' hll' hcov hlm hLK hall S' kp'
  have h5 : led'.length ≤ c * nm.length := hLK c rall
  have all : ∀ x, x ∈ led' ↔ x < nm.length := fun x => ⟨hlm x, fun hx => hall x hx (fun c0 h0 => by
    have := h0 c (List.mem_replicate.mpr ⟨by omega, rfl⟩)
    omega) (fun y hy z hz => by rw [rall y hy, rall z hz])⟩
  have h1 : 1 ≤ led'.length := List.length_pos_of_mem ((all 0).mpr (by omega))
  exact k r wd' a' b' t' ld' nm' cl' kvs' led' H' (kp2.free S2 z1) (kp2.free S2 z2) (kp2.free S2 z3) (kp2.free S2 z4) (kp2.free S2 z5) hr' W' ti' hk' (by omega) hld' hll' h1 (by omega) hcov all S' (kp2.trans kp')
end
end Nm
set_option maxRecDepth 100000
set_option maxHeartbeats 8000000
/-! _law_width, _law_named, _law_product -/
namespace Nm
open PySem L2
theorem sg_ind {K0 : List Key} : ∀ {kvs : List (List Key × V)}, (kvs.map (·.1)).Nodup → Sg (fun k => if k = K0 then 1 else 0) kvs = wOf ((valV kvs K0).getD .non)
  | [], _ => rfl
  | kv :: r, nd => by
    rw [List.map_cons, List.nodup_cons] at nd
    rw [Sg.cons]
    by_cases e : kv.1 = K0
    · rw [if_pos e, Nat.mul_one, valV_pos e]
      have : Sg (fun k => if k = K0 then 1 else 0) r = 0 := sumz fun p hp => by
        show wOf p.2 * (if p.1 = K0 then 1 else 0) = 0
        rw [if_neg fun z => nd.1 (List.mem_map.mpr ⟨p, hp, z.trans e.symm⟩), Nat.mul_zero]
      rw [this]
      rfl
    · rw [if_neg e, Nat.mul_zero, Nat.zero_add, valV_neg e]
      exact sg_ind nd.2
/-- the width of two places, by the world's dict -/
theorem wid_world {nm : List Str} (nd : nm.Nodup) {m : Nat} {kvs : List (List Key × V)} {rs : List RowV} (T : Ties nm.length m kvs) (R : RowsOf kvs rs) {i j : Nat} (hi : i < nm.length) (hj : j < nm.length) (kd : Str) :
    (valV kvs [Sum.inl ((min i j : Nat) : Int), Sum.inl ((max i j : Nat) : Int), Sum.inr kd]).getD (.int 0) = .int (wN nm rs (nmA nm i) (nmA nm j) kd : Nat) := by
  have F := rowsFit_of T R
  have e1 := sN_eq nd (h := fun z => if z = nmA nm j then 1 else 0) (x := nmA nm i) (kd := kd) F.lt
  rw [sumo (a := nmA nm j) nd (nmA_mem hj) fun u _ hne => by rw [if_neg hne, Nat.zero_mul], if_pos rfl, Nat.one_mul, SN_Sg nd T R hi] at e1
  have e2 : Sg (tieC (fun y => if nmA nm y = nmA nm j then 1 else 0) i kd) kvs = Sg (fun k => if k = [Sum.inl ((min i j : Nat) : Int), Sum.inl ((max i j : Nat) : Int), Sum.inr kd] then 1 else 0) kvs := by
    refine Sg.congr fun kv hm => ?_
    obtain ⟨a, b, k, e, h1, h2, _⟩ := T.key kv hm
    rw [e, tieC_nat]
    have na : ∀ y, y < nm.length → (nmA nm y = nmA nm j ↔ y = j) := fun y hy => ⟨nmA_inj nd hy hj, fun e => by rw [e]⟩
    have iff : ([Sum.inl (a : Int), Sum.inl (b : Int), Sum.inr k] : List Key) = [Sum.inl ((min i j : Nat) : Int), Sum.inl ((max i j : Nat) : Int), Sum.inr kd] ↔ (k = kd ∧ ((a = i ∧ b = j) ∨ (a = j ∧ b = i))) := by
      simp only [List.cons.injEq, Sum.inl.injEq, Sum.inr.injEq, and_true]
      constructor
      · rintro ⟨z1, z2, z3⟩
        exact ⟨z3, by omega⟩
      · rintro ⟨z3, z⟩
        exact ⟨by omega, by omega, z3⟩
    simp only [iff, na a (by omega), na b h2]
    by_cases c1 : k = kd
    · rw [if_pos c1]
      by_cases c2 : a = i
      · have n2 : ¬ b = i := by omega
        rw [if_pos c2, if_neg n2, Nat.add_zero]
        by_cases c3 : b = j
        · rw [if_pos c3, if_pos ⟨c1, .inl ⟨c2, c3⟩⟩]
        · rw [if_neg c3, if_neg fun z => by
            rcases z.2 with ⟨_, z⟩ | ⟨_, z⟩
            · exact c3 z
            · exact n2 z]
      · rw [if_neg c2, Nat.zero_add]
        by_cases c3 : b = i
        · rw [if_pos c3]
          by_cases c4 : a = j
          · rw [if_pos c4, if_pos ⟨c1, .inr ⟨c4, c3⟩⟩]
          · rw [if_neg c4, if_neg fun z => by
              rcases z.2 with ⟨z, _⟩ | ⟨z, _⟩
              · exact c2 z
              · exact c4 z]
        · rw [if_neg c3, if_neg fun z => by
            rcases z.2 with ⟨z, _⟩ | ⟨_, z⟩
            · exact c2 z
            · exact c3 z]
    · rw [if_neg c1, if_neg fun z => c1 z.1]
  rw [e2, sg_ind T.nd] at e1
  rw [e1]
  cases e : valV kvs [Sum.inl ((min i j : Nat) : Int), Sum.inl ((max i j : Nat) : Int), Sum.inr kd] with
  | none => rfl
  | some v =>
    obtain ⟨x, hx, _⟩ := T.val _ (mem_of_val e)
    have hx : v = V.int (x : Int) := hx
    subst hx
    show V.int (x : Int) = V.int (((x : Int).toNat : Nat) : Int)
    rw [Int.toNat_natCast]
/-- a way by numbers -/
def wayI : Nat → List (Str × Nat) → List V
  | i, [] => [.int (i : Int)]
  | i, s :: r => .int (i : Int) :: .str s.1 :: wayI s.2 r
def nmS (nm : List Str) (ns : List (Str × Nat)) : Steps := ns.map fun s => (s.1, nmA nm s.2)
def conv (nm : List Str) : V → V
  | .int i => .str (nmA nm i.toNat)
  | v => v
theorem wayI_conv (nm : List Str) : ∀ (i : Nat) (ns : List (Str × Nat)), (wayI i ns).map (conv nm) = wayV (nmA nm i) (nmS nm ns)
  | i, [] => by
    show [V.str (nmA nm ((i : Int).toNat))] = [V.str (nmA nm i)]
    rw [Int.toNat_natCast]
  | i, s :: r => by
    show V.str (nmA nm ((i : Int).toNat)) :: V.str s.1 :: (wayI s.2 r).map (conv nm) = V.str (nmA nm i) :: V.str s.1 :: wayV (nmA nm s.2) (nmS nm r)
    rw [wayI_conv nm s.2 r, Int.toNat_natCast]
theorem wayI_len : ∀ (i : Nat) (ns : List (Str × Nat)), (wayI i ns).length = 2 * ns.length + 1
  | _, [] => rfl
  | i, s :: r => by
    show (wayI s.2 r).length + 1 + 1 = 2 * (r.length + 1) + 1
    rw [wayI_len s.2 r]
    omega
theorem wayI_mem {n : Nat} : ∀ {i : Nat} {ns : List (Str × Nat)}, i < n → (∀ s ∈ ns, s.2 < n) → ∀ v ∈ wayI i ns, (∃ x, v = .str x) ∨ ∃ j : Nat, j < n ∧ v = .int (j : Int)
  | i, [], h, _, v, hv => .inr ⟨i, h, List.mem_singleton.mp hv⟩
  | i, s :: r, h, hs, v, hv => by
    rcases List.mem_cons.mp hv with e | hv
    · exact .inr ⟨i, h, e⟩
    · rcases List.mem_cons.mp hv with e | hv
      · exact .inl ⟨_, e⟩
      · exact wayI_mem (hs s List.mem_cons_self) (fun s' h' => hs s' (List.mem_cons_of_mem _ h')) v hv
theorem wayI_snoc : ∀ (i : Nat) (ns : List (Str × Nat)) (s : Str × Nat), wayI i (ns ++ [s]) = wayI i ns ++ [.str s.1, .int (s.2 : Int)]
  | i, [], s => rfl
  | i, b :: r, s => by
    show V.int (i : Int) :: V.str b.1 :: wayI b.2 (r ++ [s]) = V.int (i : Int) :: V.str b.1 :: (wayI b.2 r ++ _)
    rw [wayI_snoc b.2 r s]
def rTupL (K : PySem.W.Frag) : List V → Hp → VK → Prop := fun xs H Q => ∃ p ys, xs = [.ref p] ∧ SqL K H p ys ∧ ∀ l, H l = none → Q (.ref l) (upd H l (.tup ys))
section
variable {X : Cx}
theorem call_tupL : CallR X (.type "tuple") (rTupL X.K) := fun pins s σ H xs us Q I r h => by
  obtain ⟨p, ys, e, h1, h2⟩ := h
  exact call_tuple_of pins s σ H xs us Q I r ⟨p, ys, e, .inl ⟨h1, h2⟩⟩
end
section
variable {P : Program} {w : World} {K : PySem.W.Frag} {mg : Str → Option Value} {base : Heap}
/-! ### _law_width -/
def spLW : Sp := fun vs H Q _ => ∃ (wd a b t : Addr) (nm : List Str) (m : Nat) (kvs : List (List Key × V)) (rs : List RowV) (i j : Nat) (kd : Str), vs = [.ref wd, .int (i : Int), .int (j : Int), .str kd] ∧ H wd = some (.dK (worldD a b t)) ∧ H t = some (.dT kvs) ∧ nm.Nodup ∧ Ties nm.length m kvs ∧ RowsOf kvs rs ∧ i < nm.length ∧ j < nm.length ∧
  ∀ H', Same H H' → Q (.int (wN nm rs (nmA nm i) (nmA nm j) kd : Nat)) H'
abbrev nLWi : List Str := ["_law_world", "_law_one", "_law_other", "_law_kind"]
theorem scLWi : FnScope nLWi ["_law_world", "_law_one", "_law_other", "_law_kind"] (defScope sLawWidth) := ⟨rfl, rfl, rfl, by decide +kernel, rfl, by decide +kernel, by decide +kernel⟩
theorem ok_lw {f : Addr} {fd : FuncData} (F : Fun K "_law_width" "_law_width" sLawWidth f fd) (T1 : mg "min" = none) (T2 : mg "max" = none) : FnOk P w K mg base CX0 1 f fd ["_law_world", "_law_one", "_law_other", "_law_kind"] spLW := by
  refine F.ok scLWi (fun vs H Q E h => ?_) (fun cdv A outer s H vs Q E hr h => ?_)
  · obtain ⟨_, _, _, _, _, _, _, _, _, _, _, rfl, _⟩ := h
    rfl
  · obtain ⟨wd, a, b, t, nm, m, kvs, rs, i, j, kd, rfl, hwd, ht, nd, ti, R, hi, hj, k⟩ := h
    have hu := hu_of hr
    refine ⟨_, pss_one (ps_ret (pe_dget2 hu (pe_dget hu (pv 0) pe_str (fun _ _ => rfl)) (pe_tup (pa_cons (pe_callB (call_min2 rfl) (by rfl) T1 (by decide +kernel) (pa_cons (pv 1) (pa_cons (pv 2) pa_nil))) (pa_cons (pe_callB (call_max2 rfl) (by rfl) T2 (by decide +kernel) (pa_cons (pv 1) (pa_cons (pv 2) pa_nil))) (pa_cons (pv 3) pa_nil)))) pe_int ⟨rfl, rfl, rfl, rfl⟩)), ?_⟩
    have e1 : (if (j : Int) < (i : Int) then (j : Int) else (i : Int)) = ((min i j : Nat) : Int) := by
      split <;> omega
    have e2 : (if (j : Int) > (i : Int) then (j : Int) else (i : Int)) = ((max i j : Nat) : Int) := by
      split <;> omega
    refine ⟨_, rfl, wd, V.ref t, rfl, dg_ties hwd, t, rfl, .inr ⟨kvs, .inl ht⟩, _, rfl, _, rfl, _, _, rfl, _, rfl, _, rfl, _, _, rfl, _, rfl, (by show 3 ≤ sizeLine; decide), fun u hu0 => ?_⟩
    rw [e1, e2] at *
    have su := same_new (o := .tup [V.int ((min i j : Nat) : Int), V.int ((max i j : Nat) : Int), V.str kd]) hu0
    refine ⟨_, DGet.t (k := [Sum.inl ((min i j : Nat) : Int), Sum.inl ((max i j : Nat) : Int), Sum.inr kd]) (su _ _ ht) upd_same, ?_⟩
    rw [wid_world nd ti R hi hj kd]
    exact k _ su
/-! ### _law_named -/
def spNamed : Sp := fun vs H Q _ => ∃ (wd a b t r : Addr) (nm : List Str) (i : Nat) (ns : List (Str × Nat)), vs = [.ref wd, .ref r] ∧ H wd = some (.dK (worldD a b t)) ∧ H a = some (.lst (nm.map V.str)) ∧ H r = some (.lst (wayI i ns)) ∧ i < nm.length ∧ (∀ s ∈ ns, s.2 < nm.length) ∧ ns.length ≤ 8 ∧
  ∀ (q : Addr) (H' : Hp), H' q = some (.tup (wayV (nmA nm i) (nmS nm ns))) → H q = none → Same H H' → Q (.ref q) H'
abbrev nNa : List Str := ["_law_world", "_law_way", "_law_part"]
theorem scNa : FnScope nNa ["_law_world", "_law_way"] (defScope sNamed) := ⟨rfl, rfl, rfl, by decide +kernel, rfl, by decide +kernel, by decide +kernel⟩
theorem ok_named {f : Addr} {fd : FuncData} (F : Fun K "_law_named" "_law_named" sNamed f fd) (T1 : mg "tuple" = none) (T2 : mg "isinstance" = none) (T3 : mg "str" = none) : FnOk P w K mg base CX0 1 f fd ["_law_world", "_law_way"] spNamed := by
  refine F.ok scNa (fun vs H Q E h => ?_) (fun cdv A outer s H vs Q E hr h => ?_)
  · obtain ⟨_, _, _, _, _, _, _, _, rfl, _⟩ := h
    rfl
  · obtain ⟨wd, a, b, t, r, nm, i0, ns, rfl, hwd, ha, hr0, hi0, hns, hl8, k⟩ := h
    have hu := hu_of hr
    refine ⟨_, pss_one (ps_ret (pe_callTy call_tupL (by rfl) T1 (by decide +kernel) (pa_cons (pe_lc (own := [("_law_part", 2)]) (g := gName 2) (tt := tYes) (te := tIf (tB (tCB (rIsi K) (tCons (tVar 2) (tCons (tC (.ty "str")) tNil)))) (tVar 2) (tOp (rIxL K) (tDGet (tVar 0) (tC (.str "names"))) (tVar 2))) rfl scNa.nd (pi_list (pv 1))
        (blkOk_by (N := nNa) (sc := defScope sNamed) (by decide +kernel)) (fun _ _ _ _ _ => pg_name (i := 2) scNa.nd rfl (Or.inl rfl)) (fun _ _ _ _ _ => pts_nil)
        (fun _ _ _ _ _ => by exact pe_ifExp (pt_val (pe_callB call_isi (by rfl) T2 (by decide +kernel) (pa_cons (pv 2) (pa_cons (pe_bltn (v := .ty "str") (by rfl) T3 (by decide +kernel) rfl) pa_nil)))) (pv 2) (pe_ix ix_list (pe_dget hu (pv 0) pe_str (fun _ _ => rfl)) (pv 2) (fun _ _ => rfl)))) pa_nil))), ?_⟩
    have hlen := wayI_len i0 ns
    refine ⟨_, rfl, r, rfl, ⟨_, SqL.of hr0⟩, fun D hD => ?_⟩
    refine lc_list (xs := wayI i0 ns) (fun i H1 => H1 D = some (.lst (((wayI i0 ns).take i).map (conv nm))) ∧ Same H H1) ⟨upd_same, same_new hD⟩ (fun i H1 _ ⟨_, h⟩ => SqL.of (h _ _ hr0)) ?_ ?_
    · rintro i x H1 hi ⟨hD1, s1⟩
      have hil := (List.getElem?_eq_some_iff.mp hi).1
      rw [hlen] at hil
      have step : ∀ y, conv nm x = y → ((wayI i0 ns).take (i + 1)).map (conv nm) = ((wayI i0 ns).take i).map (conv nm) ++ [y] := fun y e => by
        rw [List.take_add_one, hi, Option.toList_some, List.map_append, ← e]
        rfl
      have szl : (((wayI i0 ns).take i).map (conv nm)).length < sizeLine := Evl.sz_lt (by rw [List.length_map, List.length_take]; omega)
      rcases wayI_mem hi0 hns x (List.mem_of_getElem? hi) with ⟨z, rfl⟩ | ⟨j, hj, rfl⟩
      · refine ⟨rfl, tyes ?_⟩
        refine ⟨_, rfl, _, _, _, _, true, rfl, ClsV.ty "str", TyX.base (TyOf.str z), kit_ty (by decide +kernel), _, rfl, iteT ?_⟩
        refine ⟨_, rfl, _, hD1, szl, ?_, same_off s1 hD⟩
        rw [upd_same, step _ rfl]
        rfl
      · refine ⟨rfl, tyes ?_⟩
        refine ⟨_, rfl, _, _, _, _, false, rfl, ClsV.ty "str", TyX.base (TyOf.int _), kit_ty (by decide +kernel), _, rfl, iteF ?_⟩
        refine ⟨_, rfl, wd, _, rfl, dg_names (s1 _ _ hwd), _, rfl, a, _, _, V.str (nmA nm j), rfl, rfl, SqL.of (s1 _ _ ha), atI_nat (by rw [List.getElem?_map, nmA_get hj]; rfl), ?_⟩
        refine ⟨_, hD1, szl, ?_, same_off s1 hD⟩
        rw [upd_same, step (V.str (nmA nm j)) (by show V.str (nmA nm ((j : Int).toNat)) = _; rw [Int.toNat_natCast])]
    · rintro H1 ⟨hD1, s1⟩
      rw [List.take_length, wayI_conv] at hD1
      refine ⟨D, _, rfl, SqL.of hD1, fun q hq => ?_⟩
      exact k q _ upd_same (s1.free hq) (s1.trans (same_new hq))
/-! ### _law_product -/
def spLP : Sp := fun vs H Q _ => ∃ (wd a b t p : Addr) (nm : List Str) (m : Nat) (kvs : List (List Key × V)) (rs : List RowV) (x : Str) (l : Steps), vs = [.ref wd, .ref p] ∧ H wd = some (.dK (worldD a b t)) ∧ H a = some (.lst (nm.map V.str)) ∧ H t = some (.dT kvs) ∧ nm.Nodup ∧ Ties nm.length m kvs ∧ RowsOf kvs rs ∧ H p = some (.tup (wayV x l)) ∧ WayOk nm (wN nm rs) x l ∧ l.length ≤ 8 ∧ nm.length ≤ 1000 ∧
  (∀ i, prodW (wN nm rs) x (l.take i) ≤ 100000) ∧ (∀ a b k, wN nm rs a b k ≤ 1000000) ∧ ∀ H', Same H H' → Q (.int (prodW (wN nm rs) x l : Nat)) H'
abbrev nLP : List Str := ["_law_world", "_law_value", "_law_found", "_law_number", "_law_one", "_law_kind", "_law_other"]
theorem scLP : FnScope nLP ["_law_world", "_law_value"] (defScope sProduct) := ⟨rfl, rfl, rfl, by decide +kernel, rfl, by decide +kernel, by decide +kernel⟩
theorem idx_str {nm : List Str} (nd : nm.Nodup) {x : Str} (h : x ∈ nm) : ∃ j z, j < nm.length ∧ nmA nm j = x ∧ (nm.map V.str)[j]? = some z ∧ eqV z (.str x) = true ∧ ∀ (m : Nat) (z' : V), m < j → (nm.map V.str)[m]? = some z' → eqV z' (.str x) = false := by
  obtain ⟨j, hj⟩ := List.getElem?_of_mem h
  have hjl := (List.getElem?_eq_some_iff.mp hj).1
  refine ⟨j, .str x, hjl, nmA_at hj, by rw [List.getElem?_map, hj]; rfl, by show (x == x) = true; exact beq_self_eq_true x, fun m z' hm hz => ?_⟩
  rw [List.getElem?_map] at hz
  obtain ⟨y, hy, rfl⟩ := Option.map_eq_some_iff.mp hz
  show (y == x) = false
  refine beq_eq_false_iff_ne.mpr fun e => ?_
  subst e
  have := (List.getElem?_inj hjl nd).mp (hj.trans hy.symm)
  omega
theorem flat_strs (l : List Str) : (l.map V.str).all flatV = true := List.all_eq_true.mpr fun v hv => by
  obtain ⟨x, _, rfl⟩ := List.mem_map.mp hv
  rfl
theorem ok_lp {f : Addr} {fd : FuncData} (F : Fun K "_law_product" "_law_product" sProduct f fd) (T1 : mg "range" = none) (T2 : mg "len" = none) (Gw : Def P w K mg base "_law_width" ["_law_world", "_law_one", "_law_other", "_law_kind"] 1 spLW) : FnOk P w K mg base CX0 2 f fd ["_law_world", "_law_value"] spLP := by
  obtain ⟨fw, fdw, Gw, mw, kw, bw⟩ := Gw.ex
  refine F.ok scLP (fun vs H Q E h => ?_) (fun cdv A outer s H vs Q E hr h => ?_)
  · obtain ⟨_, _, _, _, _, _, _, _, _, _, _, rfl, _⟩ := h
    rfl
  · obtain ⟨wd, a, b, t, p, nm, m, kvs, rs, x, l, rfl, hwd, ha, ht, nd, ti, R, hp, ok, hl8, hnl, hpr, hw2, k⟩ := h
    have hu := hu_of hr
    refine ⟨_, pss_cons (ps_set (i := 2) scLP.nd rfl (Or.inl rfl) pe_int)
      (pss_cons (ps_for PassesOwn.never rfl (pi_range1 (by rfl) T1 (pa_cons (pe_op op_fdiv (pe_callB call_len_seq (by rfl) T2 PySem.boot_len (pa_cons (pv 1) pa_nil)) pe_int) pa_nil)) (pg_name (i := 3) scLP.nd rfl (Or.inl rfl))
        (pss_cons (ps_asg (pe_slice sl_tupA (pv 1) (po_some (pe_op op_mul pe_int (pv 3))) (po_some (pe_op op_add (pe_op op_mul pe_int (pv 3)) pe_int))) (pg_tup rfl (pgs_cons (pg_name (i := 4) scLP.nd rfl (.inl rfl)) (pgs_cons (pg_name (i := 5) scLP.nd rfl (.inl rfl)) (pgs_cons (pg_name (i := 6) scLP.nd rfl (.inl rfl)) pgs_nil)))))
        (pss_one (ps_set (i := 2) scLP.nd rfl (Or.inl rfl) (pe_op op_mul (pv 2) (pe_call Gw hr (by rfl) mw kw bw .nil pass0 (pa_cons (pv 0) (pa_cons (pe_bm PySem.F.plainAttrs_list PySem.F.slot_list_index PySem.F.type_list_index mt_index (pe_dget hu (pv 0) pe_str (fun _ _ => rfl)) (pa_cons (pv 4) pa_nil)) (pa_cons (pe_bm PySem.F.plainAttrs_list PySem.F.slot_list_index PySem.F.type_list_index mt_index (pe_dget hu (pv 0) pe_str (fun _ _ => rfl)) (pa_cons (pv 6) pa_nil)) (pa_cons (pv 5) pa_nil))))))))))
      (pss_one (ps_ret (pv 2)))), ?_⟩
    have hlen := wayV_len x l
    have hdiv : ((2 * l.length + 1 : Nat) : Int) / 2 = (l.length : Nat) := by omega
    refine ⟨_, rfl, p, _, rfl, .inr (SqT.of hp), ?_⟩
    rw [hlen]
    refine ⟨_, _, rfl, rfl, ⟨by omega, by omega⟩, _, rfl, ?_⟩
    rw [hdiv]
    refine ⟨by omega, by omega, ?_⟩
    refine for_range (lo := 0) (n := ((l.length : Nat) : Int).toNat) (fun i σ H2 => ∃ v3 v4 v5 v6, σ = [some (.ref wd), some (.ref p), some (.int (prodW (wN nm rs) x (l.take i) : Nat)), v3, v4, v5, v6] ∧ Same H H2) ⟨none, none, none, none, rfl, fun _ _ e => e⟩ ?_ ?_
    · rintro i σ H2 hi ⟨v3, v4, v5, v6, rfl, s2⟩
      have hil : i < l.length := by omega
      obtain ⟨st, hst⟩ : ∃ st, l[i]? = some st := ⟨_, List.getElem?_eq_getElem hil⟩
      obtain ⟨m1, m2⟩ := ok.at hst
      rw [Int.zero_add]
      refine ⟨_, rfl, _, rfl, _, _, rfl, rfl, .inl (by decide), _, rfl, _, rfl, _, _, rfl, rfl, .inl (by decide), _, _, rfl, rfl, _, rfl, slA_of (s2 _ _ hp) fun q H3 s3 hq => ?_⟩
      rw [wayV_cut hst] at hq
      have s23 := s2.trans s3
      refine ⟨q, _, rfl, SqT.of hq, rfl, _, _, rfl, _, _, rfl, _, _, rfl, rfl, ?_⟩
      obtain ⟨j1, z1, j1l, j1n, j1z, j1e, j1f⟩ := idx_str nd (ok.mid i)
      obtain ⟨j2, z2, j2l, j2n, j2z, j2e, j2f⟩ := idx_str nd m1
      have ha3 := s23 _ _ ha
      have hwd3 := s23 _ _ hwd
      refine ⟨_, rfl, _, rfl, _, rfl, wd, _, rfl, dg_names hwd3, .inl ⟨rfl, _, SqL.of ha3⟩, _, rfl, a, _, _, j1, z1, rfl, rfl, SqL.of ha3, rfl, flat_strs nm, j1z, j1e, j1f, ?_⟩
      refine ⟨_, rfl, wd, _, rfl, dg_names hwd3, .inl ⟨rfl, _, SqL.of ha3⟩, _, rfl, a, _, _, j2, z2, rfl, rfl, SqL.of ha3, rfl, flat_strs nm, j2z, j2e, j2f, _, rfl, ?_⟩
      have e4 : prodW (wN nm rs) x (l.take (i + 1)) = prodW (wN nm rs) x (l.take i) * wN nm rs (lastW x (l.take i)) st.2 st.1 := by
        rw [List.take_add_one, hst]
        exact prodW_snoc (wN nm rs) x (l.take i) st
      have hb1 := hpr i
      refine ⟨wd, a, b, t, nm, m, kvs, rs, j1, j2, st.1, rfl, hwd3, s23 _ _ ht, nd, ti, R, j1l, j2l, fun H4 s4 => ?_⟩
      rw [j1n, j2n]
      have hb2 := hw2 (lastW x (l.take i)) st.2 st.1
      refine ⟨_, _, rfl, rfl, .inl ⟨by omega, by omega⟩, ?_⟩
      refine ⟨some (.int (i : Int)), some (.str (lastW x (l.take i))), some (.str st.1), some (.str st.2), ?_, s23.trans s4⟩
      rw [e4, Int.natCast_mul]
      rfl
    · rintro σ H2 ⟨v3, v4, v5, v6, rfl, s2⟩
      rw [Int.toNat_natCast, List.take_length]
      exact ⟨_, rfl, k H2 s2⟩
end
end Nm
set_option maxRecDepth 100000
set_option maxHeartbeats 4000000
/-! xs == [], xs != [] of any list -/
namespace Nm
open PySem PySem.Spec PyProof.Rows L2
section
variable {X : Cx}
def rEqE (K : PySem.W.Frag) : R2 := fun x y H Q => ∃ (a b : Addr) (xs : List V), x = .ref a ∧ y = .ref b ∧ SqL K H a xs ∧ SqL K H b [] ∧ Q (.bl (decide (xs = []))) H
def rNeE (K : PySem.W.Frag) : R2 := fun x y H Q => ∃ (a b : Addr) (xs : List V), x = .ref a ∧ y = .ref b ∧ SqL K H a xs ∧ SqL K H b [] ∧ Q (.bl (!decide (xs = []))) H
theorem op_eqE (hu : X.A.units < cLine) : OpR X (compareOp .Eq) (rEqE X.K) := by
  intro pins s σ H x y v u Q I rx ry h
  obtain ⟨a, b, xs, rfl, rfl, ha, hb, q⟩ := h
  cases (show v = Value.ref a from rx)
  cases (show u = Value.ref b from ry)
  obtain ⟨us, r1, p1, _⟩ := I.list ha
  obtain ⟨ws, r2, p2, _⟩ := I.list hb
  cases r2
  have hl := r1.length
  by_cases e : xs = []
  · subst e
    cases r1
    have z := SeqAt.RcAt.lists (A := X.A) (e := fun _ => true) p1.isList p2.isList rfl hu fun j h1 h2 => absurd h1 (Nat.not_lt_zero j)
    exact z X.prog X.w X.xe (EP X pins σ Q) ⟨.bl true, H, I, rfl, q⟩
  · have hne : us.toArray.size ≠ 0 := by
      rw [List.size_toArray, ← hl]
      intro z
      exact e (List.eq_nil_of_length_eq_zero z)
    have z := SeqAt.RcAt.lists_lengths (A := X.A) p1.isList p2.isList (by simpa using hne) hu
    rw [decide_eq_false e] at q
    exact z X.prog X.w X.xe (EP X pins σ Q) ⟨.bl false, H, I, rfl, q⟩
theorem op_neE (hu : X.A.units < cLine) : OpR X (compareOp .NotEq) (rNeE X.K) := by
  intro pins s σ H x y v u Q I rx ry h
  obtain ⟨a, b, xs, rfl, rfl, ha, hb, q⟩ := h
  cases (show v = Value.ref a from rx)
  cases (show u = Value.ref b from ry)
  obtain ⟨us, r1, p1, _⟩ := I.list ha
  obtain ⟨ws, r2, p2, _⟩ := I.list hb
  cases r2
  have hl := r1.length
  by_cases e : xs = []
  · subst e
    cases r1
    have z := SeqAt.RcNeAt.lists (A := X.A) (e := fun _ => true) p1.isList p2.isList rfl hu fun j h1 h2 => absurd h1 (Nat.not_lt_zero j)
    exact z X.prog X.w X.xe (EP X pins σ Q) ⟨.bl false, H, I, rfl, q⟩
  · have hne : us.toArray.size ≠ 0 := by
      rw [List.size_toArray, ← hl]
      intro z
      exact e (List.eq_nil_of_length_eq_zero z)
    have z := SeqAt.RcNeAt.lists_lengths (A := X.A) p1.isList p2.isList (by simpa using hne) hu
    rw [decide_eq_false e] at q
    exact z X.prog X.w X.xe (EP X pins σ Q) ⟨.bl true, H, I, rfl, q⟩
end
end Nm
set_option maxRecDepth 100000
set_option maxHeartbeats 8000000
/-! _law_drawn_way -/
namespace Nm
open PySem L2
theorem wN_mem {nm : List Str} (nd : nm.Nodup) {m : Nat} {kvs : List (List Key × V)} {rs : List RowV} (T : Ties nm.length m kvs) (R : RowsOf kvs rs) {i j x : Nat} {kd : Str} (h : ([Sum.inl (i : Int), Sum.inl (j : Int), Sum.inr kd], V.int (x : Int)) ∈ kvs) (hij : i < j) (hj : j < nm.length) (hx : 1 ≤ x) : 0 < wN nm rs (nmA nm i) (nmA nm j) kd ∧ 0 < wN nm rs (nmA nm j) (nmA nm i) kd := by
  have e := wid_world nd T R (show i < nm.length by omega) hj kd
  rw [Nat.min_eq_left (by omega), Nat.max_eq_right (by omega), val_of_mem T.nd h] at e
  have e : V.int (x : Int) = V.int (wN nm rs (nmA nm i) (nmA nm j) kd : Nat) := e
  injection e with e
  rw [wN_swap nm rs (nmA nm j) (nmA nm i) kd]
  omega
theorem nmS_snoc (nm : List Str) (ns : List (Str × Nat)) (s : Str × Nat) : nmS nm (ns ++ [s]) = nmS nm ns ++ [(s.1, nmA nm s.2)] := by
  unfold nmS
  rw [List.map_append]
  rfl
/-- a tie that has that place stands at z -/
def AtSpot (H : Hp) (kvs : List (List Key × V)) (n sp : Nat) (z : V) : Prop := ∃ (b : Addr) (i j x : Nat) (kd : Str), z = V.ref b ∧ H b = some (.tup [.int (i : Int), .int (j : Int), .str kd]) ∧ ([Sum.inl (i : Int), Sum.inl (j : Int), Sum.inr kd], V.int (x : Int)) ∈ kvs ∧ i < j ∧ j < n ∧ 1 ≤ x ∧ (i = sp ∨ j = sp)
section
variable {P : Program} {w : World} {K : PySem.W.Frag} {mg : Str → Option Value} {base : Heap}
def spDW : Sp := fun vs H Q _ => ∃ (s c wd a b t : Addr) (nm cl : List Str) (m : Nat) (kvs : List (List Key × V)) (rs : List RowV), vs = [.ref s, .ref wd] ∧ Src H s c ∧ WorldOk H s c wd a b t nm cl kvs ∧ Ties nm.length m kvs ∧ RowsOf kvs rs ∧ kvs.length ≤ 1000 ∧ nm.length ≤ 1000 ∧
  ∀ (r : Addr) (i : Nat) (ns : List (Str × Nat)) (H' : Hp), H' r = some (.lst (wayI i ns)) → H r = none → i < nm.length → (∀ s ∈ ns, s.2 < nm.length) → ns.length ≤ 7 → WayOk nm (wN nm rs) (nmA nm i) (nmS nm ns) → Src H' s c → Kp s c H H' → Q (.ref r) H'
abbrev nDW : List Str := ["_law_source", "_law_world", "_law_spot", "_law_every", "_law_found", "_law_step", "_law_ties", "_law_key"]
theorem scDW : FnScope nDW ["_law_source", "_law_world"] (defScope sDrawnWay) := ⟨rfl, rfl, rfl, by decide +kernel, rfl, by decide +kernel, by decide +kernel⟩
theorem ok_dw {f : Addr} {fd : FuncData} (F : Fun K "_law_drawn_way" "_law_drawn_way" sDrawnWay f fd) (T : TxtE mg) (Gp : Def P w K mg base "_law_pick" ["_law_source", "_law_many"] 1 spPick) (Gc : Def P w K mg base "_law_choice_of" ["_law_source", "_law_items"] 2 (spChoice K)) : FnOk P w K mg base CX0 3 f fd ["_law_source", "_law_world"] spDW := by
  obtain ⟨fp, fdp, Gp, mp, kp, bp⟩ := Gp.ex
  obtain ⟨fc, fdc, Gc, mc, kc, bc⟩ := Gc.ex
  refine F.ok scDW (fun vs H Q E h => ?_) (fun cdv A outer s H vs Q E hr h => ?_)
  · obtain ⟨_, _, _, _, _, _, _, _, _, _, _, rfl, _⟩ := h
    rfl
  · obtain ⟨sa, ca, wd, a, b, t, nm, cl, m, kvs, rs, rfl, S, W, ti, R, hkl, hnl, k⟩ := h
    have hu := hu_of hr
    have hu0 := Nat.lt_of_succ_lt hu
    refine ⟨_, Evl.pss_cut (ps_asg (pe_tup (pa_cons (pe_call Gp (hr.mono (by decide)) (by rfl) mp kp bp .nil pass0 (pa_cons (pv 0) (pa_cons (pe_callB call_len_seq (by rfl) T.len PySem.boot_len (pa_cons (pe_dget hu (pv 1) pe_str (fun _ _ => rfl)) pa_nil)) pa_nil))) (pa_cons (pe_callB cr_sortedO (by rfl) T.sorted (by decide +kernel) (pa_cons (pe_callTy (call_list_dT rfl) (by rfl) T.list (by decide +kernel) (pa_cons (pe_dget hu (pv 1) pe_str (fun _ _ => rfl)) pa_nil)) pa_nil)) pa_nil))) (pg_tup rfl (pgs_cons (pg_name (i := 2) scDW.nd rfl (.inr rfl)) (pgs_cons (pg_name (i := 3) scDW.nd rfl (.inl rfl)) pgs_nil))))
      (Evl.pss_cut (ps_if (PW.pt (pw_and (pt_cmpR (op_neE hu0) (pv 3) (pe_lst pa_nil) (nomark _)) (pw_and1 (pt_cmpR op_gt (pe_call Gp (hr.mono (by decide)) (by rfl) mp kp bp .nil pass0 (pa_cons (pv 0) (pa_cons pe_int pa_nil))) pe_int (nomark _)))))
          (pss_one (ps_set (i := 2) scDW.nd rfl (Or.inr rfl) (pe_ix ix_tup (pe_call Gc hr (by rfl) mc kc bc .nil pass0 (pa_cons (pv 0) (pa_cons (pv 3) pa_nil))) (pe_call Gp (hr.mono (by decide)) (by rfl) mp kp bp .nil pass0 (pa_cons (pv 0) (pa_cons pe_int pa_nil))) (fun _ _ => rfl)))) pss_nil)
      (pss_cons (ps_set (i := 4) scDW.nd rfl (Or.inl rfl) (pe_lst (pa_cons (pv 2) pa_nil)))
      (pss_cons (ps_for PassesOwn.never rfl (pi_range1 (by rfl) T.range (pa_cons (pe_op op_add pe_int (pe_call Gp (hr.mono (by decide)) (by rfl) mp kp bp .nil pass0 (pa_cons (pv 0) (pa_cons pe_int pa_nil)))) pa_nil)) (pg_name (i := 5) scDW.nd rfl (Or.inl rfl))
        (Evl.pss_cut (ps_setLc (i := 6) (own := [("_law_key", 7)]) (g := gName 7) (tt := tTest (tOp (rIn K false) (tVar 2) (tSl (rSlT K) (tVar 7) tNoPart (tPart (tC (.int 2)))))) (te := tVar 7) rfl scDW.nd rfl rfl (sw_true rfl rfl rfl (by decide +kernel)) (pi_list (pv 3))
          (blkOk_by (N := nDW) (sc := defScope sDrawnWay) (by decide +kernel)) (fun _ _ _ _ _ => pg_name (i := 7) scDW.nd rfl (Or.inl rfl)) (fun _ _ _ _ _ => by exact pts_one (pt_cmpR op_in_seq (pv 2) (pe_slice sl_tup (pv 7) po_none (po_some pe_int)) (by rfl)))
          (fun _ _ _ _ _ => pv 7))
        (pss_one (ps_if (pt_cmpR (op_neE hu0) (pv 6) (pe_lst pa_nil) (nomark _))
          (Evl.pss_cut (ps_set (i := 7) scDW.nd rfl (Or.inl rfl) (pe_call Gc hr (by rfl) mc kc bc .nil pass0 (pa_cons (pv 0) (pa_cons (pv 6) pa_nil))))
          (pss_cons (ps_set (i := 2) scDW.nd rfl (Or.inr rfl) (pe_op op_sub (pe_op op_add (pe_ix ix_tup (pv 7) pe_int (fun _ _ => rfl)) (pe_ix ix_tup (pv 7) pe_int (fun _ _ => rfl))) (pv 2)))
          (pss_one (ps_set (i := 4) scDW.nd rfl (Or.inl rfl) (pe_op op_cat (pv 4) (pe_lst (pa_cons (pe_ix ix_tup (pv 7) pe_int (fun _ _ => rfl)) (pa_cons (pv 2) pa_nil)))))))) pss_nil))))
      (pss_one (ps_ret (pv 4)))))), ?_⟩
    obtain ⟨cs0, l0, m0, t0, S0⟩ := id S
    have n1 := W.n1
    -- the place, and all ties
    refine ⟨fun σ H1 => ∃ (sp : Nat) (y0 : Addr) (ys : List V), σ = [some (.ref sa), some (.ref wd), some (.int (sp : Int)), some (.ref y0), none, none, none, none] ∧ sp < nm.length ∧ H y0 = none ∧ H1 y0 = some (.lst ys) ∧ ys.length ≤ 1000 ∧ KeyL H1 kvs ys ∧ Src H1 sa ca ∧ Kp sa ca H H1, ?_, ?_⟩
    · refine ⟨_, rfl, _, rfl, wd, _, rfl, dg_names W.d, a, _, rfl, .inl (SqL.of W.hn), ?_⟩
      rw [List.length_map]
      refine ⟨sa, ca, _, rfl, S, by omega, by omega, fun kk H1 k0 k1 S1 kp1 => ?_⟩
      have W1 := W.kp kp1
      refine ⟨_, rfl, wd, _, rfl, dg_ties W1.d, t, kvs, rfl, .inl W1.ht, fun l bs hl hk => ?_⟩
      obtain ⟨kl, hbl⟩ := keyL_of hk
      have kl2 := kl.same (same_new (o := .lst (bs.map V.ref)) hl)
      obtain ⟨so1, so2⟩ := sort_ties kl2 ti
      refine ⟨l, _, rowAt _, rfl, SqL.of upd_same, so1, so2, fun ys p _ pm hp => ?_⟩
      have s5 := (same_new (o := .lst (bs.map V.ref)) hl).trans (same_new (o := .lst ys) hp)
      have kly : KeyL (upd (upd H1 l (.lst (bs.map V.ref))) p (.lst ys)) kvs ys := fun y hy => (kl.same s5) y (pm.subset hy)
      have hpp : (upd (upd H1 l (.lst (bs.map V.ref))) p (.lst ys)) p = some (.lst ys) := upd_same
      have hyl : ys.length ≤ 1000 := by rw [pm.length_eq, List.length_map]; omega
      have hp1 : H1 p = none := (same_new hl).free hp
      generalize upd (upd H1 l (.lst (bs.map V.ref))) p (.lst ys) = H5 at *
      refine ⟨(by show 2 ≤ sizeLine; decide), fun tp htp => ?_⟩
      have s6 := same_new (o := .tup [V.int kk, V.ref p]) htp
      refine ⟨tp, _, rfl, SqT.of upd_same, rfl, _, _, rfl, _, _, rfl, rfl, ?_⟩
      have ek : V.int kk = V.int ((kk.toNat : Nat) : Int) := by rw [Int.toNat_of_nonneg k0]
      refine ⟨kk.toNat, p, ys, ?_, by omega, kp1.free S1 hp1, s6 _ _ hpp, hyl, kly.same s6, (S1.same s5).same s6, (kp1.trans (Kp.same s5)).trans (Kp.same s6)⟩
      rw [← ek]
      rfl
    rintro σ H1 ⟨sp, y0, ys, rfl, hsp, hy00, hy0, hyl, kly, S1, kp1⟩
    obtain ⟨nys, nyc⟩ := S.ne hy00
    -- another place, perhaps
    refine ⟨fun σ H2 => ∃ (sp : Nat), σ = [some (.ref sa), some (.ref wd), some (.int (sp : Int)), some (.ref y0), none, none, none, none] ∧ sp < nm.length ∧ H2 y0 = some (.lst ys) ∧ KeyL H2 kvs ys ∧ Src H2 sa ca ∧ Kp sa ca H H2, ?_, ?_⟩
    · refine ⟨_, rfl, (by show 0 ≤ sizeLine; decide), fun e0 he0 => ?_⟩
      have s2 := same_new (o := .lst []) he0
      refine ⟨y0, e0, ys, rfl, rfl, SqL.of (s2 _ _ hy0), SqL.of upd_same, _, rfl, ?_⟩
      have S2 := S1.same s2
      have kp2 := kp1.trans (Kp.same s2)
      have hy2 := s2 _ _ hy0
      have kl2 := kly.same s2
      generalize upd H1 e0 (.lst []) = H2 at *
      by_cases e : ys = []
      · rw [decide_eq_true e]
        exact iteF (iteF ⟨sp, rfl, hsp, hy2, kl2, S2, kp2⟩)
      rw [decide_eq_false e]
      refine iteT ?_
      refine ⟨_, rfl, sa, ca, 6, rfl, S2, by decide, by decide, fun kk H3 k0 k1 S3 kp3 => ⟨_, _, rfl, rfl, _, rfl, ?_⟩⟩
      have kl3 := kl2.kp S2 kp3
      have hy3 := kp3 _ _ hy2 nys nyc
      refine ite2 (fun _ => ?_) (fun _ => ⟨sp, rfl, hsp, hy3, kl3, S3, kp2.trans kp3⟩)
      refine ⟨_, rfl, _, rfl, sa, ca, y0, ys, rfl, S3, nys, nyc, SqL.of hy3, List.length_pos_iff.mpr e, hyl, fun v H4 hv S4 kp4 => ?_⟩
      have kl4 := kl3.kp S3 kp4
      obtain ⟨b1, i1, j1, x1, kd1, rfl, hb1, hmem, hij, hjn, _⟩ := kl4.tie ti hv
      refine ⟨_, rfl, sa, ca, 2, rfl, S4, by decide, by decide, fun kq H5 q0 q1 S5 kp5 => ?_⟩
      have kl5 := kl4.kp S4 kp5
      have hb5 : H5 b1 = some (.tup [.int (i1 : Int), .int (j1 : Int), .str kd1]) := by
        obtain ⟨cs4, l4, m4, t4, S40⟩ := id S4
        exact kp5 _ _ hb1 (ne_of hb1 S40.ds (by intro z; cases z)) (ne_of hb1 S40.dc (by intro z; cases z))
      have hy5 := kp5 _ _ (kp4 _ _ hy3 nys nyc) nys nyc
      have kp05 := ((kp2.trans kp3).trans kp4).trans kp5
      have : kq = 0 ∨ kq = 1 := by omega
      rcases this with rfl | rfl
      · exact ⟨b1, _, _, V.int (i1 : Int), rfl, rfl, SqT.of hb5, atI_nat (j := 0) rfl, i1, rfl, by omega, hy5, kl5, S5, kp05⟩
      · exact ⟨b1, _, _, V.int (j1 : Int), rfl, rfl, SqT.of hb5, atI_nat (j := 1) rfl, j1, rfl, hjn, hy5, kl5, S5, kp05⟩
    rintro σ H2 ⟨sp0, rfl, hsp0, hy2, kl2, S2, kp2⟩
    -- what is found
    refine ⟨_, rfl, (by show 1 ≤ sizeLine; decide), fun f0 hf0 => ?_⟩
    have s3 := same_new (o := .lst [V.int (sp0 : Int)]) hf0
    have hf00 : H f0 = none := kp2.free S2 hf0
    have hff : (upd H2 f0 (.lst [V.int (sp0 : Int)])) f0 = some (.lst (wayI sp0 [])) := upd_same
    have S3 := S2.same s3
    have kp3 := kp2.trans (Kp.same s3)
    have kl3 := kl2.same s3
    have hy3 := s3 _ _ hy2
    generalize upd H2 f0 (.lst [V.int (sp0 : Int)]) = H3 at *
    refine ⟨_, rfl, sa, ca, 7, rfl, S3, by decide, by decide, fun kk H4 k0 k1 S4 kp4 => ⟨_, _, rfl, rfl, _, rfl, by omega, by omega, ?_⟩⟩
    obtain ⟨nfs, nfc⟩ := S.ne hf00
    refine for_range (lo := 0) (n := (1 + kk).toNat) (fun i σ H5 => ∃ (sp : Nat) (fo : Addr) (ns : List (Str × Nat)) (v5 v6 v7 : Option V), σ = [some (.ref sa), some (.ref wd), some (.int (sp : Int)), some (.ref y0), some (.ref fo), v5, v6, v7] ∧ H fo = none ∧ H5 fo = some (.lst (wayI sp0 ns)) ∧ sp < nm.length ∧ (∀ s ∈ ns, s.2 < nm.length) ∧ ns.length ≤ i ∧ WayOk nm (wN nm rs) (nmA nm sp0) (nmS nm ns) ∧ lastW (nmA nm sp0) (nmS nm ns) = nmA nm sp ∧ H5 y0 = some (.lst ys) ∧ KeyL H5 kvs ys ∧ Src H5 sa ca ∧ Kp sa ca H H5)
      ⟨sp0, f0, [], none, none, none, rfl, hf00, kp4 _ _ hff nfs nfc, hsp0, (fun s hs => (List.not_mem_nil hs).elim), Nat.le_refl _, nmA_mem hsp0, rfl, kp4 _ _ hy3 nys nyc, kl3.kp S3 kp4, S4, kp3.trans kp4⟩ ?_ ?_
    · rintro i σ H5 hi ⟨sp, fo, ns, v5, v6, v7, rfl, hfo0, hfo, hspn, hns, hnl', ok, hla, hy5, kl5, S5, kp5⟩
      have hi8 : i < 8 := by omega
      obtain ⟨nos, noc⟩ := S.ne hfo0
      refine ⟨fun σ H6 => ∃ (t6 : Addr) (zs : List V), σ = [some (.ref sa), some (.ref wd), some (.int (sp : Int)), some (.ref y0), some (.ref fo), some (.int (0 + (i : Int))), some (.ref t6), v7] ∧ H5 t6 = none ∧ H6 t6 = some (.lst zs) ∧ zs.length ≤ 1000 ∧ (∀ z ∈ zs, AtSpot H6 kvs nm.length sp z) ∧ Same H5 H6, ?_, ?_⟩
      · refine ⟨_, rfl, y0, rfl, ⟨_, SqL.of hy5⟩, fun D hD => ?_⟩
        refine lc_list (xs := ys) (fun j H6 => ∃ zs, H6 D = some (.lst zs) ∧ zs.length ≤ j ∧ (∀ z ∈ zs, AtSpot H5 kvs nm.length sp z) ∧ Same H5 H6) ⟨[], upd_same, Nat.le_refl _, (fun z hz => (List.not_mem_nil hz).elim), same_new hD⟩ (fun j H6 _ ⟨_, _, _, _, h⟩ => SqL.of (h _ _ hy5)) ?_ ?_
        · rintro j y H6 hj ⟨zs, hD6, hzl, hz, s6⟩
          have hjl := (List.getElem?_eq_some_iff.mp hj).1
          obtain ⟨b1, i1, j1, x1, kd1, rfl, hb1, hmem, hij, hjn, hkw, hx1, _⟩ := kl5.tie ti (List.mem_of_getElem? hj)
          refine ⟨rfl, ?_⟩
          refine ⟨_, rfl, _, rfl, _, rfl, b1, _, rfl, SqT.of (s6 _ _ hb1), (by show ¬ (HT.sIx 3 0 none = 0 ∧ HT.sIx 3 3 (some 2) = 3); decide), fun u1 hu1 => ?_⟩
          have ec : cutV [V.int (i1 : Int), V.int (j1 : Int), V.str kd1] none (some 2) = [V.int (i1 : Int), V.int (j1 : Int)] := rfl
          rw [ec]
          have s7 := s6.trans (same_new (o := .tup [V.int (i1 : Int), V.int (j1 : Int)]) hu1)
          have hD7 : (upd H6 u1 (.tup [V.int (i1 : Int), V.int (j1 : Int)])) D = some (.lst zs) := same_new hu1 _ _ hD6
          refine ⟨u1, _, rfl, .inr (SqT.of upd_same), rfl, rfl, _, rfl, ?_⟩
          generalize upd H6 u1 (.tup [V.int (i1 : Int), V.int (j1 : Int)]) = H7 at *
          refine ite2 (fun hin => ?_) (fun _ => ⟨zs, hD7, by omega, hz, s7⟩)
          have hor : i1 = sp ∨ j1 = sp := by
            have h1 : inV (V.int (sp : Int)) [V.int (i1 : Int), V.int (j1 : Int)] = true := hin
            have h2 : (((i1 : Int) == (sp : Int)) || (((j1 : Int) == (sp : Int)) || false)) = true := h1
            simp at h2
            omega
          refine ⟨_, rfl, zs, hD7, Evl.sz_lt (by omega), zs ++ [.ref b1], upd_same, by rw [List.length_append, List.length_singleton]; omega, fun z hz' => ?_, same_off s7 hD⟩
          rcases List.mem_append.mp hz' with q | q
          · exact hz z q
          · rw [List.mem_singleton.mp q]
            exact ⟨b1, i1, j1, x1, kd1, rfl, hb1, hmem, hij, hjn, hx1, hor⟩
        · rintro H6 ⟨zs, hD6, hzl, hz, s6⟩
          exact ⟨D, zs, rfl, hD, hD6, by omega, fun z hz' => by
            obtain ⟨b1, i1, j1, x1, kd1, e1, e2, e3⟩ := hz z hz'
            exact ⟨b1, i1, j1, x1, kd1, e1, s6 _ _ e2, e3⟩, s6⟩
      rintro σ H6 ⟨t6, zs, rfl, ht60, ht6, hzl, hz, s6⟩
      refine ⟨_, rfl, (by show 0 ≤ sizeLine; decide), fun e0 he0 => ?_⟩
      have s7 := same_new (o := .lst []) he0
      refine ⟨t6, e0, zs, rfl, rfl, SqL.of (s7 _ _ ht6), SqL.of upd_same, _, rfl, ?_⟩
      have ht60' : H t6 = none := kp5.free S5 ht60
      have S7 := S5.same (s6.trans s7)
      have kp7 := kp5.trans (Kp.same (s6.trans s7))
      have ht7 := s7 _ _ ht6
      have hfo7 := s7 _ _ (s6 _ _ hfo)
      have hy7 := s7 _ _ (s6 _ _ hy5)
      have kl7 := (kl5.same s6).same s7
      have hz7 : ∀ z ∈ zs, AtSpot (upd H6 e0 (.lst [])) kvs nm.length sp z := fun z hz' => by
        obtain ⟨b1, i1, j1, x1, kd1, e1, e2, e3⟩ := hz z hz'
        exact ⟨b1, i1, j1, x1, kd1, e1, s7 _ _ e2, e3⟩
      generalize upd H6 e0 (.lst []) = H7 at *
      by_cases e : zs = []
      · rw [decide_eq_true e]
        exact iteF ⟨sp, fo, ns, _, _, _, rfl, hfo0, hfo7, hspn, hns, by omega, ok, hla, hy7, kl7, S7, kp7⟩
      rw [decide_eq_false e]
      refine iteT ?_
      obtain ⟨nts, ntc⟩ := S.ne ht60'
      refine ⟨fun σ H8 => ∃ z, σ = [some (.ref sa), some (.ref wd), some (.int (sp : Int)), some (.ref y0), some (.ref fo), some (.int (0 + (i : Int))), some (.ref t6), some z] ∧ AtSpot H8 kvs nm.length sp z ∧ H8 fo = some (.lst (wayI sp0 ns)) ∧ H8 y0 = some (.lst ys) ∧ KeyL H8 kvs ys ∧ Src H8 sa ca ∧ Kp sa ca H H8, ?_, ?_⟩
      · refine ⟨_, rfl, _, rfl, sa, ca, t6, zs, rfl, S7, nts, ntc, SqL.of ht7, List.length_pos_iff.mpr e, hzl, fun v H8 hv S8 kp8 => ?_⟩
        obtain ⟨b1, i1, j1, x1, kd1, e1, e2, e3⟩ := hz7 v hv
        have hb8 : H8 b1 = some (.tup [.int (i1 : Int), .int (j1 : Int), .str kd1]) := by
          obtain ⟨cs4, l4, m4, t4, S40⟩ := id S7
          exact kp8 _ _ e2 (ne_of e2 S40.ds (by intro z; cases z)) (ne_of e2 S40.dc (by intro z; cases z))
        exact ⟨v, rfl, ⟨b1, i1, j1, x1, kd1, e1, hb8, e3⟩, kp8 _ _ hfo7 nos noc, kp8 _ _ hy7 nys nyc, kl7.kp S7 kp8, S8, kp7.trans kp8⟩
      rintro σ H8 ⟨z, rfl, ⟨b1, i1, j1, x1, kd1, rfl, hb8, hmem, hij, hjn, hx1, hor⟩, hfo8, hy8, kl8, S8, kp8⟩
      -- the other end
      obtain ⟨oe, eoe, hoe, hpos⟩ : ∃ oe : Nat, ((i1 : Int) + (j1 : Int) - (sp : Int)) = (oe : Int) ∧ oe < nm.length ∧ 0 < wN nm rs (nmA nm sp) (nmA nm oe) kd1 := by
        obtain ⟨p1, p2⟩ := wN_mem W.nn ti R hmem hij hjn hx1
        rcases hor with rfl | rfl
        · exact ⟨j1, by omega, hjn, p1⟩
        · exact ⟨i1, by omega, by omega, p2⟩
      refine ⟨_, rfl, b1, _, 0, V.int (i1 : Int), rfl, rfl, SqT.of hb8, atI_nat (j := 0) rfl, _, rfl, b1, _, 1, V.int (j1 : Int), rfl, rfl, SqT.of hb8, atI_nat (j := 1) rfl, _, _, rfl, rfl, _, rfl, _, _, rfl, rfl, ?_⟩
      refine ⟨_, rfl, _, rfl, b1, _, 2, V.str kd1, rfl, rfl, SqT.of hb8, atI_nat (j := 2) rfl, _, rfl, (by show 2 ≤ sizeLine; decide), fun g0 hg0 => ?_⟩
      have s9 := same_new (o := .lst [V.str kd1, V.int ((i1 : Int) + (j1 : Int) - (sp : Int))]) hg0
      refine ⟨fo, g0, _, _, rfl, rfl, s9 _ _ hfo8, upd_same, ?_, fun r hr0 => ?_⟩
      · have lim : sizeLine = 16777216 := sizeLine_eq
        show (wayI sp0 ns).length + 2 ≤ sizeLine
        rw [wayI_len]
        omega
      have hr1 : H8 r = none := s9.free hr0
      have sr := s9.trans (same_new (o := .lst (wayI sp0 ns ++ [V.str kd1, V.int ((i1 : Int) + (j1 : Int) - (sp : Int))])) hr0)
      refine ⟨oe, r, ns ++ [(kd1, oe)], some (.int (0 + (i : Int))), some (.ref t6), some (.ref b1), ?_, kp8.free S8 hr1, ?_, hoe, fun s hs => ?_, by rw [List.length_append, List.length_singleton]; omega, ?_, ?_, sr _ _ hy8, kl8.same sr, S8.same sr, kp8.trans (Kp.same sr)⟩
      · rw [← eoe]
        rfl
      · rw [wayI_snoc, ← eoe]
        exact upd_same
      · rcases List.mem_append.mp hs with q | q
        · exact hns s q
        · rw [List.mem_singleton.mp q]
          exact hoe
      · rw [nmS_snoc]
        exact ok.snoc (nmA_mem hoe) (by rw [hla]; exact hpos)
      · rw [nmS_snoc, lastW_snoc]
    · rintro σ H5 ⟨sp, fo, ns, v5, v6, v7, rfl, hfo0, hfo, hspn, hns, hnl', ok, hla, hy5, kl5, S5, kp5⟩
      exact ⟨_, rfl, k fo sp0 ns H5 hfo hfo0 hsp0 hns (by omega) ok S5 kp5⟩
end
end Nm
set_option maxRecDepth 100000
set_option maxHeartbeats 4000000
/-! != of things without dicts -/
namespace Nm
open PySem PySem.Spec PyProof.Rows L2
section
variable {X : Cx}
def rNeP (K : PySem.W.Frag) : R2 := fun x y H Q => ∃ d, Dp K H x d ∧ Dp K H y d ∧ d.plain = true ∧ d.depth ≤ 60 ∧ Q (.bl false) H
theorem op_neP (hu : X.A.units + 64 < cLine) : OpR X (compareOp .NotEq) (rNeP X.K) := by
  intro pins s σ H x y v u Q I rx ry h
  obtain ⟨d, hd, he, pl, dp, q⟩ := h
  obtain ⟨as, r1⟩ := Dp.reads I d x v hd rx
  obtain ⟨bs, r2⟩ := Dp.reads I d y u he ry
  have e := SeqAt.eqv_refl_plain d pl
  refine SeqAt.ne_plain r1 r2 pl pl (by rw [Nat.min_self]; omega) ?_
  rw [e]
  exact ⟨.bl false, H, I, rfl, q⟩
theorem pass_nothing : Passes (L2.CX X.prog X.w) X E0 := fun _ _ _ _ _ _ _ ⟨_, _, _, _, _, _, _, _, _, _, _, _, z⟩ => z.elim
end
section
variable {K : PySem.W.Frag} {H : Hp}
theorem strs_dp : ∀ (zs : List Str), DpAll K H (zs.map V.str) (zs.map PyData.str)
  | [] => .nil
  | z :: zs => .cons (.str z) (strs_dp zs)
theorem strs_plain : ∀ (zs : List Str), PyData.plainAll (zs.map PyData.str) = true ∧ PyData.depthAll (zs.map PyData.str) ≤ 1
  | [] => ⟨rfl, by simp [PyData.depthAll]⟩
  | z :: zs => by
    obtain ⟨a, b⟩ := strs_plain zs
    exact ⟨by simp only [List.map_cons, PyData.plainAll, PyData.plain, a, Bool.and_self], by simp only [List.map_cons, PyData.depthAll, PyData.depth]; omega⟩
/-- a tuple of texts -/
theorem tups_dp {l : Addr} {zs : List Str} (h : H l = some (.tup (zs.map V.str))) : Dp K H (.ref l) (.tuple (zs.map .str)) ∧ (PyData.tuple (zs.map .str)).plain = true ∧ (PyData.tuple (zs.map .str)).depth ≤ 60 := by
  obtain ⟨a, b⟩ := strs_plain zs
  exact ⟨.tup (SqT.of h) (strs_dp zs), by simpa only [PyData.plain] using a, by simp only [PyData.depth]; omega⟩
end
section
variable {K : PySem.W.Frag} {body : List Stmt} {scope : Scope} {f : Addr} {fd : FuncData}
/-- the keyword is not written -/
theorem tc_binds (F : FunD K "turned_copies" "turned_copies" (defArgs sTurnedCopies) (defBody sTurnedCopies) (defScope sTurnedCopies) [] [("most_places", .int 240)] f fd) : ∃ ds, Vals [V.int 240] ds ∧ Binds K fd psTC ds := by
  refine F.binds0 3 (by intro z; cases z) rfl fun D doc pm an cdv ct us ks h1 h2 => ?_
  match us, ks, h1, h2 with
  | [u1, u2, u3], [k1], _, _ => exact ⟨_, _, _, _, _, _, rfl, rfl, rfl⟩
end
end Nm
set_option maxRecDepth 100000
set_option maxHeartbeats 8000000
/-! what the law stands on -/
namespace Nm
open PySem L2
/-! ### a way back -/
def revS : Str → Steps → Steps
  | _, [] => []
  | a, s :: r => revS s.2 r ++ [(s.1, a)]
theorem rev_last : ∀ (a : Str) (l : Steps), lastW (lastW a l) (revS a l) = a
  | a, [] => rfl
  | a, s :: r => by
    show lastW _ (revS s.2 r ++ [(s.1, a)]) = a
    rw [lastW_snoc]
theorem rev_way : ∀ (a : Str) (l : Steps), wayL (lastW a l) (revS a l) = (wayL a l).reverse
  | a, [] => rfl
  | a, s :: r => by
    show wayL (lastW a (s :: r)) (revS s.2 r ++ [(s.1, a)]) = (a :: s.1 :: wayL s.2 r).reverse
    rw [wayL_snoc, lastW_cons, rev_way s.2 r, List.reverse_cons, List.reverse_cons, List.append_assoc]
    rfl
theorem rev_wayV (a : Str) (l : Steps) : (wayV a l).reverse = wayV (lastW a l) (revS a l) := by
  unfold wayV
  rw [rev_way, List.map_reverse]
theorem rev_len : ∀ (a : Str) (l : Steps), (revS a l).length = l.length
  | a, [] => rfl
  | a, s :: r => by
    show (revS s.2 r ++ [(s.1, a)]).length = r.length + 1
    rw [List.length_append, rev_len s.2 r]
    rfl
theorem rev_prod {W : Str → Str → Str → Nat} (sym : ∀ a b k, W a b k = W b a k) : ∀ (a : Str) (l : Steps), prodW W (lastW a l) (revS a l) = prodW W a l
  | a, [] => rfl
  | a, s :: r => by
    show prodW W (lastW a (s :: r)) (revS s.2 r ++ [(s.1, a)]) = W a s.2 s.1 * prodW W s.2 r
    rw [prodW_snoc, lastW_cons, rev_prod sym s.2 r, rev_last, sym s.2 a, Nat.mul_comm]
theorem rev_ok {A : List Str} {W : Str → Str → Str → Nat} (sym : ∀ a b k, W a b k = W b a k) : ∀ {a : Str} {l : Steps}, WayOk A W a l → WayOk A W (lastW a l) (revS a l)
  | a, [], h => h
  | a, s :: r, h => by
    show WayOk A W (lastW a (s :: r)) (revS s.2 r ++ [(s.1, a)])
    rw [lastW_cons]
    exact (rev_ok sym h.2.2).snoc h.1 (by rw [rev_last, sym s.2 a]; exact h.2.1)
theorem prod_take {A : List Str} {W : Str → Str → Str → Nat} : ∀ {a : Str} {l : Steps} (i : Nat), WayOk A W a l → prodW W a (l.take i) ≤ prodW W a l
  | a, l, 0, h => h.pos
  | a, [], i + 1, h => Nat.le_refl _
  | a, s :: r, i + 1, h => by
    rw [List.take_succ_cons]
    exact Nat.mul_le_mul_left _ (prod_take i h.2.2)
/-! ### bounds -/
theorem wN_off {nm : List Str} {rs : List RowV} (F : RowsFit nm.length rs) {a b kd : Str} (h : ¬ (a ∈ nm ∧ b ∈ nm)) : wN nm rs a b kd = 0 := sumz fun r hr => if_neg fun z => h (by
  obtain ⟨h1, h2⟩ := F.lt r hr
  rcases z.2 with ⟨z1, z2⟩ | ⟨z1, z2⟩
  · exact ⟨z1 ▸ nmA_mem (by omega), z2 ▸ nmA_mem h2⟩
  · exact ⟨z2 ▸ nmA_mem h2, z1 ▸ nmA_mem (by omega)⟩)
theorem wN_le {nm : List Str} (nd : nm.Nodup) {m : Nat} {kvs : List (List Key × V)} {rs : List RowV} (T : Ties nm.length m kvs) (R : RowsOf kvs rs) (a b kd : Str) : wN nm rs a b kd ≤ m := by
  by_cases h : a ∈ nm ∧ b ∈ nm
  · obtain ⟨i, hi⟩ := List.getElem?_of_mem h.1
    obtain ⟨j, hj⟩ := List.getElem?_of_mem h.2
    have hil := (List.getElem?_eq_some_iff.mp hi).1
    have hjl := (List.getElem?_eq_some_iff.mp hj).1
    have e := wid_world nd T R hil hjl kd
    rw [nmA_at hi, nmA_at hj] at e
    cases e2 : valV kvs [Sum.inl ((min i j : Nat) : Int), Sum.inl ((max i j : Nat) : Int), Sum.inr kd] with
    | none =>
      rw [e2] at e
      have e : V.int 0 = V.int (wN nm rs a b kd : Nat) := e
      injection e with e
      omega
    | some v =>
      obtain ⟨x, hx, _, hm⟩ := T.val _ (mem_of_val e2)
      have hx : v = V.int (x : Int) := hx
      rw [e2, hx] at e
      have e : V.int (x : Int) = V.int (wN nm rs a b kd : Nat) := e
      injection e with e
      omega
  · rw [wN_off (rowsFit_of T R) h]
    exact Nat.zero_le _
theorem Cvr.le {A B : List Str} {WA WB : Str → Str → Str → Nat} {f : Str → Str} (Cv : Cvr A WA B WB f) (ndB : B.Nodup) {x z : Str} {k : Str} (hx : x ∈ A) (hz : z ∈ A) : WA x z k ≤ WB (f x) (f z) k := by
  have e := Cv.sum x hx (fun y => if y = f z then 1 else 0) k
  rw [sumo (l := B) (a := f z) ndB (Cv.to z hz) fun y _ hne => by rw [if_neg hne, Nat.zero_mul]] at e
  rw [if_pos rfl, Nat.one_mul] at e
  rw [← e]
  have le : ∀ (l : List Str), z ∈ l → WA x z k ≤ (l.map fun z' => (if f z' = f z then 1 else 0) * WA x z' k).sum := fun l => by
    induction l with
    | nil => exact fun h => by cases h
    | cons a l ih =>
      intro hm
      rw [List.map_cons, List.sum_cons]
      rcases List.mem_cons.mp hm with rfl | h'
      · rw [if_pos rfl, Nat.one_mul]
        omega
      · have := ih h'
        omega
  exact le A hz
theorem nodup_map_of {α β γ : Type} {g : α → β} {s : β → γ} : ∀ {l : List α}, (l.map fun a => s (g a)).Nodup → (l.map g).Nodup
  | [], _ => List.nodup_nil
  | a :: l, h => by
    rw [List.map_cons, List.nodup_cons] at h ⊢
    refine ⟨fun hm => h.1 ?_, nodup_map_of h.2⟩
    obtain ⟨b, hb, e⟩ := List.mem_map.mp hm
    exact List.mem_map.mpr ⟨b, hb, by rw [e]⟩
theorem copies_fit {N m : Nat} {rs rs2 : List RowV} {ts : List Int} (F : RowsFit N rs) (hm : 1 ≤ m) (hN : N * m ≤ 240) (p : rs2.Perm (cRows m rs ts (rs.length * m))) : RowsFit (N * m) rs2 := by
  have each : ∀ r ∈ rs2, ∃ k, k < rs.length * m ∧ r = cRow m rs ts k := fun r hr => by
    obtain ⟨k, hk, rfl⟩ := List.mem_map.mp (p.mem_iff.mp hr)
    exact ⟨k, List.mem_range.mp hk, rfl⟩
  refine ⟨fun r hr => ?_, fun r hr => ?_, fun r hr => ?_, ?_⟩
  · obtain ⟨k, hk, rfl⟩ := each r hr
    obtain ⟨_, _, h1, h2, _⟩ := cRow_fit (ts := ts) F hm hk
    exact ⟨h1, h2⟩
  · obtain ⟨k, hk, rfl⟩ := each r hr
    obtain ⟨r', hr', _, _, _, _, _, h6, _⟩ := cRow_fit (ts := ts) F hm hk
    rw [h6]
    exact F.kw r' (List.mem_of_getElem? hr')
  · obtain ⟨k, hk, rfl⟩ := each r hr
    obtain ⟨r', hr', _, _, _, _, _, _, h7⟩ := cRow_fit (ts := ts) F hm hk
    rw [h7]
    exact F.w1 r' (List.mem_of_getElem? hr')
  · rw [(p.map _).nodup_iff]
    have h := cTies_spots (ts := ts) F hm hN
    unfold cTies at h
    rw [List.map_map] at h
    unfold cRows
    rw [List.map_map]
    exact nodup_map_of (g := (fun r : RowV => (r.i, r.j, r.kd)) ∘ cRow m rs ts) (s := fun q : Nat × Nat × Str => ([Sum.inr (minS (pN q.1) (pN q.2.1)), Sum.inr (maxS (pN q.1) (pN q.2.1)), Sum.inr q.2.2] : List Key)) h
end Nm
set_option maxRecDepth 100000
set_option maxHeartbeats 8000000
/-! what a turn of the law stands on -/
namespace Nm
open PySem L2
/-- a web, apart from the source -/
structure NetS (C : Addr) (H : Hp) (s c p : Addr) (nm cl : List Str) (rs : List RowV) : Prop where
  ex : ∃ q dc r wd : Addr, WebX C H p q dc r wd nm cl rs ∧ (p ≠ s ∧ p ≠ c) ∧ (q ≠ s ∧ q ≠ c) ∧ (dc ≠ s ∧ dc ≠ c) ∧ (r ≠ s ∧ r ≠ c) ∧ (wd ≠ s ∧ wd ≠ c)
  cn : cl.length = nm.length
  cw : ∀ x ∈ cl, isWordB x = true
  fit : RowsFit nm.length rs
  nd : nm.Nodup
  n1 : 1 ≤ nm.length
  le : nm.length ≤ 240
  two : ∀ a b k, wN nm rs a b k ≤ 1000000
section
variable {C : Addr} {H H' : Hp} {s c p : Addr} {nm cl : List Str} {rs : List RowV}
theorem NetS.net (N : NetS C H s c p nm cl rs) : Net C H p nm (wN nm rs) := by
  obtain ⟨q, dc, r, wd, X, _⟩ := N.ex
  exact ⟨⟨q, dc, r, wd, cl, rs, X, by rw [N.cn]; exact Nat.le_refl _, N.fit, rfl⟩, N.nd, N.le, N.two⟩
theorem NetS.kp (N : NetS C H s c p nm cl rs) (S : Src H s c) (k : Kp s c H H') : NetS C H' s c p nm cl rs := by
  obtain ⟨cs, l, m, tt, S0⟩ := S
  obtain ⟨q, dc, r, wd, ⟨⟨dx, h1⟩, h2, h3, ⟨ts, h4, h5⟩, h6⟩, n1, n2, n3, n4, n5⟩ := N.ex
  exact ⟨⟨q, dc, r, wd, ⟨⟨dx, k _ _ h1 n1.1 n1.2⟩, k _ _ h2 n2.1 n2.2, k _ _ h3 n3.1 n3.2, ⟨ts, k _ _ h4 n4.1 n4.2, Paired.mapP h5 fun u v ⟨x, y, a1, b1, z⟩ => ⟨x, y, a1, b1, k _ _ z (ne_of z S0.ds (by intro z; cases z)) (ne_of z S0.dc (by intro z; cases z))⟩⟩, k _ _ h6 n5.1 n5.2⟩, n1, n2, n3, n4, n5⟩,
    N.cn, N.cw, N.fit, N.nd, N.n1, N.le, N.two⟩
end
/-- a dict that leads names, apart from the source -/
def FoS (H : Hp) (s c fo : Addr) (A : List Str) (f : Str → Str) : Prop := (fo ≠ s ∧ fo ≠ c) ∧ ∃ fkv, H fo = some (.dK fkv) ∧ ∀ y ∈ A, valV fkv (Sum.inr y) = some (V.str (f y))
theorem FoS.kp {H H' : Hp} {s c fo : Addr} {A : List Str} {f : Str → Str} (h : FoS H s c fo A f) (k : Kp s c H H') : FoS H' s c fo A f := by
  obtain ⟨n, fkv, h1, h2⟩ := h
  exact ⟨n, fkv, k _ _ h1 n.1 n.2, h2⟩
/-- a covering of the way's web -/
structure Cvd (C : Addr) (H : Hp) (s c ov fo : Addr) (A clA : List Str) (rsA : List RowV) (B : List Str) (WB : Str → Str → Str → Nat) (f : Str → Str) : Prop where
  net : NetS C H s c ov A clA rsA
  fo : FoS H s c fo A f
  cv : Cvr A (wN A rsA) B WB f
  onto : ∀ b ∈ B, ∃ x ∈ A, f x = b
theorem Cvd.kp {C : Addr} {H H' : Hp} {s c ov fo : Addr} {A clA : List Str} {rsA : List RowV} {B : List Str} {WB : Str → Str → Str → Nat} {f : Str → Str} (h : Cvd C H s c ov fo A clA rsA B WB f) (S : Src H s c) (k : Kp s c H H') : Cvd C H' s c ov fo A clA rsA B WB f := ⟨h.net.kp S k, h.fo.kp k, h.cv, h.onto⟩
structure Q27 (C : Addr) (H : Hp) (s c wd a b t on ot fi wy : Addr) (nm cl : List Str) (kvs : List (List Key × V)) (rs : List RowV) (A clA : List Str) (rsA : List RowV) (f : Str → Str) (x0 : Str) (l : Steps) : Prop where
  S : Src H s c
  W : WorldOk H s c wd a b t nm cl kvs
  ti : Ties nm.length 2 kvs
  ro : RowsOf kvs rs
  n5 : nm.length ≤ 5
  oth : NetS C H s c ot nm cl rs
  one : Cvd C H s c on fi A clA rsA nm (wN nm rs) f
  wy : H wy = some (.tup (wayV x0 l))
  ok : WayOk nm (wN nm rs) x0 l
  l7 : l.length ≤ 7
  a5 : A.length ≤ 5
  r8 : rsA.length ≤ 800
section
variable {C : Addr} {H H' : Hp} {s c wd a b t on ot fi wy : Addr} {nm cl : List Str} {kvs : List (List Key × V)} {rs : List RowV} {A clA : List Str} {rsA : List RowV} {f : Str → Str} {x0 : Str} {l : Steps}
theorem Q27.kp (q : Q27 C H s c wd a b t on ot fi wy nm cl kvs rs A clA rsA f x0 l) (k : Kp s c H H') (S' : Src H' s c) : Q27 C H' s c wd a b t on ot fi wy nm cl kvs rs A clA rsA f x0 l := by
  obtain ⟨cs, l0, m, tt, S0⟩ := id q.S
  exact ⟨S', q.W.kp k, q.ti, q.ro, q.n5, q.oth.kp q.S k, q.one.kp q.S k, k _ _ q.wy (ne_of q.wy S0.ds (by intro z; cases z)) (ne_of q.wy S0.dc (by intro z; cases z)), q.ok, q.l7, q.a5, q.r8⟩
theorem Q27.same (q : Q27 C H s c wd a b t on ot fi wy nm cl kvs rs A clA rsA f x0 l) (e : Same H H') : Q27 C H' s c wd a b t on ot fi wy nm cl kvs rs A clA rsA f x0 l := q.kp (Kp.same e) (q.S.same e)
theorem Q27.due (q : Q27 C H s c wd a b t on ot fi wy nm cl kvs rs A clA rsA f x0 l) : prodW (wN nm rs) x0 l ≤ 128 := by
  have h := prod_le (A := nm) (W := wN nm rs) (fun a b k => wN_le q.W.nn q.ti q.ro a b k) x0 l
  have h2 : 2 ^ l.length ≤ 2 ^ 7 := Nat.pow_le_pow_right (by decide) q.l7
  have h3 : (2 : Nat) ^ 7 = 128 := rfl
  omega
end
theorem WayOk.each {A : List Str} {W : Str → Str → Str → Nat} : ∀ {a : Str} {l : Steps}, WayOk A W a l → ∀ s ∈ l, s.2 ∈ A
  | _, [], _, s, h => by cases h
  | a, b :: l, h, s, hs => by
    rcases List.mem_cons.mp hs with e | e
    · rw [e]
      exact h.2.2.head
    · exact h.2.2.each s e
section
variable {A B : List Str} {WA WB : Str → Str → Str → Nat} {f : Str → Str} {x : Str} {l : Steps}
theorem up_sum (Cv : Cvr A WA B WB f) (ndB : B.Nodup) (hx : x ∈ A) (ok : WayOk B WB (f x) l) : S (ups A WA f x l) (prodW WA x) = prodW WB (f x) l := ups_prod Cv ndB hx l ok.each
theorem up_ne (Cv : Cvr A WA B WB f) (ndB : B.Nodup) (hx : x ∈ A) (ok : WayOk B WB (f x) l) : ups A WA f x l ≠ [] := fun e => by
  have h := up_sum Cv ndB hx ok
  rw [e] at h
  have := ok.pos
  have h : 0 = prodW WB (f x) l := h
  omega
theorem up_len (Cv : Cvr A WA B WB f) (ndB : B.Nodup) (hx : x ∈ A) (ok : WayOk B WB (f x) l) (due : prodW WB (f x) l ≤ 128) (i : Nat) : (ups A WA f x (l.take i)).length ≤ 1000 := by
  have h1 := ups_len Cv ndB hx (l.take i) fun s hs => ok.each s (List.mem_of_mem_take hs)
  have h2 := prod_take i ok
  omega
theorem up_mem_prod (Cv : Cvr A WA B WB f) (ndB : B.Nodup) (hx : x ∈ A) (ok : WayOk B WB (f x) l) {u : Steps} (hu : u ∈ ups A WA f x l) : prodW WA x u ≤ prodW WB (f x) l := by
  rw [← up_sum Cv ndB hx ok]
  generalize ups A WA f x l = us at hu
  induction us with
  | nil => cases hu
  | cons v us ih =>
    rw [S_cons]
    rcases List.mem_cons.mp hu with rfl | h
    · omega
    · have := ih h
      omega
/-- the ways above a way, asked of the program -/
theorem Cvd.up {C : Addr} {H : Hp} {s c ov fo we t : Addr} {A clA : List Str} {rsA : List RowV} {B clB : List Str} {rsB : List RowV} {f : Str → Str} {x b : Str} {l : Steps} {Q : VK} {E : XK} (h : Cvd C H s c ov fo A clA rsA B (wN B rsB) f) (NB : NetS C H s c we B clB rsB) (ht : H t = some (.tup (wayV b l))) (ok : WayOk B (wN B rsB) b l) (hl : l.length ≤ 7) (hx : x ∈ A) (hfx : f x = b) (due : prodW (wN B rsB) b l ≤ 128)
    (k : ∀ (r : Addr) (H' : Hp), WaysAt H' r x (ups A (wN A rsA) f x l) → Same H H' → Q (.ref r) H') : spWaysUp C [.ref ov, .ref we, .ref fo, .ref t, .str x] H Q E := by
  subst hfx
  obtain ⟨_, fkv, h1, h2⟩ := h.fo
  exact ⟨ov, we, fo, t, A, B, _, _, fkv, f, x, _, l, rfl, h.net.net, NB.net, h1, fun y hy => ⟨h2 y hy, h.cv.to y hy⟩, ht, ok, by omega, hx, rfl, up_len h.cv NB.nd hx ok due, k⟩
end
end Nm
set_option maxRecDepth 100000
set_option maxHeartbeats 16000000
/-! the law -/
namespace Nm
open PySem L2
theorem oddV_way : ∀ (a : Str) (l : Steps), oddV (wayV a l) = (l.map (·.1)).map V.str
  | _, [] => rfl
  | a, s :: r => by
    show V.str s.1 :: oddV (wayV s.2 r) = V.str s.1 :: (r.map (·.1)).map V.str
    rw [oddV_way s.2 r]
theorem wayV_0 (a : Str) (l : Steps) : (wayV a l)[0]? = some (.str a) := by
  obtain ⟨r, hr⟩ := wayL_head a l
  unfold wayV
  rw [hr]
  rfl
theorem sum_S {α : Type} (f : α → Nat) : ∀ l : List α, (l.map fun u => ((f u : Nat) : Int)).sum = ((S l f : Nat) : Int)
  | [] => rfl
  | a :: l => by
    rw [List.map_cons, List.sum_cons, sum_S f l, S_cons, Int.natCast_add]
structure TxtL27 (K : PySem.W.Frag) (mg : Str → Option Value) (C fi : Addr) : Prop extends TxtM K mg C fi
section
variable {P : Program} {w : World} {K : PySem.W.Frag} {mg : Str → Option Value} {base : Heap}
def spLaw27 (K : PySem.W.Frag) : Sp := fun vs H Q _ => ∃ (a : Addr) (ns : List Int), vs = [.ref a] ∧ SqL K H a (ns.map V.int) ∧ ns.length ≤ 63 ∧ ∀ H', Q (.bl true) H'
abbrev n27 : List Str := ["_law_script", "_law_source", "_law_time", "_law_world", "_law_middle", "_law_low", "_law_one", "_law_other", "_law_first", "_law_way", "_law_due", "_law_many", "_law_top", "_law_last", "_law_both", "_law_over_here", "_law_folding", "_law_start", "_law_rows", "_law_total", "_law_row", "_law_tie", "_law_name"]
theorem sc27 : FnScope n27 ["_law_script"] (defScope sLaw) := ⟨rfl, rfl, rfl, by decide +kernel, rfl, by decide +kernel, by decide +kernel⟩
theorem ok_law27 {f C fi CB CT ft : Addr} {fd fdt : FuncData} (F : Fun K "law" "law" sLaw f fd) (T : TxtL27 K mg C fi)
    (Gx : Def P w K mg base "_law_open_cells" ["_law_script"] 1 (spOpen K)) (Gp : Def P w K mg base "_law_pick" ["_law_source", "_law_many"] 1 spPick) (Gc : Def P w K mg base "_law_choice_of" ["_law_source", "_law_items"] 2 (spChoice K)) (Gr : Def P w K mg base "_law_draw_world" ["_law_source", "_law_most"] 3 spDraw)
    (Gm : Def P w K mg base "_law_made" ["_law_source", "_law_world"] 7 (spMade C)) (Gd : Def P w K mg base "_law_dict" ["_law_source", "_law_over_here", "_law_web", "_law_led"] 4 spDict) (Ga : Def P w K mg base "_law_any_dict" ["_law_source", "_law_told"] 3 spAnyDict) (Gb : Def P w K mg base "_law_bound_over" ["_law_source", "_law_ground", "_law_most"] 5 spBo)
    (Gw : Def P w K mg base "_law_drawn_way" ["_law_source", "_law_world"] 3 spDW) (Gn : Def P w K mg base "_law_named" ["_law_world", "_law_way"] 1 spNamed) (Gl : Def P w K mg base "_law_product" ["_law_world", "_law_value"] 2 spLP)
    (Gy : Def P w K mg base "way_product" ["web", "way"] 4 (spWayP C)) (Gu : Def P w K mg base "ways_up" ["over", "web", "folding", "way", "start"] 4 (spWaysUp C)) (Gh : Def P w K mg base "behind" ["first", "last"] 1 spBehind)
    (Ft : FunD K "turned_copies" "turned_copies" (defArgs sTurnedCopies) (defBody sTurnedCopies) (defScope sTurnedCopies) [] [("most_places", .int 240)] ft fdt) (Gt : FnOk P w K mg base (L2.CX P w) 7 ft fdt psTC (spTC K C CB CT)) (mt : mg "turned_copies" = some (.ref ft))
    (Mp : MethD P w K mg base C "places" ["self"] 1 (spPlaces C)) (Mt : MethD P w K mg base C "ties" ["self"] 1 (spTies C)) : FnOk P w K mg base CX0 8 f fd ["_law_script"] (spLaw27 K) := by
  obtain ⟨fx, fdx, Gx, mx, kx, bx⟩ := Gx.ex
  obtain ⟨fp, fdp, Gp, mp, kp, bp⟩ := Gp.ex
  obtain ⟨fc, fdc, Gc, mc, kc, bc⟩ := Gc.ex
  obtain ⟨fr, fdr, Gr, mr, kr, br⟩ := Gr.ex
  obtain ⟨fm, fdm, Gm, mm, km, bm⟩ := Gm.ex
  obtain ⟨fdd, fddd, Gd, md, kd, bd⟩ := Gd.ex
  obtain ⟨fa, fda, Ga, ma, ka, ba⟩ := Ga.ex
  obtain ⟨fb, fdb, Gb, mb, kb, bb⟩ := Gb.ex
  obtain ⟨fw, fdw, Gw, mw, kw, bw⟩ := Gw.ex
  obtain ⟨fn, fdn, Gn, mn, kn, bn⟩ := Gn.ex
  obtain ⟨fl, fdl, Gl, ml, kl, bl⟩ := Gl.ex
  obtain ⟨fy, fdy, Gy, my, ky, by'⟩ := Gy.ex
  obtain ⟨fu, fdu, Gu, mu, ku, bu⟩ := Gu.ex
  obtain ⟨fh, fdh, Gh, mh, kh, bh⟩ := Gh.ex
  obtain ⟨fq, fdq, Mp, mpq, bq⟩ := Mp.ex
  obtain ⟨fs0, fds0, Mt, mts, bs0⟩ := Mt.ex
  obtain ⟨ds, rds, bt⟩ := tc_binds Ft
  have kt := Ft.kp
  refine F.ok sc27 (fun vs H Q E h => ?_) (fun cdv A0 outer s H vs Q E hr h => ?_)
  · obtain ⟨_, _, rfl, _⟩ := h
    rfl
  obtain ⟨sa, ns, rfl, hs, hn, k⟩ := h
  have hu := hu_of hr
  have hu0 := Nat.lt_of_succ_lt hu
  have hu64 := hr.units
  refine ⟨_, pss_cons (ps_set (i := 1) sc27.nd rfl (Or.inr rfl) (pe_call Gx (hr.mono (by decide)) (by rfl) mx kx bx .nil pass0 (pa_cons (pv 0) pa_nil)))
    (Evl.pss_cut (ps_for PassesOwn.never rfl (pi_range1 (by rfl) T.range (pa_cons pe_int pa_nil)) (pg_name (i := 2) sc27.nd rfl (Or.inl rfl))
      (pss_cons (ps_set (i := 3) sc27.nd rfl (Or.inl rfl) (pe_call Gr (hr.mono (by decide)) (by rfl) mr kr br .nil pass0 (pa_cons (pv 1) (pa_cons (pe_op op_add pe_int (pe_call Gp (hr.mono (by decide)) (by rfl) mp kp bp .nil pass0 (pa_cons (pv 1) (pa_cons pe_int pa_nil)))) pa_nil))))
      (pss_cons (ps_asg (pe_call Gb (hr.mono (by decide)) (by rfl) mb kb bb .nil pass0 (pa_cons (pv 1) (pa_cons (pv 3) (pa_cons pe_int pa_nil)))) (pg_tup rfl (pgs_cons (pg_name (i := 4) sc27.nd rfl (.inl rfl)) (pgs_cons (pg_name (i := 5) sc27.nd rfl (.inl rfl)) pgs_nil))))
      (pss_cons (ps_par3 (i := 6) (j := 7) (l := 8) (by rfl) sc27.nd rfl rfl rfl (by decide) (by decide) (by decide) rfl rfl rfl (pa_cons (pe_call Gm hr (by rfl) mm km bm .nil pass0 (pa_cons (pv 1) (pa_cons (pv 4) pa_nil))) (pa_cons (pe_call Gm hr (by rfl) mm km bm .nil pass0 (pa_cons (pv 1) (pa_cons (pv 3) pa_nil))) (pa_cons (pe_call Gd (hr.mono (by decide)) (by rfl) md kd bd .nil pass0 (pa_cons (pv 1) (pa_cons (pv 4) (pa_cons (pv 3) (pa_cons (pv 5) pa_nil))))) pa_nil))) (by rfl))
      (Evl.pss_cut (ps_set (i := 9) sc27.nd rfl (Or.inr rfl) (pe_call Gn (hr.mono (by decide)) (by rfl) mn kn bn .nil pass0 (pa_cons (pv 3) (pa_cons (pe_call Gw (hr.mono (by decide)) (by rfl) mw kw bw .nil pass0 (pa_cons (pv 1) (pa_cons (pv 3) pa_nil))) pa_nil))))
      (Evl.pss_cut (ps_set (i := 10) sc27.nd rfl (Or.inl rfl) (pe_call Gy (hr.mono (by decide)) (by rfl) my ky by' .nil pass0 (pa_cons (pv 7) (pa_cons (pv 9) pa_nil))))
      (Evl.pss_cut (ps_if (PW.pt (pw_or (pt_cmpR op_ne (pv 10) (pe_call Gl (hr.mono (by decide)) (by rfl) ml kl bl .nil pass0 (pa_cons (pv 3) (pa_cons (pv 9) pa_nil))) (nomark _)) (pw_or1 (pt_cmpR op_ne (pe_call Gy (hr.mono (by decide)) (by rfl) my ky by' .nil pass0 (pa_cons (pv 7) (pa_cons (pe_stepT (pv 9) po_none (pe_un un_neg pe_int)) pa_nil))) (pv 10) (nomark _))))) (pss_one (ps_ret pe_bl)) pss_nil)
      (pss_cons (ps_set (i := 11) sc27.nd rfl (Or.inr rfl) (pe_op op_add pe_int (pe_call Gp (hr.mono (by decide)) (by rfl) mp kp bp .nil pass0 (pa_cons (pv 1) (pa_cons pe_int pa_nil)))))
      (Evl.pss_cut (ps_asg (pe_call Gt hr (by rfl) mt kt bt rds pass_nothing (pa_cons (pv 6) (pa_cons (pv 11) (pa_cons (pe_lc (own := [("_law_tie", 21)]) (g := gName 21) (tt := tYes) (te := tCall spPick [] E0 (tCons (tVar 1) (tCons (tVar 11) tNil))) rfl sc27.nd (pi_list (pe_meth0 (pv 6) T.cl mts Mt (hr.mono (by decide)) bs0 .nil pass0))
            (blkOk_by (N := n27) (sc := defScope sLaw) (by decide +kernel)) (fun _ _ _ _ _ => pg_name (i := 21) sc27.nd rfl (Or.inl rfl)) (fun _ _ _ _ _ => pts_nil) (fun _ _ _ _ _ => by exact pe_call Gp (hr.mono (by decide)) (by rfl) mp kp bp .nil pass0 (pa_cons (pv 1) (pa_cons (pv 11) pa_nil)))) pa_nil)))) (pg_tup rfl (pgs_cons (pg_name (i := 12) sc27.nd rfl (.inl rfl)) (pgs_cons (pg_name (i := 13) sc27.nd rfl (.inl rfl)) pgs_nil))))
      (pss_cons (ps_set (i := 13) sc27.nd rfl (Or.inl rfl) (pe_call Ga (hr.mono (by decide)) (by rfl) ma ka ba .nil pass0 (pa_cons (pv 1) (pa_cons (pv 13) pa_nil))))
      (Evl.pss_cut (ps_set (i := 14) sc27.nd rfl (Or.inl rfl) (pe_call Gh (hr.mono (by decide)) (by rfl) mh kh bh .nil pass0 (pa_cons (pv 13) (pa_cons (pv 8) pa_nil))))
      (Evl.pss_cut (ps_for PassesOwn.never rfl (pi_tup (pe_tup (pa_cons (pe_tup (pa_cons (pv 6) (pa_cons (pv 8) pa_nil))) (pa_cons (pe_tup (pa_cons (pv 12) (pa_cons (pv 14) pa_nil))) pa_nil)))) (pg_tup rfl (pgs_cons (pg_name (i := 15) sc27.nd rfl (.inr rfl)) (pgs_cons (pg_name (i := 16) sc27.nd rfl (.inr rfl)) pgs_nil)))
        (Evl.pss_cut (ps_set (i := 17) sc27.nd rfl (Or.inr rfl) (pe_call Gc (hr.mono (by decide)) (by rfl) mc kc bc .nil pass0 (pa_cons (pv 1) (pa_cons (pe_lc (own := [("_law_name", 22)]) (g := gName 22) (tt := tTest (tOp rEq (tDGet (tVar 16) (tVar 22)) (tOp (rIxT K) (tVar 9) (tC (.int 0))))) (te := tVar 22) rfl sc27.nd (pi_list (pe_meth0 (pv 15) T.cl mpq Mp (hr.mono (by decide)) bq .nil pass0))
            (blkOk_by (N := n27) (sc := defScope sLaw) (by decide +kernel)) (fun _ _ _ _ _ => pg_name (i := 22) sc27.nd rfl (Or.inl rfl)) (fun _ _ _ _ _ => by exact pts_one (pt_cmpR op_eq (pe_dget hu (pv 16) (pv 22) (fun _ _ => rfl)) (pe_ix ix_tup (pv 9) pe_int (fun _ _ => rfl)) (nomark _))) (fun _ _ _ _ _ => pv 22)) pa_nil))))
        (Evl.pss_cut (ps_set (i := 18) sc27.nd rfl (Or.inl rfl) (pe_call Gu (hr.mono (by decide)) (by rfl) mu ku bu .nil pass0 (pa_cons (pv 15) (pa_cons (pv 7) (pa_cons (pv 16) (pa_cons (pv 9) (pa_cons (pv 17) pa_nil)))))))
        (Evl.pss_cut (ps_if (PW.pt (pw_or (pt_cmpR (op_eqE hu0) (pv 18) (pe_lst pa_nil) (nomark _)) (pw_or1 (pt_cmpR op_ne (pe_callB (cr_sum rfl) (by rfl) T.sum (by decide +kernel) (pa_cons (pe_lc (own := [("_law_row", 20)]) (g := gName 20) (tt := tYes) (te := tCall (spWayP C) [] E0 (tCons (tVar 15) (tCons (tVar 20) tNil))) rfl sc27.nd (pi_list (pv 18))
            (blkOk_by (N := n27) (sc := defScope sLaw) (by decide +kernel)) (fun _ _ _ _ _ => pg_name (i := 20) sc27.nd rfl (Or.inl rfl)) (fun _ _ _ _ _ => pts_nil) (fun _ _ _ _ _ => by exact pe_call Gy (hr.mono (by decide)) (by rfl) my ky by' .nil pass0 (pa_cons (pv 15) (pa_cons (pv 20) pa_nil)))) pa_nil)) (pv 10) (nomark _))))) (pss_one (ps_ret pe_bl)) pss_nil)
        (pss_one (ps_if (pt_cmpR (op_neE hu0) (pe_lc (own := [("_law_row", 20)]) (g := gName 20) (tt := tOr (tTest (tOp rNe (tOp (rIxT K) (tVar 20) (tC (.int 0))) (tVar 17))) (tTest (tOp (rNeP K) (tStepT K (tVar 20) (tPart (tC (.int 1))) (tC (.int 2))) (tStepT K (tVar 9) (tPart (tC (.int 1))) (tC (.int 2)))))) (te := tVar 20) rfl sc27.nd (pi_list (pv 18))
            (blkOk_by (N := n27) (sc := defScope sLaw) (by decide +kernel)) (fun _ _ _ _ _ => pg_name (i := 20) sc27.nd rfl (Or.inl rfl)) (fun _ _ _ _ _ => by exact pts_one (PW.pt (pw_or (pt_cmpR op_ne (pe_ix ix_tup (pv 20) pe_int (fun _ _ => rfl)) (pv 17) (nomark _)) (pw_or1 (pt_cmpR (op_neP hu64) (pe_stepT (pv 20) (po_some pe_int) pe_int) (pe_stepT (pv 9) (po_some pe_int) pe_int) (nomark _)))))) (fun _ _ _ _ _ => pv 20)) (pe_lst pa_nil) (nomark _)) (pss_one (ps_ret pe_bl)) pss_nil))))))
      (pss_cons (ps_set (i := 19) sc27.nd rfl (Or.inl rfl) pe_int)
      (Evl.pss_cut (ps_for PassesOwn.never rfl (pi_list (pe_call Gu (hr.mono (by decide)) (by rfl) mu ku bu .nil pass0 (pa_cons (pv 6) (pa_cons (pv 7) (pa_cons (pv 8) (pa_cons (pv 9) (pa_cons (pe_dget hu (pv 13) (pv 17) (fun _ _ => rfl)) pa_nil))))))) (pg_name (i := 20) sc27.nd rfl (Or.inl rfl))
        (pss_one (ps_set (i := 19) sc27.nd rfl (Or.inl rfl) (pe_op op_add (pv 19) (pe_callB call_len_seq (by rfl) T.len PySem.boot_len (pa_cons (pe_call Gu (hr.mono (by decide)) (by rfl) mu ku bu .nil pass0 (pa_cons (pv 12) (pa_cons (pv 6) (pa_cons (pv 13) (pa_cons (pv 20) (pa_cons (pv 17) pa_nil)))))) pa_nil))))))
      (pss_one (ps_if (pt_cmpR op_ne (pv 19) (pe_callB call_len_seq (by rfl) T.len PySem.boot_len (pa_cons (pe_call Gu (hr.mono (by decide)) (by rfl) mu ku bu .nil pass0 (pa_cons (pv 12) (pa_cons (pv 7) (pa_cons (pv 14) (pa_cons (pv 9) (pa_cons (pv 17) pa_nil)))))) pa_nil)) (nomark _)) (pss_one (ps_ret pe_bl)) pss_nil))))))))))))))))
    (pss_one (ps_ret pe_bl))), ?_⟩
  refine ⟨_, rfl, sa, ns, rfl, hs, hn, fun s0 c0 H1 _ _ S1 s1 => ?_⟩
  refine ⟨fun σ H2 => True, ?_, fun σ H2 _ => k H2⟩
  refine ⟨_, rfl, by decide, by decide, ?_⟩
  refine for_range (lo := 0) (n := 3) (fun i σ H2 => Src H2 s0 c0 ∧ ∃ v2 v3 v4 v5 v6 v7 v8 v9 v10 v11 v12 v13 v14 v15 v16 v17 v18 v19 v20, σ = [some (.ref sa), some (.ref s0), v2, v3, v4, v5, v6, v7, v8, v9, v10, v11, v12, v13, v14, v15, v16, v17, v18, v19, v20, none, none])
    ⟨S1, none, none, none, none, none, none, none, none, none, none, none, none, none, none, none, none, none, none, none, rfl⟩ ?_ (fun _ _ _ => trivial)
  rintro i σ H2 hi ⟨S2, v2, v3, v4, v5, v6, v7, v8, v9, v10, v11, v12, v13, v14, v15, v16, v17, v18, v19, v20, rfl⟩
  -- the world
  refine ⟨_, rfl, _, rfl, s0, c0, 3, rfl, S2, by decide, by decide, fun kk H3 k0 k1 S3 kp3 => ⟨_, _, rfl, rfl, s0, c0, _, rfl, S3, by omega, by omega, fun wd a b t nm cl kvs H4 z1 z2 z3 z4 W hm ti hl S4 kp4 => ?_⟩⟩
  have n4 : nm.length ≤ 4 := by omega
  have k60 : kvs.length ≤ 60 := by
    have h := hl.2
    have : nm.length = 0 ∨ nm.length = 1 ∨ nm.length = 2 ∨ nm.length = 3 ∨ nm.length = 4 := by omega
    rcases this with e | e | e | e | e <;> rw [e] at h <;> omega
  have w160 : totW kvs ≤ 160 := by have := tot_le_len ti; omega
  -- a web over it
  refine ⟨_, rfl, _, rfl, s0, c0, wd, a, b, t, nm, cl, kvs, rfl, S4, W, ti, w160, by omega, fun r wd' a' b' t' ld' nm' cl' kvs' led H5 y1 y2 y3 y4 y5 hr' W' ti' hk' ht' hld hll h1l h5l cov all S5 kp5 => ?_⟩
  refine ⟨r, _, rfl, SqT.of hr', rfl, _, _, rfl, _, _, rfl, rfl, ?_⟩
  have W5 := W.kp kp5
  obtain ⟨nls, nlc⟩ := S4.ne y5
  have hn5 : nm'.length ≤ 5 := by omega
  -- both as webs, and the dict
  refine ⟨_, rfl, _, rfl, s0, c0, wd', a', b', t', nm', cl', kvs', 4000, rfl, S5, W', ti', hk', by omega, fun p1 q1 dc1 r1 wb1 rs1 H6 f1 f2 f3 f4 f5 web1 ro1 S6 kp6 => ?_⟩
  have N1 : NetS C H6 s0 c0 p1 nm' cl' rs1 := ⟨⟨q1, dc1, r1, wb1, web1, S5.ne f1, S5.ne f2, S5.ne f3, S5.ne f4, S5.ne f5⟩, W'.cn, W'.cw, rowsFit_of ti' ro1, W'.nn, W'.n1, by omega, fun a b k => Nat.le_trans (wN_le W'.nn ti' ro1 a b k) (by decide)⟩
  have W6 := W5.kp kp6
  refine ⟨_, rfl, _, rfl, s0, c0, wd, a, b, t, nm, cl, kvs, 2, rfl, S6, W6, ti, by omega, by omega, fun p2 q2 dc2 r2 wb2 rs H7 g1 g2 g3 g4 g5 web2 ro S7 kp7 => ?_⟩
  have N2 : NetS C H7 s0 c0 p2 nm cl rs := ⟨⟨q2, dc2, r2, wb2, web2, S6.ne g1, S6.ne g2, S6.ne g3, S6.ne g4, S6.ne g5⟩, W.cn, W.cw, rowsFit_of ti ro, W.nn, W.n1, by omega, fun a b k => Nat.le_trans (wN_le W.nn ti ro a b k) (by decide)⟩
  have kp67 := kp6.trans kp7
  have W7 := W6.kp kp7
  have W7' := W'.kp kp67
  have hld7 := kp67 _ _ hld nls nlc
  have hlt : ∀ x ∈ led, x < nm.length := fun x hx => (all x).mp hx
  refine ⟨_, rfl, _, rfl, _, rfl, _, rfl, s0, c0, wd', a', b', t', wd, a, b, t, ld', nm', nm, led, rfl, S7, W7'.d, W7'.hn, W7.d, W7.hn, hld7, hll, hlt, W'.nn, by omega, fun fi fkv H8 hfi0 pmf hfi S8 kp8 => ?_⟩
  have L : Lead nm' nm led fkv := ⟨pmf, W'.nn, W.nn, hll, hlt⟩
  have lfat : ∀ i < nm'.length, leadG fkv (nmA nm' i) = nmA nm (lf led i) := fun i hi => by
    obtain ⟨q, hq⟩ : ∃ q, led[i]? = some q := ⟨_, List.getElem?_eq_getElem (by omega)⟩
    rw [lf_of hq]
    exact L.g (nmA_get hi) hq (nmA_get (hlt q (List.mem_of_getElem? hq)))
  have cv : Cvr nm' (wN nm' rs1) nm (wN nm rs) (leadG fkv) := cvr_of W'.nn W.nn ti' ti ro1 ro cov hll hlt lfat
  have onto : ∀ b ∈ nm, ∃ x ∈ nm', leadG fkv x = b := fun b hb => by
    obtain ⟨q, hq⟩ := List.getElem?_of_mem hb
    obtain ⟨i, hi⟩ := List.getElem?_of_mem ((all q).mpr (List.getElem?_eq_some_iff.mp hq).1)
    have hil := (List.getElem?_eq_some_iff.mp hi).1
    exact ⟨nmA nm' i, nmA_mem (by omega), by rw [lfat i (by omega), lf_of hi]; exact nmA_at hq⟩
  have fo8 : FoS H8 s0 c0 fi nm' (leadG fkv) := ⟨S7.ne hfi0, fkv, hfi, fun y hy => (L.ok y hy).1⟩
  have one8 : Cvd C H8 s0 c0 p1 fi nm' cl' rs1 nm (wN nm rs) (leadG fkv) := ⟨(N1.kp S6 kp7).kp S7 kp8, fo8, cv, onto⟩
  have oth8 := N2.kp S7 kp8
  have W8 := W7.kp kp8
  have rl1 : rs1.length ≤ 800 := by
    have h1 := ro1.1.length_eq
    rw [List.length_map] at h1
    have := ti'.len
    omega
  clear N1 N2 kp67 W7 W7' hld7 kp7 kp8 kp6 W6 W5 kp5 kp4 kp3
  refine ⟨_, _, _, rfl, ?_⟩
  -- the way
  refine ⟨fun σ H9 => ∃ wy x0 l, σ = [some (.ref sa), some (.ref s0), some (.int (0 + (i : Int))), some (.ref wd), some (.ref wd'), some (.ref ld'), some (.ref p1), some (.ref p2), some (.ref fi), some (.ref wy), v10, v11, v12, v13, v14, v15, v16, v17, v18, v19, v20, none, none] ∧ Q27 C H9 s0 c0 wd a b t p1 p2 fi wy nm cl kvs rs nm' cl' rs1 (leadG fkv) x0 l, ?_, ?_⟩
  · refine ⟨_, rfl, _, rfl, _, rfl, s0, c0, wd, a, b, t, nm, cl, 2, kvs, rs, rfl, S8, W8, ti, ro, by omega, by omega, fun r9 i0 ns9 H9 hr9 _ hi0 hns9 hnl9 ok9 S9 kp9 => ?_⟩
    have W9 := W8.kp kp9
    refine ⟨wd, a, b, t, r9, nm, i0, ns9, rfl, W9.d, W9.hn, hr9, hi0, hns9, by omega, fun wy H10 hwy _ s10 => ?_⟩
    exact ⟨wy, _, _, rfl, S9.same s10, W9.same s10, ti, ro, by omega, (oth8.kp S8 kp9).kp S9 (Kp.same s10), (one8.kp S8 kp9).kp S9 (Kp.same s10), hwy, ok9, by unfold nmS; rw [List.length_map]; exact hnl9, hn5, rl1⟩
  clear fo8 one8 oth8 W8 S8 hfi
  rintro σ H9 ⟨wy, x0, l, rfl, q9⟩
  have nd := q9.W.nn
  have ok := q9.ok
  have l7 := q9.l7
  have due := q9.due
  have sym : ∀ a b k, wN nm rs a b k = wN nm rs b a k := wN_swap nm rs
  have tk : ∀ i, prodW (wN nm rs) x0 (l.take i) ≤ 100000 := fun i => by have := prod_take i ok; omega
  have two : ∀ a b k, wN nm rs a b k ≤ 1000000 := q9.oth.two
  generalize hP : prodW (wN nm rs) x0 l = P0 at *
  have eqP : (!decide (V.int (P0 : Nat) = V.int (P0 : Nat))) = false := by rw [decide_eq_true rfl]; rfl
  -- its product
  refine ⟨fun σ H10 => σ = [some (.ref sa), some (.ref s0), some (.int (0 + (i : Int))), some (.ref wd), some (.ref wd'), some (.ref ld'), some (.ref p1), some (.ref p2), some (.ref fi), some (.ref wy), some (.int (P0 : Nat)), v11, v12, v13, v14, v15, v16, v17, v18, v19, v20, none, none] ∧ Q27 C H10 s0 c0 wd a b t p1 p2 fi wy nm cl kvs rs nm' cl' rs1 (leadG fkv) x0 l, ?_, ?_⟩
  · refine ⟨_, rfl, _, rfl, p2, wy, nm, _, x0, l, rfl, q9.oth.net, q9.wy, ok, by omega, tk, fun H10 s10 => ?_⟩
    rw [hP]
    exact ⟨rfl, q9.same s10⟩
  rintro σ H10 ⟨rfl, q10⟩
  -- compared
  refine ⟨fun σ H11 => σ = [some (.ref sa), some (.ref s0), some (.int (0 + (i : Int))), some (.ref wd), some (.ref wd'), some (.ref ld'), some (.ref p1), some (.ref p2), some (.ref fi), some (.ref wy), some (.int (P0 : Nat)), v11, v12, v13, v14, v15, v16, v17, v18, v19, v20, none, none] ∧ Q27 C H11 s0 c0 wd a b t p1 p2 fi wy nm cl kvs rs nm' cl' rs1 (leadG fkv) x0 l, ?_, ?_⟩
  · refine ⟨_, rfl, _, rfl, _, rfl, wd, a, b, t, wy, nm, 2, kvs, rs, x0, l, rfl, q10.W.d, q10.W.hn, q10.W.ht, nd, ti, ro, q10.wy, ok, by omega, by omega, tk, two, fun H11 s11 => ?_⟩
    rw [hP]
    refine ⟨rfl, _, rfl, ?_⟩
    rw [eqP]
    refine iteF ?_
    have q11 := q10.same s11
    refine ⟨_, rfl, _, rfl, 1, rfl, -1, rfl, wy, _, rfl, rfl, by decide, by decide, SqT.of q11.wy, ?_, fun p12 hp12 => ?_⟩
    · show (cutS (wayV x0 l) none none (-1)).length ≤ sizeLine
      rw [cutS_rev, List.length_reverse, wayV_len, sizeLine_eq]
      omega
    have s12 := same_new (o := .tup (cutS (wayV x0 l) none none ((some (-1 : Int)).getD 1))) hp12
    have hp12' : (upd H11 p12 (.tup (cutS (wayV x0 l) none none ((some (-1 : Int)).getD 1)))) p12 = some (.tup (wayV (lastW x0 l) (revS x0 l))) := by
      rw [upd_same]
      show some (HO.tup (cutS (wayV x0 l) none none (-1))) = _
      rw [cutS_rev, rev_wayV]
    generalize upd H11 p12 (.tup (cutS (wayV x0 l) none none ((some (-1 : Int)).getD 1))) = H12 at *
    have q12 := q11.same s12
    have okr := rev_ok sym ok
    have pr : prodW (wN nm rs) (lastW x0 l) (revS x0 l) = P0 := by rw [rev_prod sym]; exact hP
    refine ⟨p2, p12, nm, _, _, _, rfl, q12.oth.net, hp12', okr, by rw [rev_len]; omega, fun i => ?_, fun H13 s13 => ?_⟩
    · have := prod_take i okr
      omega
    rw [pr]
    refine ⟨_, rfl, rfl, _, rfl, ?_⟩
    rw [eqP]
    exact iteF ⟨rfl, q12.same s13⟩
  rintro σ H11 ⟨rfl, q11⟩
  -- how many copies
  refine ⟨_, rfl, s0, c0, 2, rfl, q11.S, by decide, by decide, fun km H12 m0 m1 S12 kp12 => ⟨_, _, rfl, rfl, ?_⟩⟩
  have q12 := q11.kp kp12 S12
  obtain ⟨m, em, hm1, hm2⟩ : ∃ m : Nat, 1 + km = (m : Int) ∧ 1 ≤ m ∧ m ≤ 2 := ⟨(1 + km).toNat, by rw [Int.toNat_of_nonneg (by omega)], by omega, by omega⟩
  have one12 := q12.one.net
  have lenA : nm'.length * m ≤ 10 := by have := Nat.mul_le_mul q12.a5 hm2; omega
  -- the copies
  refine ⟨fun σ H13 => ∃ (tp la : Addr) (rs2 : List RowV) (ts : List Int), σ = [some (.ref sa), some (.ref s0), some (.int (0 + (i : Int))), some (.ref wd), some (.ref wd'), some (.ref ld'), some (.ref p1), some (.ref p2), some (.ref fi), some (.ref wy), some (.int (P0 : Nat)), some (.int (m : Int)), some (.ref tp), some (.ref la), v14, v15, v16, v17, v18, v19, v20, none, none] ∧ Q27 C H13 s0 c0 wd a b t p1 p2 fi wy nm cl kvs rs nm' cl' rs1 (leadG fkv) x0 l ∧
      NetS C H13 s0 c0 tp (nmT (nm'.length * m)) (clT m cl' (nm'.length * m)) rs2 ∧ rs2.Perm (cRows m rs1 ts (rs1.length * m)) ∧ ts.length = rs1.length ∧ H13 la = some (.dK (foldK m nm' (nm'.length * m))) ∧ (la ≠ s0 ∧ la ≠ c0), ?_, ?_⟩
  · obtain ⟨qo, dco, ro', wdo, Xo, npo, nqo, ndo, nro, nwo⟩ := one12.ex
    obtain ⟨dxo, hpo⟩ := Xo.hp
    refine ⟨_, rfl, _, rfl, _, rfl, p1, dxo, _, rfl, hpo, rfl, ?_⟩
    refine tNil_in ⟨p1, qo, dco, ro', wdo, nm', cl', rs1, rfl, Xo, fun lt H13 hlt0 hlt s13 => ?_⟩
    obtain ⟨tsA, hltA, hltP⟩ := hlt
    have S13 := q12.S.same s13
    obtain ⟨nlt1, nlt2⟩ := q12.S.ne hlt0
    have q13 := q12.same s13
    refine ⟨lt, rfl, ⟨_, SqL.of hltA⟩, fun D hD => ?_⟩
    have hD12 : H12 D = none := s13.free hD
    obtain ⟨nD1, nD2⟩ := q12.S.ne hD12
    have hlen : tsA.length = rs1.length := Paired.length hltP
    refine lc_list (xs := tsA.map V.ref) (fun j H14 => ∃ is : List Int, H14 D = some (.lst (is.map V.int)) ∧ is.length = j ∧ H14 lt = some (.lst (tsA.map V.ref)) ∧ Src H14 s0 c0 ∧ Kp s0 c0 H13 H14) ⟨[], upd_same, rfl, same_new hD _ _ hltA, S13.new hD, Kp.same (same_new hD)⟩ (fun j H14 _ ⟨_, _, _, h, _⟩ => SqL.of h) ?_ ?_
    · rintro j x H14 hj ⟨is, hD14, hisl, hlt14, S14, kp14⟩
      have hjl := (List.getElem?_eq_some_iff.mp hj).1
      rw [List.length_map] at hjl
      refine ⟨rfl, tyes ?_⟩
      refine ⟨_, rfl, _, rfl, s0, c0, _, rfl, S14, by omega, by omega, fun kt H15 t0 t1 S15 kp15 => ?_⟩
      have hD15 := kp15 _ _ hD14 nD1 nD2
      have up : Kp s0 c0 H13 (upd H15 D (.lst (is.map V.int ++ [V.int kt]))) := fun b o e n1 n2 => by
        rw [upd_ne (ne_of_none e hD)]
        exact kp15 _ _ (kp14 _ _ e n1 n2) n1 n2
      refine ⟨_, hD15, Evl.sz_lt (by rw [List.length_map]; omega), is ++ [kt], by rw [upd_same, List.map_append]; rfl, by rw [List.length_append, hisl]; rfl, ?_, ?_, up⟩
      · rw [upd_ne (ne_of_none hltA hD)]
        exact kp15 _ _ hlt14 nlt1 nlt2
      · exact S15.upd nD1 nD2
    · rintro H14 ⟨is, hD14, hisl, hlt14, S14, kp14⟩
      rw [List.length_map] at hisl
      have q14 := q13.kp kp14 S14
      have one14 := q14.one.net
      obtain ⟨qo, dco, ro', wdo, Xo, _⟩ := one14.ex
      have his : is.length = rs1.length := by omega
      have hdue : turnsDue (is.map V.int) rs1.length = none := by
        rw [tdue_len fun y hy => by obtain ⟨n, _, rfl⟩ := List.mem_map.mp hy; rfl, if_pos (by rw [List.length_map]; exact his)]
      refine ⟨p1, qo, dco, ro', wdo, D, nm', cl', rs1, _, 240, true, is.map V.int, rfl, Xo, one14.nd, one14.cn, one14.cw, one14.fit, one14.n1, one14.le, ⟨by omega, fun m' hm' _ => ?_⟩, SqL.of hD14, by rw [List.length_map]; omega, fun x hx => ?_, by omega, by decide, fun ts m' res H15 _ e1 e2 m1' hle cop s15 => ?_, fun H15 _ hlt' _ => ?_, fun n d H15 e1 _ _ _ => by rw [hdue] at e1; cases e1⟩
      · have : m' = m := by omega
        subst this
        have := Nat.mul_le_mul rl1 hm2
        omega
      · obtain ⟨n, _, rfl⟩ := List.mem_map.mp hx
        exact .int n
      · obtain rfl : m' = m := by omega
        have ets : ts = is := by
          have := congrArg (List.map fun v : V => match v with | .int i => i | _ => 0) e1
          rw [List.map_map, List.map_map] at this
          simpa [Function.comp_def] using this.symm
        subst ets
        obtain ⟨tp, qt, dct, rt, wdt, la, rs2, hres, ⟨u1, u2, u3, u4, u5, u6, u7⟩, Xt, pt, _, hla⟩ := cop
        refine ⟨res, _, rfl, SqT.of hres, rfl, _, _, rfl, _, _, rfl, rfl, ?_⟩
        have c240 : nm'.length * m' ≤ 240 := by omega
        have fitT := copies_fit (ts := ts) one14.fit hm1 c240 pt
        refine ⟨tp, la, rs2, ts, ?_, q14.same s15, ⟨⟨qt, dct, rt, wdt, Xt, S14.ne u1, S14.ne u2, S14.ne u3, S14.ne u4, S14.ne u5⟩, by rw [nmT_len, clT_len], clT_w one14.cw (by rw [one14.cn]; exact Nat.le_refl _), by rw [nmT_len]; exact fitT, nmT_nd c240, ?_, by rw [nmT_len]; omega, fun a b k => ?_⟩, pt, his, hla, S14.ne u6⟩
        · rw [← em]
          rfl
        · rw [nmT_len]
          have := Nat.mul_le_mul one14.n1 hm1
          omega
        · have cvT := cvr_copies (f := leadG (foldK m' nm' (nm'.length * m'))) one14.nd one14.fit hm1 c240 pt his fun k hk => by
            unfold leadG
            rw [val_of_mem (foldK_nd c240) (show (Sum.inr (pN k), V.str ((nm'[k / m']?).getD "")) ∈ foldK m' nm' (nm'.length * m') from List.mem_map.mpr ⟨k, List.mem_range.mpr hk, rfl⟩)]
            rfl
          by_cases hab : a ∈ nmT (nm'.length * m') ∧ b ∈ nmT (nm'.length * m')
          · exact Nat.le_trans (cvT.le one14.nd hab.1 hab.2) (one14.two _ _ _)
          · rw [wN_off (by rw [nmT_len]; exact fitT) hab]
            exact Nat.zero_le _
      · have : ((1 : Int) + km) * (nm'.length : Int) = ((nm'.length * m : Nat) : Int) := by rw [em, Int.natCast_mul, Int.mul_comm]
        omega
  rintro σ H13 ⟨tp, la0, rs2, ts, rfl, q13, NT, pt, hts, hla0, nla0⟩
  have NA := q13.one.net
  have c240 : nm'.length * m ≤ 240 := by omega
  -- what leads them down, in another sequence; then one behind the other
  refine ⟨_, rfl, _, rfl, s0, c0, la0, _, rfl, q13.S, hla0, nla0.1, foldK_nd c240, by rw [foldK_len]; omega, fun la kvl H14 hla00 pml hla S14 kp14 => ?_⟩
  have q14 := q13.kp kp14 S14
  have NT14 := NT.kp q13.S kp14
  have nla := q13.S.ne hla00
  have ndl : (kvl.map (·.1)).Nodup := (pml.map _).nodup_iff.mpr (foldK_nd c240)
  obtain ⟨el, ndn⟩ := ledK_of ndl fun kv hm => by
    obtain ⟨k, _, rfl⟩ := List.mem_map.mp (pml.mem_iff.mp hm)
    exact ⟨_, _, rfl⟩
  have keys : ((kvl.map fun kv => keyS kv.1)).Perm (nmT (nm'.length * m)) := by
    have h1 := pml.map fun kv : Key × V => keyS kv.1
    have h2 : ((foldK m nm' (nm'.length * m)).map fun kv : Key × V => keyS kv.1) = nmT (nm'.length * m) := by
      unfold foldK nmT
      rw [List.map_map]
      rfl
    rw [h2] at h1
    exact h1
  generalize hK : (kvl.map fun kv => keyS kv.1) = Kn at *
  have gat : ∀ k < nm'.length * m, leadG kvl (pN k) = nmA nm' (k / m) := fun k hk => by
    unfold leadG
    rw [val_of_mem ndl (pml.mem_iff.mpr (show (Sum.inr (pN k), V.str ((nm'[k / m]?).getD "")) ∈ foldK m nm' (nm'.length * m) from List.mem_map.mpr ⟨k, List.mem_range.mpr hk, rfl⟩))]
    rfl
  have cvT := cvr_copies (f := leadG kvl) NA.nd NA.fit hm1 c240 pt hts gat
  generalize hg : leadG kvl = g at *
  have foT14 : FoS H14 s0 c0 la (nmT (nm'.length * m)) g := ⟨nla, kvl, hla, fun y hy => by
    rw [el]
    exact ledK_at ndn (keys.mem_iff.mpr hy)⟩
  have ontoT : ∀ b ∈ nm', ∃ x ∈ nmT (nm'.length * m), g x = b := fun b hb => by
    obtain ⟨j, hj⟩ := List.getElem?_of_mem hb
    have hjl := (List.getElem?_eq_some_iff.mp hj).1
    have hk : j * m < nm'.length * m := by
      have := Nat.mul_le_mul_right m (show j + 1 ≤ nm'.length from hjl)
      rw [Nat.add_mul, Nat.one_mul] at this
      omega
    refine ⟨pN (j * m), List.mem_map.mpr ⟨j * m, List.mem_range.mpr hk, rfl⟩, ?_⟩
    rw [gat _ hk, Nat.mul_div_cancel _ (by omega)]
    exact nmA_at hj
  generalize hT : nmT (nm'.length * m) = Tn at *
  generalize clT m cl' (nm'.length * m) = clTn at *
  have up14 : Cvd C H14 s0 c0 tp la Tn clTn rs2 nm' (wN nm' rs1) g := ⟨NT14, foT14, cvT, ontoT⟩
  refine ⟨fun σ H15 => ∃ bo, σ = [some (.ref sa), some (.ref s0), some (.int (0 + (i : Int))), some (.ref wd), some (.ref wd'), some (.ref ld'), some (.ref p1), some (.ref p2), some (.ref fi), some (.ref wy), some (.int (P0 : Nat)), some (.int (m : Int)), some (.ref tp), some (.ref la), some (.ref bo), v15, v16, v17, v18, v19, v20, none, none] ∧ Q27 C H15 s0 c0 wd a b t p1 p2 fi wy nm cl kvs rs nm' cl' rs1 (leadG fkv) x0 l ∧
      Cvd C H15 s0 c0 tp la Tn clTn rs2 nm' (wN nm' rs1) g ∧ Cvd C H15 s0 c0 tp bo Tn clTn rs2 nm (wN nm rs) (leadG fkv ∘ g), ?_, ?_⟩
  · obtain ⟨nfi, fk2, hfi, hfk2⟩ := q14.one.fo
    have nlf : la ≠ fi := fun e => by
      obtain ⟨_, fk3, hfi3, _⟩ := q13.one.fo
      rw [e, hfi3] at hla00
      cases hla00
    refine ⟨_, rfl, _, rfl, la, fi, Kn, g, leadG fkv, fk2, rfl, nlf, by rw [hla, ← el], hfi, ndn, ?_, fun x hx => hfk2 _ (cvT.to x (keys.mem_iff.mp hx)), fun bo H15 hbo0 hbo s15 => ?_⟩
    · rw [keys.length_eq, ← hT, nmT_len]
      omega
    refine ⟨bo, rfl, q14.same s15, up14.kp S14 (Kp.same s15), ⟨NT14.kp S14 (Kp.same s15), ⟨S14.ne hbo0, _, hbo, fun y hy => ledK_at ndn (keys.mem_iff.mpr hy)⟩, cvT.trans q14.one.cv, fun b hb => ?_⟩⟩
    obtain ⟨y, hy, rfl⟩ := q14.one.onto b hb
    obtain ⟨x, hx, rfl⟩ := ontoT y hy
    exact ⟨x, hx, rfl⟩
  clear up14 foT14 NT14 NT
  rintro σ H15 ⟨bo, rfl, q15, up15, bo15⟩
  -- both of them
  refine ⟨fun σ H16 => ∃ (st : Str) (v15 v16 v18 v20 : Option V), σ = [some (.ref sa), some (.ref s0), some (.int (0 + (i : Int))), some (.ref wd), some (.ref wd'), some (.ref ld'), some (.ref p1), some (.ref p2), some (.ref fi), some (.ref wy), some (.int (P0 : Nat)), some (.int (m : Int)), some (.ref tp), some (.ref la), some (.ref bo), v15, v16, some (.str st), v18, v19, v20, none, none] ∧ Q27 C H16 s0 c0 wd a b t p1 p2 fi wy nm cl kvs rs nm' cl' rs1 (leadG fkv) x0 l ∧
      Cvd C H16 s0 c0 tp la Tn clTn rs2 nm' (wN nm' rs1) g ∧ Cvd C H16 s0 c0 tp bo Tn clTn rs2 nm (wN nm rs) (leadG fkv ∘ g) ∧ st ∈ Tn ∧ leadG fkv (g st) = x0, ?_, ?_⟩
  · refine ⟨_, rfl, _, rfl, (by show 2 ≤ sizeLine; decide), fun u1 hu1 => ?_⟩
    have t1 := same_new (o := .tup [V.ref p1, V.ref fi]) hu1
    have e1 : (upd H15 u1 (.tup [V.ref p1, V.ref fi])) u1 = some (.tup [V.ref p1, V.ref fi]) := upd_same
    generalize upd H15 u1 (.tup [V.ref p1, V.ref fi]) = Ha at *
    refine ⟨_, rfl, _, rfl, (by show 2 ≤ sizeLine; decide), fun u2 hu2 => ?_⟩
    have t2 := same_new (o := .tup [V.ref tp, V.ref bo]) hu2
    have e2 : (upd Ha u2 (.tup [V.ref tp, V.ref bo])) u2 = some (.tup [V.ref tp, V.ref bo]) := upd_same
    have e1 := t2 _ _ e1
    generalize upd Ha u2 (.tup [V.ref tp, V.ref bo]) = Hb at *
    refine ⟨(by show 2 ≤ sizeLine; decide), fun u3 hu3 => ?_⟩
    have t3 := same_new (o := .tup [V.ref u1, V.ref u2]) hu3
    have e3 : (upd Hb u3 (.tup [V.ref u1, V.ref u2])) u3 = some (.tup [V.ref u1, V.ref u2]) := upd_same
    have e1 := t3 _ _ e1
    have e2 := t3 _ _ e2
    generalize upd Hb u3 (.tup [V.ref u1, V.ref u2]) = Hc at *
    have tc := (t1.trans t2).trans t3
    have qc := q15.same tc
    have upc := up15.kp q15.S (Kp.same tc)
    have boc := bo15.kp q15.S (Kp.same tc)
    refine ⟨u3, rfl, ⟨_, SqT.of e3⟩, ?_⟩
    refine for_it (walk_tup (xs := [V.ref u1, V.ref u2])) (fun j σ H16 => ∃ (v15 v16 v17 v18 v20 : Option V), σ = [some (.ref sa), some (.ref s0), some (.int (0 + (i : Int))), some (.ref wd), some (.ref wd'), some (.ref ld'), some (.ref p1), some (.ref p2), some (.ref fi), some (.ref wy), some (.int (P0 : Nat)), some (.int (m : Int)), some (.ref tp), some (.ref la), some (.ref bo), v15, v16, v17, v18, v19, v20, none, none] ∧ Q27 C H16 s0 c0 wd a b t p1 p2 fi wy nm cl kvs rs nm' cl' rs1 (leadG fkv) x0 l ∧
      Cvd C H16 s0 c0 tp la Tn clTn rs2 nm' (wN nm' rs1) g ∧ Cvd C H16 s0 c0 tp bo Tn clTn rs2 nm (wN nm rs) (leadG fkv ∘ g) ∧ Kp s0 c0 Hc H16 ∧ (j = 2 → ∃ st : Str, v17 = some (.str st) ∧ st ∈ Tn ∧ leadG fkv (g st) = x0))
      ⟨v15, v16, v17, v18, v20, rfl, qc, upc, boc, Kp.same fun _ _ e => e, fun z => absurd z (by decide)⟩ (fun j σ H16 _ ⟨_, _, _, _, _, _, q, _, _, kq, _⟩ => ?_) ?_ ?_
    · obtain ⟨cs0, l0, m0', tt0, S0⟩ := qc.S
      exact SqT.of (kq _ _ e3 (ne_of e3 S0.ds (by intro z; cases z)) (ne_of e3 S0.dc (by intro z; cases z)))
    · rintro j xv σ Hx H16 hj ⟨v15, v16, v17, v18, v20, rfl, q16, up16, bo16, kp16, _⟩ ⟨rfl, hxv⟩
      have both : ∃ (u ov fo : Addr) (A' clA' : List Str) (rsA' : List RowV) (f' : Str → Str), xv = .ref u ∧ H16 u = some (.tup [.ref ov, .ref fo]) ∧ Cvd C H16 s0 c0 ov fo A' clA' rsA' nm (wN nm rs) f' ∧ (j + 1 = 2 → A' = Tn ∧ f' = leadG fkv ∘ g) := by
        obtain ⟨cs0, l0, m0', tt0, S0⟩ := qc.S
        have hj : j < 2 := hj
        have : j = 0 ∨ j = 1 := by omega
        rcases this with rfl | rfl
        · cases hxv
          exact ⟨u1, p1, fi, nm', cl', rs1, leadG fkv, rfl, kp16 _ _ e1 (ne_of e1 S0.ds (by intro z; cases z)) (ne_of e1 S0.dc (by intro z; cases z)), q16.one, fun z => absurd z (by decide)⟩
        · cases hxv
          exact ⟨u2, tp, bo, Tn, clTn, rs2, leadG fkv ∘ g, rfl, kp16 _ _ e2 (ne_of e2 S0.ds (by intro z; cases z)) (ne_of e2 S0.dc (by intro z; cases z)), bo16, fun _ => ⟨rfl, rfl⟩⟩
      obtain ⟨u, ov, fo, A', clA', rsA', f', rfl, hu', cvd, hj2⟩ := both
      refine ⟨u, _, rfl, SqT.of hu', rfl, _, _, rfl, _, _, rfl, rfl, ?_⟩
      -- where to start
      refine ⟨fun σ H17 => ∃ st, σ = [some (.ref sa), some (.ref s0), some (.int (0 + (i : Int))), some (.ref wd), some (.ref wd'), some (.ref ld'), some (.ref p1), some (.ref p2), some (.ref fi), some (.ref wy), some (.int (P0 : Nat)), some (.int (m : Int)), some (.ref tp), some (.ref la), some (.ref bo), some (.ref ov), some (.ref fo), some (.str st), v18, v19, v20, none, none] ∧ Q27 C H17 s0 c0 wd a b t p1 p2 fi wy nm cl kvs rs nm' cl' rs1 (leadG fkv) x0 l ∧
        Cvd C H17 s0 c0 tp la Tn clTn rs2 nm' (wN nm' rs1) g ∧ Cvd C H17 s0 c0 tp bo Tn clTn rs2 nm (wN nm rs) (leadG fkv ∘ g) ∧ Kp s0 c0 Hc H17 ∧ Cvd C H17 s0 c0 ov fo A' clA' rsA' nm (wN nm rs) f' ∧ st ∈ A' ∧ f' st = x0, ?_, ?_⟩
      · obtain ⟨qo, dco, ro', wdo, Xo, _⟩ := cvd.net.ex
        obtain ⟨dxo, hpo⟩ := Xo.hp
        obtain ⟨nfo, fk, hfo, hfk⟩ := cvd.fo
        refine ⟨_, rfl, _, rfl, ov, dxo, _, rfl, hpo, rfl, ?_⟩
        refine tNil_in (cvd.net.net.places fun lp H17 hlp0 hlp s17 => ?_)
        refine ⟨lp, rfl, ⟨_, SqL.of hlp⟩, fun D hD => ?_⟩
        have s1617 : Same H16 H17 := s17
        refine lc_list (xs := A'.map V.str) (fun y H18 => H18 D = some (.lst (((A'.take y).filter fun z => decide (f' z = x0)).map V.str)) ∧ Same H17 H18) ⟨upd_same, same_new hD⟩ (fun y H18 _ ⟨_, h⟩ => SqL.of (h _ _ hlp)) ?_ ?_
        · rintro y x H18 hy ⟨hD18, s18⟩
          have hyl := (List.getElem?_eq_some_iff.mp hy).1
          rw [List.length_map] at hyl
          rw [List.getElem?_map] at hy
          obtain ⟨z, hz, rfl⟩ := Option.map_eq_some_iff.mp hy
          have hzA := List.mem_of_getElem? hz
          have s1618 := s1617.trans s18
          refine ⟨rfl, ?_⟩
          refine ⟨_, rfl, _, rfl, fo, V.str (f' z), rfl, (by rw [← hfk z hzA]; exact DGet.k (k := Sum.inr z) (s1618 _ _ hfo)), _, rfl, wy, _, 0, _, rfl, rfl, SqT.of (s1618 _ _ q16.wy), atI_nat (j := 0) (wayV_0 x0 l), rfl, _, rfl, ?_⟩
          have le240 := cvd.net.le
          have lsz : (((A'.take y).filter fun z => decide (f' z = x0)).map V.str).length < sizeLine := Evl.sz_lt (by
            rw [List.length_map]
            have h1 := List.length_filter_le (fun z => decide (f' z = x0)) (A'.take y)
            rw [List.length_take] at h1
            omega)
          by_cases c : f' z = x0
          · rw [decide_eq_true (by rw [c] : V.str (f' z) = V.str x0)]
            refine iteT ⟨_, rfl, _, hD18, lsz, ?_, same_off s18 hD⟩
            rw [upd_same, List.take_add_one, hz, Option.toList_some, List.filter_append, List.map_append]
            simp [c]
          · rw [decide_eq_false (fun e => c (by injection e) : ¬ V.str (f' z) = V.str x0)]
            refine iteF ⟨?_, s18⟩
            rw [hD18, List.take_add_one, hz, Option.toList_some, List.filter_append, List.map_append]
            simp [c]
        · rintro H18 ⟨hD18, s18⟩
          rw [List.length_map, List.take_length] at hD18
          have s1618 := s1617.trans s18
          have q18 := q16.same s1618
          obtain ⟨xs', hxs', exs'⟩ := cvd.onto x0 ok.head
          obtain ⟨nD1, nD2⟩ := q16.S.ne (s1617.free hD)
          have le240 := cvd.net.le
          refine ⟨s0, c0, D, _, rfl, q18.S, nD1, nD2, SqL.of hD18, ?_, ?_, fun v H19 hv S19 kp19 => ?_⟩
          · rw [List.length_map]
            exact List.length_pos_of_mem (List.mem_filter.mpr ⟨hxs', decide_eq_true exs'⟩)
          · rw [List.length_map]
            have := List.length_filter_le (fun z => decide (f' z = x0)) A'
            omega
          · obtain ⟨st, hst, rfl⟩ := List.mem_map.mp hv
            obtain ⟨h1, h2⟩ := List.mem_filter.mp hst
            have kp1619 : Kp s0 c0 H16 H19 := (Kp.same s1618).trans kp19
            exact ⟨st, rfl, q18.kp kp19 S19, up16.kp q16.S kp1619, bo16.kp q16.S kp1619, kp16.trans kp1619, cvd.kp q16.S kp1619, h1, of_decide_eq_true h2⟩
      rintro σ H17 ⟨st, rfl, q17, up17, bo17, kp17, cvd17, hst, hfst⟩
      have okf : WayOk nm (wN nm rs) (f' st) l := by rw [hfst]; exact ok
      have duef : prodW (wN nm rs) (f' st) l ≤ 128 := by rw [hfst, hP]; exact due
      -- the ways above
      refine ⟨fun σ H18 => ∃ rw0, σ = [some (.ref sa), some (.ref s0), some (.int (0 + (i : Int))), some (.ref wd), some (.ref wd'), some (.ref ld'), some (.ref p1), some (.ref p2), some (.ref fi), some (.ref wy), some (.int (P0 : Nat)), some (.int (m : Int)), some (.ref tp), some (.ref la), some (.ref bo), some (.ref ov), some (.ref fo), some (.str st), some (.ref rw0), v19, v20, none, none] ∧ Same H17 H18 ∧ WaysAt H18 rw0 st (ups A' (wN A' rsA') f' st l), ?_, ?_⟩
      · refine ⟨_, rfl, _, rfl, _, rfl, _, rfl, _, rfl, ?_⟩
        refine tNil_in (cvd17.up q17.oth q17.wy ok l7 hst hfst (by rw [hP]; exact due) fun r H18 hr s18 => ⟨r, rfl, s18, hr⟩)
      rintro σ H18 ⟨rw0, rfl, s18, hws⟩
      have sum := up_sum cvd17.cv nd hst okf
      have une := up_ne cvd17.cv nd hst okf
      have each := fun u hu => up_mem_prod cvd17.cv nd hst okf (u := u) hu
      have ulen := up_len cvd17.cv nd hst okf duef l.length
      have uok := fun u hu => ups_ok (WA := wN A' rsA') (f := f') hst l u hu
      rw [List.take_length] at ulen
      generalize ups A' (wN A' rsA') f' st l = U at *
      obtain ⟨us, hrw, hus⟩ := hws
      have usl : us.length = U.length := Paired.length hus
      have q18 := q17.same s18
      have net18 := cvd17.net.kp q17.S (Kp.same s18)
      have prU : ∀ u ∈ U, ∀ j, prodW (wN A' rsA') st (u.take j) ≤ 100000 := fun u hu j => by
        have h1 := each u hu
        have h2 := prod_take j (uok u hu).1
        omega
      -- their products
      refine ⟨fun σ H19 => σ = [some (.ref sa), some (.ref s0), some (.int (0 + (i : Int))), some (.ref wd), some (.ref wd'), some (.ref ld'), some (.ref p1), some (.ref p2), some (.ref fi), some (.ref wy), some (.int (P0 : Nat)), some (.int (m : Int)), some (.ref tp), some (.ref la), some (.ref bo), some (.ref ov), some (.ref fo), some (.str st), some (.ref rw0), v19, v20, none, none] ∧ Same H18 H19, ?_, ?_⟩
      · refine ⟨_, rfl, (by show 0 ≤ sizeLine; decide), fun e0 he0 => ?_⟩
        have s19 := same_new (o := .lst []) he0
        refine ⟨rw0, e0, _, rfl, rfl, SqL.of (s19 _ _ hrw), SqL.of upd_same, _, rfl, ?_⟩
        rw [decide_eq_false (fun e => une (List.eq_nil_of_length_eq_zero (by rw [← usl]; exact List.map_eq_nil_iff.mp e ▸ rfl)) : ¬ us.map V.ref = [])]
        refine iteF ?_
        refine ⟨_, rfl, rw0, rfl, ⟨_, SqL.of (s19 _ _ hrw)⟩, fun D hD => ?_⟩
        generalize upd H18 e0 (.lst []) = H19 at *
        refine lc_list (xs := us.map V.ref) (fun y H20 => H20 D = some (.lst ((U.take y).map fun u => V.int ((prodW (wN A' rsA') st u : Nat) : Int))) ∧ Same H19 H20) ⟨upd_same, same_new hD⟩ (fun y H20 _ ⟨_, h⟩ => SqL.of (h _ _ (s19 _ _ hrw))) ?_ ?_
        · rintro y x H20 hy ⟨hD20, s20⟩
          rw [List.getElem?_map] at hy
          obtain ⟨u0, hu0, rfl⟩ := Option.map_eq_some_iff.mp hy
          obtain ⟨u, hu, hu0t⟩ := Nm.paired_get hus hu0
          have hum := List.mem_of_getElem? hu
          have hyl := (List.getElem?_eq_some_iff.mp hu).1
          have s1820 := s19.trans s20
          obtain ⟨o1, _, o3, _⟩ := uok u hum
          refine ⟨rfl, tyes ?_⟩
          refine ⟨_, rfl, _, rfl, ov, u0, A', _, st, u, rfl, (net18.kp q18.S (Kp.same s1820)).net, s1820 _ _ hu0t, o1, by omega, prU u hum, fun H21 s21 => ?_⟩
          refine ⟨_, s21 _ _ hD20, Evl.sz_lt (by rw [List.length_map, List.length_take]; omega), ?_, same_off (s20.trans s21) hD⟩
          rw [upd_same, List.take_add_one, hu, Option.toList_some, List.map_append]
          rfl
        · rintro H20 ⟨hD20, s20⟩
          rw [List.length_map, usl, List.take_length] at hD20
          have e : (U.map fun u => V.int ((prodW (wN A' rsA') st u : Nat) : Int)) = (U.map fun u => ((prodW (wN A' rsA') st u : Nat) : Int)).map V.int := by
            rw [List.map_map]
            rfl
          rw [e] at hD20
          refine ⟨D, _, rfl, SqL.of hD20, _, rfl, rfl, _, rfl, ?_⟩
          have es : (U.map fun u => ((prodW (wN A' rsA') st u : Nat) : Int)).sum = ((P0 : Nat) : Int) := by
            rw [sum_S, sum, hfst, hP]
          rw [es, eqP]
          exact iteF ⟨rfl, s19.trans s20⟩
      rintro σ H19 ⟨rfl, s19⟩
      have q19 := q18.same s19
      have e3 : (l.map (·.1)).map V.str = cutS (wayV x0 l) (some 1) none 2 := by
        rw [cutS_odd _ (by rw [wayV_len]; omega), oddV_way]
      have eqs : (!decide (V.str st = V.str st)) = false := by rw [decide_eq_true rfl]; rfl
      have fin : ∀ H20, Same H19 H20 → ∃ (v15 v16 v17 v18 v20' : Option V), [some (V.ref sa), some (.ref s0), some (.int (0 + (i : Int))), some (.ref wd), some (.ref wd'), some (.ref ld'), some (.ref p1), some (.ref p2), some (.ref fi), some (.ref wy), some (.int (P0 : Nat)), some (.int (m : Int)), some (.ref tp), some (.ref la), some (.ref bo), some (.ref ov), some (.ref fo), some (.str st), some (.ref rw0), v19, v20, none, none] = [some (.ref sa), some (.ref s0), some (.int (0 + (i : Int))), some (.ref wd), some (.ref wd'), some (.ref ld'), some (.ref p1), some (.ref p2), some (.ref fi), some (.ref wy), some (.int (P0 : Nat)), some (.int (m : Int)), some (.ref tp), some (.ref la), some (.ref bo), v15, v16, v17, v18, v19, v20', none, none] ∧ Q27 C H20 s0 c0 wd a b t p1 p2 fi wy nm cl kvs rs nm' cl' rs1 (leadG fkv) x0 l ∧
          Cvd C H20 s0 c0 tp la Tn clTn rs2 nm' (wN nm' rs1) g ∧ Cvd C H20 s0 c0 tp bo Tn clTn rs2 nm (wN nm rs) (leadG fkv ∘ g) ∧ Kp s0 c0 Hc H20 ∧ (j + 1 = 2 → ∃ st' : Str, v17 = some (.str st') ∧ st' ∈ Tn ∧ leadG fkv (g st') = x0) := fun H20 s20 => by
        have s1720 := (s18.trans s19).trans s20
        refine ⟨_, _, _, _, _, rfl, q17.same s1720, up17.kp q17.S (Kp.same s1720), bo17.kp q17.S (Kp.same s1720), kp17.trans (Kp.same s1720), fun z => ?_⟩
        obtain ⟨r1, r2⟩ := hj2 z
        subst r1 r2
        exact ⟨st, rfl, hst, hfst⟩
      -- where they begin, and their kinds
      have hrw19 := s19 _ _ hrw
      refine ⟨_, rfl, rw0, rfl, ⟨_, SqL.of hrw19⟩, fun D hD => ?_⟩
      refine lc_list (xs := us.map V.ref) (fun y H20 => H20 D = some (.lst []) ∧ Same H19 H20) ⟨upd_same, same_new hD⟩ (fun y H20 _ ⟨_, h⟩ => SqL.of (h _ _ hrw19)) ?_ ?_
      · rintro y x H20 hy ⟨hD20, s20⟩
        rw [List.getElem?_map] at hy
        obtain ⟨u0, hu0, rfl⟩ := Option.map_eq_some_iff.mp hy
        obtain ⟨u, hu, hu0t⟩ := Nm.paired_get hus hu0
        have hum := List.mem_of_getElem? hu
        have s1820 := s19.trans s20
        obtain ⟨o1, _, o3, o4, _⟩ := uok u hum
        have e4 : (l.map (·.1)).map V.str = cutS (wayV st u) (some 1) none 2 := by
          rw [cutS_odd _ (by rw [wayV_len]; omega), oddV_way, o4]
        refine ⟨rfl, ?_⟩
        refine ⟨_, rfl, u0, _, 0, _, rfl, rfl, SqT.of (s1820 _ _ hu0t), atI_nat (j := 0) (wayV_0 st u), _, rfl, rfl, _, rfl, ?_⟩
        rw [eqs]
        refine iteF ?_
        refine ⟨_, rfl, _, rfl, 2, rfl, u0, _, rfl, rfl, by decide, by decide, SqT.of (s1820 _ _ hu0t), ?_, fun c1 hc1 => ?_⟩
        · show (cutS (wayV st u) (some 1) none 2).length ≤ sizeLine
          rw [← e4, List.length_map, List.length_map, sizeLine_eq]
          omega
        have s21 := same_new (o := .tup (cutS (wayV st u) (some 1) none ((some (2 : Int)).getD 1))) hc1
        have hc1' : (upd H20 c1 (.tup (cutS (wayV st u) (some 1) none ((some (2 : Int)).getD 1)))) c1 = some (.tup ((l.map (·.1)).map V.str)) := by
          rw [upd_same]
          show some (HO.tup (cutS (wayV st u) (some 1) none 2)) = _
          rw [e4]
        generalize upd H20 c1 (.tup (cutS (wayV st u) (some 1) none ((some (2 : Int)).getD 1))) = H21 at *
        have s1821 := s20.trans s21
        refine ⟨_, rfl, _, rfl, 2, rfl, wy, _, rfl, rfl, by decide, by decide, SqT.of (s1821 _ _ q19.wy), ?_, fun c2 hc2 => ?_⟩
        · show (cutS (wayV x0 l) (some 1) none 2).length ≤ sizeLine
          rw [← e3, List.length_map, List.length_map, sizeLine_eq]
          omega
        have s22 := same_new (o := .tup (cutS (wayV x0 l) (some 1) none ((some (2 : Int)).getD 1))) hc2
        have hc2' : (upd H21 c2 (.tup (cutS (wayV x0 l) (some 1) none ((some (2 : Int)).getD 1)))) c2 = some (.tup ((l.map (·.1)).map V.str)) := by
          rw [upd_same]
          show some (HO.tup (cutS (wayV x0 l) (some 1) none 2)) = _
          rw [e3]
        generalize upd H21 c2 (.tup (cutS (wayV x0 l) (some 1) none ((some (2 : Int)).getD 1))) = H22 at *
        obtain ⟨d1, d2, d3⟩ := tups_dp (K := K) (s22 _ _ hc1')
        obtain ⟨d1', _, _⟩ := tups_dp (K := K) hc2'
        refine ⟨_, d1, d1', d2, d3, _, rfl, iteF ⟨s22 _ _ (s21 _ _ hD20), s1821.trans s22⟩⟩
      · rintro H20 ⟨hD20, s20⟩
        refine ⟨(by show 0 ≤ sizeLine; decide), fun e0 he0 => ?_⟩
        have s21 := same_new (o := .lst []) he0
        refine ⟨D, e0, [], rfl, rfl, SqL.of (s21 _ _ hD20), SqL.of upd_same, _, rfl, iteF (fin _ (s20.trans s21))⟩
    · rintro σ H16 ⟨v15, v16, v17, v18, v20, rfl, q16, up16, bo16, _, hj⟩
      obtain ⟨st, rfl, h1, h2⟩ := hj rfl
      exact ⟨st, v15, v16, v18, v20, rfl, q16, up16, bo16, h1, h2⟩
  rintro σ H16 ⟨st, v15, v16, v18, v20, rfl, q16, up16, bo16, hst, hfst⟩
  have hgA := up16.cv.to st hst
  have NA16 := q16.one.net
  have due1 : prodW (wN nm rs) x0 l ≤ 128 := by rw [hP]; exact due
  have ok1 : WayOk nm (wN nm rs) (leadG fkv (g st)) l := by rw [hfst]; exact ok
  obtain ⟨nla, fkl, hla16, hfl16⟩ := up16.fo
  -- the ways of the one, and those above each
  have cnt := ups_count (g := leadG fkv) up16.cv NA16.nd hst l
  have eachV := fun v hv => up_mem_prod q16.one.cv nd hgA ok1 (u := v) hv
  have okV := fun v hv => ups_ok (WA := wN nm' rs1) (f := leadG fkv) hgA l v hv
  have lenV := up_len q16.one.cv nd hgA ok1 (by rw [hfst]; exact due1) l.length
  rw [List.take_length] at lenV
  have lenT : (ups Tn (wN Tn rs2) (leadG fkv ∘ g) st l).length ≤ 1000 := by
    have h := up_len bo16.cv nd hst (by show WayOk nm (wN nm rs) (leadG fkv (g st)) l; exact ok1) (by show prodW (wN nm rs) (leadG fkv (g st)) l ≤ 128; rw [hfst]; exact due1) l.length
    rw [List.take_length] at h
    exact h
  refine ⟨fun σ H17 => ∃ v20', σ = [some (.ref sa), some (.ref s0), some (.int (0 + (i : Int))), some (.ref wd), some (.ref wd'), some (.ref ld'), some (.ref p1), some (.ref p2), some (.ref fi), some (.ref wy), some (.int (P0 : Nat)), some (.int (m : Int)), some (.ref tp), some (.ref la), some (.ref bo), v15, v16, some (.str st), v18, some (.int ((ups Tn (wN Tn rs2) (leadG fkv ∘ g) st l).length : Nat)), v20', none, none] ∧ Same H16 H17, ?_, ?_⟩
  · refine ⟨_, rfl, _, rfl, _, rfl, _, rfl, _, rfl, _, rfl, la, V.str (g st), rfl, (by rw [← hfl16 st hst]; exact DGet.k (k := Sum.inr st) hla16), ?_⟩
    refine tNil_in (q16.one.up q16.oth q16.wy ok l7 hgA hfst due1 fun r H17 hr s17 => ?_)
    obtain ⟨us, hrw, hus⟩ := hr
    rw [← cnt]
    generalize ups nm' (wN nm' rs1) (leadG fkv) (g st) l = V0 at *
    have usl : us.length = V0.length := Paired.length hus
    refine ⟨r, rfl, ⟨_, SqL.of hrw⟩, ?_⟩
    refine for_list (xs := us.map V.ref) (fun y σ H18 => ∃ v20', σ = [some (.ref sa), some (.ref s0), some (.int (0 + (i : Int))), some (.ref wd), some (.ref wd'), some (.ref ld'), some (.ref p1), some (.ref p2), some (.ref fi), some (.ref wy), some (.int (P0 : Nat)), some (.int (m : Int)), some (.ref tp), some (.ref la), some (.ref bo), v15, v16, some (.str st), v18, some (.int (S (V0.take y) fun v => (ups Tn (wN Tn rs2) g st v).length : Nat)), v20', none, none] ∧ Same H17 H18) ⟨v20, rfl, fun _ _ e => e⟩ (fun y σ H18 _ ⟨_, _, h⟩ => SqL.of (h _ _ hrw)) ?_ ?_
    · rintro y x σ H18 hy ⟨v20', rfl, s18⟩
      rw [List.getElem?_map] at hy
      obtain ⟨u0, hu0, rfl⟩ := Option.map_eq_some_iff.mp hy
      obtain ⟨v, hv, hv0t⟩ := Nm.paired_get hus hu0
      have hvm := List.mem_of_getElem? hv
      obtain ⟨o1, _, o3, _⟩ := okV v hvm
      have s1618 := s17.trans s18
      refine ⟨_, rfl, _, rfl, _, rfl, _, rfl, _, rfl, _, rfl, ?_⟩
      refine tNil_in ((up16.kp q16.S (Kp.same s1618)).up (NA16.kp q16.S (Kp.same s1618)) (s18 _ _ hv0t) o1 (by omega) hst rfl (by have := eachV v hvm; rw [hfst] at this; omega) fun r2 H19 hr2 s19 => ?_)
      obtain ⟨us2, hrw2, hus2⟩ := hr2
      refine ⟨r2, _, rfl, .inl (SqL.of hrw2), _, _, rfl, rfl, some (.ref u0), ?_, s18.trans s19⟩
      rw [List.take_add_one, hv, Option.toList_some, S_app, Int.natCast_add, List.length_map, Paired.length hus2]
      rfl
    · rintro σ H18 ⟨v20', rfl, s18⟩
      rw [List.length_map, usl, List.take_length]
      exact ⟨v20', rfl, s17.trans s18⟩
  rintro σ H17 ⟨v20', rfl, s17⟩
  have q17 := q16.same s17
  refine ⟨_, rfl, _, rfl, _, rfl, _, rfl, _, rfl, _, rfl, ?_⟩
  refine tNil_in ((bo16.kp q16.S (Kp.same s17)).up q17.oth q17.wy ok l7 hst hfst due1 fun r2 H19 hr2 s19 => ?_)
  obtain ⟨us2, hrw2, hus2⟩ := hr2
  refine ⟨r2, _, rfl, .inl (SqL.of hrw2), rfl, _, rfl, ?_⟩
  rw [List.length_map, Paired.length hus2]
  have e : (!decide (V.int ((ups Tn (wN Tn rs2) (leadG fkv ∘ g) st l).length : Nat) = V.int ((ups Tn (wN Tn rs2) (leadG fkv ∘ g) st l).length : Nat))) = false := by rw [decide_eq_true rfl]; rfl
  rw [e]
  refine iteF ?_
  exact ⟨(q17.same s19).S, _, _, _, _, _, _, _, _, _, _, _, _, _, _, _, _, _, _, _, rfl⟩
end
end Nm
set_option maxRecDepth 100000
set_option maxHeartbeats 8000000
/-! what the top has written, and the law -/
namespace Nm
open PySem PySem.Spec PyProof.Rows L2
section
variable {P : Program} {w : World} {K : PySem.W.Frag} {mg : Str → Option Value} {base : Heap}
theorem def_mk {x : Str} {ps : List Str} {k : Nat} {sp : Sp} {f : Addr} {fd : FuncData} (G : FnOk P w K mg base CX0 k f fd ps sp) (a : mg x = some (.ref f)) (kp : PySem.W.keepIn K (.ref f) = true) (b : Binds K fd ps []) : Def P w K mg base x ps k sp := ⟨f, fd, G, a, kp, b⟩
end
theorem all_mk {l : PySem.W.OpenLaw} {w : World} {K : PySem.W.Frag} {h : Heap} {mg : Str → Option Value} {fa C CB CT : Addr} (X : K.In h) (G : h.Ns mainGlobals mg) (hfa : mg "law" = some (.ref fa))
    {f_isw : Addr} {kV_isw dc_isw pm_isw cd_isw ct_isw : Value} {an_isw : Option Addr} {oc_isw : Value} {od_isw : Option Addr} {sl_isw : Array (Option Value)} (a_isw : PySem.W.nsIn K mainGlobals "is_word" = some (some (.ref f_isw))) (l_isw : K.lookup f_isw = some ⟨oc_isw, od_isw, .func (PySem.W.fnOf "is_word" "is_word" (defArgs sIsWord) (defBody sIsWord) (defScope sIsWord) .none kV_isw dc_isw pm_isw an_isw cd_isw ct_isw), sl_isw⟩) (c_isw : PySem.W.codeIn K cd_isw "is_word" = true) (k_isw : PySem.W.keepIn K (.ref f_isw) = true)
    {f_isi : Addr} {kV_isi dc_isi pm_isi cd_isi ct_isi : Value} {an_isi : Option Addr} {oc_isi : Value} {od_isi : Option Addr} {sl_isi : Array (Option Value)} (a_isi : PySem.W.nsIn K mainGlobals "is_integer" = some (some (.ref f_isi))) (l_isi : K.lookup f_isi = some ⟨oc_isi, od_isi, .func (PySem.W.fnOf "is_integer" "is_integer" (defArgs sIsInteger) (defBody sIsInteger) (defScope sIsInteger) .none kV_isi dc_isi pm_isi an_isi cd_isi ct_isi), sl_isi⟩) (c_isi : PySem.W.codeIn K cd_isi "is_integer" = true) (k_isi : PySem.W.keepIn K (.ref f_isi) = true)
    {f_isn : Addr} {kV_isn dc_isn pm_isn cd_isn ct_isn : Value} {an_isn : Option Addr} {oc_isn : Value} {od_isn : Option Addr} {sl_isn : Array (Option Value)} (a_isn : PySem.W.nsIn K mainGlobals "is_number" = some (some (.ref f_isn))) (l_isn : K.lookup f_isn = some ⟨oc_isn, od_isn, .func (PySem.W.fnOf "is_number" "is_number" (defArgs sIsNumber) (defBody sIsNumber) (defScope sIsNumber) .none kV_isn dc_isn pm_isn an_isn cd_isn ct_isn), sl_isn⟩) (c_isn : PySem.W.codeIn K cd_isn "is_number" = true) (k_isn : PySem.W.keepIn K (.ref f_isn) = true)
    {f_ke : Addr} {kV_ke dc_ke pm_ke cd_ke ct_ke : Value} {an_ke : Option Addr} {oc_ke : Value} {od_ke : Option Addr} {sl_ke : Array (Option Value)} (a_ke : PySem.W.nsIn K mainGlobals "kept" = some (some (.ref f_ke))) (l_ke : K.lookup f_ke = some ⟨oc_ke, od_ke, .func (PySem.W.fnOf "kept" "kept" (defArgs sKept) (defBody sKept) (defScope sKept) .none kV_ke dc_ke pm_ke an_ke cd_ke ct_ke), sl_ke⟩) (c_ke : PySem.W.codeIn K cd_ke "kept" = true) (k_ke : PySem.W.keepIn K (.ref f_ke) = true)
    {f_nw : Addr} {kV_nw dc_nw pm_nw cd_nw ct_nw : Value} {an_nw : Option Addr} {oc_nw : Value} {od_nw : Option Addr} {sl_nw : Array (Option Value)} (a_nw : PySem.W.nsIn K mainGlobals "need_word" = some (some (.ref f_nw))) (l_nw : K.lookup f_nw = some ⟨oc_nw, od_nw, .func (PySem.W.fnOf "need_word" "need_word" (defArgs sNeedWord) (defBody sNeedWord) (defScope sNeedWord) .none kV_nw dc_nw pm_nw an_nw cd_nw ct_nw), sl_nw⟩) (c_nw : PySem.W.codeIn K cd_nw "need_word" = true) (k_nw : PySem.W.keepIn K (.ref f_nw) = true)
    {f_no : Addr} {kV_no dc_no pm_no cd_no ct_no : Value} {an_no : Option Addr} {oc_no : Value} {od_no : Option Addr} {sl_no : Array (Option Value)} (a_no : PySem.W.nsIn K mainGlobals "need_once" = some (some (.ref f_no))) (l_no : K.lookup f_no = some ⟨oc_no, od_no, .func (PySem.W.fnOf "need_once" "need_once" (defArgs sNeedOnce) (defBody sNeedOnce) (defScope sNeedOnce) .none kV_no dc_no pm_no an_no cd_no ct_no), sl_no⟩) (c_no : PySem.W.codeIn K cd_no "need_once" = true) (k_no : PySem.W.keepIn K (.ref f_no) = true)
    {f_np : Addr} {kV_np dc_np pm_np cd_np ct_np : Value} {an_np : Option Addr} {oc_np : Value} {od_np : Option Addr} {sl_np : Array (Option Value)} (a_np : PySem.W.nsIn K mainGlobals "need_places" = some (some (.ref f_np))) (l_np : K.lookup f_np = some ⟨oc_np, od_np, .func (PySem.W.fnOf "need_places" "need_places" (defArgs sNeedPlaces) (defBody sNeedPlaces) (defScope sNeedPlaces) .none kV_np dc_np pm_np an_np cd_np ct_np), sl_np⟩) (c_np : PySem.W.codeIn K cd_np "need_places" = true) (k_np : PySem.W.keepIn K (.ref f_np) = true)
    {f_ts : Addr} {kV_ts dc_ts pm_ts cd_ts ct_ts : Value} {an_ts : Option Addr} {oc_ts : Value} {od_ts : Option Addr} {sl_ts : Array (Option Value)} (a_ts : PySem.W.nsIn K mainGlobals "tie_spot" = some (some (.ref f_ts))) (l_ts : K.lookup f_ts = some ⟨oc_ts, od_ts, .func (PySem.W.fnOf "tie_spot" "tie_spot" (defArgs sTieSpot) (defBody sTieSpot) (defScope sTieSpot) .none kV_ts dc_ts pm_ts an_ts cd_ts ct_ts), sl_ts⟩) (c_ts : PySem.W.codeIn K cd_ts "tie_spot" = true) (k_ts : PySem.W.keepIn K (.ref f_ts) = true)
    {f_nt : Addr} {kV_nt dc_nt pm_nt cd_nt ct_nt : Value} {an_nt : Option Addr} {oc_nt : Value} {od_nt : Option Addr} {sl_nt : Array (Option Value)} (a_nt : PySem.W.nsIn K mainGlobals "need_ties" = some (some (.ref f_nt))) (l_nt : K.lookup f_nt = some ⟨oc_nt, od_nt, .func (PySem.W.fnOf "need_ties" "need_ties" (defArgs sNeedTies) (defBody sNeedTies) (defScope sNeedTies) .none kV_nt dc_nt pm_nt an_nt cd_nt ct_nt), sl_nt⟩) (c_nt : PySem.W.codeIn K cd_nt "need_ties" = true) (k_nt : PySem.W.keepIn K (.ref f_nt) = true)
    {f_ot : Addr} {kV_ot dc_ot pm_ot cd_ot ct_ot : Value} {an_ot : Option Addr} {oc_ot : Value} {od_ot : Option Addr} {sl_ot : Array (Option Value)} (a_ot : PySem.W.nsIn K mainGlobals "ordered_ties" = some (some (.ref f_ot))) (l_ot : K.lookup f_ot = some ⟨oc_ot, od_ot, .func (PySem.W.fnOf "ordered_ties" "ordered_ties" (defArgs sOrderedTies) (defBody sOrderedTies) (defScope sOrderedTies) .none kV_ot dc_ot pm_ot an_ot cd_ot ct_ot), sl_ot⟩) (c_ot : PySem.W.codeIn K cd_ot "ordered_ties" = true) (k_ot : PySem.W.keepIn K (.ref f_ot) = true)
    {f_nu : Addr} {kV_nu dc_nu pm_nu cd_nu ct_nu : Value} {an_nu : Option Addr} {oc_nu : Value} {od_nu : Option Addr} {sl_nu : Array (Option Value)} (a_nu : PySem.W.nsIn K mainGlobals "need_turns" = some (some (.ref f_nu))) (l_nu : K.lookup f_nu = some ⟨oc_nu, od_nu, .func (PySem.W.fnOf "need_turns" "need_turns" (defArgs sNeedTurns) (defBody sNeedTurns) (defScope sNeedTurns) .none kV_nu dc_nu pm_nu an_nu cd_nu ct_nu), sl_nu⟩) (c_nu : PySem.W.codeIn K cd_nu "need_turns" = true) (k_nu : PySem.W.keepIn K (.ref f_nu) = true)
    {f_po : Addr} {kV_po dc_po pm_po cd_po ct_po : Value} {an_po : Option Addr} {oc_po : Value} {od_po : Option Addr} {sl_po : Array (Option Value)} (a_po : PySem.W.nsIn K mainGlobals "places_over" = some (some (.ref f_po))) (l_po : K.lookup f_po = some ⟨oc_po, od_po, .func (PySem.W.fnOf "places_over" "places_over" (defArgs sPlacesOver) (defBody sPlacesOver) (defScope sPlacesOver) .none kV_po dc_po pm_po an_po cd_po ct_po), sl_po⟩) (c_po : PySem.W.codeIn K cd_po "places_over" = true) (k_po : PySem.W.keepIn K (.ref f_po) = true)
    {f_be : Addr} {kV_be dc_be pm_be cd_be ct_be : Value} {an_be : Option Addr} {oc_be : Value} {od_be : Option Addr} {sl_be : Array (Option Value)} (a_be : PySem.W.nsIn K mainGlobals "behind" = some (some (.ref f_be))) (l_be : K.lookup f_be = some ⟨oc_be, od_be, .func (PySem.W.fnOf "behind" "behind" (defArgs sBehind) (defBody sBehind) (defScope sBehind) .none kV_be dc_be pm_be an_be cd_be ct_be), sl_be⟩) (c_be : PySem.W.codeIn K cd_be "behind" = true) (k_be : PySem.W.keepIn K (.ref f_be) = true)
    {f_ny : Addr} {kV_ny dc_ny pm_ny cd_ny ct_ny : Value} {an_ny : Option Addr} {oc_ny : Value} {od_ny : Option Addr} {sl_ny : Array (Option Value)} (a_ny : PySem.W.nsIn K mainGlobals "need_way" = some (some (.ref f_ny))) (l_ny : K.lookup f_ny = some ⟨oc_ny, od_ny, .func (PySem.W.fnOf "need_way" "need_way" (defArgs sNeedWay) (defBody sNeedWay) (defScope sNeedWay) .none kV_ny dc_ny pm_ny an_ny cd_ny ct_ny), sl_ny⟩) (c_ny : PySem.W.codeIn K cd_ny "need_way" = true) (k_ny : PySem.W.keepIn K (.ref f_ny) = true)
    {f_wp : Addr} {kV_wp dc_wp pm_wp cd_wp ct_wp : Value} {an_wp : Option Addr} {oc_wp : Value} {od_wp : Option Addr} {sl_wp : Array (Option Value)} (a_wp : PySem.W.nsIn K mainGlobals "way_product" = some (some (.ref f_wp))) (l_wp : K.lookup f_wp = some ⟨oc_wp, od_wp, .func (PySem.W.fnOf "way_product" "way_product" (defArgs sWayProduct) (defBody sWayProduct) (defScope sWayProduct) .none kV_wp dc_wp pm_wp an_wp cd_wp ct_wp), sl_wp⟩) (c_wp : PySem.W.codeIn K cd_wp "way_product" = true) (k_wp : PySem.W.keepIn K (.ref f_wp) = true)
    {f_wu : Addr} {kV_wu dc_wu pm_wu cd_wu ct_wu : Value} {an_wu : Option Addr} {oc_wu : Value} {od_wu : Option Addr} {sl_wu : Array (Option Value)} (a_wu : PySem.W.nsIn K mainGlobals "ways_up" = some (some (.ref f_wu))) (l_wu : K.lookup f_wu = some ⟨oc_wu, od_wu, .func (PySem.W.fnOf "ways_up" "ways_up" (defArgs sWaysUp) (defBody sWaysUp) (defScope sWaysUp) .none kV_wu dc_wu pm_wu an_wu cd_wu ct_wu), sl_wu⟩) (c_wu : PySem.W.codeIn K cd_wu "ways_up" = true) (k_wu : PySem.W.keepIn K (.ref f_wu) = true)
    {f_oc : Addr} {kV_oc dc_oc pm_oc cd_oc ct_oc : Value} {an_oc : Option Addr} {oc_oc : Value} {od_oc : Option Addr} {sl_oc : Array (Option Value)} (a_oc : PySem.W.nsIn K mainGlobals "_law_open_cells" = some (some (.ref f_oc))) (l_oc : K.lookup f_oc = some ⟨oc_oc, od_oc, .func (PySem.W.fnOf "_law_open_cells" "_law_open_cells" (defArgs sOpenCells) (defBody sOpenCells) (defScope sOpenCells) .none kV_oc dc_oc pm_oc an_oc cd_oc ct_oc), sl_oc⟩) (c_oc : PySem.W.codeIn K cd_oc "_law_open_cells" = true) (k_oc : PySem.W.keepIn K (.ref f_oc) = true)
    {f_pk : Addr} {kV_pk dc_pk pm_pk cd_pk ct_pk : Value} {an_pk : Option Addr} {oc_pk : Value} {od_pk : Option Addr} {sl_pk : Array (Option Value)} (a_pk : PySem.W.nsIn K mainGlobals "_law_pick" = some (some (.ref f_pk))) (l_pk : K.lookup f_pk = some ⟨oc_pk, od_pk, .func (PySem.W.fnOf "_law_pick" "_law_pick" (defArgs sPick) (defBody sPick) (defScope sPick) .none kV_pk dc_pk pm_pk an_pk cd_pk ct_pk), sl_pk⟩) (c_pk : PySem.W.codeIn K cd_pk "_law_pick" = true) (k_pk : PySem.W.keepIn K (.ref f_pk) = true)
    {f_ao : Addr} {kV_ao dc_ao pm_ao cd_ao ct_ao : Value} {an_ao : Option Addr} {oc_ao : Value} {od_ao : Option Addr} {sl_ao : Array (Option Value)} (a_ao : PySem.W.nsIn K mainGlobals "_law_any_order" = some (some (.ref f_ao))) (l_ao : K.lookup f_ao = some ⟨oc_ao, od_ao, .func (PySem.W.fnOf "_law_any_order" "_law_any_order" (defArgs sAnyOrder) (defBody sAnyOrder) (defScope sAnyOrder) .none kV_ao dc_ao pm_ao an_ao cd_ao ct_ao), sl_ao⟩) (c_ao : PySem.W.codeIn K cd_ao "_law_any_order" = true) (k_ao : PySem.W.keepIn K (.ref f_ao) = true)
    {f_ch : Addr} {kV_ch dc_ch pm_ch cd_ch ct_ch : Value} {an_ch : Option Addr} {oc_ch : Value} {od_ch : Option Addr} {sl_ch : Array (Option Value)} (a_ch : PySem.W.nsIn K mainGlobals "_law_choice_of" = some (some (.ref f_ch))) (l_ch : K.lookup f_ch = some ⟨oc_ch, od_ch, .func (PySem.W.fnOf "_law_choice_of" "_law_choice_of" (defArgs sChoiceOf) (defBody sChoiceOf) (defScope sChoiceOf) .none kV_ch dc_ch pm_ch an_ch cd_ch ct_ch), sl_ch⟩) (c_ch : PySem.W.codeIn K cd_ch "_law_choice_of" = true) (k_ch : PySem.W.keepIn K (.ref f_ch) = true)
    {f_sh : Addr} {kV_sh dc_sh pm_sh cd_sh ct_sh : Value} {an_sh : Option Addr} {oc_sh : Value} {od_sh : Option Addr} {sl_sh : Array (Option Value)} (a_sh : PySem.W.nsIn K mainGlobals "_law_shape_pairs" = some (some (.ref f_sh))) (l_sh : K.lookup f_sh = some ⟨oc_sh, od_sh, .func (PySem.W.fnOf "_law_shape_pairs" "_law_shape_pairs" (defArgs sShapePairs) (defBody sShapePairs) (defScope sShapePairs) .none kV_sh dc_sh pm_sh an_sh cd_sh ct_sh), sl_sh⟩) (c_sh : PySem.W.codeIn K cd_sh "_law_shape_pairs" = true) (k_sh : PySem.W.keepIn K (.ref f_sh) = true)
    {f_dw : Addr} {kV_dw dc_dw pm_dw cd_dw ct_dw : Value} {an_dw : Option Addr} {oc_dw : Value} {od_dw : Option Addr} {sl_dw : Array (Option Value)} (a_dw : PySem.W.nsIn K mainGlobals "_law_draw_world" = some (some (.ref f_dw))) (l_dw : K.lookup f_dw = some ⟨oc_dw, od_dw, .func (PySem.W.fnOf "_law_draw_world" "_law_draw_world" (defArgs sDrawWorld) (defBody sDrawWorld) (defScope sDrawWorld) .none kV_dw dc_dw pm_dw an_dw cd_dw ct_dw), sl_dw⟩) (c_dw : PySem.W.codeIn K cd_dw "_law_draw_world" = true) (k_dw : PySem.W.keepIn K (.ref f_dw) = true)
    {f_ma : Addr} {kV_ma dc_ma pm_ma cd_ma ct_ma : Value} {an_ma : Option Addr} {oc_ma : Value} {od_ma : Option Addr} {sl_ma : Array (Option Value)} (a_ma : PySem.W.nsIn K mainGlobals "_law_made" = some (some (.ref f_ma))) (l_ma : K.lookup f_ma = some ⟨oc_ma, od_ma, .func (PySem.W.fnOf "_law_made" "_law_made" (defArgs sMade) (defBody sMade) (defScope sMade) .none kV_ma dc_ma pm_ma an_ma cd_ma ct_ma), sl_ma⟩) (c_ma : PySem.W.codeIn K cd_ma "_law_made" = true) (k_ma : PySem.W.keepIn K (.ref f_ma) = true)
    {f_lw : Addr} {kV_lw dc_lw pm_lw cd_lw ct_lw : Value} {an_lw : Option Addr} {oc_lw : Value} {od_lw : Option Addr} {sl_lw : Array (Option Value)} (a_lw : PySem.W.nsIn K mainGlobals "_law_width" = some (some (.ref f_lw))) (l_lw : K.lookup f_lw = some ⟨oc_lw, od_lw, .func (PySem.W.fnOf "_law_width" "_law_width" (defArgs sLawWidth) (defBody sLawWidth) (defScope sLawWidth) .none kV_lw dc_lw pm_lw an_lw cd_lw ct_lw), sl_lw⟩) (c_lw : PySem.W.codeIn K cd_lw "_law_width" = true) (k_lw : PySem.W.keepIn K (.ref f_lw) = true)
    {f_pa : Addr} {kV_pa dc_pa pm_pa cd_pa ct_pa : Value} {an_pa : Option Addr} {oc_pa : Value} {od_pa : Option Addr} {sl_pa : Array (Option Value)} (a_pa : PySem.W.nsIn K mainGlobals "_law_parts" = some (some (.ref f_pa))) (l_pa : K.lookup f_pa = some ⟨oc_pa, od_pa, .func (PySem.W.fnOf "_law_parts" "_law_parts" (defArgs sParts) (defBody sParts) (defScope sParts) .none kV_pa dc_pa pm_pa an_pa cd_pa ct_pa), sl_pa⟩) (c_pa : PySem.W.codeIn K cd_pa "_law_parts" = true) (k_pa : PySem.W.keepIn K (.ref f_pa) = true)
    {f_se : Addr} {kV_se dc_se pm_se cd_se ct_se : Value} {an_se : Option Addr} {oc_se : Value} {od_se : Option Addr} {sl_se : Array (Option Value)} (a_se : PySem.W.nsIn K mainGlobals "_law_seated" = some (some (.ref f_se))) (l_se : K.lookup f_se = some ⟨oc_se, od_se, .func (PySem.W.fnOf "_law_seated" "_law_seated" (defArgs sSeated) (defBody sSeated) (defScope sSeated) .none kV_se dc_se pm_se an_se cd_se ct_se), sl_se⟩) (c_se : PySem.W.codeIn K cd_se "_law_seated" = true) (k_se : PySem.W.keepIn K (.ref f_se) = true)
    {f_ov : Addr} {kV_ov dc_ov pm_ov cd_ov ct_ov : Value} {an_ov : Option Addr} {oc_ov : Value} {od_ov : Option Addr} {sl_ov : Array (Option Value)} (a_ov : PySem.W.nsIn K mainGlobals "_law_over" = some (some (.ref f_ov))) (l_ov : K.lookup f_ov = some ⟨oc_ov, od_ov, .func (PySem.W.fnOf "_law_over" "_law_over" (defArgs sOver) (defBody sOver) (defScope sOver) .none kV_ov dc_ov pm_ov an_ov cd_ov ct_ov), sl_ov⟩) (c_ov : PySem.W.codeIn K cd_ov "_law_over" = true) (k_ov : PySem.W.keepIn K (.ref f_ov) = true)
    {f_di : Addr} {kV_di dc_di pm_di cd_di ct_di : Value} {an_di : Option Addr} {oc_di : Value} {od_di : Option Addr} {sl_di : Array (Option Value)} (a_di : PySem.W.nsIn K mainGlobals "_law_dict" = some (some (.ref f_di))) (l_di : K.lookup f_di = some ⟨oc_di, od_di, .func (PySem.W.fnOf "_law_dict" "_law_dict" (defArgs sDict) (defBody sDict) (defScope sDict) .none kV_di dc_di pm_di an_di cd_di ct_di), sl_di⟩) (c_di : PySem.W.codeIn K cd_di "_law_dict" = true) (k_di : PySem.W.keepIn K (.ref f_di) = true)
    {f_dr : Addr} {kV_dr dc_dr pm_dr cd_dr ct_dr : Value} {an_dr : Option Addr} {oc_dr : Value} {od_dr : Option Addr} {sl_dr : Array (Option Value)} (a_dr : PySem.W.nsIn K mainGlobals "_law_drawn_way" = some (some (.ref f_dr))) (l_dr : K.lookup f_dr = some ⟨oc_dr, od_dr, .func (PySem.W.fnOf "_law_drawn_way" "_law_drawn_way" (defArgs sDrawnWay) (defBody sDrawnWay) (defScope sDrawnWay) .none kV_dr dc_dr pm_dr an_dr cd_dr ct_dr), sl_dr⟩) (c_dr : PySem.W.codeIn K cd_dr "_law_drawn_way" = true) (k_dr : PySem.W.keepIn K (.ref f_dr) = true)
    {f_na : Addr} {kV_na dc_na pm_na cd_na ct_na : Value} {an_na : Option Addr} {oc_na : Value} {od_na : Option Addr} {sl_na : Array (Option Value)} (a_na : PySem.W.nsIn K mainGlobals "_law_named" = some (some (.ref f_na))) (l_na : K.lookup f_na = some ⟨oc_na, od_na, .func (PySem.W.fnOf "_law_named" "_law_named" (defArgs sNamed) (defBody sNamed) (defScope sNamed) .none kV_na dc_na pm_na an_na cd_na ct_na), sl_na⟩) (c_na : PySem.W.codeIn K cd_na "_law_named" = true) (k_na : PySem.W.keepIn K (.ref f_na) = true)
    {f_pr : Addr} {kV_pr dc_pr pm_pr cd_pr ct_pr : Value} {an_pr : Option Addr} {oc_pr : Value} {od_pr : Option Addr} {sl_pr : Array (Option Value)} (a_pr : PySem.W.nsIn K mainGlobals "_law_product" = some (some (.ref f_pr))) (l_pr : K.lookup f_pr = some ⟨oc_pr, od_pr, .func (PySem.W.fnOf "_law_product" "_law_product" (defArgs sProduct) (defBody sProduct) (defScope sProduct) .none kV_pr dc_pr pm_pr an_pr cd_pr ct_pr), sl_pr⟩) (c_pr : PySem.W.codeIn K cd_pr "_law_product" = true) (k_pr : PySem.W.keepIn K (.ref f_pr) = true)
    {f_bo : Addr} {kV_bo dc_bo pm_bo cd_bo ct_bo : Value} {an_bo : Option Addr} {oc_bo : Value} {od_bo : Option Addr} {sl_bo : Array (Option Value)} (a_bo : PySem.W.nsIn K mainGlobals "_law_bound_over" = some (some (.ref f_bo))) (l_bo : K.lookup f_bo = some ⟨oc_bo, od_bo, .func (PySem.W.fnOf "_law_bound_over" "_law_bound_over" (defArgs sBoundOver) (defBody sBoundOver) (defScope sBoundOver) .none kV_bo dc_bo pm_bo an_bo cd_bo ct_bo), sl_bo⟩) (c_bo : PySem.W.codeIn K cd_bo "_law_bound_over" = true) (k_bo : PySem.W.keepIn K (.ref f_bo) = true)
    {f_ad : Addr} {kV_ad dc_ad pm_ad cd_ad ct_ad : Value} {an_ad : Option Addr} {oc_ad : Value} {od_ad : Option Addr} {sl_ad : Array (Option Value)} (a_ad : PySem.W.nsIn K mainGlobals "_law_any_dict" = some (some (.ref f_ad))) (l_ad : K.lookup f_ad = some ⟨oc_ad, od_ad, .func (PySem.W.fnOf "_law_any_dict" "_law_any_dict" (defArgs sAnyDict) (defBody sAnyDict) (defScope sAnyDict) .none kV_ad dc_ad pm_ad an_ad cd_ad ct_ad), sl_ad⟩) (c_ad : PySem.W.codeIn K cd_ad "_law_any_dict" = true) (k_ad : PySem.W.keepIn K (.ref f_ad) = true)
    {f_mi : Addr} {kV_mi dc_mi pm_mi cd_mi ct_mi : Value} {an_mi : Option Addr} {oc_mi : Value} {od_mi : Option Addr} {sl_mi : Array (Option Value)} (a_mi : PySem.W.findIn K (.ref C) "__init__" = some (some (.ref f_mi))) (i_mi : PySem.W.isFn K (.ref f_mi) = true) (l_mi : K.lookup f_mi = some ⟨oc_mi, od_mi, .func (PySem.W.fnOf "__init__" "Web.__init__" (defArgs sWebInit) (defBody sWebInit) (defScope sWebInit) .none kV_mi dc_mi pm_mi an_mi cd_mi ct_mi), sl_mi⟩) (c_mi : PySem.W.codeIn K cd_mi "Web.__init__" = true) (k_mi : PySem.W.keepIn K (.ref f_mi) = true)
    {f_mp : Addr} {kV_mp dc_mp pm_mp cd_mp ct_mp : Value} {an_mp : Option Addr} {oc_mp : Value} {od_mp : Option Addr} {sl_mp : Array (Option Value)} (a_mp : PySem.W.findIn K (.ref C) "places" = some (some (.ref f_mp))) (i_mp : PySem.W.isFn K (.ref f_mp) = true) (l_mp : K.lookup f_mp = some ⟨oc_mp, od_mp, .func (PySem.W.fnOf "places" "Web.places" (defArgs sWebPlaces) (defBody sWebPlaces) (defScope sWebPlaces) .none kV_mp dc_mp pm_mp an_mp cd_mp ct_mp), sl_mp⟩) (c_mp : PySem.W.codeIn K cd_mp "Web.places" = true) (k_mp : PySem.W.keepIn K (.ref f_mp) = true)
    {f_mc : Addr} {kV_mc dc_mc pm_mc cd_mc ct_mc : Value} {an_mc : Option Addr} {oc_mc : Value} {od_mc : Option Addr} {sl_mc : Array (Option Value)} (a_mc : PySem.W.findIn K (.ref C) "colour" = some (some (.ref f_mc))) (i_mc : PySem.W.isFn K (.ref f_mc) = true) (l_mc : K.lookup f_mc = some ⟨oc_mc, od_mc, .func (PySem.W.fnOf "colour" "Web.colour" (defArgs sWebColour) (defBody sWebColour) (defScope sWebColour) .none kV_mc dc_mc pm_mc an_mc cd_mc ct_mc), sl_mc⟩) (c_mc : PySem.W.codeIn K cd_mc "Web.colour" = true) (k_mc : PySem.W.keepIn K (.ref f_mc) = true)
    {f_mt : Addr} {kV_mt dc_mt pm_mt cd_mt ct_mt : Value} {an_mt : Option Addr} {oc_mt : Value} {od_mt : Option Addr} {sl_mt : Array (Option Value)} (a_mt : PySem.W.findIn K (.ref C) "ties" = some (some (.ref f_mt))) (i_mt : PySem.W.isFn K (.ref f_mt) = true) (l_mt : K.lookup f_mt = some ⟨oc_mt, od_mt, .func (PySem.W.fnOf "ties" "Web.ties" (defArgs sWebTies) (defBody sWebTies) (defScope sWebTies) .none kV_mt dc_mt pm_mt an_mt cd_mt ct_mt), sl_mt⟩) (c_mt : PySem.W.codeIn K cd_mt "Web.ties" = true) (k_mt : PySem.W.keepIn K (.ref f_mt) = true)
    {f_mh : Addr} {kV_mh dc_mh pm_mh cd_mh ct_mh : Value} {an_mh : Option Addr} {oc_mh : Value} {od_mh : Option Addr} {sl_mh : Array (Option Value)} (a_mh : PySem.W.findIn K (.ref C) "__contains__" = some (some (.ref f_mh))) (i_mh : PySem.W.isFn K (.ref f_mh) = true) (l_mh : K.lookup f_mh = some ⟨oc_mh, od_mh, .func (PySem.W.fnOf "__contains__" "Web.__contains__" (defArgs sWebHas) (defBody sWebHas) (defScope sWebHas) .none kV_mh dc_mh pm_mh an_mh cd_mh ct_mh), sl_mh⟩) (c_mh : PySem.W.codeIn K cd_mh "Web.__contains__" = true) (k_mh : PySem.W.keepIn K (.ref f_mh) = true)
    {f_ml : Addr} {kV_ml dc_ml pm_ml cd_ml ct_ml : Value} {an_ml : Option Addr} {oc_ml : Value} {od_ml : Option Addr} {sl_ml : Array (Option Value)} (a_ml : PySem.W.findIn K (.ref C) "__len__" = some (some (.ref f_ml))) (i_ml : PySem.W.isFn K (.ref f_ml) = true) (l_ml : K.lookup f_ml = some ⟨oc_ml, od_ml, .func (PySem.W.fnOf "__len__" "Web.__len__" (defArgs sWebLen) (defBody sWebLen) (defScope sWebLen) .none kV_ml dc_ml pm_ml an_ml cd_ml ct_ml), sl_ml⟩) (c_ml : PySem.W.codeIn K cd_ml "Web.__len__" = true) (k_ml : PySem.W.keepIn K (.ref f_ml) = true)
    {f_mw : Addr} {kV_mw dc_mw pm_mw cd_mw ct_mw : Value} {an_mw : Option Addr} {oc_mw : Value} {od_mw : Option Addr} {sl_mw : Array (Option Value)} (a_mw : PySem.W.findIn K (.ref C) "width" = some (some (.ref f_mw))) (i_mw : PySem.W.isFn K (.ref f_mw) = true) (l_mw : K.lookup f_mw = some ⟨oc_mw, od_mw, .func (PySem.W.fnOf "width" "Web.width" (defArgs sWebWidth) (defBody sWebWidth) (defScope sWebWidth) .none kV_mw dc_mw pm_mw an_mw cd_mw ct_mw), sl_mw⟩) (c_mw : PySem.W.codeIn K cd_mw "Web.width" = true) (k_mw : PySem.W.keepIn K (.ref f_mw) = true)
    {kV_la dc_la pm_la cd_la ct_la : Value} {an_la : Option Addr} {oc_la : Value} {od_la : Option Addr} {sl_la : Array (Option Value)} {f_la : Addr} (a_la : PySem.W.nsIn K mainGlobals "law" = some (some (.ref f_la))) (l_la : K.lookup f_la = some ⟨oc_la, od_la, .func (PySem.W.fnOf "law" "law" (defArgs sLaw) (defBody sLaw) (defScope sLaw) .none kV_la dc_la pm_la an_la cd_la ct_la), sl_la⟩) (c_la : PySem.W.codeIn K cd_la "law" = true) (k_la : PySem.W.keepIn K (.ref f_la) = true)
    {f_bi cda cc : Addr} {kV_bi dc_bi pm_bi ct_bi : Value} {an_bi : Option Addr} {oc_bi : Value} {od_bi : Option Addr} {sl_bi : Array (Option Value)} (a_bi : PySem.W.findIn K (.ref CB) "__init__" = some (some (.ref f_bi))) (t_bi : PySem.W.typeIn K (.ref f_bi) = some (.type "function"))
    (l_bi : K.lookup f_bi = some ⟨oc_bi, od_bi, .func (PySem.W.ksFn "__init__" "BadNumber.__init__" (defArgs sBadNumberInit) (defBody sBadNumberInit) (defScope sBadNumberInit) .none kV_bi dc_bi pm_bi an_bi (.ref cda) ct_bi cc), sl_bi⟩) (c_bi : PySem.W.codeIn K (.ref cda) "BadNumber.__init__" = true)
    {ccl : Value} {cdd : Option Addr} {vs_b : Array Value} {ccs : Array (Option Value)} (l_b : K.lookup cda = some ⟨ccl, cdd, .fields vs_b, ccs⟩) {file : Str} {tf : Tok} (v_b : vs_b[2]? = some (.str file tf)) (fi_b : ((l.prog.main.file : Str) == file) = true)
    {cl : Value} {cld : Option Addr} {csl : Array (Option Value)} (l_cc : K.lookup cc = some ⟨cl, cld, .cell (some (.ref CB)), csl⟩) {cdB : PySem.ClassData} (d_B : PySem.W.clsIn K CB = some cdB) (m_B : PySem.W.mroIn K CB (.ref CB) = some true) (sV : PySem.W.subIn K (.ref CB) (.type "ValueError") = some true)
    (su_B : PySem.W.ks_superIn K CB CB "__init__" = some (some (.builtin "ValueError.__init__"))) (opq : PySem.W.nsIn K PySem.cStatics "thirdparty.any" = some none) (top_s : (l.prog.main.scope.names.lookup ("super" : Str)).isSome = false)
    {nm_B q_B : Str} {N_B : Addr} {bs_B : List Value} {bm_B : List Value} {sn_B sub_B ab_B col_B dd_B k0_B k1_B k2_B k3_B k5_B : _} (l_B : K.lookup CB = some (excClassObj nm_B q_B CB N_B bs_B bm_B true sn_B sub_B ab_B col_B dd_B k0_B k1_B k2_B k3_B k5_B "ValueError.__new__")) (r_B : PySem.HandSPX.refsVE bm_B = true)
    (sa_B : PySem.W.findIn K (.ref CB) "__setattr__" = some (some (.builtin "object.__setattr__"))) (ex_B : PySem.W.subIn K (.ref CB) (.type "BaseException") = some true) (ty_B : PySem.W.typeIn K (.ref CB) = some (.type "type")) (kp_B : PySem.W.keepIn K (.ref CB) = true) (sb_B : PySem.W.subIn K (.ref CB) (.ref CB) = some true)
    (ga_B : PySem.W.findIn K (.ref CB) "__getattribute__" = some (some (.builtin "BaseException.__getattribute__"))) (gg_B : PySem.W.findIn K (.ref CB) "__getattr__" = some none) (hd_B : PySem.W.hasDictIn K CB = true) (nu_B : PySem.W.findIn K (.ref CB) "number" = some none) (z_B : PySem.W.nsIn K mainGlobals "BadNumber" = some (some (.ref CB)))
    {cdT : PySem.ClassData} (d_T : PySem.W.clsIn K CT = some cdT) (q_T : PySem.W.excIn K CT [.type "ValueError", .type "Exception", .type "BaseException", .type "object"] "ValueError.__new__" = true) (kp_T : PySem.W.keepIn K (.ref CT) = true) (ex_T : PySem.W.subIn K (.ref CT) (.type "BaseException") = some true) (ty_T : PySem.W.typeIn K (.ref CT) = some (.type "type")) (st_T : PySem.W.subIn K (.ref CT) (.ref CT) = some true) (sb_T : PySem.W.subIn K (.ref CT) (.ref CB) = some false) (z_T : PySem.W.nsIn K mainGlobals "TooMany" = some (some (.ref CT)))
    {f_tc D_tc : Addr} {dc_tc pm_tc cd_tc ct_tc : Value} {an_tc : Option Addr} {oc_tc : Value} {od_tc : Option Addr} {sl_tc : Array (Option Value)} (a_tc : PySem.W.nsIn K mainGlobals "turned_copies" = some (some (.ref f_tc))) (l_tc : K.lookup f_tc = some ⟨oc_tc, od_tc, .func (PySem.W.fnOf "turned_copies" "turned_copies" (defArgs sTurnedCopies) (defBody sTurnedCopies) (defScope sTurnedCopies) .none (.ref D_tc) dc_tc pm_tc an_tc cd_tc ct_tc), sl_tc⟩) (c_tc : PySem.W.codeIn K cd_tc "turned_copies" = true) (k_tc : PySem.W.keepIn K (.ref f_tc) = true) {t_tc : Tok} (n_tc : PySem.W.nsIn K D_tc "most_places" = some (some (.int 240 t_tc)))
    (z_len : PySem.W.nsIn K mainGlobals "len" = some none)
    (z_int : PySem.W.nsIn K mainGlobals "int" = some none)
    (z_list : PySem.W.nsIn K mainGlobals "list" = some none)
    (z_range : PySem.W.nsIn K mainGlobals "range" = some none)
    (z_abs : PySem.W.nsIn K mainGlobals "abs" = some none)
    (z_sorted : PySem.W.nsIn K mainGlobals "sorted" = some none)
    (z_dict : PySem.W.nsIn K mainGlobals "dict" = some none)
    (z_enumerate : PySem.W.nsIn K mainGlobals "enumerate" = some none)
    (z_str : PySem.W.nsIn K mainGlobals "str" = some none)
    (z_max : PySem.W.nsIn K mainGlobals "max" = some none)
    (z_min : PySem.W.nsIn K mainGlobals "min" = some none)
    (z_set : PySem.W.nsIn K mainGlobals "set" = some none)
    (z_sum : PySem.W.nsIn K mainGlobals "sum" = some none)
    (z_zip : PySem.W.nsIn K mainGlobals "zip" = some none)
    (z_isinstance : PySem.W.nsIn K mainGlobals "isinstance" = some none)
    (z_all : PySem.W.nsIn K mainGlobals "all" = some none)
    (z_bool : PySem.W.nsIn K mainGlobals "bool" = some none)
    (z_tuple : PySem.W.nsIn K mainGlobals "tuple" = some none)
    (z_super : PySem.W.nsIn K mainGlobals "super" = some none)
    {tl td : Tok} (z_letters : PySem.W.nsIn K mainGlobals "LETTERS" = some (some (.str "abcdefghijklmnopqrstuvwxyz" tl))) (z_digits : PySem.W.nsIn K mainGlobals "DIGITS" = some (some (.str "0123456789" td)))
    (z_C : PySem.W.nsIn K mainGlobals "Web" = some (some (.ref C))) (pg : PySem.W.plainGet K C Str.empty = true) (hd : PySem.W.hasDictIn K C = true) (po : PySem.W.plainOver K C = true) (sa : PySem.W.findIn K (.ref C) "__setattr__" = some (some (.builtin "object.__setattr__"))) (mk : PySem.W.makesIn K C = true) (kc : PySem.W.keepIn K (.ref C) = true)
    (nCo : PySem.W.findIn K (.ref C) "_colour_of" = some none) (nNa : PySem.W.findIn K (.ref C) "_names" = some none) (nTi : PySem.W.findIn K (.ref C) "_ties" = some none) (nWi : PySem.W.findIn K (.ref C) "_width_of" = some none) :
    ∃ fd : FuncData, (∀ (s : Shared) (v : Value), BindsTo s fd ⟨[v], []⟩ [("_law_script", v)]) ∧ ∀ base : Heap, K.In base → base.Ns mainGlobals mg → FnOk l.prog w K mg base CX0 8 fa fd ["_law_script"] (spLaw27 K) := by
  have e := hfa.symm.trans (PySem.W.mg_of X G a_la)
  cases e
  have none_ := fun {x : Str} (z : PySem.W.nsIn K mainGlobals x = some none) => PySem.W.mg_none_of X G z
  have TA : TxtA mg := ⟨none_ z_len, none_ z_int⟩
  have TB : TxtB mg := ⟨TA, none_ z_list, none_ z_range, none_ z_abs⟩
  have TC : TxtC mg := ⟨TB, none_ z_sorted⟩
  have TD : TxtD mg := ⟨TC, none_ z_dict, none_ z_enumerate, none_ z_str⟩
  have TE : TxtE mg := ⟨TD, none_ z_max, none_ z_min, none_ z_set, none_ z_sum⟩
  have TF : TxtF mg := ⟨TE, none_ z_zip⟩
  have TG : TxtG mg := ⟨TF, none_ z_isinstance, none_ z_all, none_ z_bool, ⟨tl, PySem.W.mg_of X G z_letters⟩, ⟨td, PySem.W.mg_of X G z_digits⟩⟩
  have TH : TxtH mg := ⟨TG, none_ z_tuple⟩
  have TW : TxtW K mg C := ⟨TH, ⟨pg, hd, po, sa⟩, nCo, nNa, nTi, nWi⟩
  have TM : TxtM K mg C f_mi := ⟨TW, PySem.W.mg_of X G z_C, ⟨mk, a_mi, i_mi, kc⟩⟩
  have XF : XfC K CB := ⟨ga_B, gg_B, ex_B, hd_B⟩
  have mB := PySem.W.mg_of X G z_B
  have TKe : TxtKe mg := ⟨none_ z_isinstance, none_ z_list, none_ z_tuple, none_ z_dict⟩
  have OX : OexC K CB := ⟨⟨_, _, _, _, _, _, _, _, _, _, _, _, _, _, _, l_B, r_B⟩, sa_B, ex_B, ty_B, kp_B⟩
  have SF : SupF l.prog K CB f_bi cda cc _ "BadNumber.__init__" sBadNumberInit "self" := ⟨OX, ⟨_, _, _, _, _, _, _, _, rfl, l_bi⟩, ⟨_, rfl, rfl⟩, ⟨_, _, _, _, _, _, l_b, v_b, fi_b⟩, c_bi, ⟨_, _, _, l_cc⟩, ⟨_, d_B⟩, m_B, sV, su_B, opq, top_s⟩
  have TT : TxtToo K mg CT := ⟨q_T, PySem.W.mg_of X G z_T, kp_T, ex_T, ty_T⟩
  have F_tc : FunD K "turned_copies" "turned_copies" (defArgs sTurnedCopies) (defBody sTurnedCopies) (defScope sTurnedCopies) [] [("most_places", .int 240)] f_tc _ := ⟨⟨_, _, _, _, _, _, _, _, _, _, rfl, l_tc, c_tc, .inl ⟨rfl, rfl⟩, .inr ⟨D_tc, rfl, fun q hq => by rw [List.mem_singleton.mp hq]; exact ⟨_, n_tc, _, rfl⟩⟩⟩, k_tc⟩
  have m_tc := PySem.W.mg_of X G a_tc
  have F_isw := fun_mk (st := sIsWord) l_isw c_isw k_isw
  have b_isw := F_isw.binds (ps := ["value"]) fun _ _ _ _ _ _ us hl => match us, hl with | [_], _ => rfl
  have m_isw := PySem.W.mg_of X G a_isw
  have F_isi := fun_mk (st := sIsInteger) l_isi c_isi k_isi
  have b_isi := F_isi.binds (ps := ["value"]) fun _ _ _ _ _ _ us hl => match us, hl with | [_], _ => rfl
  have m_isi := PySem.W.mg_of X G a_isi
  have F_isn := fun_mk (st := sIsNumber) l_isn c_isn k_isn
  have b_isn := F_isn.binds (ps := ["value", "least"]) fun _ _ _ _ _ _ us hl => match us, hl with | [_, _], _ => rfl
  have m_isn := PySem.W.mg_of X G a_isn
  have F_ke := fun_mk (st := sKept) l_ke c_ke k_ke
  have b_ke := F_ke.binds (ps := ["value"]) fun _ _ _ _ _ _ us hl => match us, hl with | [_], _ => rfl
  have m_ke := PySem.W.mg_of X G a_ke
  have F_nw := fun_mk (st := sNeedWord) l_nw c_nw k_nw
  have b_nw := F_nw.binds (ps := ["value"]) fun _ _ _ _ _ _ us hl => match us, hl with | [_], _ => rfl
  have m_nw := PySem.W.mg_of X G a_nw
  have F_no := fun_mk (st := sNeedOnce) l_no c_no k_no
  have b_no := F_no.binds (ps := ["names"]) fun _ _ _ _ _ _ us hl => match us, hl with | [_], _ => rfl
  have m_no := PySem.W.mg_of X G a_no
  have F_np := fun_mk (st := sNeedPlaces) l_np c_np k_np
  have b_np := F_np.binds (ps := ["places"]) fun _ _ _ _ _ _ us hl => match us, hl with | [_], _ => rfl
  have m_np := PySem.W.mg_of X G a_np
  have F_ts := fun_mk (st := sTieSpot) l_ts c_ts k_ts
  have b_ts := F_ts.binds (ps := ["tie", "names"]) fun _ _ _ _ _ _ us hl => match us, hl with | [_, _], _ => rfl
  have m_ts := PySem.W.mg_of X G a_ts
  have F_nt := fun_mk (st := sNeedTies) l_nt c_nt k_nt
  have b_nt := F_nt.binds (ps := ["ties", "names"]) fun _ _ _ _ _ _ us hl => match us, hl with | [_, _], _ => rfl
  have m_nt := PySem.W.mg_of X G a_nt
  have F_ot := fun_mk (st := sOrderedTies) l_ot c_ot k_ot
  have b_ot := F_ot.binds (ps := ["ties", "names"]) fun _ _ _ _ _ _ us hl => match us, hl with | [_, _], _ => rfl
  have m_ot := PySem.W.mg_of X G a_ot
  have F_nu := fun_mk (st := sNeedTurns) l_nu c_nu k_nu
  have b_nu := F_nu.binds (ps := ["ties", "turns"]) fun _ _ _ _ _ _ us hl => match us, hl with | [_, _], _ => rfl
  have m_nu := PySem.W.mg_of X G a_nu
  have F_po := fun_mk (st := sPlacesOver) l_po c_po k_po
  have b_po := F_po.binds (ps := ["over", "web", "folding"]) fun _ _ _ _ _ _ us hl => match us, hl with | [_, _, _], _ => rfl
  have m_po := PySem.W.mg_of X G a_po
  have F_be := fun_mk (st := sBehind) l_be c_be k_be
  have b_be := F_be.binds (ps := ["first", "last"]) fun _ _ _ _ _ _ us hl => match us, hl with | [_, _], _ => rfl
  have m_be := PySem.W.mg_of X G a_be
  have F_ny := fun_mk (st := sNeedWay) l_ny c_ny k_ny
  have b_ny := F_ny.binds (ps := ["web", "way"]) fun _ _ _ _ _ _ us hl => match us, hl with | [_, _], _ => rfl
  have m_ny := PySem.W.mg_of X G a_ny
  have F_wp := fun_mk (st := sWayProduct) l_wp c_wp k_wp
  have b_wp := F_wp.binds (ps := ["web", "way"]) fun _ _ _ _ _ _ us hl => match us, hl with | [_, _], _ => rfl
  have m_wp := PySem.W.mg_of X G a_wp
  have F_wu := fun_mk (st := sWaysUp) l_wu c_wu k_wu
  have b_wu := F_wu.binds (ps := ["over", "web", "folding", "way", "start"]) fun _ _ _ _ _ _ us hl => match us, hl with | [_, _, _, _, _], _ => rfl
  have m_wu := PySem.W.mg_of X G a_wu
  have F_oc := fun_mk (st := sOpenCells) l_oc c_oc k_oc
  have b_oc := F_oc.binds (ps := ["_law_script"]) fun _ _ _ _ _ _ us hl => match us, hl with | [_], _ => rfl
  have m_oc := PySem.W.mg_of X G a_oc
  have F_pk := fun_mk (st := sPick) l_pk c_pk k_pk
  have b_pk := F_pk.binds (ps := ["_law_source", "_law_many"]) fun _ _ _ _ _ _ us hl => match us, hl with | [_, _], _ => rfl
  have m_pk := PySem.W.mg_of X G a_pk
  have F_ao := fun_mk (st := sAnyOrder) l_ao c_ao k_ao
  have b_ao := F_ao.binds (ps := ["_law_source", "_law_items"]) fun _ _ _ _ _ _ us hl => match us, hl with | [_, _], _ => rfl
  have m_ao := PySem.W.mg_of X G a_ao
  have F_ch := fun_mk (st := sChoiceOf) l_ch c_ch k_ch
  have b_ch := F_ch.binds (ps := ["_law_source", "_law_items"]) fun _ _ _ _ _ _ us hl => match us, hl with | [_, _], _ => rfl
  have m_ch := PySem.W.mg_of X G a_ch
  have F_sh := fun_mk (st := sShapePairs) l_sh c_sh k_sh
  have b_sh := F_sh.binds (ps := ["_law_source", "_law_count"]) fun _ _ _ _ _ _ us hl => match us, hl with | [_, _], _ => rfl
  have m_sh := PySem.W.mg_of X G a_sh
  have F_dw := fun_mk (st := sDrawWorld) l_dw c_dw k_dw
  have b_dw := F_dw.binds (ps := ["_law_source", "_law_most"]) fun _ _ _ _ _ _ us hl => match us, hl with | [_, _], _ => rfl
  have m_dw := PySem.W.mg_of X G a_dw
  have F_ma := fun_mk (st := sMade) l_ma c_ma k_ma
  have b_ma := F_ma.binds (ps := ["_law_source", "_law_world"]) fun _ _ _ _ _ _ us hl => match us, hl with | [_, _], _ => rfl
  have m_ma := PySem.W.mg_of X G a_ma
  have F_lw := fun_mk (st := sLawWidth) l_lw c_lw k_lw
  have b_lw := F_lw.binds (ps := ["_law_world", "_law_one", "_law_other", "_law_kind"]) fun _ _ _ _ _ _ us hl => match us, hl with | [_, _, _, _], _ => rfl
  have m_lw := PySem.W.mg_of X G a_lw
  have F_pa := fun_mk (st := sParts) l_pa c_pa k_pa
  have b_pa := F_pa.binds (ps := ["_law_world"]) fun _ _ _ _ _ _ us hl => match us, hl with | [_], _ => rfl
  have m_pa := PySem.W.mg_of X G a_pa
  have F_se := fun_mk (st := sSeated) l_se c_se k_se
  have b_se := F_se.binds (ps := ["_law_source", "_law_world", "_law_led"]) fun _ _ _ _ _ _ us hl => match us, hl with | [_, _, _], _ => rfl
  have m_se := PySem.W.mg_of X G a_se
  have F_ov := fun_mk (st := sOver) l_ov c_ov k_ov
  have b_ov := F_ov.binds (ps := ["_law_source", "_law_world", "_law_numbers"]) fun _ _ _ _ _ _ us hl => match us, hl with | [_, _, _], _ => rfl
  have m_ov := PySem.W.mg_of X G a_ov
  have F_di := fun_mk (st := sDict) l_di c_di k_di
  have b_di := F_di.binds (ps := ["_law_source", "_law_over_here", "_law_web", "_law_led"]) fun _ _ _ _ _ _ us hl => match us, hl with | [_, _, _, _], _ => rfl
  have m_di := PySem.W.mg_of X G a_di
  have F_dr := fun_mk (st := sDrawnWay) l_dr c_dr k_dr
  have b_dr := F_dr.binds (ps := ["_law_source", "_law_world"]) fun _ _ _ _ _ _ us hl => match us, hl with | [_, _], _ => rfl
  have m_dr := PySem.W.mg_of X G a_dr
  have F_na := fun_mk (st := sNamed) l_na c_na k_na
  have b_na := F_na.binds (ps := ["_law_world", "_law_way"]) fun _ _ _ _ _ _ us hl => match us, hl with | [_, _], _ => rfl
  have m_na := PySem.W.mg_of X G a_na
  have F_pr := fun_mk (st := sProduct) l_pr c_pr k_pr
  have b_pr := F_pr.binds (ps := ["_law_world", "_law_value"]) fun _ _ _ _ _ _ us hl => match us, hl with | [_, _], _ => rfl
  have m_pr := PySem.W.mg_of X G a_pr
  have F_bo := fun_mk (st := sBoundOver) l_bo c_bo k_bo
  have b_bo := F_bo.binds (ps := ["_law_source", "_law_ground", "_law_most"]) fun _ _ _ _ _ _ us hl => match us, hl with | [_, _, _], _ => rfl
  have m_bo := PySem.W.mg_of X G a_bo
  have F_ad := fun_mk (st := sAnyDict) l_ad c_ad k_ad
  have b_ad := F_ad.binds (ps := ["_law_source", "_law_told"]) fun _ _ _ _ _ _ us hl => match us, hl with | [_, _], _ => rfl
  have m_ad := PySem.W.mg_of X G a_ad
  have F_mi := fun_mk (st := sWebInit) l_mi c_mi k_mi
  have b_mi := F_mi.binds (ps := ["self", "places", "ties"]) fun _ _ _ _ _ _ us hl => match us, hl with | [_, _, _], _ => rfl
  have F_mp := fun_mk (st := sWebPlaces) l_mp c_mp k_mp
  have b_mp := F_mp.binds (ps := ["self"]) fun _ _ _ _ _ _ us hl => match us, hl with | [_], _ => rfl
  have F_mc := fun_mk (st := sWebColour) l_mc c_mc k_mc
  have b_mc := F_mc.binds (ps := ["self", "name"]) fun _ _ _ _ _ _ us hl => match us, hl with | [_, _], _ => rfl
  have F_mt := fun_mk (st := sWebTies) l_mt c_mt k_mt
  have b_mt := F_mt.binds (ps := ["self"]) fun _ _ _ _ _ _ us hl => match us, hl with | [_], _ => rfl
  have F_mh := fun_mk (st := sWebHas) l_mh c_mh k_mh
  have b_mh := F_mh.binds (ps := ["self", "name"]) fun _ _ _ _ _ _ us hl => match us, hl with | [_, _], _ => rfl
  have F_ml := fun_mk (st := sWebLen) l_ml c_ml k_ml
  have b_ml := F_ml.binds (ps := ["self"]) fun _ _ _ _ _ _ us hl => match us, hl with | [_], _ => rfl
  have F_mw := fun_mk (st := sWebWidth) l_mw c_mw k_mw
  have b_mw := F_mw.binds (ps := ["self", "one", "other", "kind"]) fun _ _ _ _ _ _ us hl => match us, hl with | [_, _, _, _], _ => rfl
  have F_la := fun_mk (st := sLaw) l_la c_la k_la
  have b_bi : Binds K (PySem.W.ksFn "__init__" "BadNumber.__init__" (defArgs sBadNumberInit) (defBody sBadNumberInit) (defScope sBadNumberInit) .none kV_bi dc_bi pm_bi an_bi (.ref cda) ct_bi cc) ["self", "number"] [] := .all fun us hl => match us, hl with | [_, _], _ => rfl
  refine ⟨PySem.W.fnOf "law" "law" (defArgs sLaw) (defBody sLaw) (defScope sLaw) .none kV_la dc_la pm_la an_la cd_la ct_la, fun s v => .of_eq rfl, fun base _ _ => ?_⟩
  have G_pk := def_mk (ok_pick (P := l.prog) (w := w) (base := base) F_pk TA) m_pk k_pk b_pk
  have G_ao := def_mk (ok_any F_ao TB G_pk) m_ao k_ao b_ao
  have G_ch := def_mk (ok_choice F_ch TB G_pk) m_ch k_ch b_ch
  have G_oc := def_mk (ok_open (P := l.prog) (w := w) (base := base) F_oc TB) m_oc k_oc b_oc
  have G_sh := def_mk (ok_shape F_sh TB G_pk) m_sh k_sh b_sh
  have G_dw := def_mk (ok_draw F_dw TB G_pk G_ao G_sh G_ch) m_dw k_dw b_dw
  have G_isw := def_mk (ok_word (P := l.prog) (w := w) (base := base) F_isw TG) m_isw k_isw b_isw
  have G_isi := def_mk (ok_integer (P := l.prog) (w := w) (base := base) F_isi TG) m_isi k_isi b_isi
  have G_iz := def_mk (ok_int (P := l.prog) (w := w) (base := base) F_isi TG) m_isi k_isi b_isi
  have G_isn := def_mk (ok_number F_isn G_isi) m_isn k_isn b_isn
  have G_nw := def_mk (ok_needW F_nw TG G_isw) m_nw k_nw b_nw
  have G_no := def_mk (ok_once (P := l.prog) (w := w) (base := base) F_no TG) m_no k_no b_no
  have G_np := def_mk (ok_needP F_np TG G_nw G_no) m_np k_np b_np
  have G_ts := def_mk (ok_spot F_ts TH G_isw G_isn) m_ts k_ts b_ts
  have G_nt := def_mk (ok_needT F_nt TH G_ts) m_nt k_nt b_nt
  have G_ot := def_mk (ok_ord (P := l.prog) (w := w) (base := base) F_ot TH) m_ot k_ot b_ot
  have O_mi := ok_webI F_mi TW G_np G_nt G_ot
  have Q_mp : MethD l.prog w K mg base C "places" ["self"] 1 (spPlaces C) := ⟨f_mp, _, ok_places F_mp TW, ⟨a_mp, i_mp, k_mp⟩, b_mp⟩
  have Q_mt : MethD l.prog w K mg base C "ties" ["self"] 1 (spTies C) := ⟨f_mt, _, ok_ties F_mt TW, ⟨a_mt, i_mt, k_mt⟩, b_mt⟩
  have Q_mh : MethD l.prog w K mg base C "__contains__" ["self", "name"] 1 (spHas C) := ⟨f_mh, _, ok_has F_mh TW, ⟨a_mh, i_mh, k_mh⟩, b_mh⟩
  have Q_ml : MethD l.prog w K mg base C "__len__" ["self"] 1 (spLen C) := ⟨f_ml, _, ok_len F_ml TW, ⟨a_ml, i_ml, k_ml⟩, b_ml⟩
  have Q_mc : MethD l.prog w K mg base C "colour" ["self", "name"] 2 (spColour C) := ⟨f_mc, _, ok_colour F_mc TW Q_mh, ⟨a_mc, i_mc, k_mc⟩, b_mc⟩
  have Q_mw : MethD l.prog w K mg base C "width" ["self", "one", "other", "kind"] 2 (spWidth C) := ⟨f_mw, _, ok_width F_mw TW Q_mh, ⟨a_mw, i_mw, k_mw⟩, b_mw⟩
  have G_ma := def_mk (ok_made F_ma TM G_pk G_ao O_mi b_mi) m_ma k_ma b_ma
  have G_ke := def_mk (ok_kept (P := l.prog) (w := w) (base := base) F_ke TKe) m_ke k_ke b_ke
  have TBad : TxtBad l.prog w K mg base CB := ⟨mB, OX, XF, nu_B, ⟨f_bi, _, a_bi, t_bi, ok_badI SF XF nu_B (none_ z_super) G_ke, b_bi⟩⟩
  have O_nu := ok_needTu F_nu (none_ z_len) (none_ z_enumerate) TBad G_iz
  have O_tc := ok_tc F_tc TM TBad TT ⟨_, _, O_nu, m_nu, k_nu, b_nu⟩ Q_mt Q_mp Q_mc Q_ml O_mi b_mi
  have TL : TxtL27 K mg C f_mi := ⟨TM⟩
  have G_pz := def_mk (ok_pickZ (P := l.prog) (w := w) (base := base) F_pk TA) m_pk k_pk b_pk
  have G_pa := def_mk (ok_parts (P := l.prog) (w := w) (base := base) F_pa TC) m_pa k_pa b_pa
  have G_se := def_mk (ok_seat F_se TD G_ao) m_se k_se b_se
  have G_ov := def_mk (ok_over F_ov TD G_pz G_pa G_se) m_ov k_ov b_ov
  have G_bo := def_mk (ok_bo F_bo TE G_pk G_ov) m_bo k_bo b_bo
  have G_ad := def_mk (ok_anyDict F_ad TF G_ao) m_ad k_ad b_ad
  have G_di := def_mk (ok_dict F_di TF G_ad) m_di k_di b_di
  have G_po := def_mk (ok_placesOver F_po TW Q_mp) m_po k_po b_po
  have G_be := def_mk (ok_behind (P := l.prog) (w := w) (base := base) F_be) m_be k_be b_be
  have G_ny := def_mk (ok_needWay F_ny TW Q_mh Q_mw) m_ny k_ny b_ny
  have G_wp := def_mk (ok_wayP F_wp TW G_ny Q_mw) m_wp k_wp b_wp
  have G_wu := def_mk (ok_waysUp F_wu TW Q_mh G_ny Q_mw G_po) m_wu k_wu b_wu
  have G_lw := def_mk (ok_lw (P := l.prog) (w := w) (base := base) F_lw (none_ z_min) (none_ z_max)) m_lw k_lw b_lw
  have G_na := def_mk (ok_named (P := l.prog) (w := w) (base := base) F_na (none_ z_tuple) (none_ z_isinstance) (none_ z_str)) m_na k_na b_na
  have G_pr := def_mk (ok_lp F_pr (none_ z_range) (none_ z_len) G_lw) m_pr k_pr b_pr
  have G_dr := def_mk (ok_dw F_dr TE G_pk G_ch) m_dr k_dr b_dr
  exact ok_law27 F_la TL G_oc G_pk G_ch G_dw G_ma G_di G_ad G_bo G_dr G_na G_pr G_wp G_wu G_be F_tc O_tc m_tc Q_mp Q_mt
theorem walk {l : PySem.W.OpenLaw} {q : Program} {loose : List Str} {XP : (Str → Option Value) → Heap → Prop} {YP : World → Heap → Prop} {d : DefRec} {K : Params → PySem.W.Frag} (hn : l.most = some 63) (hdf : d.params.defaults = []) (hY : ∀ (w : World) (h : Heap), YP w h → (K w.params).In h)
    (F : ∀ (w : World) (mg : Str → Option Value) (fa : Addr) (h : Heap), (K w.params).In h → h.Ns mainGlobals mg → mg d.name = some (.ref fa) → ∃ fd : FuncData, (∀ (s : Shared) (u : Value), BindsTo s fd ⟨[u], []⟩ [("_law_script", u)]) ∧ ∀ base : Heap, (K w.params).In base → base.Ns mainGlobals mg → FnOk l.prog w (K w.params) mg base CX0 8 fa fd ["_law_script"] (spLaw27 (K w.params))) :
    PySem.W.WalkO q loose XP YP l.row.toRowW d [] (fun f vs => PySem.call f vs) :=
  L2.walk_of (n := 63) (k := 8) (x := "_law_script") (CX := fun _ => CX0) (sp := fun w => spLaw27 (K w.params)) hn (by decide) hdf ⟨rfl, by decide, by decide⟩ hY F (fun _ _ a ns hl _ hS => ⟨a, ns, rfl, hS, hl, fun _ => rfl⟩) fun _ _ _ _ _ z => z
end Nm
open PySem PySem.W PyProof.Rows in
set_option maxRecDepth 100000 in
set_option maxHeartbeats 0 in
theorem PySem.Challenge.cw_namelessly_k27_whole_ways_products_holds : PySem.Challenge.rw_namelessly_k27_whole_ways_products.Holds := by
  w_on; o_law; k_head; (case hw => w_witness2)
  k_fill
  refine Nm.walk (l := PySem.Challenge.rw_namelessly_k27_whole_ways_products) rfl rfl (fun w h Y => PySem.W.kIn_of Y) ?F
  case F =>
    intro w mg fa h KX G hmg
    refine' Nm.all_mk KX G hmg ?a_isw ?l_isw ?c_isw ?k_isw ?a_isi ?l_isi ?c_isi ?k_isi ?a_isn ?l_isn ?c_isn ?k_isn ?a_ke ?l_ke ?c_ke ?k_ke ?a_nw ?l_nw ?c_nw ?k_nw ?a_no ?l_no ?c_no ?k_no ?a_np ?l_np ?c_np ?k_np ?a_ts ?l_ts ?c_ts ?k_ts ?a_nt ?l_nt ?c_nt ?k_nt ?a_ot ?l_ot ?c_ot ?k_ot ?a_nu ?l_nu ?c_nu ?k_nu ?a_po ?l_po ?c_po ?k_po ?a_be ?l_be ?c_be ?k_be ?a_ny ?l_ny ?c_ny ?k_ny ?a_wp ?l_wp ?c_wp ?k_wp ?a_wu ?l_wu ?c_wu ?k_wu ?a_oc ?l_oc ?c_oc ?k_oc ?a_pk ?l_pk ?c_pk ?k_pk ?a_ao ?l_ao ?c_ao ?k_ao ?a_ch ?l_ch ?c_ch ?k_ch ?a_sh ?l_sh ?c_sh ?k_sh ?a_dw ?l_dw ?c_dw ?k_dw ?a_ma ?l_ma ?c_ma ?k_ma ?a_lw ?l_lw ?c_lw ?k_lw ?a_pa ?l_pa ?c_pa ?k_pa ?a_se ?l_se ?c_se ?k_se ?a_ov ?l_ov ?c_ov ?k_ov ?a_di ?l_di ?c_di ?k_di ?a_dr ?l_dr ?c_dr ?k_dr ?a_na ?l_na ?c_na ?k_na ?a_pr ?l_pr ?c_pr ?k_pr ?a_bo ?l_bo ?c_bo ?k_bo ?a_ad ?l_ad ?c_ad ?k_ad ?a_mi ?i_mi ?l_mi ?c_mi ?k_mi ?a_mp ?i_mp ?l_mp ?c_mp ?k_mp ?a_mc ?i_mc ?l_mc ?c_mc ?k_mc ?a_mt ?i_mt ?l_mt ?c_mt ?k_mt ?a_mh ?i_mh ?l_mh ?c_mh ?k_mh ?a_ml ?i_ml ?l_ml ?c_ml ?k_ml ?a_mw ?i_mw ?l_mw ?c_mw ?k_mw ?a_la ?l_la ?c_la ?k_la ?a_bi ?t_bi ?l_bi ?c_bi ?l_b ?v_b ?fi_b ?l_cc ?d_B ?m_B ?sV ?su_B ?opq ?top_s ?l_B ?r_B ?sa_B ?ex_B ?ty_B ?kp_B ?sb_B ?ga_B ?gg_B ?hd_B ?nu_B ?z_B ?d_T ?q_T ?kp_T ?ex_T ?ty_T ?st_T ?sb_T ?z_T ?a_tc ?l_tc ?c_tc ?k_tc ?n_tc ?z_len ?z_int ?z_list ?z_range ?z_abs ?z_sorted ?z_dict ?z_enumerate ?z_str ?z_max ?z_min ?z_set ?z_sum ?z_zip ?z_isinstance ?z_all ?z_bool ?z_tuple ?z_super ?z_letters ?z_digits ?z_C ?pg ?hd ?po ?sa ?mk ?kc ?nCo ?nNa ?nTi ?nWi
    (case z_C => k_is)
    (case z_B => k_is)
    (case z_T => k_is)
    (case a_isw => k_is)
    (case l_isw => k_is)
    (case c_isw => k_is)
    (case k_isw => k_is)
    (case a_isi => k_is)
    (case l_isi => k_is)
    (case c_isi => k_is)
    (case k_isi => k_is)
    (case a_isn => k_is)
    (case l_isn => k_is)
    (case c_isn => k_is)
    (case k_isn => k_is)
    (case a_ke => k_is)
    (case l_ke => k_is)
    (case c_ke => k_is)
    (case k_ke => k_is)
    (case a_nw => k_is)
    (case l_nw => k_is)
    (case c_nw => k_is)
    (case k_nw => k_is)
    (case a_no => k_is)
    (case l_no => k_is)
    (case c_no => k_is)
    (case k_no => k_is)
    (case a_np => k_is)
    (case l_np => k_is)
    (case c_np => k_is)
    (case k_np => k_is)
    (case a_ts => k_is)
    (case l_ts => k_is)
    (case c_ts => k_is)
    (case k_ts => k_is)
    (case a_nt => k_is)
    (case l_nt => k_is)
    (case c_nt => k_is)
    (case k_nt => k_is)
    (case a_ot => k_is)
    (case l_ot => k_is)
    (case c_ot => k_is)
    (case k_ot => k_is)
    (case a_nu => k_is)
    (case l_nu => k_is)
    (case c_nu => k_is)
    (case k_nu => k_is)
    (case a_po => k_is)
    (case l_po => k_is)
    (case c_po => k_is)
    (case k_po => k_is)
    (case a_be => k_is)
    (case l_be => k_is)
    (case c_be => k_is)
    (case k_be => k_is)
    (case a_ny => k_is)
    (case l_ny => k_is)
    (case c_ny => k_is)
    (case k_ny => k_is)
    (case a_wp => k_is)
    (case l_wp => k_is)
    (case c_wp => k_is)
    (case k_wp => k_is)
    (case a_wu => k_is)
    (case l_wu => k_is)
    (case c_wu => k_is)
    (case k_wu => k_is)
    (case a_oc => k_is)
    (case l_oc => k_is)
    (case c_oc => k_is)
    (case k_oc => k_is)
    (case a_pk => k_is)
    (case l_pk => k_is)
    (case c_pk => k_is)
    (case k_pk => k_is)
    (case a_ao => k_is)
    (case l_ao => k_is)
    (case c_ao => k_is)
    (case k_ao => k_is)
    (case a_ch => k_is)
    (case l_ch => k_is)
    (case c_ch => k_is)
    (case k_ch => k_is)
    (case a_sh => k_is)
    (case l_sh => k_is)
    (case c_sh => k_is)
    (case k_sh => k_is)
    (case a_dw => k_is)
    (case l_dw => k_is)
    (case c_dw => k_is)
    (case k_dw => k_is)
    (case a_ma => k_is)
    (case l_ma => k_is)
    (case c_ma => k_is)
    (case k_ma => k_is)
    (case a_lw => k_is)
    (case l_lw => k_is)
    (case c_lw => k_is)
    (case k_lw => k_is)
    (case a_pa => k_is)
    (case l_pa => k_is)
    (case c_pa => k_is)
    (case k_pa => k_is)
    (case a_se => k_is)
    (case l_se => k_is)
    (case c_se => k_is)
    (case k_se => k_is)
    (case a_ov => k_is)
    (case l_ov => k_is)
    (case c_ov => k_is)
    (case k_ov => k_is)
    (case a_di => k_is)
    (case l_di => k_is)
    (case c_di => k_is)
    (case k_di => k_is)
    (case a_dr => k_is)
    (case l_dr => k_is)
    (case c_dr => k_is)
    (case k_dr => k_is)
    (case a_na => k_is)
    (case l_na => k_is)
    (case c_na => k_is)
    (case k_na => k_is)
    (case a_pr => k_is)
    (case l_pr => k_is)
    (case c_pr => k_is)
    (case k_pr => k_is)
    (case a_bo => k_is)
    (case l_bo => k_is)
    (case c_bo => k_is)
    (case k_bo => k_is)
    (case a_ad => k_is)
    (case l_ad => k_is)
    (case c_ad => k_is)
    (case k_ad => k_is)
    (case a_mi => k_is)
    (case i_mi => k_is)
    (case l_mi => k_is)
    (case c_mi => k_is)
    (case k_mi => k_is)
    (case a_mp => k_is)
    (case i_mp => k_is)
    (case l_mp => k_is)
    (case c_mp => k_is)
    (case k_mp => k_is)
    (case a_mc => k_is)
    (case i_mc => k_is)
    (case l_mc => k_is)
    (case c_mc => k_is)
    (case k_mc => k_is)
    (case a_mt => k_is)
    (case i_mt => k_is)
    (case l_mt => k_is)
    (case c_mt => k_is)
    (case k_mt => k_is)
    (case a_mh => k_is)
    (case i_mh => k_is)
    (case l_mh => k_is)
    (case c_mh => k_is)
    (case k_mh => k_is)
    (case a_ml => k_is)
    (case i_ml => k_is)
    (case l_ml => k_is)
    (case c_ml => k_is)
    (case k_ml => k_is)
    (case a_mw => k_is)
    (case i_mw => k_is)
    (case l_mw => k_is)
    (case c_mw => k_is)
    (case k_mw => k_is)
    (case a_la => k_is)
    (case l_la => k_is)
    (case c_la => k_is)
    (case k_la => k_is)
    (case a_bi => k_is)
    (case t_bi => k_is)
    (case l_bi => k_is)
    (case c_bi => k_is)
    (case l_b => k_is)
    (case v_b => rfl)
    (case fi_b => decide +kernel)
    (case l_cc => k_is)
    (case d_B => k_is)
    (case m_B => k_is)
    (case sV => k_is)
    (case su_B => ks_is)
    (case opq => k_is)
    (case top_s => decide +kernel)
    (case l_B => k_is)
    (case r_B => decide +kernel)
    (case sa_B => k_is)
    (case ex_B => k_is)
    (case ty_B => k_is)
    (case kp_B => k_is)
    (case sb_B => k_is)
    (case ga_B => k_is)
    (case gg_B => k_is)
    (case hd_B => k_is)
    (case nu_B => k_is)
    (case d_T => k_is)
    (case q_T => kernel_rfl)
    (case kp_T => k_is)
    (case ex_T => k_is)
    (case ty_T => k_is)
    (case st_T => k_is)
    (case sb_T => k_is)
    (case a_tc => k_is)
    (case l_tc => k_is)
    (case c_tc => k_is)
    (case k_tc => k_is)
    (case n_tc => k_is)
    (case z_len => k_is)
    (case z_int => k_is)
    (case z_list => k_is)
    (case z_range => k_is)
    (case z_abs => k_is)
    (case z_sorted => k_is)
    (case z_dict => k_is)
    (case z_enumerate => k_is)
    (case z_str => k_is)
    (case z_max => k_is)
    (case z_min => k_is)
    (case z_set => k_is)
    (case z_sum => k_is)
    (case z_zip => k_is)
    (case z_isinstance => k_is)
    (case z_all => k_is)
    (case z_bool => k_is)
    (case z_tuple => k_is)
    (case z_super => k_is)
    (case z_letters => k_is)
    (case z_digits => k_is)
    (case pg => k_is)
    (case hd => k_is)
    (case po => k_is)
    (case sa => k_is)
    (case mk => k_is)
    (case kc => k_is)
    (case nCo => k_is)
    (case nNa => k_is)
    (case nTi => k_is)
    (case nWi => k_is)
