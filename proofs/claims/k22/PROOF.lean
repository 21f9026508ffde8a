import PyProof.Rows.All
import Wide.All
import OpenK.AllK
import Wide.FinOn
import HandS.ForMost
import PySem.Challenge.RW_namelessly_k22_places_over
import HandS.Evl
import HandS.Style
import HandS.StrMore
import HandS.Walk
import HandS.Sort
import HandS.SortRule
import HandS.Conv
import HandS.Zip
import HandS.IsInst
import HandS.SetKeys
import HandS.DictComp
import KE.KDictZip
import PyProof.ListNew
import HandS.TupSets
import HandS.DeepEq
import KE.KEqDict
import PyProof.CallFns
import PyProof.NeKinds
import HandS.TupLe
set_option Elab.async false
set_option maxRecDepth 100000
set_option maxHeartbeats 4000000
/-! The text by places -/
namespace Nm
open PySem L2
def top (i : Nat) : Stmt := PySem.Challenge.pw_namelessly_k22_places_over.main.body.getD i (.Pass ⟨0, 0, 0, 0⟩)
abbrev sIsWord : Stmt := top 4
abbrev sIsInteger : Stmt := top 5
abbrev sIsNumber : Stmt := top 6
abbrev sPlacesOver : Stmt := top 17
abbrev sNeedWord : Stmt := top 21
abbrev sNeedOnce : Stmt := top 22
abbrev sNeedPlaces : Stmt := top 23
abbrev sTieSpot : Stmt := top 24
abbrev sNeedTies : Stmt := top 25
abbrev sOrderedTies : Stmt := top 26
abbrev sOpenCells : Stmt := top 29
abbrev sPick : Stmt := top 30
abbrev sAnyOrder : Stmt := top 31
abbrev sChoiceOf : Stmt := top 32
abbrev sShapePairs : Stmt := top 33
abbrev sDrawWorld : Stmt := top 34
abbrev sMade : Stmt := top 35
abbrev sParts : Stmt := top 36
abbrev sSeated : Stmt := top 37
abbrev sOver : Stmt := top 38
abbrev sCopiedOver : Stmt := top 39
abbrev sDict : Stmt := top 40
abbrev sAbove : Stmt := top 41
abbrev sLooseWorld : Stmt := top 42
abbrev sAnyDict : Stmt := top 43
abbrev sLaw : Stmt := top 44
abbrev sWebInit : Stmt := inClass (top 27) 0
abbrev sWebPlaces : Stmt := inClass (top 27) 1
abbrev sIsOnto : Stmt := top 18
abbrev sIsSpread : Stmt := top 19
end Nm
set_option maxRecDepth 100000
set_option maxHeartbeats 4000000
namespace Nm
open PySem L2
/-! ### the source of draws -/
def srcD (c : Addr) (left mixed turn : Int) : List (Key × V) :=
  [(Sum.inr "cells", V.ref c), (Sum.inr "left", V.int left), (Sum.inr "mixed", V.int mixed), (Sum.inr "turn", V.int turn)]
structure SrcOk (H : Hp) (s c : Addr) (cs : List Int) (left mixed turn : Int) : Prop where
  ds : H s = some (.dK (srcD c left mixed turn))
  dc : H c = some (.lst (cs.map V.int))
  nn : ∀ x ∈ cs, 0 ≤ x
  len : cs.length ≤ 63
  l0 : 0 ≤ left
  m0 : 0 ≤ mixed
  m1 : mixed < 2147483629
  t0 : 0 ≤ turn
def Src (H : Hp) (s c : Addr) : Prop := ∃ cs left mixed turn, SrcOk H s c cs left mixed turn
/-- all but the source stays -/
def Kp (s c : Addr) (H H' : Hp) : Prop := ∀ b o, H b = some o → b ≠ s → b ≠ c → H' b = some o
theorem Kp.refl {s c : Addr} (H : Hp) : Kp s c H H := fun _ _ h _ _ => h
theorem Kp.trans {s c : Addr} {H H1 H2 : Hp} (a : Kp s c H H1) (b : Kp s c H1 H2) : Kp s c H H2 := fun x o h h1 h2 => b x o (a x o h h1 h2) h1 h2
theorem Kp.same {s c : Addr} {H H1 : Hp} (a : Same H H1) : Kp s c H H1 := fun x o h _ _ => a x o h
theorem Kp.new {s c : Addr} {H H1 : Hp} (a : Kp s c H H1) {p : Addr} {o : HO} (h : H1 p = none) : Kp s c H (upd H1 p o) := fun x u e h1 h2 => by
  have := a x u e h1 h2
  rw [upd_ne (ne_of_none this h)]
  exact this
theorem Src.upd {H : Hp} {s c p : Addr} {o : HO} (S : Src H s c) (h1 : p ≠ s) (h2 : p ≠ c) : Src (upd H p o) s c := by
  obtain ⟨cs, l, m, t, S⟩ := S
  exact ⟨cs, l, m, t, ⟨by rw [upd_ne h1.symm]; exact S.ds, by rw [upd_ne h2.symm]; exact S.dc, S.nn, S.len, S.l0, S.m0, S.m1, S.t0⟩⟩
theorem Src.same {H H' : Hp} {s c : Addr} (S : Src H s c) (e : Same H H') : Src H' s c := by
  obtain ⟨cs, l, m, t, S⟩ := S
  exact ⟨cs, l, m, t, ⟨e _ _ S.ds, e _ _ S.dc, S.nn, S.len, S.l0, S.m0, S.m1, S.t0⟩⟩
theorem Src.ne {H : Hp} {s c p : Addr} (S : Src H s c) (h : H p = none) : p ≠ s ∧ p ≠ c := by
  obtain ⟨cs, l, m, t, S⟩ := S
  exact ⟨(ne_of_none S.ds h).symm, (ne_of_none S.dc h).symm⟩
theorem Src.new {H : Hp} {s c p : Addr} {o : HO} (S : Src H s c) (h : H p = none) : Src (L2.upd H p o) s c := S.upd (S.ne h).1 (S.ne h).2
theorem tyes {σ : St} {H : Hp} {A B : Hp → Prop} (h : A H) : tYes σ H (fun b H3 => if b = true then A H3 else B H3) := by
  show (if true = true then A H else B H)
  rw [if_pos rfl]
  exact h
/-- what is new since H, and stays where only the source changes -/
theorem Kp.off {H H1 : Hp} {s c p : Addr} {o : HO} (a : Kp s c H H1) (h : H p = none) : Kp s c H (L2.upd H1 p o) := fun b u e h1 h2 => by
  rw [upd_ne (ne_of_none e h)]
  exact a b u e h1 h2
theorem Kp.free {H H1 : Hp} {s c p : Addr} (a : Kp s c H H1) (S : Src H1 s c) (h : H1 p = none) : H p = none := by
  cases q : H p with
  | none => rfl
  | some o =>
    obtain ⟨n1, n2⟩ := S.ne h
    rw [a p o q n1 n2] at h
    cases h
theorem same_new {H : Hp} {p : Addr} {o : HO} (h : H p = none) : Same H (upd H p o) := fun x u e => by
  rw [upd_ne (ne_of_none e h)]
  exact e
theorem k1 : ¬ (("cells" : Str) = "left") := by decide +kernel
theorem k2 : ¬ (("cells" : Str) = "mixed") := by decide +kernel
theorem k3 : ¬ (("cells" : Str) = "turn") := by decide +kernel
theorem k4 : ¬ (("left" : Str) = "mixed") := by decide +kernel
theorem k5 : ¬ (("left" : Str) = "turn") := by decide +kernel
theorem k6 : ¬ (("mixed" : Str) = "turn") := by decide +kernel
theorem k4' : ¬ (("mixed" : Str) = "left") := by decide +kernel
theorem k5' : ¬ (("turn" : Str) = "left") := by decide +kernel
section
variable {c : Addr} {l m t : Int}
theorem src_cells : valV (srcD c l m t) (Sum.inr "cells" : Key) = some (.ref c) := valV_pos rfl
theorem inr_ne {x y : Str} (h : ¬ x = y) : ¬ (Sum.inr x : Key) = Sum.inr y := fun e => h (Sum.inr.inj e)
theorem src_left : valV (srcD c l m t) (Sum.inr "left" : Key) = some (.int l) := by
  unfold srcD
  rw [valV_neg (inr_ne k1)]
  exact valV_pos rfl
theorem src_mixed : valV (srcD c l m t) (Sum.inr "mixed" : Key) = some (.int m) := by
  unfold srcD
  rw [valV_neg (inr_ne k2), valV_neg (inr_ne k4)]
  exact valV_pos rfl
theorem src_turn : valV (srcD c l m t) (Sum.inr "turn" : Key) = some (.int t) := by
  unfold srcD
  rw [valV_neg (inr_ne k3), valV_neg (inr_ne k5), valV_neg (inr_ne k6)]
  exact valV_pos rfl
theorem put_left {z : Int} : putK (srcD c l m t) (Sum.inr "left" : Key) (.int z) = srcD c z m t := by
  unfold putK srcD
  simp [k1, k4', k5']
theorem put_turn {z : Int} : putK (srcD c l m t) (Sum.inr "turn" : Key) (.int z) = srcD c l m z := by
  unfold putK srcD
  simp [k3, k5, k6]
theorem src_len : (srcD c l m t).length < sizeLine := by show 4 < sizeLine; decide
end
/-! ### _law_pick -/
def spPick : Sp := fun vs H Q _ => ∃ (s c : Addr) (n : Int), vs = [.ref s, .int n] ∧ Src H s c ∧ 1 ≤ n ∧ n < 1073741824 ∧
  ∀ (k : Int) (H' : Hp), 0 ≤ k → k < n → Src H' s c → Kp s c H H' → Q (.int k) H'
theorem scPick : FnScope ["_law_source", "_law_many", "_law_cells", "_law_left", "_law_turn", "_law_mixed"] ["_law_source", "_law_many"] (defScope sPick) := ⟨rfl, rfl, rfl, by decide +kernel, rfl, by decide +kernel, by decide +kernel⟩
structure TxtA (mg : Str → Option Value) : Prop where
  len : mg "len" = none
  int : mg "int" = none
section
variable {P : Program} {w : World} {K : PySem.W.Frag} {mg : Str → Option Value} {base : Heap}
theorem ok_pick {f : Addr} {fd : FuncData} (F : Fun K "_law_pick" "_law_pick" sPick f fd) (T : TxtA mg) : FnOk P w K mg base CX0 1 f fd ["_law_source", "_law_many"] spPick := by
  refine F.ok scPick (fun vs H Q E h => ?_) (fun cdv A outer s H vs Q E hr h => ?_)
  · obtain ⟨p, dx, n, rfl, _⟩ := h
    rfl
  · obtain ⟨sa, ca, n, rfl, ⟨cs, l, m, t, S⟩, n1, n2, k⟩ := h
    have hu := hu_of hr
    refine ⟨_, pss_cons (ps_if (pt_cmpR op_lt (pv 1) pe_int (nomark _)) (pss_one (ps_ret pe_int)) pss_nil)
      (pss_cons (ps_set (i := 2) scPick.nd rfl (Or.inl rfl) (pe_dget hu (pv 0) pe_str (fun _ _ => rfl)))
      (Evl.pss_cut (ps_while PassesOwn.never (PW.pt (pw_and (pt_cmpR op_lt (pe_dget hu (pv 0) pe_str (fun _ _ => rfl)) pe_int (nomark _)) (pw_and1 (pt_cmpR op_gt (pe_callB call_len_seq (by rfl) T.len PySem.boot_len (pa_cons (pv 2) pa_nil)) pe_int (nomark _)))))
        (pss_one (ps_dput hu (pv 0) pe_str (pe_bm0 PySem.F.plainAttrs_list PySem.F.slot_list_pop PySem.F.type_list_pop mt_pop (pv 2)) rfl)))
      (pss_cons (ps_set (i := 3) scPick.nd rfl (Or.inl rfl) (pe_dget hu (pv 0) pe_str (fun _ _ => rfl)))
      (pss_cons (ps_if (pt_cmpR op_gt (pv 3) pe_int (nomark _))
        (pss_cons (ps_dput hu (pv 0) pe_str (pe_op op_fdiv (pv 3) (pv 1)) rfl) (pss_one (ps_ret (pe_op op_mod (pe_callTy call_int1 (by rfl) T.int (by decide +kernel) (pa_cons (pv 3) pa_nil)) (pv 1))))) pss_nil)
      (pss_cons (ps_dput hu (pv 0) pe_str (pe_op op_add (pe_dget hu (pv 0) pe_str (fun _ _ => rfl)) pe_int) rfl)
      (pss_cons (ps_set (i := 4) scPick.nd rfl (Or.inl rfl) (pe_dget hu (pv 0) pe_str (fun _ _ => rfl)))
      (pss_cons (ps_set (i := 5) scPick.nd rfl (Or.inl rfl) (pe_op op_mod (pe_callTy call_int1 (by rfl) T.int (by decide +kernel) (pa_cons (pe_op op_add (pe_dget hu (pv 0) pe_str (fun _ _ => rfl)) (pe_op op_mul (pv 4) pe_int)) pa_nil)) pe_int))
      (pss_cons (ps_set (i := 5) scPick.nd rfl (Or.inl rfl) (pe_op op_mod (pe_callTy call_int1 (by rfl) T.int (by decide +kernel) (pa_cons (pe_op op_add (pe_op op_mul (pv 5) (pv 5)) (pe_op op_mul (pv 4) pe_int)) pa_nil)) pe_int))
      (pss_one (ps_ret (pe_op op_mod (pe_callTy call_int1 (by rfl) T.int (by decide +kernel) (pa_cons (pe_op op_fdiv (pv 5) pe_int) pa_nil)) (pv 1)))))))))))), ?_⟩
    -- if many < 2: return 0
    refine ⟨_, rfl, _, _, rfl, rfl, _, rfl, ?_⟩
    refine ite2 (fun h1 => k 0 H (by omega) (by omega) ⟨cs, l, m, t, S⟩ (Kp.refl H)) (fun h1 => ?_)
    have hn2 : 2 ≤ n := by
      have := of_decide_eq_false (Bool.eq_false_iff.mpr h1)
      omega
    have hsc : sa ≠ ca := ne_of S.ds S.dc (by intro z; cases z)
    -- cells
    refine ⟨_, rfl, sa, _, rfl, (by rw [← src_cells (l := l) (m := m) (t := t)]; exact DGet.k (k := Sum.inr "cells") S.ds), ?_⟩
    -- while
    refine ⟨fun σ H' => ∃ cs' l', σ = [some (.ref sa), some (.int n), some (.ref ca), none, none, none] ∧ SrcOk H' sa ca cs' l' m t ∧ Kp sa ca H H', ?_, ?_⟩
    · refine ⟨fun mm σ H' => ∃ cs' l', mm = cs'.length ∧ σ = [some (.ref sa), some (.int n), some (.ref ca), none, none, none] ∧ SrcOk H' sa ca cs' l' m t ∧ Kp sa ca H H', ⟨_, cs, l, rfl, rfl, S, Kp.refl H⟩, ?_⟩
      rintro mm σ H1 ⟨cs', l', rfl, rfl, S1, kp⟩
      have dl : DGet H1 sa (V.str "left") (some (.int l')) := by rw [← src_left (c := ca) (m := m) (t := t)]; exact DGet.k (k := Sum.inr "left") S1.ds
      refine ⟨_, rfl, sa, _, rfl, dl, _, _, rfl, rfl, _, rfl, ?_⟩
      refine ite2 (fun hl => ?_) (fun hl => iteF ⟨cs', l', rfl, S1, kp⟩)
      refine ⟨_, rfl, ca, _, rfl, .inl (SqL.of S1.dc), _, _, rfl, rfl, _, rfl, ?_⟩
      refine ite2 (fun hc => ?_) (fun hc => ⟨cs', l', rfl, S1, kp⟩)
      have hc' : 0 < cs'.length := by
        have := of_decide_eq_true hc
        rw [List.length_map] at this
        omega
      obtain ⟨y, hy⟩ : ∃ y, cs'[cs'.length - 1]? = some y := ⟨_, List.getElem?_eq_getElem (by omega)⟩
      have hym : y ∈ cs' := List.mem_of_getElem? hy
      refine ⟨fun σ H' => ∃ cs2 l2, cs2.length < cs'.length ∧ σ = [some (.ref sa), some (.int n), some (.ref ca), none, none, none] ∧ SrcOk H' sa ca cs2 l2 m t ∧ Kp sa ca H H', fun σ' H' ⟨cs2, l2, a1, a2, a3, a4⟩ => ⟨_, a1, cs2, l2, rfl, a2, a3, a4⟩, ?_⟩
      refine ⟨_, rfl, .inl ⟨rfl, _, SqL.of S1.dc⟩, ca, _, .int y, rfl, rfl, S1.dc, (by rw [List.length_map, List.getElem?_map, hy]; rfl), ?_⟩
      have ds2 : (upd H1 ca (.lst (cs'.map V.int).dropLast)) sa = some (.dK (srcD ca l' m t)) := by rw [upd_ne hsc]; exact S1.ds
      refine ⟨_, rfl, sa, _, rfl, DPut.k (k := Sum.inr "left") ds2 src_len, ?_⟩
      refine ⟨cs'.dropLast, y, (by rw [List.length_dropLast]; omega), rfl, ⟨by rw [upd_same, put_left], by rw [upd_ne hsc.symm, upd_same, List.map_dropLast], fun x hx => S1.nn x ((List.dropLast_sublist cs').subset hx), (by rw [List.length_dropLast]; have := S1.len; omega), S1.nn y hym, S1.m0, S1.m1, S1.t0⟩, fun b o e h1 h2 => ?_⟩
      rw [upd_ne h1, upd_ne h2]
      exact kp b o e h1 h2
    rintro σ H1 ⟨cs', l', rfl, S1, kp⟩
    have dl : DGet H1 sa (V.str "left") (some (.int l')) := by rw [← src_left (c := ca) (m := m) (t := t)]; exact DGet.k (k := Sum.inr "left") S1.ds
    refine ⟨_, rfl, sa, _, rfl, dl, ?_⟩
    refine ⟨_, rfl, _, _, rfl, rfl, _, rfl, ?_⟩
    refine ite2 (fun h2 => ?_) (fun h2 => ?_)
    · -- left // many
      have hl2 : 1 < l' := of_decide_eq_true h2
      refine ⟨_, rfl, _, rfl, _, _, rfl, rfl, ⟨by omega, by omega⟩, _, rfl, sa, _, rfl, DPut.k (k := Sum.inr "left") S1.ds src_len, ?_⟩
      refine ⟨_, rfl, .inl ⟨_, rfl, _, rfl, _, _, rfl, rfl, by omega, ?_⟩⟩
      refine k _ _ (Int.emod_nonneg _ (by omega)) (Int.emod_lt_of_pos _ (by omega)) ⟨cs', l' / n, m, t, ⟨by rw [upd_same, put_left], by rw [upd_ne hsc.symm]; exact S1.dc, S1.nn, S1.len, Int.ediv_nonneg (by omega) (by omega), S1.m0, S1.m1, S1.t0⟩⟩ fun b o e h1 h2 => ?_
      rw [upd_ne h1]
      exact kp b o e h1 h2
    · have dt : DGet H1 sa (V.str "turn") (some (.int t)) := by rw [← src_turn (c := ca) (m := m) (l := l')]; exact DGet.k (k := Sum.inr "turn") S1.ds
      refine ⟨_, rfl, sa, _, rfl, dt, _, _, rfl, rfl, _, rfl, sa, _, rfl, DPut.k (k := Sum.inr "turn") S1.ds src_len, ?_⟩
      rw [put_turn]
      have S2 : SrcOk (upd H1 sa (.dK (srcD ca l' m (t + 1)))) sa ca cs' l' m (t + 1) := ⟨upd_same, by rw [upd_ne hsc.symm]; exact S1.dc, S1.nn, S1.len, S1.l0, S1.m0, S1.m1, by have := S1.t0; omega⟩
      have dt2 : DGet (upd H1 sa (.dK (srcD ca l' m (t + 1)))) sa (V.str "turn") (some (.int (t + 1))) := by rw [← src_turn (c := ca) (m := m) (l := l')]; exact DGet.k (k := Sum.inr "turn") S2.ds
      have dm2 : DGet (upd H1 sa (.dK (srcD ca l' m (t + 1)))) sa (V.str "mixed") (some (.int m)) := by rw [← src_mixed (c := ca) (t := t + 1) (l := l')]; exact DGet.k (k := Sum.inr "mixed") S2.ds
      refine ⟨_, rfl, sa, _, rfl, dt2, ?_⟩
      have hm2 : 0 ≤ (m + (t + 1) * 104729) % 998244353 := Int.emod_nonneg _ (by decide)
      have hm3 : (m + (t + 1) * 104729) % 998244353 < 998244353 := Int.emod_lt_of_pos _ (by decide)
      refine ⟨_, rfl, sa, _, rfl, dm2, _, rfl, _, _, rfl, rfl, .inr ⟨by decide, by decide⟩, _, _, rfl, rfl, .inl ⟨_, rfl, _, _, rfl, rfl, (by show (0 : Int) < 998244353; decide), ?_⟩⟩
      refine ⟨_, rfl, _, rfl, _, _, rfl, rfl, .inl ⟨by show -(2 ^ 64 : Int) < _; omega, by show _ < (2 ^ 64 : Int); omega⟩, _, rfl, _, _, rfl, rfl, .inr ⟨by decide, by decide⟩, _, _, rfl, rfl, .inl ⟨_, rfl, _, _, rfl, rfl, (by show (0 : Int) < 2147483647; decide), ?_⟩⟩
      refine ⟨_, rfl, _, _, rfl, rfl, ⟨by decide, by decide⟩, .inl ⟨_, rfl, _, rfl, _, _, rfl, rfl, by show 0 < n; omega, ?_⟩⟩
      refine k _ _ (Int.emod_nonneg _ (by omega)) (Int.emod_lt_of_pos _ (by omega)) ⟨cs', l', m, t + 1, S2⟩ fun b o e h1 h2 => ?_
      rw [upd_ne h1]
      exact kp b o e h1 h2
end
end Nm
set_option maxRecDepth 100000
set_option maxHeartbeats 4000000
namespace Nm
open PySem L2
structure TxtB (mg : Str → Option Value) : Prop extends TxtA mg where
  list : mg "list" = none
  range : mg "range" = none
  abs : mg "abs" = none
/-- a def that stands under a name of the module, with its promise -/
structure Def (P : Program) (w : World) (K : PySem.W.Frag) (mg : Str → Option Value) (base : Heap) (x : Str) (ps : List Str) (k : Nat) (sp : Sp) : Prop where
  ex : ∃ f fd, FnOk P w K mg base CX0 k f fd ps sp ∧ mg x = some (.ref f) ∧ PySem.W.keepIn K (.ref f) = true ∧ Binds K fd ps []
section
variable {P : Program} {w : World} {K : PySem.W.Frag} {mg : Str → Option Value} {base : Heap}
theorem erase_perm {α : Type} {y : α} : ∀ {zs : List α} {i : Nat}, zs[i]? = some y → ([y] ++ zs.eraseIdx i).Perm zs
  | z :: zs, 0, h => by
    simp at h
    subst h
    exact List.Perm.refl _
  | z :: zs, i + 1, h => by
    simp at h
    have := erase_perm (zs := zs) (i := i) h
    show (y :: z :: zs.eraseIdx i).Perm (z :: zs)
    exact (List.Perm.swap z y _).trans (this.cons z)
/-! ### _law_any_order -/
def spAny (K : PySem.W.Frag) : Sp := fun vs H Q _ => ∃ (s c a : Addr) (xs : List V), vs = [.ref s, .ref a] ∧ Src H s c ∧ SqL K H a xs ∧ xs.length ≤ 10000 ∧
  ∀ (p : Addr) (ys : List V) (H' : Hp), H p = none → ys.Perm xs → H' p = some (.lst ys) → Src H' s c → Kp s c H H' → Q (.ref p) H'
theorem scAny : FnScope ["_law_source", "_law_items", "_law_rest", "_law_lap"] ["_law_source", "_law_items"] (defScope sAnyOrder) := ⟨rfl, rfl, rfl, by decide +kernel, rfl, by decide +kernel, by decide +kernel⟩
theorem ok_any {f : Addr} {fd : FuncData} (F : Fun K "_law_any_order" "_law_any_order" sAnyOrder f fd) (T : TxtB mg) (Gp : Def P w K mg base "_law_pick" ["_law_source", "_law_many"] 1 spPick) : FnOk P w K mg base CX0 2 f fd ["_law_source", "_law_items"] (spAny K) := by
  obtain ⟨fp, fdp, Gp, mp, kp, bp⟩ := Gp.ex
  refine F.ok scAny (fun vs H Q E h => ?_) (fun cdv A outer s H vs Q E hr h => ?_)
  · obtain ⟨p, dx, n, xs, rfl, _⟩ := h
    rfl
  · obtain ⟨sa, ca, ia, xs, rfl, S, hx, hl, k⟩ := h
    have hu := hu_of hr
    refine ⟨_, pss_cons (ps_set (i := 2) scAny.nd rfl (Or.inr rfl) (pe_callTy call_list_of (by rfl) T.list (by decide +kernel) (pa_cons (pv 1) pa_nil)))
      (pss_one (ps_ret (pe_lc (own := [("_law_lap", 3)]) (g := gName 3) (tt := tYes) (te := tBM K "list" rPopAt (tVar 2) (tCons (tCall spPick [] E0 (tCons (tVar 0) (tCons (tCB (Evl.rLenS K) (tCons (tVar 2) tNil)) tNil))) tNil)) rfl scAny.nd (pi_range1 (by rfl) T.range (pa_cons (pe_callB call_len_seq (by rfl) T.len PySem.boot_len (pa_cons (pv 2) pa_nil)) pa_nil))
        (blkOk_by (N := ["_law_source", "_law_items", "_law_rest", "_law_lap"]) (sc := defScope sAnyOrder) (by decide +kernel)) (fun _ _ _ _ _ => pg_name (i := 3) scAny.nd rfl (Or.inl rfl)) (fun _ _ _ _ _ => pts_nil)
        (fun _ _ _ _ _ => by exact pe_bm PySem.F.plainAttrs_list PySem.F.slot_list_pop PySem.F.type_list_pop mt_popAt (pv 2) (pa_cons (pe_call Gp hr (by rfl) mp kp bp .nil pass0 (pa_cons (pv 0) (pa_cons (pe_callB call_len_seq (by rfl) T.len PySem.boot_len (pa_cons (pv 2) pa_nil)) pa_nil))) pa_nil))))), ?_⟩
    refine ⟨_, rfl, ia, _, rfl, .inl hx, fun r hr0 => ?_⟩
    refine ⟨_, rfl, r, _, rfl, .inl (SqL.of upd_same), _, rfl, by omega, by omega, fun D hD => ?_⟩
    have hDr : D ≠ r := fun e => by subst e; rw [upd_same] at hD; cases hD
    have hD0 : H D = none := by rw [upd_ne hDr] at hD; exact hD
    obtain ⟨nrs, nrc⟩ := S.ne hr0
    obtain ⟨nDs, nDc⟩ := S.ne hD0
    refine lc_range (lo := 0) (n := xs.length) (fun i H' => ∃ ys zs, (ys ++ zs).Perm xs ∧ ys.length = i ∧ H' D = some (.lst ys) ∧ H' r = some (.lst zs) ∧ Src H' sa ca ∧ Kp sa ca H H') ?_ ?_ ?_
    · exact ⟨[], xs, List.Perm.refl _, rfl, upd_same, by rw [upd_ne hDr.symm, upd_same], (S.new hr0).upd nDs nDc, ((Kp.refl H).off hr0).off hD0⟩
    · rintro i H1 hi ⟨ys, zs, pm, hyl, hy, hz, S1, kp1⟩
      have hlen : ys.length + zs.length = xs.length := by rw [← List.length_append]; exact pm.length_eq
      refine ⟨rfl, tyes ?_⟩
      refine ⟨_, rfl, .inl ⟨rfl, _, SqL.of hz⟩, _, rfl, _, rfl, r, _, rfl, .inl (SqL.of hz), sa, ca, _, rfl, S1, by omega, by omega, fun kk H2 k0 k1 S2 kp2 => ?_⟩
      have hz2 := kp2 _ _ hz nrs nrc
      have hy2 := kp2 _ _ hy nDs nDc
      obtain ⟨y, hyy⟩ : ∃ y, zs[kk.toNat]? = some y := ⟨_, List.getElem?_eq_getElem (by omega)⟩
      refine ⟨r, zs, kk, kk.toNat, y, rfl, rfl, hz2, by omega, by omega, ?_, hyy, ?_⟩
      · exact seqIndex_of k0 k1
      · refine ⟨ys, by rw [upd_ne hDr]; exact hy2, Evl.sz_lt (by omega), ys ++ [y], zs.eraseIdx kk.toNat, ?_, by simp; omega, upd_same, by rw [upd_ne hDr.symm, upd_same], ?_, ?_⟩
        · refine List.Perm.trans ?_ pm
          rw [List.append_assoc]
          refine List.Perm.append_left ys ?_
          exact erase_perm hyy
        · exact (S2.upd nrs nrc).upd nDs nDc
        · exact ((kp1.trans kp2).off hr0).off hD0
    · rintro H1 ⟨ys, zs, pm, hyl, hy, hz, S1, kp1⟩
      have hlen : ys.length + zs.length = xs.length := by rw [← List.length_append]; exact pm.length_eq
      have hz0 : zs = [] := List.length_eq_zero_iff.mp (by omega)
      subst hz0
      rw [List.append_nil] at pm
      exact k D ys H1 hD0 pm hy S1 kp1
end
end Nm
set_option maxRecDepth 100000
set_option maxHeartbeats 4000000
/-! Rules that the layer lacks -/
namespace Nm
open PySem PySem.Spec PyProof.Rows L2
/-- the places that xs[::st] takes -/
def stepIx (st : Int) (n : Nat) : List Nat := sliceRange (sliceBounds none none (some st) n).1 (sliceBounds none none (some st) n).2.1 (sliceBounds none none (some st) n).2.2
def stepV (xs : List V) (st : Int) : List V := (stepIx st xs.length).filterMap (xs[·]?)
theorem stepV_mem {xs : List V} {st : Int} {v : V} (h : v ∈ stepV xs st) : v ∈ xs := by
  obtain ⟨i, _, e⟩ := List.mem_filterMap.mp h
  exact List.mem_of_getElem? e
theorem vals_filter : ∀ (is : List Nat) {xs : List V} {us : List Value}, Vals xs us → Vals (is.filterMap (xs[·]?)) (is.filterMap (us[·]?))
  | [], _, _, _ => .nil
  | i :: is, xs, us, r => by
    rw [List.filterMap_cons, List.filterMap_cons]
    cases e : xs[i]? with
    | none =>
      rw [r.none_of e]
      exact vals_filter is r
    | some x =>
      obtain ⟨u, e2, r2⟩ := r.get e
      rw [e2]
      exact .cons r2 (vals_filter is r)
theorem fm_len {α β : Type} : ∀ (is : List Nat) {xs : List α} {us : List β}, xs.length = us.length → (is.filterMap (xs[·]?)).length = (is.filterMap (us[·]?)).length
  | [], _, _, _ => rfl
  | i :: is, xs, us, h => by
    rw [List.filterMap_cons, List.filterMap_cons]
    have ih := fm_len is h
    by_cases hi : i < xs.length
    · rw [List.getElem?_eq_getElem hi, List.getElem?_eq_getElem (by omega)]
      simp only [List.length_cons]
      omega
    · rw [List.getElem?_eq_none (by omega), List.getElem?_eq_none (by omega)]
      exact ih
theorem stepV_len (xs : List V) (st : Int) : (stepV xs st).length ≤ xs.length := by
  have h := slicePick_size_le (List.replicate xs.length Value.none).toArray none none (some st)
  unfold slicePick at h
  rw [List.size_toArray, List.size_toArray, List.length_replicate] at h
  have e := fm_len (stepIx st xs.length) (xs := xs) (us := List.replicate xs.length Value.none) (by simp)
  unfold stepV
  rw [e]
  have e2 : (stepIx st xs.length).filterMap ((List.replicate xs.length Value.none)[·]?) = (stepIx st xs.length).filterMap ((List.replicate xs.length Value.none).toArray[·]?) := by simp only [List.getElem?_toArray]
  rw [e2]
  exact h
def tStepL (K : PySem.W.Frag) (te ts : TE) : TE := fun σ H Q => te σ H fun x H1 => ts σ H1 fun y H2 => ∃ st, y = .int st ∧ ∃ a xs, x = .ref a ∧ (some st).getD 1 ≠ 0 ∧ (some st).isSome = true ∧ SqL K H2 a xs ∧ ∀ p, H2 p = none → Q (.ref p) (upd H2 p (.lst (stepV xs ((some st).getD 1))))
section
variable {X : Cx}
theorem pe_stepL {e es : PySem.Expr} {te ts : TE} {p3 pos : Pos} (he : PE X e te) (hs : PE X es ts) : PE X (.Subscript e (.Slice none none (some es) p3) pos) (tStepL X.K te ts) := by
  refine ⟨fun pins s σ H Q I h => ?_⟩
  refine Subscript_ (thn (he.run pins s σ H _ I h) fun v s1 ⟨x, H1, I1, r1, q1⟩ => ?_)
  refine wpAny_Slice (thn (po_none.run pins s1 σ H1 (fun o H2 => o = none ∧ H2 = H1) I1 ⟨rfl, rfl⟩) fun vl s2 ⟨l, H2, I2, pl, el, e2⟩ => ?_)
  subst el e2
  refine thn (po_none.run pins s2 σ H2 (fun o H3 => o = none ∧ H3 = H2) I2 ⟨rfl, rfl⟩) fun vu s3 ⟨u, H3, I3, pu, eu, e3⟩ => ?_
  subst eu e3
  refine thn ((po_some hs).run pins s3 σ H3 (fun o H4 => ∃ a xs, x = .ref a ∧ o.getD 1 ≠ 0 ∧ o.isSome = true ∧ SqL X.K H4 a xs ∧ ∀ p, H4 p = none → Q (.ref p) (upd H4 p (.lst (stepV xs (o.getD 1))))) I3 ?_) fun vs s4 ⟨o, H4, I4, ps, a, xs, ex, hst, ho, hx, q⟩ => ?_
  · exact q1
  obtain ⟨st, rfl⟩ := Option.isSome_iff_exists.mp ho
  subst ex
  cases r1
  have I5 : Inv X pins σ H4 { s4 with heap := s4.heap.push { cls := .type "slice", data := .fields #[vl, vu, vs] } } := I4.kept (t' := s4.toks) fun b ob q => Heap.get?_push_of_some _ q
  obtain ⟨its, r, ht, hz⟩ := I5.list hx
  have hlen := r.length
  show wpAny (model X.prog X.w) X.A (subscriptTail e (.Slice none none (some es) p3) (.ref a) (.ref s4.heap.objs.size)) (EP X pins σ Q) X.xe { s4 with heap := s4.heap.push { cls := .type "slice", data := .fields #[vl, vu, vs] } }
  refine tail_any (ops := [.ref a, .ref s4.heap.objs.size]) ht.isList.typeIs (PySem.slot_list_getitem.lookup) ?_ (by with_unfolding_all rfl)
  refine wpAny_getItem_list_slice ht.isList (Heap.IsSliceOf.new _ vl vu vs) pl pu ps (fun z => hst (Option.some.inj z)) ?_ (by rw [List.size_toArray]; omega)
  refine ⟨.ref _, _, I5.laid (t' := s4.toks) (o := .lst (stepV xs st)) (fun b ob q => Heap.get?_push_of_some _ q) (Nat.le_refl _) ?_, rfl, q _ (I5.hok.fresh (Nat.le_refl _))⟩
  have r2 : Vals (stepV xs st) ((stepIx st xs.length).filterMap (its[·]?)) := vals_filter _ r
  refine ⟨?_, _, 0, r2, ?_⟩
  · have h1 := r2.length
    have h2 := slicePick_size_le its.toArray none none (some st)
    have h3 : slicePick its.toArray none none (some st) = ((stepIx st its.length).filterMap (its[·]?)).toArray := by
      unfold slicePick stepIx
      rw [List.size_toArray]
      simp
    rw [h3, List.size_toArray, List.size_toArray] at h2
    rw [hlen] at h1
    show (stepV xs st).length ≤ sizeLine
    omega
  · rw [Heap.get?_push_size _ rfl]
    have h3 : slicePick its.toArray none none (some st) = ((stepIx st its.length).filterMap (its[·]?)).toArray := by
      unfold slicePick stepIx
      rw [List.size_toArray]
      simp
    rw [h3, hlen]
end
end Nm
set_option maxRecDepth 100000
set_option maxHeartbeats 4000000
namespace Nm
open PySem L2
theorem Kp.seq {K : PySem.W.Frag} {s c a : Addr} {H H' : Hp} {xs : List V} (e : Kp s c H H') (h1 : a ≠ s) (h2 : a ≠ c) (h : SqL K H a xs) : SqL K H' a xs := by
  rcases h with (h | ⟨o, h⟩) | h
  · exact .inl (.inl (e _ _ h h1 h2))
  · exact .inl (.inr ⟨o, e _ _ h h1 h2⟩)
  · exact .inr h
theorem merge_src {c : Addr} {l m t : Int} : mergeK [] (srcD c l m t) = srcD c l m t := by
  unfold mergeK srcD
  simp [putK, k1, k2, k3, k4, k5, k6]
section
variable {P : Program} {w : World} {K : PySem.W.Frag} {mg : Str → Option Value} {base : Heap}
/-! ### _law_choice_of -/
def spChoice (K : PySem.W.Frag) : Sp := fun vs H Q _ => ∃ (s c a : Addr) (xs : List V), vs = [.ref s, .ref a] ∧ Src H s c ∧ a ≠ s ∧ a ≠ c ∧ SqL K H a xs ∧ 1 ≤ xs.length ∧ xs.length ≤ 1000 ∧
  ∀ (v : V) (H' : Hp), v ∈ xs → Src H' s c → Kp s c H H' → Q v H'
theorem scChoice : FnScope ["_law_source", "_law_items"] ["_law_source", "_law_items"] (defScope sChoiceOf) := ⟨rfl, rfl, rfl, by decide +kernel, rfl, by decide +kernel, by decide +kernel⟩
theorem ok_choice {f : Addr} {fd : FuncData} (F : Fun K "_law_choice_of" "_law_choice_of" sChoiceOf f fd) (T : TxtB mg) (Gp : Def P w K mg base "_law_pick" ["_law_source", "_law_many"] 1 spPick) : FnOk P w K mg base CX0 2 f fd ["_law_source", "_law_items"] (spChoice K) := by
  obtain ⟨fp, fdp, Gp, mp, kp, bp⟩ := Gp.ex
  refine F.ok scChoice (fun vs H Q E h => ?_) (fun cdv A outer s H vs Q E hr h => ?_)
  · obtain ⟨p, dx, n, xs, rfl, _⟩ := h
    rfl
  · obtain ⟨sa, ca, ia, xs, rfl, S, n1, n2, hx, hl1, hl, k⟩ := h
    refine ⟨_, pss_one (ps_ret (pe_ix ix_list (pv 1) (pe_call Gp hr (by rfl) mp kp bp .nil pass0 (pa_cons (pv 0) (pa_cons (pe_callB call_len_seq (by rfl) T.len PySem.boot_len (pa_cons (pv 1) pa_nil)) pa_nil))) (fun _ _ => rfl))), ?_⟩
    refine ⟨_, rfl, _, rfl, _, rfl, ia, _, rfl, .inl hx, sa, ca, _, rfl, S, by omega, by omega, fun kk H2 k0 k1 S2 kp2 => ?_⟩
    obtain ⟨v, hv⟩ : ∃ v, xs[kk.toNat]? = some v := ⟨_, List.getElem?_eq_getElem (by omega)⟩
    refine ⟨ia, xs, kk, v, rfl, rfl, kp2.seq n1 n2 hx, ?_, k v H2 (List.mem_of_getElem? hv) S2 kp2⟩
    have := atI_nat hv
    rw [Int.toNat_of_nonneg k0] at this
    exact this
/-! ### _law_open_cells -/
def spOpen (K : PySem.W.Frag) : Sp := fun vs H Q _ => ∃ (a : Addr) (ns : List Int), vs = [.ref a] ∧ SqL K H a (ns.map V.int) ∧ ns.length ≤ 63 ∧
  ∀ (s c : Addr) (H' : Hp), H s = none → H c = none → Src H' s c → Same H H' → Q (.ref s) H'
theorem scOpen : FnScope ["_law_script", "_law_mixed", "_law_cell", "_law_cells"] ["_law_script"] (defScope sOpenCells) := ⟨rfl, rfl, rfl, by decide +kernel, rfl, by decide +kernel, by decide +kernel⟩
theorem ok_open {f : Addr} {fd : FuncData} (F : Fun K "_law_open_cells" "_law_open_cells" sOpenCells f fd) (T : TxtB mg) : FnOk P w K mg base CX0 1 f fd ["_law_script"] (spOpen K) := by
  refine F.ok scOpen (fun vs H Q E h => ?_) (fun cdv A outer s H vs Q E hr h => ?_)
  · obtain ⟨p, dx, rfl, _⟩ := h
    rfl
  · obtain ⟨sa, ns, rfl, hx, hl, k⟩ := h
    refine ⟨_, pss_cons (ps_set (i := 1) scOpen.nd rfl (Or.inl rfl) pe_int)
      (pss_cons (ps_for PassesOwn.never rfl (pi_list (pv 0)) (pg_name (i := 2) scOpen.nd rfl (Or.inl rfl))
        (pss_one (ps_set (i := 1) scOpen.nd rfl (Or.inl rfl) (pe_op op_mod (pe_callTy call_int1 (by rfl) T.int (by decide +kernel) (pa_cons (pe_op op_add (pe_op op_add (pe_op op_mul (pv 1) pe_int) (pe_op op_mul (pv 2) pe_int)) pe_int) pa_nil)) pe_int))))
      (pss_cons (ps_setLc (i := 3) (own := [("_law_cell", 2)]) (g := gName 2) (tt := tYes) rfl scOpen.nd rfl rfl (sw_true rfl rfl rfl (by decide +kernel)) (pi_list (pv 0))
        (blkOk_by (N := ["_law_script", "_law_mixed", "_law_cell", "_law_cells"]) (sc := defScope sOpenCells) (by decide +kernel)) (fun _ _ _ _ _ => pg_name (i := 2) scOpen.nd rfl (Or.inl rfl)) (fun _ _ _ _ _ => pts_nil)
        (fun _ _ _ _ _ => pe_callB call_abs (by rfl) T.abs (by decide +kernel) (pa_cons (pv 2) pa_nil)))
      (pss_one (ps_ret (pe_disp (pps_cons pe_str (pe_revL (pv 3)) (pps_cons pe_str pe_int (pps_cons pe_str (pv 1) (pps_cons pe_str pe_int pps_nil)))) (by rfl) (by rfl) (fun z => by cases z) (by decide)))))), ?_⟩
    refine ⟨_, rfl, sa, rfl, ⟨_, hx⟩, ?_⟩
    refine for_list (xs := ns.map V.int) (fun i σ H' => H' = H ∧ ∃ (m : Int) (v : Option V), 0 ≤ m ∧ m < 2147483629 ∧ σ = [some (.ref sa), some (.int m), v, none]) ⟨rfl, 11, none, by decide, by decide, rfl⟩ (fun i σ H' _ h => by rw [h.1]; exact hx) ?_ ?_
    · rintro i x σ H' hi ⟨rfl, m, v, m0, m1, rfl⟩
      rw [List.getElem?_map] at hi
      obtain ⟨y, _, rfl⟩ := Option.map_eq_some_iff.mp hi
      refine ⟨_, rfl, _, _, rfl, rfl, .inr ⟨by decide, by decide⟩, _, rfl, _, _, rfl, rfl, .inr ⟨by decide, by decide⟩, _, _, rfl, rfl, _, _, rfl, rfl, .inl ⟨_, rfl, _, _, rfl, rfl, (by show (0 : Int) < 2147483629; decide), ?_⟩⟩
      exact ⟨rfl, _, some (.int y), Int.emod_nonneg _ (by decide), Int.emod_lt_of_pos _ (by decide), rfl⟩
    · rintro σ H' ⟨rfl, m, v, m0, m1, rfl⟩
      refine ⟨_, rfl, sa, rfl, ⟨_, hx⟩, fun D hD => ?_⟩
      refine lc_list (xs := ns.map V.int) (fun i H1 => Same H' H1 ∧ ∃ cs : List Int, cs.length = i ∧ (∀ x ∈ cs, 0 ≤ x) ∧ H1 D = some (.lst (cs.map V.int))) ⟨same_new hD, [], rfl, by simp, upd_same⟩ (fun i H1 _ h => h.1.seq hx) ?_ ?_
      · rintro i x H1 hi ⟨sm, cs, hcl, hc0, hcD⟩
        have hil := (List.getElem?_eq_some_iff.mp hi).1
        rw [List.length_map] at hil
        rw [List.getElem?_map] at hi
        obtain ⟨y, _, rfl⟩ := Option.map_eq_some_iff.mp hi
        refine ⟨rfl, tyes ?_⟩
        refine ⟨_, rfl, y, rfl, _, hcD, Evl.sz_lt (by rw [List.length_map]; omega), ?_, cs ++ [if y < 0 then -y else y], by simp [hcl], ?_, by rw [upd_same, List.map_append]; rfl⟩
        · intro b o e
          rw [upd_ne (ne_of_none e hD)]
          exact sm b o e
        · intro x hx
          rcases List.mem_append.mp hx with h | h
          · exact hc0 x h
          · rw [List.mem_singleton] at h
            subst h
            split <;> omega
      · rintro H1 ⟨sm, cs, hcl, hc0, hcD⟩
        rw [List.length_map] at hcl
        intro p hp
        have hp0 : H' p = none := sm.free hp
        refine ⟨_, rfl, D, _, rfl, SqL.of (by rw [upd_ne (ne_of_none hcD hp)]; exact hcD), fun q hq => ?_⟩
        have hqp : q ≠ p := fun e => by subst e; rw [upd_same] at hq; cases hq
        have hq1 : H1 q = none := by rw [upd_ne hqp] at hq; exact hq
        have hq0 : H' q = none := sm.free hq1
        refine ⟨_, rfl, by rw [upd_ne hqp.symm, upd_same], srcD q 1 m 0, rfl, (by show 4 ≤ 15; decide), ?_⟩
        rw [merge_src]
        refine k p q _ hp0 hq0 ⟨cs.reverse, 1, m, 0, ⟨upd_same, by rw [upd_ne hqp, upd_same, List.map_reverse], fun x hx => hc0 x (List.mem_reverse.mp hx), by rw [List.length_reverse]; omega, by decide, m0, m1, by decide⟩⟩ fun b o e => ?_
        rw [upd_ne (ne_of_none e hp0), upd_ne (ne_of_none e hq0), upd_ne (ne_of_none e hp0)]
        exact sm b o e
end
end Nm
set_option maxRecDepth 100000
set_option maxHeartbeats 4000000
namespace Nm
open PySem L2
/-- each of xs is a pair of numbers i < j below n -/
def PairsAt (n : Int) (H : Hp) (xs : List V) : Prop := ∀ v ∈ xs, ∃ t i j, v = V.ref t ∧ H t = some (.tup [.int i, .int j]) ∧ 0 ≤ i ∧ i < j ∧ j < n
theorem PairsAt.same {n : Int} {H H' : Hp} {xs : List V} (h : PairsAt n H xs) (e : Same H H') : PairsAt n H' xs := fun v hv => by
  obtain ⟨t, i, j, a, b, c⟩ := h v hv
  exact ⟨t, i, j, a, e _ _ b, c⟩
theorem PairsAt.kp {n : Int} {H H' : Hp} {xs : List V} {s c : Addr} (h : PairsAt n H xs) (S : Src H s c) (e : Kp s c H H') : PairsAt n H' xs := fun v hv => by
  obtain ⟨t, i, j, a, b, r⟩ := h v hv
  obtain ⟨cs, l, m, tt, S⟩ := S
  exact ⟨t, i, j, a, e _ _ b (ne_of b S.ds (by intro z; cases z)) (ne_of b S.dc (by intro z; cases z)), r⟩
theorem PairsAt.snoc {n : Int} {H : Hp} {xs : List V} {t : Addr} {i j : Int} (h : PairsAt n H xs) (e : H t = some (.tup [.int i, .int j])) (h0 : 0 ≤ i) (h1 : i < j) (h2 : j < n) : PairsAt n H (xs ++ [.ref t]) := fun v hv => by
  rcases List.mem_append.mp hv with q | q
  · exact h v q
  · rw [List.mem_singleton] at q
    exact ⟨t, i, j, q, e, h0, h1, h2⟩
theorem PairsAt.sub {n : Int} {H : Hp} {xs ys : List V} (h : PairsAt n H xs) (e : ∀ v ∈ ys, v ∈ xs) : PairsAt n H ys := fun v hv => h v (e v hv)
theorem sq_le {n : Int} (h1 : 1 ≤ n) (h2 : n ≤ 7) : 1 ≤ n * n ∧ n * n ≤ 49 := by
  have h : n = 1 ∨ n = 2 ∨ n = 3 ∨ n = 4 ∨ n = 5 ∨ n = 6 ∨ n = 7 := by omega
  rcases h with rfl | rfl | rfl | rfl | rfl | rfl | rfl <;> decide
section
variable {P : Program} {w : World} {K : PySem.W.Frag} {mg : Str → Option Value} {base : Heap}
/-! ### _law_shape_pairs -/
def spShape : Sp := fun vs H Q _ => ∃ (s c : Addr) (n : Int), vs = [.ref s, .int n] ∧ Src H s c ∧ 1 ≤ n ∧ n ≤ 7 ∧
  ∀ (p : Addr) (xs : List V) (H' : Hp), H p = none → H' p = some (.lst xs) → PairsAt n H' xs → xs.length ≤ 100 → Src H' s c → Kp s c H H' → Q (.ref p) H'
abbrev nShape : List Str := ["_law_source", "_law_count", "_law_every", "_law_road", "_law_rows", "_law_n", "_law_pair", "_law_k"]
theorem scShape : FnScope nShape ["_law_source", "_law_count"] (defScope sShapePairs) := ⟨rfl, rfl, rfl, by decide +kernel, rfl, by decide +kernel, by decide +kernel⟩
theorem ok_shape {f : Addr} {fd : FuncData} (F : Fun K "_law_shape_pairs" "_law_shape_pairs" sShapePairs f fd) (T : TxtB mg) (Gp : Def P w K mg base "_law_pick" ["_law_source", "_law_many"] 1 spPick) : FnOk P w K mg base CX0 2 f fd ["_law_source", "_law_count"] spShape := by
  obtain ⟨fp, fdp, Gp, mp, kp, bp⟩ := Gp.ex
  refine F.ok scShape (fun vs H Q E h => ?_) (fun cdv A outer s H vs Q E hr h => ?_)
  · obtain ⟨p, dx, n, rfl, _⟩ := h
    rfl
  · obtain ⟨sa, ca, n, rfl, S, n1, n2, k⟩ := h
    refine ⟨_, pss_cons (ps_setLc (i := 2) (own := [("_law_n", 5)]) (g := gName 5) rfl scShape.nd rfl rfl (sw_true rfl rfl rfl (by decide +kernel)) (pi_range1 (by rfl) T.range (pa_cons (pe_op op_mul (pv 1) (pv 1)) pa_nil))
        (blkOk_by (N := nShape) (sc := defScope sShapePairs) (by decide +kernel)) (fun _ _ _ _ _ => pg_name (i := 5) scShape.nd rfl (Or.inl rfl))
        (fun _ _ _ _ _ => pts_one (pt_cmpR op_lt (pe_callTy call_int1 (by rfl) T.int (by decide +kernel) (pa_cons (pe_op op_fdiv (pv 5) (pv 1)) pa_nil)) (pe_op op_mod (pe_callTy call_int1 (by rfl) T.int (by decide +kernel) (pa_cons (pv 5) pa_nil)) (pv 1)) (nomark _)))
        (fun _ _ _ _ _ => pe_tup (pa_cons (pe_callTy call_int1 (by rfl) T.int (by decide +kernel) (pa_cons (pe_op op_fdiv (pv 5) (pv 1)) pa_nil)) (pa_cons (pe_op op_mod (pe_callTy call_int1 (by rfl) T.int (by decide +kernel) (pa_cons (pv 5) pa_nil)) (pv 1)) pa_nil))))
      (pss_cons (ps_set (i := 3) scShape.nd rfl (Or.inl rfl) (pe_call Gp hr (by rfl) mp kp bp .nil pass0 (pa_cons (pv 0) (pa_cons pe_int pa_nil))))
      (pss_cons (ps_if (pt_cmpR op_eq (pv 3) pe_int (nomark _)) (pss_one (ps_ret (pe_lc (own := [("_law_pair", 6)]) (g := gName 6) rfl scShape.nd (pi_list (pv 2))
          (blkOk_by (N := nShape) (sc := defScope sShapePairs) (by decide +kernel)) (fun _ _ _ _ _ => pg_name (i := 6) scShape.nd rfl (Or.inl rfl))
          (fun _ _ _ _ _ => pts_one (by exact pt_cmpR op_eq (pe_call Gp hr (by rfl) mp kp bp .nil pass0 (pa_cons (pv 0) (pa_cons pe_int pa_nil))) pe_int (nomark _))) (fun _ _ _ _ _ => pv 6)))) pss_nil)
      (pss_cons (ps_if (pt_cmpR op_eq (pv 3) pe_int (nomark _)) (pss_one (ps_ret (pe_lc (own := [("_law_pair", 6)]) (g := gName 6) rfl scShape.nd (pi_list (pv 2))
          (blkOk_by (N := nShape) (sc := defScope sShapePairs) (by decide +kernel)) (fun _ _ _ _ _ => pg_name (i := 6) scShape.nd rfl (Or.inl rfl))
          (fun _ _ _ _ _ => pts_one (by exact pt_cmpR op_gt (pe_call Gp hr (by rfl) mp kp bp .nil pass0 (pa_cons (pv 0) (pa_cons pe_int pa_nil))) pe_int (nomark _))) (fun _ _ _ _ _ => pv 6)))) pss_nil)
      (pss_cons (ps_if (pt_cmpR op_eq (pv 3) pe_int (nomark _)) (pss_one (ps_ret (pv 2))) pss_nil)
      (pss_cons (ps_setLc (i := 4) (own := [("_law_k", 7)]) (g := gName 7) (tt := tYes) rfl scShape.nd rfl rfl (sw_true rfl rfl rfl (by decide +kernel)) (pi_range1 (by rfl) T.range (pa_cons (pe_op op_sub (pv 1) pe_int) pa_nil))
        (blkOk_by (N := nShape) (sc := defScope sShapePairs) (by decide +kernel)) (fun _ _ _ _ _ => pg_name (i := 7) scShape.nd rfl (Or.inl rfl)) (fun _ _ _ _ _ => pts_nil)
        (fun _ _ _ _ _ => pe_tup (pa_cons (pv 7) (pa_cons (pe_op op_add (pv 7) pe_int) pa_nil))))
      (Evl.pss_cut (ps_if (PW.pt (pw_and (pt_cmpR op_eq (pv 3) pe_int (nomark _)) (pw_and1 (pt_cmpR op_gt (pv 1) pe_int (nomark _))))) (pss_one (ps_ret (pe_op op_cat (pv 4) (pe_lst (pa_cons (pe_tup (pa_cons pe_int (pa_cons (pe_op op_sub (pv 1) pe_int) pa_nil))) pa_nil))))) pss_nil)
      (pss_cons (ps_if (pt_cmpR op_eq (pv 3) pe_int (nomark _)) (pss_one (ps_ret (pe_lc (own := [("_law_k", 7)]) (g := gName 7) (tt := tYes) rfl scShape.nd (pi_range2 (by rfl) T.range (pa_cons pe_int (pa_cons (pv 1) pa_nil)))
          (blkOk_by (N := nShape) (sc := defScope sShapePairs) (by decide +kernel)) (fun _ _ _ _ _ => pg_name (i := 7) scShape.nd rfl (Or.inl rfl)) (fun _ _ _ _ _ => pts_nil)
          (fun _ _ _ _ _ => pe_tup (pa_cons pe_int (pa_cons (pv 7) pa_nil)))))) pss_nil)
      (pss_one (ps_ret (pe_stepL (pv 4) (pe_op op_add pe_int (pe_callTy call_int1 (by rfl) T.int (by decide +kernel) (pa_cons (pe_cmpR op_eq (pv 3) pe_int (nomark _)) pa_nil))))))))))))), ?_⟩
    obtain ⟨q1, q2⟩ := sq_le n1 n2
    refine ⟨_, rfl, _, rfl, _, _, rfl, rfl, .inl ⟨by show -(2 ^ 64 : Int) < _; omega, by show _ < (2 ^ 64 : Int); omega⟩, _, rfl, by omega, by omega, fun D hD => ?_⟩
    refine lc_range (lo := 0) (n := (n * n).toNat) (fun i H' => ∃ xs, H' D = some (.lst xs) ∧ xs.length ≤ i ∧ PairsAt n H' xs ∧ Same H H') ⟨[], upd_same, Nat.le_refl _, (fun v hv => by cases hv), same_new hD⟩ ?_ ?_
    · rintro i H1 hi ⟨xs, hxD, hxl, hxp, sm⟩
      refine ⟨rfl, ?_⟩
      refine ⟨_, rfl, _, rfl, _, _, rfl, rfl, ⟨by omega, by omega⟩, .inl ⟨_, rfl, _, rfl, .inl ⟨_, rfl, _, rfl, _, _, rfl, rfl, by omega, _, _, rfl, rfl, _, rfl, ?_⟩⟩⟩
      refine ite2 (fun hlt => ?_) (fun hlt => ⟨xs, hxD, by omega, hxp, sm⟩)
      refine ⟨_, rfl, _, rfl, _, _, rfl, rfl, ⟨by omega, by omega⟩, .inl ⟨_, rfl, _, rfl, .inl ⟨_, rfl, _, rfl, _, _, rfl, rfl, by omega, (by show 2 ≤ sizeLine; decide), fun t ht => ?_⟩⟩⟩
      have hlt' := of_decide_eq_true hlt
      refine ⟨xs, by rw [upd_ne (ne_of_none hxD ht)]; exact hxD, Evl.sz_lt (by omega), xs ++ [.ref t], upd_same, by simp; omega, ?_, ?_⟩
      · have hDt : t ≠ D := fun e => by subst e; rw [ht] at hxD; cases hxD
        refine PairsAt.snoc (i := (0 + (i : Int)) / n) (j := (0 + (i : Int)) % n) ?_ (by rw [upd_ne hDt, upd_same]) (Int.ediv_nonneg (by omega) (by omega)) hlt' (Int.emod_lt_of_pos _ (by omega))
        refine fun v hv => ?_
        obtain ⟨u, i', j', a, b, r⟩ := hxp v hv
        refine ⟨u, i', j', a, ?_, r⟩
        rw [upd_ne (ne_of b hxD (by intro z; cases z)), upd_ne (ne_of_none b ht)]
        exact b
      · intro b o e
        have := sm b o e
        rw [upd_ne (ne_of_none e hD), upd_ne (ne_of_none this ht)]
        exact this
    rintro H1 ⟨xs, hxD, hxl, hxp, sm⟩
    have S1 := S.same sm
    have hxl' : xs.length ≤ 49 := by omega
    obtain ⟨nDs, nDc⟩ := S.ne hD
    -- road
    refine ⟨_, rfl, sa, ca, 7, rfl, S1, by decide, by decide, fun road H2 r0 r1 S2 kp2 => ?_⟩
    have hxD2 := kp2 _ _ hxD nDs nDc
    have hxp2 := hxp.kp S1 kp2
    have kp02 : Kp sa ca H H2 := (Kp.same sm).trans kp2
    -- a part of every, by draws
    refine ⟨_, rfl, rfl, _, rfl, ?_⟩
    refine ite2 (fun h0 => ?_) (fun h0 => ?_)
    · refine ⟨_, rfl, D, rfl, ⟨xs, SqL.of hxD2⟩, fun E hE => ?_⟩
      obtain ⟨nEs, nEc⟩ := S2.ne hE
      refine lc_list (xs := xs) (fun i H' => ∃ ys, H' E = some (.lst ys) ∧ ys.length ≤ i ∧ (∀ v ∈ ys, v ∈ xs) ∧ H' D = some (.lst xs) ∧ PairsAt n H' xs ∧ Src H' sa ca ∧ Kp sa ca H2 H') ⟨[], upd_same, Nat.le_refl _, (fun v hv => by cases hv), by rw [upd_ne (ne_of_none hxD2 hE)]; exact hxD2, hxp2.same (same_new hE), S2.new hE, (Kp.refl H2).off hE⟩ (fun i H' _ ⟨ys, _, _, _, h, _⟩ => SqL.of h) ?_ ?_
      · rintro i x H3 hi ⟨ys, hyE, hyl, hyx, hxD3, hxp3, S3, kp3⟩
        have hil := (List.getElem?_eq_some_iff.mp hi).1
        refine ⟨rfl, ?_⟩
        refine ⟨_, rfl, sa, ca, 3, rfl, S3, by decide, by decide, fun kk H4 k0 k1 S4 kp4 => ⟨rfl, _, rfl, ?_⟩⟩
        have hyE4 := kp4 _ _ hyE nEs nEc
        have hxD4 := kp4 _ _ hxD3 nDs nDc
        have hxp4 := hxp3.kp S3 kp4
        refine ite2 (fun _ => ?_) (fun _ => ⟨ys, hyE4, by omega, hyx, hxD4, hxp4, S4, kp3.trans kp4⟩)
        have hDE : D ≠ E := ne_of_none hxD2 hE
        refine ⟨_, rfl, ys, hyE4, Evl.sz_lt (by omega), ys ++ [x], upd_same, by simp; omega, ?_, by rw [upd_ne hDE]; exact hxD4, ?_, S4.upd nEs nEc, (kp3.trans kp4).off hE⟩
        · intro v hv
          rcases List.mem_append.mp hv with q | q
          · exact hyx v q
          · rw [List.mem_singleton] at q
            subst q
            exact List.mem_of_getElem? hi
        · refine fun v hv => ?_
          obtain ⟨u, i', j', a, b, r⟩ := hxp4 v hv
          refine ⟨u, i', j', a, ?_, r⟩
          rw [upd_ne (ne_of b hyE4 (by intro z; cases z))]
          exact b
      · rintro H3 ⟨ys, hyE, hyl, hyx, hxD3, hxp3, S3, kp3⟩
        exact k E ys H3 (kp02.free S2 hE) hyE (hxp3.sub hyx) (by omega) S3 (kp02.trans kp3)
    refine ⟨_, rfl, rfl, _, rfl, ?_⟩
    refine ite2 (fun h1 => ?_) (fun h1 => ?_)
    · refine ⟨_, rfl, D, rfl, ⟨xs, SqL.of hxD2⟩, fun E hE => ?_⟩
      obtain ⟨nEs, nEc⟩ := S2.ne hE
      refine lc_list (xs := xs) (fun i H' => ∃ ys, H' E = some (.lst ys) ∧ ys.length ≤ i ∧ (∀ v ∈ ys, v ∈ xs) ∧ H' D = some (.lst xs) ∧ PairsAt n H' xs ∧ Src H' sa ca ∧ Kp sa ca H2 H') ⟨[], upd_same, Nat.le_refl _, (fun v hv => by cases hv), by rw [upd_ne (ne_of_none hxD2 hE)]; exact hxD2, hxp2.same (same_new hE), S2.new hE, (Kp.refl H2).off hE⟩ (fun i H' _ ⟨ys, _, _, _, h, _⟩ => SqL.of h) ?_ ?_
      · rintro i x H3 hi ⟨ys, hyE, hyl, hyx, hxD3, hxp3, S3, kp3⟩
        have hil := (List.getElem?_eq_some_iff.mp hi).1
        refine ⟨rfl, ?_⟩
        refine ⟨_, rfl, sa, ca, 3, rfl, S3, by decide, by decide, fun kk H4 k0 k1 S4 kp4 => ⟨_, _, rfl, rfl, _, rfl, ?_⟩⟩
        have hyE4 := kp4 _ _ hyE nEs nEc
        have hxD4 := kp4 _ _ hxD3 nDs nDc
        have hxp4 := hxp3.kp S3 kp4
        refine ite2 (fun _ => ?_) (fun _ => ⟨ys, hyE4, by omega, hyx, hxD4, hxp4, S4, kp3.trans kp4⟩)
        have hDE : D ≠ E := ne_of_none hxD2 hE
        refine ⟨_, rfl, ys, hyE4, Evl.sz_lt (by omega), ys ++ [x], upd_same, by simp; omega, ?_, by rw [upd_ne hDE]; exact hxD4, ?_, S4.upd nEs nEc, (kp3.trans kp4).off hE⟩
        · intro v hv
          rcases List.mem_append.mp hv with q | q
          · exact hyx v q
          · rw [List.mem_singleton] at q
            subst q
            exact List.mem_of_getElem? hi
        · refine fun v hv => ?_
          obtain ⟨u, i', j', a, b, r⟩ := hxp4 v hv
          refine ⟨u, i', j', a, ?_, r⟩
          rw [upd_ne (ne_of b hyE4 (by intro z; cases z))]
          exact b
      · rintro H3 ⟨ys, hyE, hyl, hyx, hxD3, hxp3, S3, kp3⟩
        exact k E ys H3 (kp02.free S2 hE) hyE (hxp3.sub hyx) (by omega) S3 (kp02.trans kp3)
    refine ⟨_, rfl, rfl, _, rfl, ?_⟩
    refine ite2 (fun h2 => ?_) (fun h2 => ?_)
    · exact ⟨_, rfl, k D xs H2 hD hxD2 hxp2 (by omega) S2 kp02⟩
    -- rows
    refine ⟨_, rfl, _, _, rfl, rfl, _, rfl, by omega, by omega, fun R hR => ?_⟩
    refine lc_range (lo := 0) (n := (n - 1).toNat) (fun i H' => ∃ ys, H' R = some (.lst ys) ∧ ys.length ≤ i ∧ PairsAt n H' ys ∧ Same H2 H') ⟨[], upd_same, Nat.le_refl _, (fun v hv => by cases hv), same_new hR⟩ ?_ ?_
    · rintro i H3 hi ⟨ys, hyR, hyl, hyp, sm3⟩
      refine ⟨rfl, tyes ?_⟩
      refine ⟨_, rfl, _, rfl, _, _, rfl, rfl, (by show 2 ≤ sizeLine; decide), fun t ht => ?_⟩
      refine ⟨ys, by rw [upd_ne (ne_of_none hyR ht)]; exact hyR, Evl.sz_lt (by omega), ys ++ [.ref t], upd_same, by simp; omega, ?_, ?_⟩
      · have hDt : t ≠ R := fun e => by subst e; rw [ht] at hyR; cases hyR
        refine PairsAt.snoc (i := 0 + (i : Int)) (j := 0 + (i : Int) + 1) ?_ (by rw [upd_ne hDt, upd_same]) (by omega) (by omega) (by omega)
        refine fun v hv => ?_
        obtain ⟨u, i', j', a, b, r⟩ := hyp v hv
        refine ⟨u, i', j', a, ?_, r⟩
        rw [upd_ne (ne_of b hyR (by intro z; cases z)), upd_ne (ne_of_none b ht)]
        exact b
      · intro b o e
        have := sm3 b o e
        rw [upd_ne (ne_of_none e hR), upd_ne (ne_of_none this ht)]
        exact this
    rintro H3 ⟨ys, hyR, hyl, hyp, sm3⟩
    have hR0 : H R = none := kp02.free S2 hR
    have S3 := S2.same sm3
    have kp03 : Kp sa ca H H3 := kp02.trans (Kp.same sm3)
    refine ⟨fun σ H' => σ = [some (.ref sa), some (.int n), some (.ref D), some (.int road), some (.ref R), none, none, none] ∧ H' = H3, ?_, ?_⟩
    · refine ⟨_, rfl, rfl, _, rfl, ?_⟩
      refine ite2 (fun h3 => ?_) (fun h3 => iteF ⟨rfl, rfl⟩)
      refine ⟨_, rfl, _, _, rfl, rfl, _, rfl, ?_⟩
      refine ite2 (fun h4 => ?_) (fun h4 => ⟨rfl, rfl⟩)
      have hn2 := of_decide_eq_true h4
      refine ⟨_, rfl, _, rfl, _, _, rfl, rfl, (by show 2 ≤ sizeLine; decide), fun t ht => ?_⟩
      refine ⟨(by show 1 ≤ sizeLine; decide), fun l hl => ?_⟩
      have hlt : l ≠ t := fun e => by subst e; rw [upd_same] at hl; cases hl
      have hRt : R ≠ t := ne_of_none hyR ht
      have hl3 : H3 l = none := by rw [upd_ne hlt] at hl; exact hl
      have hRl : R ≠ l := ne_of_none hyR hl3
      refine ⟨R, l, _, _, rfl, rfl, (by rw [upd_ne hRl, upd_ne hRt]; exact hyR), upd_same, ?_, fun p hp => ?_⟩
      · show ys.length + 1 ≤ sizeLine
        exact Evl.sz_of (by omega)
      · have hpl : p ≠ l := fun e => by subst e; rw [upd_same] at hp; cases hp
        rw [upd_ne hpl] at hp
        have hpt : p ≠ t := fun e => by subst e; rw [upd_same] at hp; cases hp
        rw [upd_ne hpt] at hp
        have sm4 : Same H3 (upd (upd (upd H3 t (.tup [.int 0, .int (n - 1)])) l (.lst [.ref t])) p (.lst (ys ++ [.ref t]))) := fun b o e => by
          rw [upd_ne (ne_of_none e hp), upd_ne (ne_of_none e hl3), upd_ne (ne_of_none e ht)]
          exact e
        refine k p _ _ (kp03.free S3 hp) upd_same ?_ (by simp; omega) (S3.same sm4) (kp03.trans (Kp.same sm4))
        refine PairsAt.snoc (i := 0) (j := n - 1) (hyp.same sm4) (by rw [upd_ne hpt.symm, upd_ne hlt.symm, upd_same]) (by omega) (by omega) (by omega)
    rintro σ H' ⟨rfl, rfl⟩
    refine ⟨_, rfl, rfl, _, rfl, ?_⟩
    refine ite2 (fun h3 => ?_) (fun h3 => ?_)
    · refine ⟨_, rfl, _, _, rfl, by omega, fun E hE => ?_⟩
      refine lc_range (lo := 1) (n := (n - 1).toNat) (fun i H3 => ∃ zs, H3 E = some (.lst zs) ∧ zs.length ≤ i ∧ PairsAt n H3 zs ∧ Same H' H3) ⟨[], upd_same, Nat.le_refl _, (fun v hv => by cases hv), same_new hE⟩ ?_ ?_
      · rintro i H4 hi ⟨zs, hzE, hzl, hzp, sm4⟩
        refine ⟨rfl, tyes ?_⟩
        refine ⟨_, rfl, (by show 2 ≤ sizeLine; decide), fun t ht => ?_⟩
        refine ⟨zs, by rw [upd_ne (ne_of_none hzE ht)]; exact hzE, Evl.sz_lt (by omega), zs ++ [.ref t], upd_same, by simp; omega, ?_, ?_⟩
        · have hDt : t ≠ E := fun e => by subst e; rw [ht] at hzE; cases hzE
          refine PairsAt.snoc (i := 0) (j := 1 + (i : Int)) ?_ (by rw [upd_ne hDt, upd_same]) (by omega) (by omega) (by omega)
          refine fun v hv => ?_
          obtain ⟨u, i', j', a, b, r⟩ := hzp v hv
          refine ⟨u, i', j', a, ?_, r⟩
          rw [upd_ne (ne_of b hzE (by intro z; cases z)), upd_ne (ne_of_none b ht)]
          exact b
        · intro b o e
          have := sm4 b o e
          rw [upd_ne (ne_of_none e hE), upd_ne (ne_of_none this ht)]
          exact this
      · rintro H4 ⟨zs, hzE, hzl, hzp, sm4⟩
        exact k E zs H4 (kp03.free S3 hE) hzE hzp (by omega) (S3.same sm4) (kp03.trans (Kp.same sm4))
    · refine ⟨_, rfl, _, rfl, rfl, .inr ⟨_, rfl, _, _, rfl, rfl, _, rfl, R, ys, rfl, ?_, rfl, SqL.of hyR, fun p hp => ?_⟩⟩
      · show (1 + (if decide (V.int road = V.int 5) = true then (1 : Int) else 0)) ≠ 0
        split <;> decide
      · have sm4 := same_new (o := .lst (stepV ys ((some (1 + (if decide (V.int road = V.int 5) = true then (1 : Int) else 0))).getD 1))) hp
        refine k p _ _ (kp03.free S3 hp) upd_same ((hyp.same sm4).sub fun v hv => stepV_mem hv) ?_ (S3.same sm4) (kp03.trans (Kp.same sm4))
        exact Nat.le_trans (stepV_len _ _) (by omega)
end
end Nm
set_option maxRecDepth 100000
set_option maxHeartbeats 4000000
namespace Nm
open PySem L2
theorem nx {H : Hp} {p q : Addr} {o : HO} (h : upd H p o q = none) : q ≠ p ∧ H q = none := by
  by_cases e : q = p
  · subst e; rw [upd_same] at h; cases h
  · rw [upd_ne e] at h; exact ⟨e, h⟩
def strOf : V → Str
  | .str x => x
  | _ => ""
def intOf : V → Int
  | .int x => x
  | _ => 0
theorem perm_str {ys : List V} {xs : List Str} (h : ys.Perm (xs.map V.str)) : ∃ zs : List Str, ys = zs.map V.str ∧ zs.Perm xs := by
  refine ⟨ys.map strOf, ?_, ?_⟩
  · rw [List.map_map]
    conv => lhs; rw [← List.map_id ys]
    refine List.map_congr_left fun v hv => ?_
    obtain ⟨x, _, rfl⟩ := List.mem_map.mp (h.subset hv)
    rfl
  · have := h.map strOf
    rw [List.map_map] at this
    have e : xs.map (strOf ∘ V.str) = xs := by
      conv => rhs; rw [← List.map_id xs]
      rfl
    rw [e] at this
    exact this
theorem perm_int {ys : List V} {xs : List Int} (h : ys.Perm (xs.map V.int)) : ∃ zs : List Int, ys = zs.map V.int ∧ zs.Perm xs := by
  refine ⟨ys.map intOf, ?_, ?_⟩
  · rw [List.map_map]
    conv => lhs; rw [← List.map_id ys]
    refine List.map_congr_left fun v hv => ?_
    obtain ⟨x, _, rfl⟩ := List.mem_map.mp (h.subset hv)
    rfl
  · have := h.map intOf
    rw [List.map_map] at this
    have e : xs.map (intOf ∘ V.int) = xs := by
      conv => rhs; rw [← List.map_id xs]
      rfl
    rw [e] at this
    exact this
theorem cut_upto (xs : List V) (n : Nat) : cutV xs none (some (n : Int)) = xs.take n := by
  unfold cutV
  have e1 : HT.sIx xs.length 0 none = 0 := rfl
  have e2 : HT.sIx xs.length xs.length (some (n : Int)) = min n xs.length := by
    unfold HT.sIx
    simp
    try omega
  rw [e1, e2]
  simp
section
variable {κ : Type} [DecidableEq κ]
theorem keys_put (kvs : List (κ × V)) (k : κ) (v : V) : (putK kvs k v).map (·.1) = if k ∈ kvs.map (·.1) then kvs.map (·.1) else kvs.map (·.1) ++ [k] := by
  unfold putK
  by_cases h : (kvs.any fun kv => decide (kv.1 = k)) = true
  · have hm : k ∈ kvs.map (·.1) := by
      obtain ⟨kv, h1, h2⟩ := List.any_eq_true.mp h
      exact List.mem_map.mpr ⟨kv, h1, of_decide_eq_true h2⟩
    rw [if_pos h, if_pos hm, List.map_map]
    refine List.map_congr_left fun kv _ => ?_
    show (if kv.1 = k then (kv.1, v) else kv).1 = kv.1
    split <;> rfl
  · have hm : ¬ k ∈ kvs.map (·.1) := fun hm => by
      obtain ⟨kv, h1, h2⟩ := List.mem_map.mp hm
      exact h (List.any_eq_true.mpr ⟨kv, h1, decide_eq_true h2⟩)
    rw [if_neg h, if_neg hm, List.map_append]
    rfl
theorem val_of_mem : ∀ {kvs : List (κ × V)} {k : κ} {v : V}, (kvs.map (·.1)).Nodup → (k, v) ∈ kvs → valV kvs k = some v
  | kv :: r, k, v, nd, h => by
    rw [List.map_cons, List.nodup_cons] at nd
    rcases List.mem_cons.mp h with e | e
    · subst e
      exact valV_pos rfl
    · have hne : ¬ kv.1 = k := fun z => nd.1 (z ▸ List.mem_map.mpr ⟨(k, v), e, rfl⟩)
      rw [valV_neg hne]
      exact val_of_mem nd.2 e
theorem nodup_put {kvs : List (κ × V)} (k : κ) (v : V) (h : (kvs.map (·.1)).Nodup) : ((putK kvs k v).map (·.1)).Nodup := by
  rw [keys_put]
  split
  · exact h
  · rename_i hn
    rw [List.nodup_append]
    refine ⟨h, by simp, fun a ha b hb => ?_⟩
    rw [List.mem_singleton] at hb
    subst hb
    exact fun e => hn (e ▸ ha)
theorem mem_put {kvs : List (κ × V)} {k : κ} {v : V} {p : κ × V} (h : p ∈ putK kvs k v) : p = (k, v) ∨ (p ∈ kvs ∧ p.1 ≠ k) := by
  unfold putK at h
  by_cases h0 : (kvs.any fun kv => decide (kv.1 = k)) = true
  · rw [if_pos h0] at h
    obtain ⟨kv, h1, h2⟩ := List.mem_map.mp h
    by_cases e : kv.1 = k
    · rw [if_pos e] at h2
      left
      rw [← h2, e]
    · rw [if_neg e] at h2
      right
      subst h2
      exact ⟨h1, e⟩
  · rw [if_neg h0] at h
    rcases List.mem_append.mp h with q | q
    · right
      refine ⟨q, fun e => h0 (List.any_eq_true.mpr ⟨p, q, decide_eq_true e⟩)⟩
    · left
      exact List.mem_singleton.mp q
end
end Nm
set_option maxRecDepth 100000
set_option maxHeartbeats 4000000
namespace Nm
open PySem L2
/-! ### words, ties, worlds -/
def letB (z : Str) : Str := Txt.rstripChars z "0123456789"
def isWordB (z : Str) : Bool := decide (z.length ≤ 100) && decide (1 ≤ (letB z).length) && decide ((letB z).length ≤ 8) && decide (z.length ≤ (letB z).length + 4) && (letB z).cps.toList.all (fun c => decide (c ∈ ("abcdefghijklmnopqrstuvwxyz" : Str).cps.toList))
def TieK (n : Nat) (k : List Key) : Prop := ∃ (i j : Nat) (kd : Str), k = [Sum.inl (i : Int), Sum.inl (j : Int), Sum.inr kd] ∧ i < j ∧ j < n ∧ isWordB kd = true
structure Ties (n m : Nat) (kvs : List (List Key × V)) : Prop where
  key : ∀ kv ∈ kvs, TieK n kv.1
  val : ∀ kv ∈ kvs, ∃ x : Nat, kv.2 = V.int (x : Int) ∧ 1 ≤ x ∧ x ≤ m
  nd : (kvs.map (·.1)).Nodup
theorem Ties.nil (n m : Nat) : Ties n m [] := ⟨fun _ h => (List.not_mem_nil h).elim, fun _ h => (List.not_mem_nil h).elim, List.nodup_nil⟩
theorem Ties.put {n m : Nat} {kvs : List (List Key × V)} (h : Ties n m kvs) {k : List Key} {x : Nat} (hk : TieK n k) (h1 : 1 ≤ x) (h2 : x ≤ m) : Ties n m (putK kvs k (V.int (x : Int))) := by
  refine ⟨fun kv hm => ?_, fun kv hm => ?_, nodup_put _ _ h.nd⟩
  · rcases mem_put hm with e | e
    · rw [e]; exact hk
    · exact h.key kv e.1
  · rcases mem_put hm with e | e
    · rw [e]; exact ⟨x, rfl, h1, h2⟩
    · exact h.val kv e.1
/-- all but the source and one thing more stays -/
def Kp3 (s c t : Addr) (H H' : Hp) : Prop := ∀ b o, H b = some o → b ≠ s → b ≠ c → b ≠ t → H' b = some o
theorem Kp3.refl {s c t : Addr} (H : Hp) : Kp3 s c t H H := fun _ _ h _ _ _ => h
theorem Kp3.kp {s c t : Addr} {H H1 H2 : Hp} (a : Kp3 s c t H H1) (b : Kp s c H1 H2) : Kp3 s c t H H2 := fun x o h h1 h2 h3 => b x o (a x o h h1 h2 h3) h1 h2
theorem Kp3.off {s c t : Addr} {H H1 : Hp} {p : Addr} {o : HO} (a : Kp3 s c t H H1) (h : H1 p = none) : Kp3 s c t H (upd H1 p o) := fun x u e h1 h2 h3 => by
  have := a x u e h1 h2 h3
  rw [upd_ne (ne_of_none this h)]
  exact this
theorem Kp3.put {s c t : Addr} {H H1 : Hp} {o : HO} (a : Kp3 s c t H H1) : Kp3 s c t H (upd H1 t o) := fun x u e h1 h2 h3 => by
  rw [upd_ne h3]
  exact a x u e h1 h2 h3
theorem PairsAt.put {n : Int} {H : Hp} {xs : List V} {t : Addr} {o u : HO} (h : PairsAt n H xs) (e : H t = some u) (hu : ∀ ys, u ≠ .tup ys) : PairsAt n (upd H t o) xs := fun v hv => by
  obtain ⟨q, i, j, a, b, r⟩ := h v hv
  refine ⟨q, i, j, a, ?_, r⟩
  rw [upd_ne (ne_of b e (fun z => hu _ z.symm))]
  exact b
/-- a list of one to three words, new since H -/
def WordL (H0 H : Hp) (v : V) : Prop := ∃ e es, v = V.ref e ∧ H0 e = none ∧ H e = some (.lst (List.map V.str es)) ∧ 1 ≤ es.length ∧ es.length ≤ 3 ∧ ∀ x ∈ es, isWordB x = true
theorem WordL.kp {H0 H H' : Hp} {s c : Addr} {v : V} (S : Src H0 s c) (h : WordL H0 H v) (k : Kp s c H H') : WordL H0 H' v := by
  obtain ⟨e, es, a, b, d, r⟩ := h
  obtain ⟨n1, n2⟩ := S.ne b
  exact ⟨e, es, a, b, k _ _ d n1 n2, r⟩
theorem WordL.same {H0 H H' : Hp} {v : V} (h : WordL H0 H v) (k : Same H H') : WordL H0 H' v := by
  obtain ⟨e, es, a, b, d, r⟩ := h
  exact ⟨e, es, a, b, k _ _ d, r⟩
theorem WordL.mk {H0 H : Hp} {l : Addr} (es : List Str) (h0 : Same H0 H) (h : H l = none) (h1 : (decide (1 ≤ es.length) && decide (es.length ≤ 3) && es.all isWordB) = true) : WordL H0 (upd H l (.lst (es.map V.str))) (.ref l) := by
  simp only [Bool.and_eq_true, decide_eq_true_eq, List.all_eq_true] at h1
  exact ⟨l, es, rfl, h0.free h, upd_same, h1.1.1, h1.1.2, h1.2⟩
def seven : List Str := ["a", "b", "c", "d", "e", "p0", "north"]
theorem seven_nd : seven.Nodup := by decide +kernel
theorem seven_w : ∀ x ∈ seven, isWordB x = true := by decide +kernel
def worldD (a b t : Addr) : List (Key × V) := [(Sum.inr "names", V.ref a), (Sum.inr "colours", V.ref b), (Sum.inr "ties", V.ref t)]
structure WorldOk (H : Hp) (s c wd a b t : Addr) (nm cl : List Str) (kvs : List (List Key × V)) : Prop where
  d : H wd = some (.dK (worldD a b t))
  hn : H a = some (.lst (nm.map V.str))
  hc : H b = some (.lst (cl.map V.str))
  ht : H t = some (.dT kvs)
  ds : wd ≠ s ∧ wd ≠ c
  as : a ≠ s ∧ a ≠ c
  bs : b ≠ s ∧ b ≠ c
  ts : t ≠ s ∧ t ≠ c
  nn : nm.Nodup
  nw : ∀ x ∈ nm, isWordB x = true
  cw : ∀ x ∈ cl, isWordB x = true
  cn : cl.length = nm.length
  n1 : 1 ≤ nm.length
theorem WorldOk.kp {H H' : Hp} {s c wd a b t : Addr} {nm cl : List Str} {kvs : List (List Key × V)} (W : WorldOk H s c wd a b t nm cl kvs) (e : Kp s c H H') : WorldOk H' s c wd a b t nm cl kvs :=
  ⟨e _ _ W.d W.ds.1 W.ds.2, e _ _ W.hn W.as.1 W.as.2, e _ _ W.hc W.bs.1 W.bs.2, e _ _ W.ht W.ts.1 W.ts.2, W.ds, W.as, W.bs, W.ts, W.nn, W.nw, W.cw, W.cn, W.n1⟩
theorem WorldOk.same {H H' : Hp} {s c wd a b t : Addr} {nm cl : List Str} {kvs : List (List Key × V)} (W : WorldOk H s c wd a b t nm cl kvs) (e : Same H H') : WorldOk H' s c wd a b t nm cl kvs := W.kp (Kp.same e)
theorem w1 : ¬ (("names" : Str) = "colours") := by decide +kernel
theorem w2 : ¬ (("names" : Str) = "ties") := by decide +kernel
theorem w3 : ¬ (("colours" : Str) = "ties") := by decide +kernel
section
variable {a b t : Addr}
theorem wd_names : valV (worldD a b t) (Sum.inr "names" : Key) = some (.ref a) := valV_pos rfl
theorem wd_colours : valV (worldD a b t) (Sum.inr "colours" : Key) = some (.ref b) := by
  unfold worldD
  rw [valV_neg (inr_ne w1)]
  exact valV_pos rfl
theorem wd_ties : valV (worldD a b t) (Sum.inr "ties" : Key) = some (.ref t) := by
  unfold worldD
  rw [valV_neg (inr_ne w2), valV_neg (inr_ne w3)]
  exact valV_pos rfl
theorem merge_wd : mergeK [] (worldD a b t) = worldD a b t := by
  unfold mergeK worldD
  simp [putK, w1, w2, w3]
theorem dg_names {H : Hp} {wd : Addr} (h : H wd = some (.dK (worldD a b t))) : DGet H wd (V.str "names") (some (.ref a)) := by rw [← wd_names (a := a) (b := b) (t := t)]; exact DGet.k (k := Sum.inr "names") h
theorem dg_colours {H : Hp} {wd : Addr} (h : H wd = some (.dK (worldD a b t))) : DGet H wd (V.str "colours") (some (.ref b)) := by rw [← wd_colours (a := a) (b := b) (t := t)]; exact DGet.k (k := Sum.inr "colours") h
theorem dg_ties {H : Hp} {wd : Addr} (h : H wd = some (.dK (worldD a b t))) : DGet H wd (V.str "ties") (some (.ref t)) := by rw [← wd_ties (a := a) (b := b) (t := t)]; exact DGet.k (k := Sum.inr "ties") h
end
section
variable {P : Program} {w : World} {K : PySem.W.Frag} {mg : Str → Option Value} {base : Heap}
/-! ### _law_draw_world -/
def spDraw : Sp := fun vs H Q _ => ∃ (s c : Addr) (m : Int), vs = [.ref s, .int m] ∧ Src H s c ∧ 1 ≤ m ∧ m ≤ 7 ∧
  ∀ (wd a b t : Addr) (nm cl : List Str) (kvs : List (List Key × V)) (H' : Hp), H wd = none → H a = none → H b = none → H t = none → WorldOk H' s c wd a b t nm cl kvs → (nm.length : Int) ≤ m → Ties nm.length 2 kvs → kvs.length ≤ 300 → Src H' s c → Kp s c H H' → Q (.ref wd) H'
abbrev nDraw : List Str := ["_law_source", "_law_most", "_law_count", "_law_names", "_law_every", "_law_kinds", "_law_ties", "_law_wide", "_law_kind", "_law_one", "_law_other", "_law_name"]
theorem scDraw : FnScope nDraw ["_law_source", "_law_most"] (defScope sDrawWorld) := ⟨rfl, rfl, rfl, by decide +kernel, rfl, by decide +kernel, by decide +kernel⟩
theorem ok_draw {f : Addr} {fd : FuncData} (F : Fun K "_law_draw_world" "_law_draw_world" sDrawWorld f fd) (T : TxtB mg) (Gp : Def P w K mg base "_law_pick" ["_law_source", "_law_many"] 1 spPick)
    (Ga : Def P w K mg base "_law_any_order" ["_law_source", "_law_items"] 2 (spAny K)) (Gs : Def P w K mg base "_law_shape_pairs" ["_law_source", "_law_count"] 2 spShape) (Gc : Def P w K mg base "_law_choice_of" ["_law_source", "_law_items"] 2 (spChoice K)) :
    FnOk P w K mg base CX0 3 f fd ["_law_source", "_law_most"] spDraw := by
  obtain ⟨fp, fdp, Gp, mp, kp, bp⟩ := Gp.ex
  obtain ⟨fa, fda, Ga, ma, ka, ba⟩ := Ga.ex
  obtain ⟨fs, fds, Gs, ms, ks, bs⟩ := Gs.ex
  obtain ⟨fc, fdc, Gc, mc, kc, bc⟩ := Gc.ex
  refine F.ok scDraw (fun vs H Q E h => ?_) (fun cdv A outer s H vs Q E hr h => ?_)
  · obtain ⟨p, dx, n, rfl, _⟩ := h
    rfl
  · obtain ⟨sa, ca, m, rfl, S, n1, n2, k⟩ := h
    have hu := hu_of hr
    have hr1 := hr.mono (by decide : 1 ≤ 2)
    refine ⟨_, Evl.pss_cut (ps_set (i := 2) scDraw.nd rfl (Or.inl rfl) (pe_op op_add pe_int (pe_call Gp hr1 (by rfl) mp kp bp .nil pass0 (pa_cons (pv 0) (pa_cons (pv 1) pa_nil)))))
      (Evl.pss_cut (ps_set (i := 3) scDraw.nd rfl (Or.inl rfl) (pe_slice sl_list (pe_call Ga hr (by rfl) ma ka ba .nil pass0 (pa_cons (pv 0) (pa_cons (pe_lst (pa_cons pe_str (pa_cons pe_str (pa_cons pe_str (pa_cons pe_str (pa_cons pe_str (pa_cons pe_str (pa_cons pe_str pa_nil)))))))) pa_nil))) po_none (po_some (pv 2))))
      (Evl.pss_cut (ps_set (i := 4) scDraw.nd rfl (Or.inr rfl) (pe_ix ix_list (pe_lst (pa_cons (pe_lst (pa_cons pe_str pa_nil)) (pa_cons (pe_lst (pa_cons pe_str pa_nil)) (pa_cons (pe_lst (pa_cons pe_str (pa_cons pe_str pa_nil))) (pa_cons (pe_lst (pa_cons pe_str (pa_cons pe_str (pa_cons pe_str pa_nil)))) (pa_cons (pe_lst (pa_cons pe_str (pa_cons pe_str pa_nil))) pa_nil)))))) (pe_call Gp hr1 (by rfl) mp kp bp .nil pass0 (pa_cons (pv 0) (pa_cons pe_int pa_nil))) (fun _ _ => rfl)))
      (Evl.pss_cut (ps_set (i := 5) scDraw.nd rfl (Or.inl rfl) (pe_ix ix_list (pe_lst (pa_cons (pe_lst (pa_cons pe_str pa_nil)) (pa_cons (pe_lst (pa_cons pe_str pa_nil)) (pa_cons (pe_lst (pa_cons pe_str (pa_cons pe_str pa_nil))) (pa_cons (pe_lst (pa_cons pe_str (pa_cons pe_str pa_nil))) pa_nil))))) (pe_call Gp hr1 (by rfl) mp kp bp .nil pass0 (pa_cons (pv 0) (pa_cons pe_int pa_nil))) (fun _ _ => rfl)))
      (Evl.pss_cut (ps_par (i := 6) (j := 7) (by rfl) scDraw.nd rfl rfl (by decide) rfl rfl (pa_cons pe_dnewT (pa_cons (pe_call Gp hr1 (by rfl) mp kp bp .nil pass0 (pa_cons (pv 0) (pa_cons pe_int pa_nil))) pa_nil)) (by rfl))
      (Evl.pss_cut (ps_for PassesOwn.never rfl (pi_list (pv 5)) (pg_name (i := 8) scDraw.nd rfl (Or.inl rfl))
        (pss_one (ps_for PassesOwn.never rfl (pi_list (pe_call Gs hr (by rfl) ms ks bs .nil pass0 (pa_cons (pv 0) (pa_cons (pv 2) pa_nil)))) (pg_tup rfl (pgs_cons (pg_name (i := 9) scDraw.nd rfl (.inl rfl)) (pgs_cons (pg_name (i := 10) scDraw.nd rfl (.inl rfl)) pgs_nil)))
          (pss_one (ps_dput hu (pv 6) (pe_tup (pa_cons (pv 9) (pa_cons (pv 10) (pa_cons (pv 8) pa_nil)))) (pe_ix ix_list (pe_lst (pa_cons pe_int (pa_cons pe_int (pa_cons (pe_op op_add pe_int (pe_call Gp hr1 (by rfl) mp kp bp .nil pass0 (pa_cons (pv 0) (pa_cons pe_int pa_nil)))) pa_nil)))) (pv 7) (fun _ _ => rfl)) rfl)))))
      (pss_one (ps_ret (pe_disp (pps_cons pe_str (pv 3) (pps_cons pe_str (pe_lc (own := [("_law_name", 11)]) (g := gName 11) (tt := tYes) (te := tCall (spChoice K) [] E0 (tCons (tVar 0) (tCons (tVar 4) tNil))) rfl scDraw.nd (pi_list (pv 3))
          (blkOk_by (N := nDraw) (sc := defScope sDrawWorld) (by decide +kernel)) (fun _ _ _ _ _ => pg_name (i := 11) scDraw.nd rfl (Or.inl rfl)) (fun _ _ _ _ _ => pts_nil)
          (fun _ _ _ _ _ => by exact pe_call Gc hr (by rfl) mc kc bc .nil pass0 (pa_cons (pv 0) (pa_cons (pv 4) pa_nil))))
          (pps_cons pe_str (pv 6) pps_nil))) (by rfl) (by rfl) (fun z => by cases z) (by decide))))))))), ?_⟩
    -- count
    refine ⟨fun σ H1 => ∃ n : Nat, σ = [some (.ref sa), some (.int m), some (.int (n : Int)), none, none, none, none, none, none, none, none, none] ∧ 1 ≤ n ∧ (n : Int) ≤ m ∧ Src H1 sa ca ∧ Kp sa ca H H1, ?_, ?_⟩
    · refine ⟨_, rfl, _, rfl, sa, ca, m, rfl, S, n1, by omega, fun kk H1 k0 k1 S1 kp1 => ⟨_, _, rfl, rfl, ?_⟩⟩
      refine ⟨(1 + kk).toNat, ?_, by omega, by omega, S1, kp1⟩
      rw [Int.toNat_of_nonneg (by omega)]
      rfl
    rintro σ H1 ⟨n, rfl, hn1, hn7, S1, kp1⟩
    -- names
    refine ⟨fun σ H3 => ∃ q nm, σ = [some (.ref sa), some (.int m), some (.int (n : Int)), some (.ref q), none, none, none, none, none, none, none, none] ∧ H q = none ∧ H3 q = some (.lst (List.map V.str nm)) ∧ nm.length = n ∧ nm.Nodup ∧ (∀ x ∈ nm, isWordB x = true) ∧ Src H3 sa ca ∧ Kp sa ca H H3, ?_, ?_⟩
    · refine ⟨_, rfl, (by show 7 ≤ sizeLine; decide), fun l hl => ?_⟩
      refine ⟨sa, ca, l, _, rfl, S1.new hl, SqL.of upd_same, (by show 7 ≤ 10000; decide), fun p ys H2 hp pm hpl S2 kp2 => ?_⟩
      refine ⟨_, rfl, _, rfl, p, ys, rfl, SqL.of hpl, fun q hq => ?_⟩
      obtain ⟨zs, rfl, pz⟩ := perm_str (xs := seven) pm
      have hzl : zs.length = 7 := pz.length_eq
      have kp02 : Kp sa ca H H2 := kp1.trans ((Kp.same (same_new hl)).trans kp2)
      have hq0 : H q = none := kp02.free S2 hq
      refine ⟨q, zs.take n, rfl, hq0, by rw [upd_same, cut_upto, ← List.map_take], by rw [List.length_take]; omega, ((List.take_sublist n zs).nodup (pz.nodup_iff.mpr seven_nd)), fun x hx => seven_w x (pz.subset ((List.take_sublist n zs).subset hx)), S2.new hq, kp02.off hq0⟩
    rintro σ H3 ⟨q, nm, rfl, hq0, hq, hlen, hnd, hwd, S3, kp3⟩
    -- every
    refine ⟨fun σ H4 => ∃ v, σ = [some (.ref sa), some (.int m), some (.int (n : Int)), some (.ref q), some v, none, none, none, none, none, none, none] ∧ WordL H3 H4 v ∧ Src H4 sa ca ∧ Kp sa ca H3 H4, ?_, ?_⟩
    · refine ⟨(by show 1 ≤ sizeLine; decide), fun l1 h1 => ⟨(by show 1 ≤ sizeLine; decide), fun l2 h2 => ⟨(by show 2 ≤ sizeLine; decide), fun l3 h3 => ⟨(by show 3 ≤ sizeLine; decide), fun l4 h4 => ⟨(by show 2 ≤ sizeLine; decide), fun l5 h5 => ⟨(by show 5 ≤ sizeLine; decide), fun l6 h6 => ?_⟩⟩⟩⟩⟩⟩
      have s1 := same_new (o := .lst ((["o"] : List Str).map V.str)) h1
      have s2 := s1.trans (same_new (o := .lst ((["o"] : List Str).map V.str)) h2)
      have s3 := s2.trans (same_new (o := .lst ((["red", "blue"] : List Str).map V.str)) h3)
      have s4 := s3.trans (same_new (o := .lst ((["x", "y", "z"] : List Str).map V.str)) h4)
      have s5 := s4.trans (same_new (o := .lst ((["m10", "m2"] : List Str).map V.str)) h5)
      have s6 := same_new (o := .lst [.ref l1, .ref l2, .ref l3, .ref l4, .ref l5]) h6
      have a5 := (WordL.mk ["m10", "m2"] s4 h5 (by decide +kernel)).same s6
      have a4 := ((WordL.mk ["x", "y", "z"] s3 h4 (by decide +kernel)).same (same_new h5)).same s6
      have a3 := (((WordL.mk ["red", "blue"] s2 h3 (by decide +kernel)).same (same_new h4)).same (same_new h5)).same s6
      have a2 := ((((WordL.mk ["o"] s1 h2 (by decide +kernel)).same (same_new h3)).same (same_new h4)).same (same_new h5)).same s6
      have a1 := (((((WordL.mk ["o"] (Same.refl H3) h1 (by decide +kernel)).same (same_new h2)).same (same_new h3)).same (same_new h4)).same (same_new h5)).same s6
      have all : ∀ v ∈ [V.ref l1, V.ref l2, V.ref l3, V.ref l4, V.ref l5], WordL H3 _ v := fun v hv => by
        rcases List.mem_cons.mp hv with rfl | hv
        · exact a1
        rcases List.mem_cons.mp hv with rfl | hv
        · exact a2
        rcases List.mem_cons.mp hv with rfl | hv
        · exact a3
        rcases List.mem_cons.mp hv with rfl | hv
        · exact a4
        rcases List.mem_cons.mp hv with rfl | hv
        · exact a5
        cases hv
      have s06 := s5.trans s6
      refine ⟨_, rfl, sa, ca, 5, rfl, S3.same s06, by decide, by decide, fun kk H4 k0 k1 S4 kp4 => ?_⟩
      obtain ⟨n6s, n6c⟩ := S3.ne (s5.free h6)
      have hl6 := kp4 _ _ upd_same n6s n6c
      obtain ⟨v, hv⟩ : ∃ v, [V.ref l1, V.ref l2, V.ref l3, V.ref l4, V.ref l5][kk.toNat]? = some v := ⟨_, List.getElem?_eq_getElem (by show kk.toNat < 5; omega)⟩
      refine ⟨l6, _, kk, v, rfl, rfl, SqL.of hl6, ?_, v, rfl, (all v (List.mem_of_getElem? hv)).kp S3 kp4, S4, (Kp.same s06).trans kp4⟩
      have := atI_nat hv
      rw [Int.toNat_of_nonneg k0] at this
      exact this
    rintro σ H4 ⟨ev, rfl, hev, S4, kp4⟩
    -- kinds
    refine ⟨fun σ H5 => ∃ v, σ = [some (.ref sa), some (.int m), some (.int (n : Int)), some (.ref q), some ev, some v, none, none, none, none, none, none] ∧ WordL H4 H5 v ∧ Src H5 sa ca ∧ Kp sa ca H4 H5, ?_, ?_⟩
    · refine ⟨(by show 1 ≤ sizeLine; decide), fun l1 h1 => ⟨(by show 1 ≤ sizeLine; decide), fun l2 h2 => ⟨(by show 2 ≤ sizeLine; decide), fun l3 h3 => ⟨(by show 2 ≤ sizeLine; decide), fun l4 h4 => ⟨(by show 4 ≤ sizeLine; decide), fun l6 h6 => ?_⟩⟩⟩⟩⟩
      have s1 := same_new (o := .lst ((["c"] : List Str).map V.str)) h1
      have s2 := s1.trans (same_new (o := .lst ((["c"] : List Str).map V.str)) h2)
      have s3 := s2.trans (same_new (o := .lst ((["k", "c"] : List Str).map V.str)) h3)
      have s4 := s3.trans (same_new (o := .lst ((["k2", "k10"] : List Str).map V.str)) h4)
      have s6 := same_new (o := .lst [.ref l1, .ref l2, .ref l3, .ref l4]) h6
      have a4 := (WordL.mk ["k2", "k10"] s3 h4 (by decide +kernel)).same s6
      have a3 := ((WordL.mk ["k", "c"] s2 h3 (by decide +kernel)).same (same_new h4)).same s6
      have a2 := (((WordL.mk ["c"] s1 h2 (by decide +kernel)).same (same_new h3)).same (same_new h4)).same s6
      have a1 := ((((WordL.mk ["c"] (Same.refl H4) h1 (by decide +kernel)).same (same_new h2)).same (same_new h3)).same (same_new h4)).same s6
      have all : ∀ v ∈ [V.ref l1, V.ref l2, V.ref l3, V.ref l4], WordL H4 _ v := fun v hv => by
        rcases List.mem_cons.mp hv with rfl | hv
        · exact a1
        rcases List.mem_cons.mp hv with rfl | hv
        · exact a2
        rcases List.mem_cons.mp hv with rfl | hv
        · exact a3
        rcases List.mem_cons.mp hv with rfl | hv
        · exact a4
        cases hv
      have s06 := s4.trans s6
      refine ⟨_, rfl, sa, ca, 4, rfl, S4.same s06, by decide, by decide, fun kk H5 k0 k1 S5 kp5 => ?_⟩
      obtain ⟨n6s, n6c⟩ := S4.ne (s4.free h6)
      have hl6 := kp5 _ _ upd_same n6s n6c
      obtain ⟨v, hv⟩ : ∃ v, [V.ref l1, V.ref l2, V.ref l3, V.ref l4][kk.toNat]? = some v := ⟨_, List.getElem?_eq_getElem (by show kk.toNat < 4; omega)⟩
      refine ⟨l6, _, kk, v, rfl, rfl, SqL.of hl6, ?_, v, rfl, (all v (List.mem_of_getElem? hv)).kp S4 kp5, S5, (Kp.same s06).trans kp5⟩
      have := atI_nat hv
      rw [Int.toNat_of_nonneg k0] at this
      exact this
    rintro σ H5 ⟨kv, rfl, hkv, S5, kp5⟩
    have hev5 := hev.kp S3 kp5
    obtain ⟨ea, es, rfl, ea0, hea, e1, e2, ew⟩ := hev5
    obtain ⟨ka', ks', rfl, ka0, hka, kk1, kk2, kw⟩ := hkv
    have kp05 : Kp sa ca H H5 := (kp3.trans kp4).trans kp5
    obtain ⟨nqs, nqc⟩ := S.ne hq0
    have hq5 : H5 q = some (.lst (List.map V.str nm)) := kp5 _ _ (kp4 _ _ hq nqs nqc) nqs nqc
    obtain ⟨nes, nec⟩ := S3.ne ea0
    obtain ⟨nks, nkc⟩ := S4.ne ka0
    -- ties, wide
    refine ⟨fun σ H6 => ∃ t wi, σ = [some (.ref sa), some (.int m), some (.int (n : Int)), some (.ref q), some (.ref ea), some (.ref ka'), some (.ref t), some (.int wi), none, none, none, none] ∧ H5 t = none ∧ 0 ≤ wi ∧ wi < 3 ∧ H6 t = some (.dT []) ∧ Src H6 sa ca ∧ Kp sa ca H5 H6, ?_, ?_⟩
    · intro t ht
      obtain ⟨nts, ntc⟩ := S5.ne ht
      refine ⟨_, rfl, sa, ca, 3, rfl, S5.new ht, by decide, by decide, fun kk H6 k0 k1 S6 kp6 => ?_⟩
      exact ⟨_, _, rfl, t, kk, rfl, ht, k0, k1, kp6 _ _ upd_same nts ntc, S6, (Kp.same (same_new ht)).trans kp6⟩
    rintro σ H6 ⟨t, wi, rfl, ht0, wi0, wi1, ht, S6, kp6⟩
    obtain ⟨nts, ntc⟩ := S5.ne ht0
    have nkt : ka' ≠ t := ne_of_none hka ht0
    have net : ea ≠ t := ne_of_none hea ht0
    have nqt : q ≠ t := ne_of_none hq5 ht0
    refine ⟨fun σ H7 => ∃ vk v9 v10 kvs, σ = [some (.ref sa), some (.int m), some (.int (n : Int)), some (.ref q), some (.ref ea), some (.ref ka'), some (.ref t), some (.int wi), vk, v9, v10, none] ∧ H7 t = some (.dT kvs) ∧ Ties n 2 kvs ∧ kvs.length ≤ 300 ∧ Src H7 sa ca ∧ Kp3 sa ca t H6 H7, ?_, ?_⟩
    · refine ⟨_, rfl, ka', rfl, ⟨_, SqL.of (kp6 _ _ hka nks nkc)⟩, ?_⟩
      refine for_list (xs := ks'.map V.str) (fun i σ H7 => ∃ vk v9 v10 kvs, σ = [some (.ref sa), some (.int m), some (.int (n : Int)), some (.ref q), some (.ref ea), some (.ref ka'), some (.ref t), some (.int wi), vk, v9, v10, none] ∧ H7 t = some (.dT kvs) ∧ Ties n 2 kvs ∧ kvs.length ≤ 100 * i ∧ Src H7 sa ca ∧ Kp3 sa ca t H6 H7)
        ⟨none, none, none, [], rfl, ht, Ties.nil n 2, by simp, S6, Kp3.refl H6⟩ (fun i σ H7 _ ⟨_, _, _, _, _, _, _, _, _, kp7⟩ => SqL.of (kp7 _ _ (kp6 _ _ hka nks nkc) nks nkc nkt)) ?_ ?_
      · rintro i x σ H7 hi ⟨vk, v9, v10, kvs, rfl, ht7, ti7, hl7, S7, kp7⟩
        have hil := (List.getElem?_eq_some_iff.mp hi).1
        rw [List.length_map] at hil
        rw [List.getElem?_map] at hi
        obtain ⟨kd, hkd, rfl⟩ := Option.map_eq_some_iff.mp hi
        have kdw := kw kd (List.mem_of_getElem? hkd)
        refine ⟨_, rfl, _, rfl, sa, ca, n, rfl, S7, by omega, by omega, fun p xs H8 hp hpl hpr hxl S8 kp8 => ?_⟩
        have ht8 := kp8 _ _ ht7 nts ntc
        have npt : p ≠ t := fun e => by subst e; rw [hp] at ht7; cases ht7
        obtain ⟨nps, npc⟩ := S7.ne hp
        refine ⟨p, rfl, ⟨_, SqL.of hpl⟩, ?_⟩
        refine for_list (xs := xs) (fun j σ H9 => ∃ v9 v10 kvs', σ = [some (.ref sa), some (.int m), some (.int (n : Int)), some (.ref q), some (.ref ea), some (.ref ka'), some (.ref t), some (.int wi), some (.str kd), v9, v10, none] ∧ H9 t = some (.dT kvs') ∧ Ties n 2 kvs' ∧ kvs'.length ≤ kvs.length + j ∧ H9 p = some (.lst xs) ∧ PairsAt n H9 xs ∧ Src H9 sa ca ∧ Kp3 sa ca t H6 H9)
          ⟨v9, v10, kvs, rfl, ht8, ti7, by omega, hpl, hpr, S8, kp7.kp kp8⟩ (fun j σ H9 _ ⟨_, _, _, _, _, _, _, h, _⟩ => SqL.of h) ?_ ?_
        · rintro j x σ H9 hj ⟨v9, v10, kvs', rfl, ht9, ti9, hl9, hp9, hpr9, S9, kp9⟩
          have hjl := (List.getElem?_eq_some_iff.mp hj).1
          obtain ⟨tt, i1, j1, rfl, htt, hi0, hij, hjn⟩ := hpr9 x (List.mem_of_getElem? hj)
          refine ⟨tt, _, rfl, SqT.of htt, rfl, _, _, rfl, _, _, rfl, rfl, ?_⟩
          refine ⟨_, rfl, sa, ca, 2, rfl, S9, by decide, by decide, fun kk H10 k0 k1 S10 kp10 => ⟨_, _, rfl, rfl, (by show 3 ≤ sizeLine; decide), fun l hl => ?_⟩⟩
          have ht10 := kp10 _ _ ht9 nts ntc
          have hp10 := kp10 _ _ hp9 nps npc
          have hpr10 := hpr9.kp S9 kp10
          obtain ⟨x, hx, hx1, hx2⟩ : ∃ x : Nat, atI [V.int 1, V.int 2, V.int (1 + kk)] wi = some (V.int (x : Int)) ∧ 1 ≤ x ∧ x ≤ 2 := by
            have hw : wi = 0 ∨ wi = 1 ∨ wi = 2 := by omega
            rcases hw with rfl | rfl | rfl
            · exact ⟨1, atI_nat (j := 0) rfl, by decide, by decide⟩
            · exact ⟨2, atI_nat (j := 1) rfl, by decide, by decide⟩
            · refine ⟨(1 + kk).toNat, ?_, by omega, by omega⟩
              rw [Int.toNat_of_nonneg (by omega)]
              exact atI_nat (j := 2) rfl
          refine ⟨_, rfl, l, _, wi, _, rfl, rfl, SqL.of upd_same, hx, ?_⟩
          have ht11 : (upd H10 l (.lst [V.int 1, V.int 2, V.int (1 + kk)])) t = some (.dT kvs') := by rw [upd_ne (ne_of_none ht10 hl)]; exact ht10
          refine ⟨_, rfl, _, rfl, _, rfl, _, rfl, (by show 3 ≤ sizeLine; decide), fun u hu => ?_⟩
          have ht12 : (upd (upd H10 l (.lst [V.int 1, V.int 2, V.int (1 + kk)])) u (.tup [.int i1, .int j1, .str kd])) t = some (.dT kvs') := by rw [upd_ne (ne_of_none ht11 hu)]; exact ht11
          have sm12 : Same H10 (upd (upd H10 l (.lst [V.int 1, V.int 2, V.int (1 + kk)])) u (.tup [.int i1, .int j1, .str kd])) := (same_new hl).trans (same_new hu)
          refine ⟨t, _, rfl, DPut.t (k := [Sum.inl i1, Sum.inl j1, Sum.inr kd]) ht12 upd_same (Evl.sz_lt (by omega)), ?_⟩
          refine ⟨some (.int i1), some (.int j1), _, rfl, upd_same, ti9.put ⟨i1.toNat, j1.toNat, kd, by rw [Int.toNat_of_nonneg hi0, Int.toNat_of_nonneg (by omega)], by omega, by omega, kdw⟩ hx1 hx2, by have := length_putK kvs' [Sum.inl i1, Sum.inl j1, Sum.inr kd] (V.int (x : Int)); omega, ?_, ?_, (S10.same sm12).upd nts.symm.symm ntc, ((kp9.kp kp10).kp (Kp.same sm12)).put⟩
          · rw [upd_ne npt]
            exact sm12 _ _ hp10
          · exact (hpr10.same sm12).put ht12 (by intro ys z; cases z)
        · rintro σ H9 ⟨v9, v10, kvs', rfl, ht9, ti9, hl9, hp9, hpr9, S9, kp9⟩
          exact ⟨some (.str kd), v9, v10, kvs', rfl, ht9, ti9, by omega, S9, kp9⟩
      · rintro σ H7 ⟨vk, v9, v10, kvs, rfl, ht7, ti7, hl7, S7, kp7⟩
        rw [List.length_map] at hl7
        exact ⟨vk, v9, v10, kvs, rfl, ht7, ti7, by omega, S7, kp7⟩
    rintro σ H7 ⟨vk, v9, v10, kvs, rfl, ht7, ti7, hl7, S7, kp7⟩
    have hq7 := kp7 _ _ (kp6 _ _ hq5 nqs nqc) nqs nqc nqt
    have hea7 := kp7 _ _ (kp6 _ _ hea nes nec) nes nec net
    have kp07 : Kp sa ca H H7 := fun b o e h1 h2 => kp7 b o (kp6 b o (kp05 b o e h1 h2) h1 h2) h1 h2 (ne_of_none (kp05 b o e h1 h2) ht0)
    have ht00 : H t = none := kp05.free S5 ht0
    intro p hp
    have hp0 : H p = none := kp07.free S7 hp
    obtain ⟨nps, npc⟩ := S7.ne hp
    have npq : p ≠ q := fun e => by subst e; rw [hq7] at hp; cases hp
    have npe : p ≠ ea := fun e => by subst e; rw [hea7] at hp; cases hp
    have npt : p ≠ t := fun e => by subst e; rw [ht7] at hp; cases hp
    have sp := same_new (o := .dK []) hp
    refine ⟨_, rfl, _, rfl, q, rfl, ⟨_, SqL.of (sp _ _ hq7)⟩, fun D hD => ?_⟩
    obtain ⟨nDp, hD7⟩ := nx hD
    have hD0 : H D = none := kp07.free S7 hD7
    obtain ⟨nDs, nDc⟩ := S7.ne hD7
    have sD := same_new (o := .lst []) hD
    have sDp := sp.trans sD
    refine lc_list (xs := nm.map V.str) (fun i H8 => ∃ cl, H8 D = some (.lst (List.map V.str cl)) ∧ cl.length = i ∧ (∀ x ∈ cl, isWordB x = true) ∧ H8 p = some (.dK []) ∧ Src H8 sa ca ∧ Kp sa ca H7 H8)
      ⟨[], upd_same, rfl, (fun x hx => (List.not_mem_nil hx).elim), sD _ _ upd_same, S7.same sDp, Kp.same sDp⟩ (fun i H8 _ ⟨_, _, _, _, _, _, k8⟩ => SqL.of (k8 _ _ hq7 nqs nqc)) ?_ ?_
    · rintro i x H8 hi ⟨cl, hcD, hcl, hcw, hp8, S8, kp8⟩
      have hil := (List.getElem?_eq_some_iff.mp hi).1
      rw [List.length_map] at hil
      refine ⟨rfl, tyes ?_⟩
      refine ⟨_, rfl, _, rfl, sa, ca, ea, _, rfl, S8, nes, nec, SqL.of (kp8 _ _ hea7 nes nec), by rw [List.length_map]; exact e1, by rw [List.length_map]; omega, fun v H9 hv S9 kp9 => ?_⟩
      obtain ⟨x, hx, rfl⟩ := List.mem_map.mp hv
      refine ⟨_, kp9 _ _ hcD nDs nDc, Evl.sz_lt (by rw [List.length_map]; omega), cl ++ [x], by rw [upd_same, List.map_append]; rfl, by simp [hcl], ?_, ?_, S9.upd nDs nDc, ?_⟩
      · intro y hy
        rcases List.mem_append.mp hy with z | z
        · exact hcw y z
        · rw [List.mem_singleton] at z
          subst z
          exact ew y hx
      · rw [upd_ne nDp.symm]
        exact kp9 _ _ hp8 nps npc
      · exact (kp8.trans kp9).off hD7
    · rintro H8 ⟨cl, hcD, hcl, hcw, hp8, S8, kp8⟩
      rw [List.length_map] at hcl
      refine ⟨_, rfl, hp8, worldD q D t, rfl, (by show 3 ≤ 15; decide), ?_⟩
      rw [merge_wd]
      have nDt : D ≠ t := fun e => by subst e; rw [ht7] at hD7; cases hD7
      refine k p q D t nm cl kvs _ hp0 hq0 hD0 ht00 ⟨upd_same, ?_, ?_, ?_, ⟨nps, npc⟩, ⟨nqs, nqc⟩, ⟨nDs, nDc⟩, ⟨nts, ntc⟩, hnd, hwd, hcw, hcl, by omega⟩ (by omega) (by rw [hlen]; exact ti7) hl7 (S8.upd nps npc) ((kp07.trans kp8).off hp0)
      · rw [upd_ne npq.symm]; exact kp8 _ _ hq7 nqs nqc
      · rw [upd_ne nDp]; exact hcD
      · rw [upd_ne npt.symm]; exact kp8 _ _ ht7 nts ntc
end
end Nm
set_option maxRecDepth 100000
set_option maxHeartbeats 4000000
namespace Nm
open PySem L2
section
variable {P : Program} {w : World} {K : PySem.W.Frag} {mg : Str → Option Value} {base : Heap}
/-! ### _law_loose_world -/
def spLoose : Sp := fun vs H Q _ => ∃ (s c : Addr), vs = [.ref s] ∧ Src H s c ∧
  ∀ (wd a b t : Addr) (nm cl : List Str) (kvs : List (List Key × V)) (H' : Hp), H wd = none → H a = none → H b = none → H t = none → WorldOk H' s c wd a b t nm cl kvs → nm.length ≤ 5 → Ties nm.length 2 kvs → kvs.length ≤ 300 → Src H' s c → Kp s c H H' → Q (.ref wd) H'
theorem scLoose : FnScope ["_law_source", "_law_world", "_law_count", "_law_at", "_law_ties", "_law_key"] ["_law_source"] (defScope sLooseWorld) := ⟨rfl, rfl, rfl, by decide +kernel, rfl, by decide +kernel, by decide +kernel⟩
theorem ok_loose {f : Addr} {fd : FuncData} (F : Fun K "_law_loose_world" "_law_loose_world" sLooseWorld f fd) (T : TxtB mg) (Gp : Def P w K mg base "_law_pick" ["_law_source", "_law_many"] 1 spPick)
    (Gd : Def P w K mg base "_law_draw_world" ["_law_source", "_law_most"] 3 spDraw) : FnOk P w K mg base CX0 4 f fd ["_law_source"] spLoose := by
  obtain ⟨fp, fdp, Gp, mp, kp, bp⟩ := Gp.ex
  obtain ⟨fd', fdd, Gd, md, kd, bd⟩ := Gd.ex
  refine F.ok scLoose (fun vs H Q E h => ?_) (fun cdv A outer s H vs Q E hr h => ?_)
  · obtain ⟨p, dx, rfl, _⟩ := h
    rfl
  · obtain ⟨sa, ca, rfl, S, k⟩ := h
    have hu := hu_of hr
    have hr1 := hr.mono (by decide : 1 ≤ 3)
    refine ⟨_, pss_cons (ps_set (i := 1) scLoose.nd rfl (Or.inl rfl) (pe_call Gd hr (by rfl) md kd bd .nil pass0 (pa_cons (pv 0) (pa_cons pe_int pa_nil))))
      (Evl.pss_cut (ps_set (i := 2) scLoose.nd rfl (Or.inl rfl) (pe_callB call_len_seq (by rfl) T.len PySem.boot_len (pa_cons (pe_dget hu (pv 1) pe_str (fun _ _ => rfl)) pa_nil)))
      (Evl.pss_cut (ps_if (PW.pt (pw_or (pt_cmpR op_gt (pe_call Gp hr1 (by rfl) mp kp bp .nil pass0 (pa_cons (pv 0) (pa_cons pe_int pa_nil))) pe_int (nomark _)) (pw_or1 (pt_cmpR op_lt (pv 2) pe_int (nomark _))))) (pss_one (ps_ret (pv 1))) pss_nil)
      (pss_cons (ps_par (i := 3) (j := 4) (by rfl) scLoose.nd rfl rfl (by decide) rfl rfl (pa_cons (pe_op op_add pe_int (pe_call Gp hr1 (by rfl) mp kp bp .nil pass0 (pa_cons (pv 0) (pa_cons (pe_op op_sub (pv 2) pe_int) pa_nil)))) (pa_cons pe_dnewT pa_nil)) (by rfl))
      (Evl.pss_cut (ps_lock (ps_for PassesOwn.never rfl (pi_keys (pe_dget hu (pv 1) pe_str (fun _ _ => rfl))) (pg_name (i := 5) scLoose.nd rfl (Or.inl rfl))
        (pss_one (ps_if (PW.pt (pw_or (pt_cmpR op_lt (pe_ix ix_tup (pv 5) pe_int (fun _ _ => rfl)) (pv 3) (nomark _)) (pw_or1 (pt_cmpR op_ge (pe_ix ix_tup (pv 5) pe_int (fun _ _ => rfl)) (pv 3) (nomark _)))))
          (pss_one (ps_dput hu (pv 4) (pv 5) (pe_dget hu (pe_dget hu (pv 1) pe_str (fun _ _ => rfl)) (pv 5) (fun _ _ => rfl)) rfl)) pss_nil))))
      (pss_one (ps_ret (pe_disp (pps_cons pe_str (pe_dget hu (pv 1) pe_str (fun _ _ => rfl)) (pps_cons pe_str (pe_dget hu (pv 1) pe_str (fun _ _ => rfl)) (pps_cons pe_str (pv 4) pps_nil))) (by rfl) (by rfl) (fun z => by cases z) (by decide)))))))), ?_⟩
    refine ⟨_, rfl, sa, ca, 5, rfl, S, by decide, by decide, fun wd a b t nm cl kvs H1 z1 z2 z3 z4 W hm ti hl S1 kp1 => ?_⟩
    refine ⟨fun σ H' => σ = [some (.ref sa), some (.ref wd), some (.int (nm.length : Int)), none, none, none] ∧ H' = H1, ?_, ?_⟩
    · refine ⟨_, rfl, wd, _, rfl, dg_names W.d, a, _, rfl, .inl (SqL.of W.hn), ?_, rfl⟩
      rw [List.length_map]
      rfl
    rintro σ H' ⟨rfl, rfl⟩
    refine ⟨fun σ H2 => σ = [some (.ref sa), some (.ref wd), some (.int (nm.length : Int)), none, none, none] ∧ 2 ≤ nm.length ∧ Src H2 sa ca ∧ Kp sa ca H' H2, ?_, ?_⟩
    · refine ⟨_, rfl, sa, ca, 3, rfl, S1, by decide, by decide, fun kk H2 k0 k1 S2 kp2 => ⟨_, _, rfl, rfl, _, rfl, ?_⟩⟩
      have ret : Q (.ref wd) H2 := k wd a b t nm cl kvs H2 z1 z2 z3 z4 (W.kp kp2) (by omega) ti hl S2 (kp1.trans kp2)
      refine ite2 (fun h => ?_) (fun h => ?_)
      · exact iteT ⟨_, rfl, ret⟩
      · refine ⟨_, rfl, _, _, rfl, rfl, _, rfl, ?_⟩
        refine ite2 (fun h => ⟨_, rfl, ret⟩) (fun h => ⟨rfl, ?_, S2, kp2⟩)
        have := of_decide_eq_false (Bool.eq_false_iff.mpr h)
        omega
    rintro σ H2 ⟨rfl, hn2, S2, kp2⟩
    have W2 := W.kp kp2
    refine ⟨_, rfl, _, rfl, _, _, rfl, rfl, sa, ca, _, rfl, S2, by show 1 ≤ (nm.length : Int) - 1; omega, by show (nm.length : Int) - 1 < _; omega, fun at' H3 k0 k1 S3 kp3 => ⟨_, _, rfl, rfl, ?_⟩⟩
    intro t2 ht2
    have W3 := W2.kp kp3
    refine ⟨_, _, rfl, ?_⟩
    have s4 := same_new (o := .dT []) ht2
    obtain ⟨n2s, n2c⟩ := S3.ne ht2
    have ntt : t2 ≠ t := fun e => by subst e; rw [W3.ht] at ht2; cases ht2
    have S4 := S3.same s4
    have W4 := W3.same s4
    have kp04 : Kp sa ca H (upd H3 t2 (.dT [])) := ((kp1.trans kp2).trans kp3).trans (Kp.same s4)
    have h20 : H t2 = none := ((kp1.trans kp2).trans kp3).free S3 ht2
    have ht4 : (upd H3 t2 (.dT [])) t2 = some (.dT []) := upd_same
    generalize upd H3 t2 (.dT []) = H4 at *
    refine ⟨fun σ H5 => ∃ v5 kv2, σ = [some (.ref sa), some (.ref wd), some (.int (nm.length : Int)), some (.int (1 + at')), some (.ref t2), v5] ∧ H5 t2 = some (.dT kv2) ∧ Ties nm.length 2 kv2 ∧ kv2.length ≤ 300 ∧ (∀ b o, H4 b = some o → b ≠ t2 → H5 b = some o), ?_, ?_⟩
    · refine ⟨t, _, W4.ht, trivial, fun od => ?_⟩
      have dT5 : (upd H4 t (.frz od (.dT kvs))) wd = some (.dK (worldD a b t)) := by rw [upd_ne (ne_of W4.d W4.ht (by intro z; cases z))]; exact W4.d
      refine ⟨_, rfl, wd, _, rfl, dg_ties dT5, t, od, rfl, .inr ⟨kvs, upd_same, ?_⟩⟩
      refine for_it walk_keysT (fun i σ H5 => ∃ v5 kv2, σ = [some (.ref sa), some (.ref wd), some (.int (nm.length : Int)), some (.int (1 + at')), some (.ref t2), v5] ∧ H5 t = some (.frz od (.dT kvs)) ∧ H5 t2 = some (.dT kv2) ∧ Ties nm.length 2 kv2 ∧ kv2.length ≤ i ∧ (∀ b o, H4 b = some o → b ≠ t → b ≠ t2 → H5 b = some o))
        ⟨none, [], rfl, upd_same, by rw [upd_ne ntt]; exact ht4, Ties.nil _ 2, Nat.le_refl _, fun b o e h1 h2 => by rw [upd_ne h1]; exact e⟩ (fun i σ H5 _ ⟨_, _, _, h, _⟩ => h) ?_ ?_
      · rintro i x σ H5 H6 hi ⟨v5, kv2, rfl, hf, h2, ti2, hl2, kp5⟩ ⟨rfl, key, v, q, hkv, rfl, hq⟩
        have hm := List.mem_of_getElem? hkv
        obtain ⟨i1, j1, kd1, rfl, hij, hjn, hkw⟩ := ti.key _ hm
        obtain ⟨x, hx, hx1, hx2⟩ := ti.val _ hm
        have dW : H6 wd = some (.dK (worldD a b t)) := kp5 _ _ W4.d (ne_of W4.d W4.ht (by intro z; cases z)) (ne_of W4.d ht4 (by intro z; cases z))
        have stay : ∃ v5 kv2, [some (V.ref sa), some (.ref wd), some (.int (nm.length : Int)), some (.int (1 + at')), some (.ref t2), some (.ref q)] = [some (V.ref sa), some (.ref wd), some (.int (nm.length : Int)), some (.int (1 + at')), some (.ref t2), v5] ∧ H6 t = some (.frz od (.dT kvs)) ∧ H6 t2 = some (.dT kv2) ∧ Ties nm.length 2 kv2 ∧ kv2.length ≤ i + 1 ∧ (∀ b o, H4 b = some o → b ≠ t → b ≠ t2 → H6 b = some o) := ⟨some (.ref q), kv2, rfl, hf, h2, ti2, by omega, kp5⟩
        have put : ∃ v5 kv3, [some (V.ref sa), some (.ref wd), some (.int (nm.length : Int)), some (.int (1 + at')), some (.ref t2), some (.ref q)] = [some (V.ref sa), some (.ref wd), some (.int (nm.length : Int)), some (.int (1 + at')), some (.ref t2), v5] ∧ (upd H6 t2 (.dT (putK kv2 [Sum.inl (i1 : Int), Sum.inl (j1 : Int), Sum.inr kd1] (V.int (x : Int))))) t = some (.frz od (.dT kvs)) ∧ (upd H6 t2 (.dT (putK kv2 [Sum.inl (i1 : Int), Sum.inl (j1 : Int), Sum.inr kd1] (V.int (x : Int))))) t2 = some (.dT kv3) ∧ Ties nm.length 2 kv3 ∧ kv3.length ≤ i + 1 ∧ (∀ b o, H4 b = some o → b ≠ t → b ≠ t2 → (upd H6 t2 (.dT (putK kv2 [Sum.inl (i1 : Int), Sum.inl (j1 : Int), Sum.inr kd1] (V.int (x : Int))))) b = some o) :=
          ⟨some (.ref q), _, rfl, by rw [upd_ne ntt.symm]; exact hf, upd_same, ti2.put ⟨i1, j1, kd1, rfl, hij, hjn, hkw⟩ hx1 hx2, by have := length_putK kv2 [Sum.inl (i1 : Int), Sum.inl (j1 : Int), Sum.inr kd1] (V.int (x : Int)); omega, fun b o e h1 h2 => by rw [upd_ne h2]; exact kp5 b o e h1 h2⟩
        have vv : valV kvs [Sum.inl (i1 : Int), Sum.inl (j1 : Int), Sum.inr kd1] = some (V.int (x : Int)) := by
          rw [← hx]
          exact val_of_mem ti.nd hm
        have doit : ∃ a' v', V.ref t = V.ref a' ∧ DGet H6 a' (V.ref q) (some v') ∧ ∃ a'' H4', V.ref t2 = V.ref a'' ∧ DPut H6 a'' (V.ref q) v' H4' ∧ ∃ v5 kv3, [some (V.ref sa), some (.ref wd), some (.int (nm.length : Int)), some (.int (1 + at')), some (.ref t2), some (.ref q)] = [some (V.ref sa), some (.ref wd), some (.int (nm.length : Int)), some (.int (1 + at')), some (.ref t2), v5] ∧ H4' t = some (.frz od (.dT kvs)) ∧ H4' t2 = some (.dT kv3) ∧ Ties nm.length 2 kv3 ∧ kv3.length ≤ i + 1 ∧ (∀ b o, H4 b = some o → b ≠ t → b ≠ t2 → H4' b = some o) :=
          ⟨t, _, rfl, .inr ⟨kvs, _, q, .inr ⟨od, hf⟩, rfl, hq, vv.symm⟩, t2, _, rfl, DPut.t h2 hq (Evl.sz_lt (by omega)), put⟩
        refine ⟨_, rfl, q, _, 1, .int (j1 : Int), rfl, rfl, SqT.of hq, atI_nat (j := 1) rfl, _, rfl, _, _, rfl, rfl, _, rfl, ?_⟩
        refine ite2 (fun h => iteT ?_) (fun h => ?_)
        · refine ⟨_, rfl, wd, _, rfl, dg_ties dW, _, rfl, ?_⟩
          obtain ⟨a', v', e1, g1, a'', H4', e2, g2, r⟩ := doit
          exact ⟨a', v', e1, g1, _, rfl, _, rfl, a'', H4', e2, g2, r⟩
        · refine ⟨_, rfl, q, _, 0, .int (i1 : Int), rfl, rfl, SqT.of hq, atI_nat (j := 0) rfl, _, rfl, _, _, rfl, rfl, _, rfl, ?_⟩
          refine ite2 (fun h => ?_) (fun h => stay)
          refine ⟨_, rfl, wd, _, rfl, dg_ties dW, _, rfl, ?_⟩
          obtain ⟨a', v', e1, g1, a'', H4', e2, g2, r⟩ := doit
          exact ⟨a', v', e1, g1, _, rfl, _, rfl, a'', H4', e2, g2, r⟩
      · rintro σ H5 ⟨v5, kv2, rfl, hf, h2, ti2, hl2, kp5⟩
        refine ⟨hf, v5, kv2, rfl, by rw [upd_ne ntt]; exact h2, ti2, by omega, fun b o e h1 => ?_⟩
        by_cases hb : b = t
        · subst hb; rw [upd_same]; rw [W4.ht] at e; exact e
        · rw [upd_ne hb]; exact kp5 b o e hb h1
    rintro σ H5 ⟨v5, kv2, rfl, h25, ti2, hl2, kp5⟩
    have fr : ∀ b o, H4 b = some o → b ≠ t2 → H5 b = some o := kp5
    have dW5 := kp5 _ _ W4.d (ne_of W4.d ht4 (by intro z; cases z))
    have ha5 := kp5 _ _ W4.hn (ne_of W4.hn ht4 (by intro z; cases z))
    have hb5 := kp5 _ _ W4.hc (ne_of W4.hc ht4 (by intro z; cases z))
    have S5 : Src H5 sa ca := by
      obtain ⟨cs, l, m, tt, S4⟩ := S4
      exact ⟨cs, l, m, tt, ⟨kp5 _ _ S4.ds n2s.symm, kp5 _ _ S4.dc n2c.symm, S4.nn, S4.len, S4.l0, S4.m0, S4.m1, S4.t0⟩⟩
    have kp05 : Kp sa ca H H5 := fun b o e h1 h2 => kp5 b o (kp04 b o e h1 h2) (ne_of_none e h20)
    intro p hp
    have sp := same_new (o := .dK []) hp
    have hp0 : H p = none := kp05.free S5 hp
    obtain ⟨nps, npc⟩ := S5.ne hp
    have npa : p ≠ a := fun e => by subst e; rw [ha5] at hp; cases hp
    have npb : p ≠ b := fun e => by subst e; rw [hb5] at hp; cases hp
    have np2 : p ≠ t2 := fun e => by subst e; rw [h25] at hp; cases hp
    refine ⟨_, rfl, wd, _, rfl, dg_names (sp _ _ dW5), _, rfl, wd, _, rfl, dg_colours (sp _ _ dW5), _, rfl, upd_same, worldD a b t2, rfl, (by show 3 ≤ 15; decide), ?_⟩
    rw [merge_wd]
    refine k p a b t2 nm cl kv2 _ hp0 z2 z3 h20 ⟨upd_same, ?_, ?_, ?_, ⟨nps, npc⟩, W.as, W.bs, ⟨n2s, n2c⟩, W.nn, W.nw, W.cw, W.cn, W.n1⟩ (by omega) ti2 hl2 ((S5.same sp).upd nps npc) ((kp05.trans (Kp.same sp)).off hp0)
    · rw [upd_ne npa.symm]; exact sp _ _ ha5
    · rw [upd_ne npb.symm]; exact sp _ _ hb5
    · rw [upd_ne np2.symm]; exact sp _ _ h25
end
end Nm
set_option maxRecDepth 100000
set_option maxHeartbeats 4000000
/-! sorted of a list of tuples of ints and texts, the first of each an int: a rearrangement -/
namespace Nm
open PySem PySem.Spec PyProof.Rows L2
/-- two rows of keys that are of one kind place by place -/
inductive SameK : List Key → List Key → Prop
  | nil : SameK [] []
  | int {i j : Int} {r q : List Key} : SameK r q → SameK (Sum.inl i :: r) (Sum.inl j :: q)
  | str {x y : Str} {r q : List Key} : SameK r q → SameK (Sum.inr x :: r) (Sum.inr y :: q)
def IsRow (h : Heap) (v : Value) (ks : List Key) : Prop := ∃ a o its n, v = .ref a ∧ h.get? a = some o ∧ o.cls = .type "tuple" ∧ o.data = .seq (List.toArray its) n ∧ Vals (ks.map kV) its
theorem IsRow.keeps {h h' : Heap} {v : Value} {ks : List Key} (p : IsRow h v ks) (k : ∀ b o, h.get? b = some o → o.cls = .type "tuple" → h'.get? b = some o) : IsRow h' v ks := by
  obtain ⟨a, o, its, n, e, ho, hc, hd⟩ := p
  exact ⟨a, o, its, n, e, k _ _ ho hc, hc, hd⟩
section
variable {prog : Program} {w : World} {A : Around} {E : Value → Shared → Prop} {s : Shared}
theorem lex_tot {fin : Bool} : ∀ {ks qs : List Key} {its jts : List Value} (i : Nat), SameK ks qs → Vals (ks.map kV) its → Vals (qs.map kV) jts → 0 < i → ∃ b : Bool, PySem.W.KatLex prog w A true fin (fun r s' => s' = s ∧ r = b) (its.zip jts) i s
  | _, _, _, _, i, .nil, .nil, .nil, _ => ⟨fin, PySem.W.kat_nil ⟨rfl, rfl⟩⟩
  | _, _, _, _, i, .int (i := x) (j := y) sk, .cons (a := _) r1 t1, .cons r2 t2, hi => by
    obtain ⟨t, rfl⟩ := r1
    obtain ⟨u, rfl⟩ := r2
    obtain ⟨b, hb⟩ := lex_tot (i + 1) sk t1 t2 (Nat.succ_pos _)
    by_cases e : x = y
    · refine ⟨b, PySem.W.kat_cons (SeqAt.EqAt.int_int x t y u prog w _ _ ?_)⟩
      refine PySem.W.kat_go (fun _ => PySem.W.kat_yes hb) (fun e1 => absurd e (by simpa using e1))
    · refine ⟨decide (x < y), PySem.W.kat_cons (SeqAt.EqAt.int_int x t y u prog w _ _ ?_)⟩
      refine PySem.W.kat_go (fun e1 => absurd (by simpa using e1) e) (fun _ => PySem.W.kat_no (TS.oneLt_ints _ ⟨rfl, rfl⟩))
  | _, _, _, _, i, .str (x := x) (y := y) sk, .cons r1 t1, .cons r2 t2, hi => by
    obtain ⟨t, rfl⟩ := r1
    obtain ⟨u, rfl⟩ := r2
    obtain ⟨b, hb⟩ := lex_tot (i + 1) sk t1 t2 (Nat.succ_pos _)
    by_cases e : x = y
    · refine ⟨b, PySem.W.kat_cons (SeqAt.EqAt.str_str x t y u prog w _ _ ?_)⟩
      refine PySem.W.kat_go (fun _ => PySem.W.kat_yes hb) (fun e1 => absurd e (by simpa using e1))
    · refine ⟨decide (x.cps.toList < y.cps.toList), PySem.W.kat_cons (SeqAt.EqAt.str_str x t y u prog w _ _ ?_)⟩
      refine PySem.W.kat_go (fun e1 => absurd (by simpa using e1) e) (fun _ => PySem.W.kat_no ?_)
      have hi0 : (true && i == 0) = false := by simp; omega
      rw [hi0]
      exact PySem.W.kat_one _ _ (PyProof.Rows.lt_str (Q := PySem.W.BoolBack (fun r s' => s' = s ∧ r = decide (x.cps.toList < y.cps.toList))) (show s = s ∧ decide (x.cps.toList < y.cps.toList) = decide (x.cps.toList < y.cps.toList) from ⟨rfl, rfl⟩))
theorem row_tot {vs : List Value} {k : Value → Int × List Key} (hp : ∀ v ∈ vs, IsRow s.heap v (Sum.inl (k v).1 :: (k v).2)) (hs : ∀ v ∈ vs, ∀ u ∈ vs, SameK (k v).2 (k u).2) : Srt.Tot prog w A s (tuples' true) (fun p => p.1 ∈ vs) := by
  intro p q hm hm'
  obtain ⟨a, o, its, n, e, ho, hc, hd, hv⟩ := hp _ hm
  obtain ⟨a', o', jts, n', e', ho', hc', hd', hv'⟩ := hp _ hm'
  have sk := hs _ hm _ hm'
  rw [e, e']
  generalize k p.1 = kp at *
  generalize k q.1 = kq at *
  obtain ⟨x, ks⟩ := kp
  obtain ⟨y, qs⟩ := kq
  cases hv with
  | cons r1 t1 =>
    cases hv' with
    | cons r2 t2 =>
      obtain ⟨t, rfl⟩ := r1
      obtain ⟨u, rfl⟩ := r2
      rename_i it jt
      obtain ⟨b, hb⟩ := lex_tot (prog := prog) (w := w) (A := A) (s := s) (fin := decide ((List.toArray (Value.int x t :: it)).size < (List.toArray (Value.int y u :: jt)).size)) 1 sk t1 t2 (by decide)
      by_cases e : x = y
      · refine ⟨b, PySem.W.kat_lt ho hd ho' hd' (PySem.W.kat_cons (SeqAt.EqAt.int_int x t y u prog w _ _ ?_))⟩
        refine PySem.W.kat_go (fun _ => PySem.W.kat_yes hb) (fun e1 => absurd e (by simpa using e1))
      · refine ⟨decide (x < y), PySem.W.kat_lt ho hd ho' hd' (PySem.W.kat_cons (SeqAt.EqAt.int_int x t y u prog w _ _ ?_))⟩
        refine PySem.W.kat_go (fun e1 => absurd (by simpa using e1) e) (fun _ => PySem.W.kat_no (TS.oneLt_ints _ ⟨rfl, rfl⟩))
theorem firsts_row {h : Heap} {k : Value → Int × List Key} : ∀ {vs : List Value}, (∀ v ∈ vs, IsRow h v (Sum.inl (k v).1 :: (k v).2)) → ∃ fs : List Value, PySem.W.KatTups h vs fs ∧ fs.length = vs.length ∧ ∀ f ∈ fs, ∃ x t, f = Value.int x t
  | [], _ => ⟨[], PySem.W.KatTups.nil, rfl, fun _ hm => by simp at hm⟩
  | v :: vs, hp => by
    obtain ⟨fs, h1, h2, h3⟩ := firsts_row (vs := vs) fun v' hm => hp v' (List.mem_cons_of_mem _ hm)
    obtain ⟨a, o, its, n, e, ho, hc, hd, hv⟩ := hp v (List.mem_cons_self ..)
    subst e
    cases hv with
    | cons r1 t1 =>
      obtain ⟨t, rfl⟩ := r1
      refine ⟨.int (k (.ref a)).1 t :: fs, PySem.W.KatTups.cons ho hc hd rfl h1, by rw [List.length_cons, List.length_cons, h2], fun f hm => ?_⟩
      rcases List.mem_cons.mp hm with rfl | hm
      · exact ⟨_, t, rfl⟩
      · exact h3 f hm
theorem rows_sortable {a : Addr} {vs : List Value} {k : Value → Int × List Key} (h0 : 0 < vs.length) (hp : ∀ v ∈ vs, IsRow s.heap v (Sum.inl (k v).1 :: (k v).2)) (hs : ∀ v ∈ vs, ∀ u ∈ vs, SameK (k v).2 (k u).2) (ha : ∀ o, s.heap.get? a = some o → o.cls ≠ .type "tuple") : Srt.Sortable prog w A s a vs := by
  intro h' keep
  have hp' : ∀ v ∈ vs, IsRow h' v (Sum.inl (k v).1 :: (k v).2) := fun v hm => (hp v hm).keeps fun b o e c => keep b o (fun z => by subst z; exact ha o e c) e
  obtain ⟨fs, h1, h2, h3⟩ := firsts_row hp'
  refine ⟨tuples' true, fun Q E hq => ?_, row_tot (s := { s with heap := h' }) hp' hs⟩
  refine PySem.W.kat_kind (T := .type "int") h1 (by omega) (fun f hm => ?_) (by rfl) ?_
  · obtain ⟨x, t, rfl⟩ := h3 f hm
    exact PySem.W.Looks.now
  · have e : (Value.type "int" != Value.type "tuple") = true := by decide +kernel
    rw [e]
    exact hq
theorem sorted_rows {l : Addr} {vs : List Value} {k : Value → Int × List Key} {Q : Value → Shared → Prop} (hl : s.heap.IsList l vs.toArray) (hz : vs.length ≤ sizeLine) (hp : ∀ v ∈ vs, IsRow s.heap v (Sum.inl (k v).1 :: (k v).2)) (hs : ∀ v ∈ vs, ∀ u ∈ vs, SameK (k v).2 (k u).2)
    (h : ∀ (h' : Heap) (d : Addr) (out : List Value), out.Perm vs → (∀ b o, s.heap.get? b = some o → h'.get? b = some o) → s.heap.objs.size ≤ d → (∃ n, h'.get? d = some (seqObj "list" out.toArray n)) → Q (.ref d) { s with heap := h' }) :
    wpAny (model prog w) A (call (.builtin "sorted") [.ref l]) Q E s := by
  refine Srt.sorted_any hl hz (fun h2 h₁ a ha kk => ?_) fun out ho => ?_
  · refine rows_sortable (s := { s with heap := h₁ }) (by omega) (fun v hm => (hp v hm).keeps fun b o e _ => (kk b o e).2) hs fun o e => ?_
    have e' : some o = some (seqObj "list" vs.toArray 0) := e.symm.trans ha
    cases e'
    intro c
    exact absurd (Value.type.inj c) (by decide)
  · exact h _ _ out ho (fun b o e => sortedAll_old e) (Nat.le_succ _) (sortedAll_at s.heap vs out.toArray)
end
/-- sorted(xs): a new list of the same tuples, in some order -/
def rSortedR (K : PySem.W.Frag) : List V → Hp → VK → Prop := fun vs H Q => ∃ a xs, ∃ k : V → Int × List Key, vs = [V.ref a] ∧ SqL K H a xs ∧ (∀ x ∈ xs, ∃ t, x = V.ref t ∧ H t = some (.tup (V.int (k x).1 :: (k x).2.map kV))) ∧ (∀ x ∈ xs, ∀ y ∈ xs, SameK (k x).2 (k y).2) ∧
  ∀ ys p, ys.Perm xs → H p = none → Q (.ref p) (upd H p (.lst ys))
section
variable {X : Cx}
theorem cr_sortedR : CallR X (.builtin "sorted") (rSortedR X.K) := by
  intro pins s σ H vs us Q I r h
  obtain ⟨a, xs, k, rfl, hs, hx, hk, q⟩ := h
  obtain ⟨its, rv, hl, hz⟩ := I.list hs
  obtain ⟨u, rfl, ru⟩ := vals1 r
  obtain rfl : u = Value.ref a := ru
  obtain ⟨e1, e2⟩ := refs_back rv fun x m => by
    obtain ⟨t, e, _⟩ := hx x m
    exact ⟨t, e⟩
  have inx : ∀ v ∈ its, backV v ∈ xs := fun v hv => by rw [e1]; exact List.mem_map.mpr ⟨_, hv, rfl⟩
  refine sorted_rows (k := fun u => k (backV u)) hl.isList (by rw [← rv.length]; exact hz) (fun v hv => ?_) (fun v hv u hu => hk _ (inx v hv) _ (inx u hu)) fun h' d out hp k' hd hn => ?_
  · obtain ⟨t, rfl⟩ := e2 v hv
    obtain ⟨t', e, ht⟩ := hx _ (inx _ hv)
    cases e
    obtain ⟨_, its2, r2, o, ho, hc, n, hd⟩ := I.hok _ _ ht
    exact ⟨t, o, its2, n, rfl, ho, hc, hd, r2⟩
  · have h3 : ∀ u ∈ out, ∃ a, u = Value.ref a := fun u hu => e2 u (hp.mem_iff.mp hu)
    obtain ⟨n, hn⟩ := hn
    refine ⟨.ref d, upd H d (.lst (out.map backV)), I.laid (t' := s.toks) k' hd ⟨?_, out, n, vals_back h3, hn⟩, rfl, q _ d ?_ (I.hok.fresh hd)⟩
    · rw [List.length_map, hp.length_eq, ← rv.length]; exact hz
    · rw [e1]; exact hp.map backV
end
end Nm
set_option maxRecDepth 100000
set_option maxHeartbeats 4000000
/-! sorted of a list of tuples of ints and texts, the first of each an int: in order -/
namespace Nm
open PySem PySem.Spec PyProof.Rows L2
def keyLt : Key → Key → Bool
  | .inl a, .inl b => decide (a < b)
  | .inr x, .inr y => decide (x.cps.toList < y.cps.toList)
  | .inl _, .inr _ => true
  | .inr _, .inl _ => false
def lexK : List Key → List Key → Bool
  | [], [] => false
  | [], _ :: _ => true
  | _ :: _, [] => false
  | a :: r, b :: q => if a = b then lexK r q else keyLt a b
theorem lexK_eq {a b : Key} {r q : List Key} (h : a = b) : lexK (a :: r) (b :: q) = lexK r q := by
  rw [lexK, if_pos h]
theorem lexK_ne {a b : Key} {r q : List Key} (h : ¬ a = b) : lexK (a :: r) (b :: q) = keyLt a b := by
  rw [lexK, if_neg h]
theorem str_eq {x y : Str} (h : x.cps.toList = y.cps.toList) : x = y := by
  cases x
  cases y
  simp at h
  simp [h]
theorem keyLt_anti : ∀ {a b : Key}, keyLt a b = false → keyLt b a = false → a = b
  | .inl a, .inl b, h1, h2 => by
    have h1 := of_decide_eq_false h1
    have h2 := of_decide_eq_false h2
    congr 1
    omega
  | .inr x, .inr y, h1, h2 => by
    have h1 := of_decide_eq_false h1
    have h2 := of_decide_eq_false h2
    rw [List.not_lt] at h1 h2
    rw [str_eq (List.le_antisymm h2 h1)]
  | .inl _, .inr _, h1, _ => by cases h1
  | .inr _, .inl _, _, h2 => by cases h2
theorem keyLt_asym : ∀ {a b : Key}, keyLt a b = true → keyLt b a = false
  | .inl a, .inl b, h => by
    have h := of_decide_eq_true h
    exact decide_eq_false (by omega)
  | .inr x, .inr y, h => by
    have h := of_decide_eq_true h
    exact decide_eq_false (List.lt_asymm h)
  | .inl _, .inr _, _ => rfl
  | .inr _, .inl _, h => by cases h
theorem keyLt_tr : ∀ {a b c : Key}, keyLt b a = false → keyLt c b = false → keyLt c a = false
  | .inl a, .inl b, .inl c, h1, h2 => by
    have h1 := of_decide_eq_false h1
    have h2 := of_decide_eq_false h2
    exact decide_eq_false (by omega)
  | .inr x, .inr y, .inr z, h1, h2 => by
    have h1 := of_decide_eq_false h1
    have h2 := of_decide_eq_false h2
    refine decide_eq_false ?_
    rw [List.not_lt] at *
    exact List.le_trans h1 h2
  | .inl _, .inl _, .inr _, _, _ => rfl
  | .inl _, .inr _, .inr _, _, _ => rfl
  | .inl _, .inr _, .inl _, _, h2 => by cases h2
  | .inr _, .inl _, _, h1, _ => by cases h1
  | .inr _, .inr _, .inl _, _, h2 => by cases h2
theorem lexK_asym : ∀ {x y : List Key}, lexK x y = true → lexK y x = false
  | [], [], h => by cases h
  | [], _ :: _, _ => rfl
  | _ :: _, [], h => by cases h
  | a :: r, b :: q, h => by
    unfold lexK at h ⊢
    by_cases e : a = b
    · rw [if_pos e] at h
      rw [if_pos e.symm]
      exact lexK_asym h
    · rw [if_neg e] at h
      rw [if_neg (fun z => e z.symm)]
      exact keyLt_asym h
theorem lexK_anti : ∀ {x y : List Key}, lexK x y = false → lexK y x = false → x = y
  | [], [], _, _ => rfl
  | [], _ :: _, h, _ => by cases h
  | _ :: _, [], _, h => by cases h
  | a :: r, b :: q, h1, h2 => by
    unfold lexK at h1 h2
    by_cases e : a = b
    · rw [if_pos e] at h1
      rw [if_pos e.symm] at h2
      rw [e, lexK_anti h1 h2]
    · rw [if_neg e] at h1
      rw [if_neg (fun z => e z.symm)] at h2
      exact absurd (keyLt_anti h1 h2) e
theorem lexK_tr : ∀ {x y z : List Key}, lexK y x = false → lexK z y = false → lexK z x = false
  | [], _, [], _, _ => rfl
  | [], _, _ :: _, _, _ => rfl
  | _ :: _, [], _, h, _ => by cases h
  | _ :: _, _ :: _, [], _, h => by cases h
  | a :: r, b :: q, c :: p, h1, h2 => by
    unfold lexK at h1 h2 ⊢
    by_cases e1 : b = a
    · subst e1
      rw [if_pos rfl] at h1
      by_cases e2 : c = b
      · rw [if_pos e2] at h2 ⊢
        exact lexK_tr h1 h2
      · rw [if_neg e2] at h2 ⊢
        exact h2
    · rw [if_neg e1] at h1
      by_cases e2 : c = b
      · subst e2
        rw [if_neg e1]
        exact h1
      · rw [if_neg e2] at h2
        by_cases e3 : c = a
        · subst e3
          exact absurd (keyLt_anti h1 h2) e1
        · rw [if_neg e3]
          exact keyLt_tr h1 h2
theorem swo_lexK {α : Type} (k : α → List Key) : SrtO.Swo fun v u => lexK (k v) (k u) := ⟨fun _ _ h => lexK_asym h, fun _ _ _ h1 h2 => lexK_tr h1 h2⟩
/-- two sorted lists of the same keys are one -/
theorem sorted_one : ∀ {l m : List (List Key)}, l.Pairwise (fun x y => lexK y x = false) → m.Pairwise (fun x y => lexK y x = false) → l.Perm m → l = m
  | [], m, _, _, h => (List.Perm.eq_nil h.symm).symm
  | x :: l, [], _, _, h => absurd h.length_eq (by simp)
  | x :: l, y :: m, hl, hm, h => by
    have h1 : lexK x y = false := by
      rcases List.mem_cons.mp (h.mem_iff.mp (List.mem_cons_self (a := x) (l := l))) with e | hx
      · rw [e]; exact (swo_lexK (fun z => z)).refl y
      · exact (List.pairwise_cons.mp hm).1 x hx
    have h2 : lexK y x = false := by
      rcases List.mem_cons.mp (h.mem_iff.mpr (List.mem_cons_self (a := y) (l := m))) with e | hy
      · rw [e]; exact (swo_lexK (fun z => z)).refl x
      · exact (List.pairwise_cons.mp hl).1 y hy
    have e := lexK_anti h1 h2
    subst e
    rw [sorted_one (List.pairwise_cons.mp hl).2 (List.pairwise_cons.mp hm).2 h.cons_inv]
section
variable {prog : Program} {w : World} {A : Around} {E : Value → Shared → Prop} {s : Shared}
theorem lex_cmp : ∀ {ks qs : List Key} {its jts : List Value} (i : Nat), SameK ks qs → Vals (ks.map kV) its → Vals (qs.map kV) jts → 0 < i → PySem.W.KatLex prog w A true false (fun r s' => s' = s ∧ r = lexK ks qs) (its.zip jts) i s
  | _, _, _, _, i, .nil, .nil, .nil, _ => PySem.W.kat_nil ⟨rfl, rfl⟩
  | _, _, _, _, i, .int (i := x) (j := y) (r := r) (q := q) sk, .cons r1 t1, .cons r2 t2, hi => by
    obtain ⟨t, rfl⟩ := r1
    obtain ⟨u, rfl⟩ := r2
    have ih := lex_cmp (i + 1) sk t1 t2 (Nat.succ_pos _)
    by_cases e : x = y
    · have el : lexK (Sum.inl x :: r) (Sum.inl y :: q) = lexK r q := lexK_eq (by rw [e])
      rw [el]
      refine PySem.W.kat_cons (SeqAt.EqAt.int_int x t y u prog w _ _ ?_)
      exact PySem.W.kat_go (fun _ => PySem.W.kat_yes ih) (fun e1 => absurd e (by simpa using e1))
    · have el : lexK (Sum.inl x :: r) (Sum.inl y :: q) = decide (x < y) := lexK_ne (fun z => e (Sum.inl.inj z))
      rw [el]
      refine PySem.W.kat_cons (SeqAt.EqAt.int_int x t y u prog w _ _ ?_)
      exact PySem.W.kat_go (fun e1 => absurd (by simpa using e1) e) (fun _ => PySem.W.kat_no (TS.oneLt_ints _ ⟨rfl, rfl⟩))
  | _, _, _, _, i, .str (x := x) (y := y) (r := r) (q := q) sk, .cons r1 t1, .cons r2 t2, hi => by
    obtain ⟨t, rfl⟩ := r1
    obtain ⟨u, rfl⟩ := r2
    have ih := lex_cmp (i + 1) sk t1 t2 (Nat.succ_pos _)
    by_cases e : x = y
    · have el : lexK (Sum.inr x :: r) (Sum.inr y :: q) = lexK r q := lexK_eq (by rw [e])
      rw [el]
      refine PySem.W.kat_cons (SeqAt.EqAt.str_str x t y u prog w _ _ ?_)
      exact PySem.W.kat_go (fun _ => PySem.W.kat_yes ih) (fun e1 => absurd e (by simpa using e1))
    · have el : lexK (Sum.inr x :: r) (Sum.inr y :: q) = decide (x.cps.toList < y.cps.toList) := lexK_ne (fun z => e (Sum.inr.inj z))
      rw [el]
      refine PySem.W.kat_cons (SeqAt.EqAt.str_str x t y u prog w _ _ ?_)
      refine PySem.W.kat_go (fun e1 => absurd (by simpa using e1) e) (fun _ => PySem.W.kat_no ?_)
      have hi0 : (true && i == 0) = false := by simp; omega
      rw [hi0]
      exact PySem.W.kat_one _ _ (PyProof.Rows.lt_str (Q := PySem.W.BoolBack (fun r s' => s' = s ∧ r = decide (x.cps.toList < y.cps.toList))) (show s = s ∧ decide (x.cps.toList < y.cps.toList) = decide (x.cps.toList < y.cps.toList) from ⟨rfl, rfl⟩))
theorem same_len : ∀ {ks qs : List Key}, SameK ks qs → ks.length = qs.length
  | _, _, .nil => rfl
  | _, _, .int h => by simp [same_len h]
  | _, _, .str h => by simp [same_len h]
/-- the whole row -/
def rowK (k : Int × List Key) : List Key := Sum.inl k.1 :: k.2
theorem row_cmp {vs : List Value} {k : Value → Int × List Key} (hp : ∀ v ∈ vs, IsRow s.heap v (rowK (k v))) (hs : ∀ v ∈ vs, ∀ u ∈ vs, SameK (k v).2 (k u).2) : SrtO.Cmp prog w A s (tuples' true) (fun p => p.1 ∈ vs) (SrtO.lt2 fun v u => lexK (rowK (k v)) (rowK (k u))) := by
  intro p q hm hm'
  obtain ⟨a, o, its, n, e, ho, hc, hd, hv⟩ := hp _ hm
  obtain ⟨a', o', jts, n', e', ho', hc', hd', hv'⟩ := hp _ hm'
  have sk := hs _ hm _ hm'
  show wpAny (model prog w) A (keyLt' (tuples' true) p.1 q.1) (fun r s' => s' = s ∧ r = lexK (rowK (k p.1)) (rowK (k q.1))) (fun _ _ => False) s
  generalize hkp : k p.1 = kp at *
  generalize hkq : k q.1 = kq at *
  rw [e, e']
  obtain ⟨x, ks⟩ := kp
  obtain ⟨y, qs⟩ := kq
  have hlen : its.length = jts.length := by
    rw [← hv.length, ← hv'.length]
    have := same_len sk
    simp [rowK, this]
  refine PySem.W.kat_lt ho hd ho' hd' ?_
  have hf : decide ((List.toArray its).size < (List.toArray jts).size) = false := by simp [hlen]
  rw [hf]
  cases hv with
  | cons r1 t1 =>
    cases hv' with
    | cons r2 t2 =>
      obtain ⟨t, rfl⟩ := r1
      obtain ⟨u, rfl⟩ := r2
      have ih := lex_cmp (prog := prog) (w := w) (A := A) (s := s) 1 sk t1 t2 (by decide)
      by_cases e : x = y
      · have el : lexK (rowK (x, ks)) (rowK (y, qs)) = lexK ks qs := lexK_eq (by rw [e])
        rw [el]
        refine PySem.W.kat_cons (SeqAt.EqAt.int_int x t y u prog w _ _ ?_)
        exact PySem.W.kat_go (fun _ => PySem.W.kat_yes ih) (fun e1 => absurd e (by simpa using e1))
      · have el : lexK (rowK (x, ks)) (rowK (y, qs)) = decide (x < y) := lexK_ne (fun z => e (Sum.inl.inj z))
        rw [el]
        refine PySem.W.kat_cons (SeqAt.EqAt.int_int x t y u prog w _ _ ?_)
        exact PySem.W.kat_go (fun e1 => absurd (by simpa using e1) e) (fun _ => PySem.W.kat_no (TS.oneLt_ints _ ⟨rfl, rfl⟩))
theorem rows_sortableO {a : Addr} {vs : List Value} {k : Value → Int × List Key} (h0 : 0 < vs.length) (hp : ∀ v ∈ vs, IsRow s.heap v (rowK (k v))) (hs : ∀ v ∈ vs, ∀ u ∈ vs, SameK (k v).2 (k u).2) (ha : ∀ o, s.heap.get? a = some o → o.cls ≠ .type "tuple") : SrtO.SortableO prog w A s a vs fun v u => lexK (rowK (k v)) (rowK (k u)) := by
  intro h' keep
  have hp' : ∀ v ∈ vs, IsRow h' v (rowK (k v)) := fun v hm => (hp v hm).keeps fun b o e c => keep b o (fun z => by subst z; exact ha o e c) e
  obtain ⟨fs, h1, h2, h3⟩ := firsts_row hp'
  refine ⟨tuples' true, fun Q E hq => ?_, row_cmp (s := { s with heap := h' }) hp' hs⟩
  refine PySem.W.kat_kind (T := .type "int") h1 (by omega) (fun f hm => ?_) (by rfl) ?_
  · obtain ⟨x, t, rfl⟩ := h3 f hm
    exact PySem.W.Looks.now
  · have e : (Value.type "int" != Value.type "tuple") = true := by decide +kernel
    rw [e]
    exact hq
theorem sorted_rowsO {l : Addr} {vs : List Value} {k : Value → Int × List Key} {Q : Value → Shared → Prop} (hl : s.heap.IsList l vs.toArray) (hz : vs.length ≤ sizeLine) (hp : ∀ v ∈ vs, IsRow s.heap v (rowK (k v))) (hs : ∀ v ∈ vs, ∀ u ∈ vs, SameK (k v).2 (k u).2)
    (h : ∀ (h' : Heap) (d : Addr) (out : List Value), SrtO.Srtd (fun v u => lexK (rowK (k v)) (rowK (k u))) out → out.Perm vs → (∀ b o, s.heap.get? b = some o → h'.get? b = some o) → s.heap.objs.size ≤ d → (∃ n, h'.get? d = some (seqObj "list" out.toArray n)) → Q (.ref d) { s with heap := h' }) :
    wpAny (model prog w) A (call (.builtin "sorted") [.ref l]) Q E s := by
  refine SrtO.sorted_ord (swo_lexK fun v => rowK (k v)) hl hz (fun h2 h₁ a ha kk => ?_) fun out hs' hb => ?_
  · refine rows_sortableO (s := { s with heap := h₁ }) (by omega) (fun v hm => (hp v hm).keeps fun b o e _ => (kk b o e).2) hs fun o e => ?_
    have e' : some o = some (seqObj "list" vs.toArray 0) := e.symm.trans ha
    cases e'
    intro c
    exact absurd (Value.type.inj c) (by decide)
  · exact h _ _ out hs' hb.perm (fun b o e => sortedAll_old e) (Nat.le_succ _) (sortedAll_at s.heap vs out.toArray)
end
/-- sorted(xs): a new list of the same tuples, in order -/
def rSortedO (K : PySem.W.Frag) : List V → Hp → VK → Prop := fun vs H Q => ∃ a xs, ∃ k : V → Int × List Key, vs = [V.ref a] ∧ SqL K H a xs ∧ (∀ x ∈ xs, ∃ t, x = V.ref t ∧ H t = some (.tup ((rowK (k x)).map kV))) ∧ (∀ x ∈ xs, ∀ y ∈ xs, SameK (k x).2 (k y).2) ∧
  ∀ ys p, ys.Pairwise (fun x y => lexK (rowK (k y)) (rowK (k x)) = false) → ys.Perm xs → H p = none → Q (.ref p) (upd H p (.lst ys))
section
variable {X : Cx}
theorem cr_sortedO : CallR X (.builtin "sorted") (rSortedO X.K) := by
  intro pins s σ H vs us Q I r h
  obtain ⟨a, xs, k, rfl, hs, hx, hk, q⟩ := h
  obtain ⟨its, rv, hl, hz⟩ := I.list hs
  obtain ⟨u, rfl, ru⟩ := vals1 r
  obtain rfl : u = Value.ref a := ru
  obtain ⟨e1, e2⟩ := refs_back rv fun x m => by
    obtain ⟨t, e, _⟩ := hx x m
    exact ⟨t, e⟩
  have inx : ∀ v ∈ its, backV v ∈ xs := fun v hv => by rw [e1]; exact List.mem_map.mpr ⟨_, hv, rfl⟩
  refine sorted_rowsO (k := fun u => k (backV u)) hl.isList (by rw [← rv.length]; exact hz) (fun v hv => ?_) (fun v hv u hu => hk _ (inx v hv) _ (inx u hu)) fun h' d out hsr hp k' hd hn => ?_
  · obtain ⟨t, rfl⟩ := e2 v hv
    obtain ⟨t', e, ht⟩ := hx _ (inx _ hv)
    cases e
    obtain ⟨_, its2, r2, o, ho, hc, n, hd⟩ := I.hok _ _ ht
    exact ⟨t, o, its2, n, rfl, ho, hc, hd, r2⟩
  · have h3 : ∀ u ∈ out, ∃ a, u = Value.ref a := fun u hu => e2 u (hp.mem_iff.mp hu)
    obtain ⟨n, hn⟩ := hn
    refine ⟨.ref d, upd H d (.lst (out.map backV)), I.laid (t' := s.toks) k' hd ⟨?_, out, n, vals_back h3, hn⟩, rfl, q _ d ?_ ?_ (I.hok.fresh hd)⟩
    · rw [List.length_map, hp.length_eq, ← rv.length]; exact hz
    · exact List.pairwise_map.mpr hsr
    · rw [e1]; exact hp.map backV
end
end Nm
set_option maxRecDepth 100000
set_option maxHeartbeats 4000000
namespace Nm
open PySem L2
/-- ints that are places -/
abbrev natV (l : List Nat) : List V := l.map fun (i : Nat) => V.int (i : Int)
/-- the keys of a dict of ties, each by its own tuple -/
def KeyL (H : Hp) (kvs : List (List Key × V)) (ys : List V) : Prop := ∀ y ∈ ys, ∃ b k v, y = V.ref b ∧ H b = some (.tup (List.map kV k)) ∧ (k, v) ∈ kvs
theorem KeyL.same {H H' : Hp} {kvs : List (List Key × V)} {ys : List V} (h : KeyL H kvs ys) (e : Same H H') : KeyL H' kvs ys := fun y hy => by
  obtain ⟨b, k, v, a1, a2, a3⟩ := h y hy
  exact ⟨b, k, v, a1, e _ _ a2, a3⟩
theorem KeyL.kp {H H' : Hp} {kvs : List (List Key × V)} {ys : List V} {s c : Addr} (h : KeyL H kvs ys) (S : Src H s c) (e : Kp s c H H') : KeyL H' kvs ys := fun y hy => by
  obtain ⟨b, k, v, a1, a2, a3⟩ := h y hy
  obtain ⟨cs, l, m, tt, S⟩ := S
  exact ⟨b, k, v, a1, e _ _ a2 (ne_of a2 S.ds (by intro z; cases z)) (ne_of a2 S.dc (by intro z; cases z)), a3⟩
theorem KeyL.put {H : Hp} {kvs : List (List Key × V)} {ys : List V} {t : Addr} {o u : HO} (h : KeyL H kvs ys) (e : H t = some u) (hu : ∀ zs, u ≠ .tup zs) : KeyL (upd H t o) kvs ys := fun y hy => by
  obtain ⟨b, k, v, a1, a2, a3⟩ := h y hy
  refine ⟨b, k, v, a1, ?_, a3⟩
  rw [upd_ne (ne_of a2 e (fun z => hu _ z.symm))]
  exact a2
theorem keyL_of {H : Hp} : ∀ {kvs : List (List Key × V)} {bs : List Addr}, IsKeys H kvs bs → KeyL H kvs (bs.map V.ref) ∧ bs.length = kvs.length
  | _, _, .nil => ⟨fun y hy => (List.not_mem_nil hy).elim, rfl⟩
  | _, _, .cons (a := kv) (b := b) h t => by
    obtain ⟨i1, i2⟩ := keyL_of t
    refine ⟨fun y hy => ?_, by simp [i2]⟩
    rcases List.mem_cons.mp hy with e | e
    · exact ⟨b, kv.1, kv.2, e, h, List.mem_cons_self⟩
    · obtain ⟨b', k, v, a1, a2, a3⟩ := i1 y e
      exact ⟨b', k, v, a1, a2, List.mem_cons_of_mem _ a3⟩
theorem keyL_all {H : Hp} : ∀ {kvs : List (List Key × V)} {bs : List Addr}, IsKeys H kvs bs → ∀ kv ∈ kvs, ∃ b ∈ bs, H b = some (.tup (List.map kV kv.1))
  | _, _, .nil => fun kv h => (List.not_mem_nil h).elim
  | _, _, .cons (b := b) h t => fun kv hm => by
    rcases List.mem_cons.mp hm with e | e
    · subst e
      exact ⟨b, List.mem_cons_self, h⟩
    · obtain ⟨b', h1, h2⟩ := keyL_all t kv e
      exact ⟨b', List.mem_cons_of_mem _ h1, h2⟩
/-- what the tuple at a reference holds, as a row -/
def rowAt (H : Hp) : V → Int × List Key
  | .ref b => (match H b with
    | some (.tup [.int i, .int j, .str kd]) => (i, [Sum.inl j, Sum.inr kd])
    | _ => (0, []))
  | _ => (0, [])
theorem rowAt_of {H : Hp} {b : Addr} {i j : Int} {kd : Str} (h : H b = some (.tup [.int i, .int j, .str kd])) : rowAt H (.ref b) = (i, [Sum.inl j, Sum.inr kd]) := by
  show (match H b with
    | some (.tup [.int i, .int j, .str kd]) => (i, [Sum.inl j, Sum.inr kd])
    | _ => (0, [])) = _
  rw [h]
theorem KeyL.tie {H : Hp} {n m : Nat} {kvs : List (List Key × V)} {ys : List V} (h : KeyL H kvs ys) (T : Ties n m kvs) {y : V} (hy : y ∈ ys) : ∃ (b : Addr) (i j x : Nat) (kd : Str), y = V.ref b ∧ H b = some (.tup [.int (i : Int), .int (j : Int), .str kd]) ∧ ([Sum.inl (i : Int), Sum.inl (j : Int), Sum.inr kd], V.int (x : Int)) ∈ kvs ∧ i < j ∧ j < n ∧ isWordB kd = true ∧ 1 ≤ x ∧ x ≤ m := by
  obtain ⟨b, k, v, a1, a2, a3⟩ := h y hy
  obtain ⟨i, j, kd, e, h1, h2, h3⟩ := T.key _ a3
  obtain ⟨x, e2, h4, h5⟩ := T.val _ a3
  have e' : k = [Sum.inl (i : Int), Sum.inl (j : Int), Sum.inr kd] := e
  have e2' : v = V.int (x : Int) := e2
  subst e' e2'
  exact ⟨b, i, j, x, kd, a1, a2, a3, h1, h2, h3, h4, h5⟩
theorem sort_ties {H : Hp} {n m : Nat} {kvs : List (List Key × V)} {ys : List V} (h : KeyL H kvs ys) (T : Ties n m kvs) : (∀ x ∈ ys, ∃ t, x = V.ref t ∧ H t = some (.tup (V.int (rowAt H x).1 :: (rowAt H x).2.map kV))) ∧ (∀ x ∈ ys, ∀ y ∈ ys, SameK (rowAt H x).2 (rowAt H y).2) := by
  constructor
  · intro y hy
    obtain ⟨b, i, j, x, kd, e, hb, _⟩ := h.tie T hy
    subst e
    refine ⟨b, rfl, ?_⟩
    rw [rowAt_of hb]
    exact hb
  · intro y hy z hz
    obtain ⟨b, i, j, x, kd, e, hb, _⟩ := h.tie T hy
    obtain ⟨b', i', j', x', kd', e', hb', _⟩ := h.tie T hz
    subst e e'
    rw [rowAt_of hb, rowAt_of hb']
    exact .int (.str .nil)
theorem row_key {H : Hp} {n m : Nat} : ∀ {kvs : List (List Key × V)} {bs : List Addr}, IsKeys H kvs bs → (∀ kv ∈ kvs, TieK n kv.1) → (bs.map V.ref).map (fun y => rowK (rowAt H y)) = kvs.map (·.1)
  | _, _, .nil, _ => rfl
  | _, _, .cons (a := kv) (b := b) h t, hk => by
    rw [List.map_cons, List.map_cons, List.map_cons, row_key (n := n) (m := m) t fun kv hm => hk kv (List.mem_cons_of_mem _ hm)]
    obtain ⟨i, j, kd, e, _⟩ := hk kv List.mem_cons_self
    rw [e] at h
    congr 1
    rw [rowAt_of h, e]
    rfl
theorem isKeys_same {H H' : Hp} {kvs : List (List Key × V)} {bs : List Addr} (h : IsKeys H kvs bs) (e : Same H H') : IsKeys H' kvs bs := Paired.mapP h fun _ _ z => e _ _ z
/-- one tie of the parts: what has the number of its far end gets that of its near end -/
def stepP (ps : List Nat) (k : List Key) : List Nat := match k with
  | [Sum.inl i, Sum.inl j, Sum.inr _] => ps.map fun z => if z = (ps[j.toNat]?).getD 0 then (ps[i.toNat]?).getD 0 else z
  | _ => ps
def PartsRel (n : Nat) (kvs : List (List Key × V)) (ps : List Nat) : Prop := ∃ ks : List (List Key), ks.Pairwise (fun x y => lexK y x = false) ∧ ks.Perm (kvs.map (·.1)) ∧ ps = ks.foldl stepP (List.range n)
theorem PartsRel.one {n : Nat} {kvs : List (List Key × V)} {ps qs : List Nat} (h1 : PartsRel n kvs ps) (h2 : PartsRel n kvs qs) : ps = qs := by
  obtain ⟨ks, a1, a2, a3⟩ := h1
  obtain ⟨ks', b1, b2, b3⟩ := h2
  rw [a3, b3, sorted_one a1 b1 (a2.trans b2.symm)]
theorem rgV_nat (n : Nat) : rgV 0 (n : Int) = natV (List.range n) := by
  unfold rgV natV
  have e : ((n : Int) - 0).toNat = n := by omega
  rw [e]
  refine List.map_congr_left fun i _ => ?_
  rw [Int.zero_add]
structure TxtC (mg : Str → Option Value) : Prop extends TxtB mg where
  sorted : mg "sorted" = none
section
variable {P : Program} {w : World} {K : PySem.W.Frag} {mg : Str → Option Value} {base : Heap}
/-! ### _law_parts -/
def spParts : Sp := fun vs H Q _ => ∃ (wd a b t : Addr) (xs : List V) (m : Nat) (kvs : List (List Key × V)), vs = [.ref wd] ∧ H wd = some (.dK (worldD a b t)) ∧ H a = some (.lst xs) ∧ H t = some (.dT kvs) ∧ xs.length ≤ 1000 ∧ kvs.length ≤ 10000 ∧ Ties xs.length m kvs ∧
  ∀ (p : Addr) (ps : List Nat) (H' : Hp), H p = none → H' p = some (.lst (natV ps)) → ps.length = xs.length → (∀ x ∈ ps, x < xs.length) → (∀ (i j : Nat) (kd : Str) (v : V), ([Sum.inl (i : Int), Sum.inl (j : Int), Sum.inr kd], v) ∈ kvs → ps[i]? = ps[j]?) → PartsRel xs.length kvs ps → Same H H' → Q (.ref p) H'
abbrev nParts : List Str := ["_law_world", "_law_found", "_law_one", "_law_other", "_law_kind", "_law_kept", "_law_gone", "_law_number"]
theorem scParts : FnScope nParts ["_law_world"] (defScope sParts) := ⟨rfl, rfl, rfl, by decide +kernel, rfl, by decide +kernel, by decide +kernel⟩
theorem ok_parts {f : Addr} {fd : FuncData} (F : Fun K "_law_parts" "_law_parts" sParts f fd) (T : TxtC mg) : FnOk P w K mg base CX0 1 f fd ["_law_world"] spParts := by
  refine F.ok scParts (fun vs H Q E h => ?_) (fun cdv A outer s H vs Q E hr h => ?_)
  · obtain ⟨wd, a, b, t, xs, m, kvs, rfl, _⟩ := h
    rfl
  · obtain ⟨wd, a, b, t, xs, m, kvs, rfl, hwd, ha, ht, hxl, hkl, ti, k⟩ := h
    have hu := hu_of hr
    refine ⟨_, Evl.pss_cut (ps_set (i := 1) scParts.nd rfl (Or.inl rfl) (pe_listRg rfl (by rfl) T.list (prg_1 (by rfl) T.range (pe_callB call_len_seq (by rfl) T.len PySem.boot_len (pa_cons (pe_dget hu (pv 0) pe_str (fun _ _ => rfl)) pa_nil)))))
      (pss_cons (ps_for PassesOwn.never rfl (pi_list (pe_callB cr_sortedO (by rfl) T.sorted (by decide +kernel) (pa_cons (pe_callTy (call_list_dT rfl) (by rfl) T.list (by decide +kernel) (pa_cons (pe_dget hu (pv 0) pe_str (fun _ _ => rfl)) pa_nil)) pa_nil)))
          (pg_tup rfl (pgs_cons (pg_name (i := 2) scParts.nd rfl (.inl rfl)) (pgs_cons (pg_name (i := 3) scParts.nd rfl (.inl rfl)) (pgs_cons (pg_name (i := 4) scParts.nd rfl (.inl rfl)) pgs_nil))))
        (pss_cons (ps_asg (pe_tup (pa_cons (pe_ix ix_list (pv 1) (pv 2) (fun _ _ => rfl)) (pa_cons (pe_ix ix_list (pv 1) (pv 3) (fun _ _ => rfl)) pa_nil))) (pg_tup rfl (pgs_cons (pg_name (i := 5) scParts.nd rfl (.inr rfl)) (pgs_cons (pg_name (i := 6) scParts.nd rfl (.inr rfl)) pgs_nil))))
        (pss_one (ps_setLc (i := 1) (own := [("_law_number", 7)]) (g := gName 7) (tt := tYes) rfl scParts.nd rfl rfl (sw_true rfl rfl rfl (by decide +kernel)) (pi_list (pv 1))
          (blkOk_by (N := nParts) (sc := defScope sParts) (by decide +kernel)) (fun _ _ _ _ _ => pg_name (i := 7) scParts.nd rfl (Or.inl rfl)) (fun _ _ _ _ _ => pts_nil)
          (fun _ _ _ _ _ => pe_ifExp (pt_cmpR op_eq (pv 7) (pv 6) (nomark _)) (pv 5) (pv 7))))))
      (pss_one (ps_ret (pv 1)))), ?_⟩
    refine ⟨fun σ H1 => ∃ q, σ = [some (.ref wd), some (.ref q), none, none, none, none, none, none] ∧ H q = none ∧ H1 q = some (.lst (natV (List.range xs.length))) ∧ Same H H1, ?_, ?_⟩
    · refine ⟨_, rfl, wd, _, rfl, dg_names hwd, a, _, rfl, .inl (SqL.of ha), _, rfl, ?_⟩
      refine ⟨RgOk.of_le (by omega) (by omega) (by omega) (by omega), fun q hq => ⟨q, rfl, hq, by rw [upd_same, rgV_nat], same_new hq⟩⟩
    rintro σ H1 ⟨q, rfl, hq0, hq, s1⟩
    refine ⟨_, rfl, wd, _, rfl, dg_ties (s1 _ _ hwd), t, kvs, rfl, .inl (s1 _ _ ht), fun l bs hl hk => ?_⟩
    obtain ⟨kl, hbl⟩ := keyL_of hk
    have kl2 := kl.same (same_new (o := .lst (bs.map V.ref)) hl)
    obtain ⟨so1, so2⟩ := sort_ties kl2 ti
    refine ⟨l, _, _, rfl, SqL.of upd_same, so1, so2, fun ys p srt pm hp => ?_⟩
    have pk : (ys.map fun y => rowK (rowAt (upd H1 l (.lst (bs.map V.ref))) y)).Perm (kvs.map (·.1)) := by
      rw [← row_key (m := m) (isKeys_same hk (same_new (o := .lst (bs.map V.ref)) hl)) ti.key]
      exact pm.map _
    have sk : (ys.map fun y => rowK (rowAt (upd H1 l (.lst (bs.map V.ref))) y)).Pairwise (fun x y => lexK y x = false) := List.pairwise_map.mpr srt
    have rows : ∀ (b : Addr) (i j : Nat) (kd : Str), (upd H1 l (.lst (bs.map V.ref))) b = some (.tup [.int (i : Int), .int (j : Int), .str kd]) → rowK (rowAt (upd H1 l (.lst (bs.map V.ref))) (.ref b)) = [Sum.inl (i : Int), Sum.inl (j : Int), Sum.inr kd] := fun b i j kd h => by
      rw [rowAt_of h]
      rfl
    have rows2 : ∀ y ∈ ys, ∃ (b : Addr) (i j x : Nat) (kd : Str), y = V.ref b ∧ (upd H1 l (.lst (bs.map V.ref))) b = some (.tup [.int (i : Int), .int (j : Int), .str kd]) ∧ ([Sum.inl (i : Int), Sum.inl (j : Int), Sum.inr kd], V.int (x : Int)) ∈ kvs ∧ i < j ∧ j < xs.length := fun y hy => by
      obtain ⟨b, i, j, x, kd, e, hb, hm, h1, h2, _⟩ := kl2.tie ti (pm.subset hy)
      exact ⟨b, i, j, x, kd, e, hb, hm, h1, h2⟩
    generalize hks : (ys.map fun y => rowK (rowAt (upd H1 l (.lst (bs.map V.ref))) y)) = ks at *
    have hkat : ∀ (i : Nat) (b : Addr) (i1 j1 : Nat) (kd : Str), ys[i]? = some (.ref b) → (upd H1 l (.lst (bs.map V.ref))) b = some (.tup [.int (i1 : Int), .int (j1 : Int), .str kd]) → ks[i]? = some [Sum.inl (i1 : Int), Sum.inl (j1 : Int), Sum.inr kd] := fun i b i1 j1 kd h1 h2 => by
      rw [← hks, List.getElem?_map, h1]
      exact congrArg some (rows b i1 j1 kd h2)
    have hkl2 : ks.length = ys.length := by rw [← hks, List.length_map]
    have sHs := same_new (o := .lst ys) hp
    have s2 := (same_new (o := .lst (bs.map V.ref)) hl).trans (same_new (o := .lst ys) hp)
    have kly : KeyL (upd (upd H1 l (.lst (bs.map V.ref))) p (.lst ys)) kvs ys := fun y hy => (kl.same s2) y (pm.subset hy)
    have hpp : (upd (upd H1 l (.lst (bs.map V.ref))) p (.lst ys)) p = some (.lst ys) := upd_same
    have hq2 := s2 _ _ hq
    have s02 := s1.trans s2
    have hyl : ys.length ≤ 10000 := by rw [pm.length_eq, List.length_map]; omega
    have hks2 := hkat
    refine ⟨p, rfl, ⟨_, SqL.of hpp⟩, ?_⟩
    generalize hH2 : upd (upd H1 l (.lst (bs.map V.ref))) p (.lst ys) = H2 at *
    refine for_list (xs := ys) (fun i σ H3 => ∃ q ps v2 v3 v4 v5 v6, σ = [some (.ref wd), some (.ref q), v2, v3, v4, v5, v6, none] ∧ H q = none ∧ H3 q = some (.lst (natV ps)) ∧ ps.length = xs.length ∧ (∀ x ∈ ps, x < xs.length) ∧ ps = (ks.take i).foldl stepP (List.range xs.length) ∧ Same H2 H3 ∧
        (∀ y ∈ ys.take i, ∀ (b : Addr) (i1 j1 : Nat) (kd : Str), y = .ref b → H2 b = some (.tup [.int (i1 : Int), .int (j1 : Int), .str kd]) → ps[i1]? = ps[j1]?))
      ⟨q, List.range xs.length, none, none, none, none, none, rfl, hq0, hq2, by simp, fun x hx => List.mem_range.mp hx, rfl, Same.refl _, fun y hy => by simp at hy⟩ (fun i σ H3 _ ⟨_, _, _, _, _, _, _, _, _, _, _, _, _, sm, _⟩ => SqL.of (sm _ _ hpp)) ?_ ?_
    · rintro i y σ H3 hi ⟨q, ps, v2, v3, v4, v5, v6, rfl, hq0, hq3, hpl, hpn, hpf, s3, hdone⟩
      obtain ⟨b1, i1, j1, x1, kd1, rfl, hb1, hmem, hij, hjn, _, _, _⟩ := kly.tie ti (List.mem_of_getElem? hi)
      have hb3 := s3 _ _ hb1
      have hbs1 : (upd H1 l (.lst (bs.map V.ref))) b1 = some (.tup [.int (i1 : Int), .int (j1 : Int), .str kd1]) := by
        obtain ⟨b', i', j', x', kd', e', hb', _⟩ := rows2 _ (List.mem_of_getElem? hi)
        cases e'
        have := sHs _ _ hb'
        rw [hb1] at this
        rw [hb', ← Option.some.inj this]
      obtain ⟨u, hu1⟩ : ∃ u, ps[i1]? = some u := ⟨_, List.getElem?_eq_getElem (by omega)⟩
      obtain ⟨v, hv1⟩ : ∃ v, ps[j1]? = some v := ⟨_, List.getElem?_eq_getElem (by omega)⟩
      refine ⟨b1, _, rfl, SqT.of hb3, rfl, _, _, rfl, _, _, rfl, _, _, rfl, rfl, ?_⟩
      refine ⟨_, rfl, _, rfl, q, _, _, V.int (u : Int), rfl, rfl, SqL.of hq3, atI_nat (by rw [List.getElem?_map, hu1]; rfl), _, rfl, _, rfl, q, _, _, V.int (v : Int), rfl, rfl, SqL.of hq3, atI_nat (by rw [List.getElem?_map, hv1]; rfl), (by show 2 ≤ sizeLine; decide), fun tt htt => ?_⟩
      refine ⟨tt, _, rfl, SqT.of upd_same, rfl, _, _, rfl, _, _, rfl, rfl, ?_⟩
      have s4 := same_new (o := .tup [V.int (u : Int), V.int (v : Int)]) htt
      refine ⟨_, rfl, q, rfl, ⟨_, SqL.of (s4 _ _ hq3)⟩, fun D hD => ?_⟩
      have hD3 : H3 D = none := s4.free hD
      have hD0 : H D = none := (s02.trans s3).free hD3
      refine lc_list (xs := natV ps) (fun j H4 => H4 D = some (.lst (natV ((ps.map fun z => if z = v then u else z).take j))) ∧ Same H3 H4) ⟨upd_same, s4.trans (same_new hD)⟩ (fun j H4 _ h => SqL.of (h.2 _ _ hq3)) ?_ ?_
      · rintro j z H4 hj ⟨hD4, s5⟩
        have hjl := (List.getElem?_eq_some_iff.mp hj).1
        rw [List.length_map] at hjl
        rw [List.getElem?_map] at hj
        obtain ⟨z0, hz0, rfl⟩ := Option.map_eq_some_iff.mp hj
        refine ⟨rfl, tyes ?_⟩
        have tk : natV ((ps.map fun z => if z = v then u else z).take (j + 1)) = natV ((ps.map fun z => if z = v then u else z).take j) ++ [V.int ((if z0 = v then u else z0 : Nat) : Int)] := by
          have e : (ps.map fun z => if z = v then u else z)[j]? = some (if z0 = v then u else z0) := by rw [List.getElem?_map, hz0]; rfl
          rw [List.take_add_one, e]
          unfold natV
          rw [List.map_append]
          rfl
        have fin : ∀ y, y = V.int ((if z0 = v then u else z0 : Nat) : Int) → ∃ acc, H4 D = some (.lst acc) ∧ acc.length < sizeLine ∧ (upd H4 D (.lst (acc ++ [y]))) D = some (.lst (natV ((ps.map fun z => if z = v then u else z).take (j + 1)))) ∧ Same H3 (upd H4 D (.lst (acc ++ [y]))) := fun y hy => by
          refine ⟨_, hD4, Evl.sz_lt (by rw [List.length_map, List.length_take, List.length_map]; omega), by rw [upd_same, tk, hy], fun b o e => ?_⟩
          rw [upd_ne (ne_of_none e hD3)]
          exact s5 b o e
        refine ⟨_, rfl, _, rfl, rfl, _, rfl, ?_⟩
        refine ite2 (fun h => ?_) (fun h => ?_)
        · refine ⟨_, rfl, fin _ ?_⟩
          have : (V.int (z0 : Int)) = V.int (v : Int) := of_decide_eq_true h
          injection this with this
          rw [if_pos (by omega)]
        · refine ⟨_, rfl, fin _ ?_⟩
          have : ¬ (V.int (z0 : Int)) = V.int (v : Int) := of_decide_eq_false (Bool.eq_false_iff.mpr h)
          rw [if_neg (fun e => this (by rw [e]))]
      · rintro H4 ⟨hD4, s5⟩
        rw [List.length_map] at hD4
        rw [List.take_of_length_le (by simp)] at hD4
        refine ⟨D, ps.map fun z => if z = v then u else z, _, _, _, _, _, rfl, hD0, hD4, by simp [hpl], ?_, ?_, s3.trans s5, ?_⟩
        · intro x hx
          obtain ⟨z, hz, rfl⟩ := List.mem_map.mp hx
          split
          · exact hpn u (List.mem_of_getElem? hu1)
          · exact hpn z hz
        · rw [List.take_add_one, hkat i b1 i1 j1 kd1 hi hbs1, List.foldl_append, ← hpf]
          show _ = ps.map fun z => if z = (ps[(j1 : Int).toNat]?).getD 0 then (ps[(i1 : Int).toNat]?).getD 0 else z
          rw [Int.toNat_natCast, Int.toNat_natCast, hu1, hv1]
          rfl
        · intro y hy b i2 j2 kd2 e hb2
          rw [List.getElem?_map, List.getElem?_map]
          rw [List.take_add_one, hi] at hy
          rcases List.mem_append.mp hy with z | z
          · rw [hdone y z b i2 j2 kd2 e hb2]
          · have z' : y = V.ref b1 := by simpa using z
            rw [z'] at e
            cases e
            rw [hb1] at hb2
            injection hb2 with hb2
            injection hb2 with hb2
            simp at hb2
            obtain ⟨e1, e2, _⟩ := hb2
            have e1' : i1 = i2 := by omega
            have e2' : j1 = j2 := by omega
            subst e1' e2'
            rw [hu1, hv1]
            show some (if u = v then u else u) = some (if v = v then u else v)
            simp
    · rintro σ H3 ⟨q, ps, v2, v3, v4, v5, v6, rfl, hq0, hq3, hpl, hpn, hpf, s3, hdone⟩
      refine ⟨_, rfl, k q ps H3 hq0 hq3 hpl hpn ?_ ⟨ks, sk, pk, by rw [hpf, List.take_of_length_le (by omega)]⟩ (s02.trans s3)⟩
      intro i j kd v hm
      rw [List.take_of_length_le (Nat.le_refl _)] at hdone
      have hex : ∃ b, V.ref b ∈ ys ∧ H2 b = some (.tup [.int (i : Int), .int (j : Int), .str kd]) := by
        obtain ⟨b, hb, hb1⟩ := keyL_all hk _ hm
        exact ⟨b, pm.mem_iff.mpr (List.mem_map.mpr ⟨b, hb, rfl⟩), s2 _ _ hb1⟩
      obtain ⟨b, hb, hb2⟩ := hex
      exact hdone _ hb b i j kd rfl hb2
end
end Nm
set_option maxRecDepth 100000
set_option maxHeartbeats 4000000
namespace Nm
open PySem L2
def nameN (k : Nat) : Str := ("n" : Str) ++ ((toString (k : Int) : String) : Str)
theorem nameN_w : ∀ k < 100, isWordB (nameN k) = true := by decide +kernel
theorem nameN_nd : ((List.range 100).map nameN).Nodup := by decide +kernel
section
variable {κ : Type} [DecidableEq κ]
theorem val_none_of {kvs : List (κ × V)} {k : κ} (h : k ∉ kvs.map (·.1)) : valV kvs k = none := by
  cases e : valV kvs k with
  | none => rfl
  | some v => exact absurd (valV_in e) h
end
theorem merge_nd : ∀ {kvs acc : List (Key × V)}, ((acc ++ kvs).map (·.1)).Nodup → mergeK acc kvs = acc ++ kvs
  | [], acc, _ => (List.append_nil _).symm
  | kv :: r, acc, h => by
    show mergeK (putK acc kv.1 kv.2) r = acc ++ kv :: r
    have hn : kv.1 ∉ acc.map (·.1) := fun hm => by
      rw [List.map_append, List.nodup_append] at h
      exact h.2.2 kv.1 hm kv.1 (by simp) rfl
    rw [putK_new _ (val_none_of hn)]
    have e : acc ++ kv :: r = (acc ++ [(kv.1, kv.2)]) ++ r := by simp
    rw [e] at h ⊢
    exact merge_nd h
def natOf : V → Nat
  | .int x => x.toNat
  | _ => 0
theorem perm_nat {ys : List V} {l : List Nat} (h : ys.Perm (natV l)) : ∃ zs : List Nat, ys = natV zs ∧ zs.Perm l := by
  refine ⟨ys.map natOf, ?_, ?_⟩
  · unfold natV
    rw [List.map_map]
    conv => lhs; rw [← List.map_id ys]
    refine List.map_congr_left fun v hv => ?_
    obtain ⟨x, _, rfl⟩ := List.mem_map.mp (h.subset hv)
    rfl
  · have := h.map natOf
    unfold natV at this
    rw [List.map_map] at this
    have e : l.map (natOf ∘ fun (i : Nat) => V.int (i : Int)) = l := by
      conv => rhs; rw [← List.map_id l]
      rfl
    rw [e] at this
    exact this
theorem nameN_len : ∀ k : Nat, k < 100 → ("n" : Str).length + ((toString (k : Int) : String) : Str).length ≤ 100 := by decide +kernel
theorem log_small {i : Nat} (h : i < 1000) : (0 + (i : Int)).natAbs.log2 < 1920 := by
  have e : (0 + (i : Int)).natAbs = i := by omega
  rw [e]
  have := Nat.log2_le_self i
  omega
/-- the pairs (place, seat) -/
def seatKV (od : List Nat) (i : Nat) : List (Key × V) := (od.zipIdx.take i).map fun p => (Sum.inl (p.1 : Int), V.int (p.2 : Int))
theorem seat_keys (od : List Nat) : (seatKV od od.length).map (·.1) = od.map fun (x : Nat) => (Sum.inl (x : Int) : Key) := by
  unfold seatKV
  rw [List.take_of_length_le (by simp), List.map_map]
  have : od = od.zipIdx.map (·.1) := by simp
  conv => rhs; rw [this]
  rw [List.map_map]
  rfl
theorem seat_nd {od : List Nat} (h : od.Nodup) : ((seatKV od od.length).map (·.1)).Nodup := by
  rw [seat_keys]
  refine List.Pairwise.map _ (fun a b hab => ?_) h
  exact fun e => hab (by have := Sum.inl.inj e; omega)
theorem seat_mem {od : List Nat} {j x : Nat} (h : od[j]? = some x) : ((Sum.inl (x : Int) : Key), V.int (j : Int)) ∈ seatKV od od.length := by
  unfold seatKV
  rw [List.take_of_length_le (by simp)]
  refine List.mem_map.mpr ⟨(x, j), ?_, rfl⟩
  rw [List.mem_zipIdx_iff_getElem?]
  exact h
theorem seat_step {od : List Nat} {i x : Nat} (h : od[i]? = some x) : seatKV od (i + 1) = seatKV od i ++ [(Sum.inl (x : Int), V.int (i : Int))] := by
  unfold seatKV
  have e : od.zipIdx[i]? = some (x, i) := by simp [h]
  rw [List.take_add_one, e, List.map_append]
  rfl
theorem paired_snoc {α β : Type} {F : α → β → Prop} : ∀ {l : List α} {m : List β} {a : α} {b : β}, Paired F l m → F a b → Paired F (l ++ [a]) (m ++ [b])
  | _, _, _, _, .nil, h => .cons h .nil
  | _, _, _, _, .cons r t, h => .cons r (paired_snoc t h)
structure TxtD (mg : Str → Option Value) : Prop extends TxtC mg where
  dict : mg "dict" = none
  enumerate : mg "enumerate" = none
  str : mg "str" = none
section
variable {P : Program} {w : World} {K : PySem.W.Frag} {mg : Str → Option Value} {base : Heap}
/-! ### _law_seated -/
def spSeated : Sp := fun vs H Q _ => ∃ (s c wd a b t ld : Addr) (cl : List Str) (m : Nat) (kvs : List (List Key × V)) (led : List Nat), vs = [.ref s, .ref wd, .ref ld] ∧ Src H s c ∧ H wd = some (.dK (worldD a b t)) ∧ wd ≠ s ∧ H b = some (.lst (cl.map V.str)) ∧ b ≠ c ∧ H t = some (.dT kvs) ∧ H ld = some (.lst (natV led)) ∧ ld ≠ c ∧
  cl.length = led.length ∧ (∀ x ∈ cl, isWordB x = true) ∧ 1 ≤ led.length ∧ led.length ≤ 100 ∧ kvs.length ≤ 4000 ∧ Ties led.length m kvs ∧
  ∀ (r wd' a' b' t' ld' : Addr) (nm cl' : List Str) (kvs' : List (List Key × V)) (led' : List Nat) (H' : Hp), H wd' = none → H a' = none → H b' = none → H t' = none → H ld' = none → H' r = some (.tup [.ref wd', .ref ld']) → WorldOk H' s c wd' a' b' t' nm cl' kvs' → nm.length = led.length → Ties nm.length m kvs' → kvs'.length ≤ 4000 →
    H' ld' = some (.lst (natV led')) → led'.length = led.length → (∀ x ∈ led', x ∈ led) → Src H' s c → Kp s c H H' → Q (.ref r) H'
abbrev nSeat : List Str := ["_law_source", "_law_world", "_law_led", "_law_order", "_law_names", "_law_seats", "_law_ties", "_law_one", "_law_other", "_law_kind", "_law_spot", "_law_colours", "_law_k", "_law_new", "_law_old"]
theorem scSeat : FnScope nSeat ["_law_source", "_law_world", "_law_led"] (defScope sSeated) := ⟨rfl, rfl, rfl, by decide +kernel, rfl, by decide +kernel, by decide +kernel⟩
theorem ok_seat {f : Addr} {fd : FuncData} (F : Fun K "_law_seated" "_law_seated" sSeated f fd) (T : TxtD mg) (Ga : Def P w K mg base "_law_any_order" ["_law_source", "_law_items"] 2 (spAny K)) : FnOk P w K mg base CX0 3 f fd ["_law_source", "_law_world", "_law_led"] spSeated := by
  obtain ⟨fa, fda, Ga, ma, ka, ba⟩ := Ga.ex
  refine F.ok scSeat (fun vs H Q E h => ?_) (fun cdv A outer s H vs Q E hr h => ?_)
  · obtain ⟨_, _, _, _, _, _, _, _, _, _, _, rfl, _⟩ := h
    rfl
  · obtain ⟨sa, ca, wd, a, b, t, ld, cl, m, kvs, led, rfl, S, hwd, nws, hb, nbc, ht, hld, nlc, hcl, hcw, hn1, hn2, hkl, ti, k⟩ := h
    have hu := hu_of hr
    refine ⟨_, Evl.pss_cut (ps_set (i := 3) scSeat.nd rfl (Or.inl rfl) (pe_call Ga hr (by rfl) ma ka ba .nil pass0 (pa_cons (pv 0) (pa_cons (pe_listRg rfl (by rfl) T.list (prg_1 (by rfl) T.range (pe_callB call_len_seq (by rfl) T.len PySem.boot_len (pa_cons (pv 2) pa_nil)))) pa_nil))))
      (Evl.pss_cut (ps_set (i := 4) scSeat.nd rfl (Or.inl rfl) (pe_call Ga hr (by rfl) ma ka ba .nil pass0 (pa_cons (pv 0) (pa_cons (pe_lc (own := [("_law_k", 12)]) (g := gName 12) (tt := tYes) rfl scSeat.nd (pi_range1 (by rfl) T.range (pa_cons (pe_callB call_len_seq (by rfl) T.len PySem.boot_len (pa_cons (pv 2) pa_nil)) pa_nil))
          (blkOk_by (N := nSeat) (sc := defScope sSeated) (by decide +kernel)) (fun _ _ _ _ _ => pg_name (i := 12) scSeat.nd rfl (Or.inl rfl)) (fun _ _ _ _ _ => pts_nil)
          (fun _ _ _ _ _ => pe_op op_add_str pe_str (pe_callTy call_str_int (by rfl) T.str (by decide +kernel) (pa_cons (pv 12) pa_nil)))) pa_nil))))
      (Evl.pss_cut (ps_set (i := 5) scSeat.nd rfl (Or.inl rfl) (pe_callTy (call_dictP rfl) (by rfl) T.dict (by decide +kernel) (pa_cons (pe_lc (own := [("_law_new", 13), ("_law_old", 14)]) (g := gTup K 2 (gCons (gName 13) (gCons (gName 14) gNil))) (tt := tYes) rfl scSeat.nd (pi_enum (by rfl) T.enumerate (pa_cons (pv 3) pa_nil))
          (blkOk_by (N := nSeat) (sc := defScope sSeated) (by decide +kernel)) (fun _ _ _ _ _ => pg_tup rfl (pgs_cons (pg_name (i := 13) scSeat.nd rfl (Or.inl rfl)) (pgs_cons (pg_name (i := 14) scSeat.nd rfl (Or.inl rfl)) pgs_nil))) (fun _ _ _ _ _ => pts_nil)
          (fun _ _ _ _ _ => pe_tup (pa_cons (pv 14) (pa_cons (pv 13) pa_nil)))) pa_nil)))
      (pss_cons (ps_set (i := 6) scSeat.nd rfl (Or.inl rfl) pe_dnewT)
      (Evl.pss_cut (ps_for PassesOwn.never rfl (pi_list (pe_callB cr_sortedR (by rfl) T.sorted (by decide +kernel) (pa_cons (pe_callTy (call_list_dT rfl) (by rfl) T.list (by decide +kernel) (pa_cons (pe_dget hu (pv 1) pe_str (fun _ _ => rfl)) pa_nil)) pa_nil)))
          (pg_tup rfl (pgs_cons (pg_name (i := 7) scSeat.nd rfl (.inl rfl)) (pgs_cons (pg_name (i := 8) scSeat.nd rfl (.inl rfl)) (pgs_cons (pg_name (i := 9) scSeat.nd rfl (.inl rfl)) pgs_nil))))
        (pss_cons (ps_set (i := 10) scSeat.nd rfl (Or.inl rfl) (pe_callB cr_sorted (by rfl) T.sorted (by decide +kernel) (pa_cons (pe_lst (pa_cons (pe_dget hu (pv 5) (pv 7) (fun _ _ => rfl)) (pa_cons (pe_dget hu (pv 5) (pv 8) (fun _ _ => rfl)) pa_nil))) pa_nil)))
        (pss_one (ps_dput hu (pv 6) (pe_tup (pa_cons (pe_ix ix_list (pv 10) pe_int (fun _ _ => rfl)) (pa_cons (pe_ix ix_list (pv 10) pe_int (fun _ _ => rfl)) (pa_cons (pv 9) pa_nil)))) (pe_dget hu (pe_dget hu (pv 1) pe_str (fun _ _ => rfl)) (pe_tup (pa_cons (pv 7) (pa_cons (pv 8) (pa_cons (pv 9) pa_nil)))) (fun _ _ => rfl)) rfl))))
      (Evl.pss_cut (ps_setLc (i := 11) (own := [("_law_old", 14)]) (g := gName 14) (tt := tYes) (te := tOp (rIxL K) (tDGet (tVar 1) (tC (.str "colours"))) (tVar 14)) rfl scSeat.nd rfl rfl (sw_true rfl rfl rfl (by decide +kernel)) (pi_list (pv 3))
          (blkOk_by (N := nSeat) (sc := defScope sSeated) (by decide +kernel)) (fun _ _ _ _ _ => pg_name (i := 14) scSeat.nd rfl (Or.inl rfl)) (fun _ _ _ _ _ => pts_nil)
          (fun _ _ _ _ _ => by exact pe_ix ix_list (pe_dget hu (pv 1) pe_str (fun _ _ => rfl)) (pv 14) (fun _ _ => rfl)))
      (pss_one (ps_ret (pe_tup (pa_cons (pe_disp (pps_cons pe_str (pv 4) (pps_cons pe_str (pv 11) (pps_cons pe_str (pv 6) pps_nil))) (by rfl) (by rfl) (fun z => by cases z) (by decide)) (pa_cons
          (pe_lc (own := [("_law_old", 14)]) (g := gName 14) (tt := tYes) (te := tOp (rIxL K) (tVar 2) (tVar 14)) rfl scSeat.nd (pi_list (pv 3))
          (blkOk_by (N := nSeat) (sc := defScope sSeated) (by decide +kernel)) (fun _ _ _ _ _ => pg_name (i := 14) scSeat.nd rfl (Or.inl rfl)) (fun _ _ _ _ _ => pts_nil)
          (fun _ _ _ _ _ => by exact pe_ix ix_list (pv 2) (pv 14) (fun _ _ => rfl))) pa_nil)))))))))), ?_⟩
    generalize hN : led.length = N at *
    -- order
    refine ⟨fun σ H1 => ∃ o od, σ = [some (.ref sa), some (.ref wd), some (.ref ld), some (.ref o), none, none, none, none, none, none, none, none, none, none, none] ∧ H o = none ∧ H1 o = some (.lst (natV od)) ∧ od.Perm (List.range N) ∧ Src H1 sa ca ∧ Kp sa ca H H1, ?_, ?_⟩
    · refine ⟨_, rfl, _, rfl, ld, _, rfl, .inl (SqL.of hld), _, rfl, RgOk.of_le (by omega) (by rw [List.length_map]; omega) (by omega) (by omega), fun q hq => ?_⟩
      refine ⟨sa, ca, q, _, rfl, S.new hq, SqL.of upd_same, by rw [List.length_map, hN, rgV_nat]; simp; omega, fun p ys H1 hp pm hpl S1 kp1 => ?_⟩
      rw [List.length_map, hN, rgV_nat] at pm
      obtain ⟨od, rfl, po⟩ := perm_nat pm
      have hq' : H p = none := (same_new hq).free hp
      exact ⟨p, od, rfl, hq', hpl, po, S1, (Kp.same (same_new hq)).trans kp1⟩
    rintro σ H1 ⟨o, od, rfl, ho0, ho, po, S1, kp1⟩
    have hol : od.length = N := by rw [po.length_eq]; simp
    obtain ⟨nos, noc⟩ := S.ne ho0
    obtain ⟨cs0, l0, m0, t0, S0⟩ := id S
    have nls : ld ≠ sa := ne_of hld S0.ds (by intro z; cases z)
    have nbs : b ≠ sa := ne_of hb S0.ds (by intro z; cases z)
    have nts : t ≠ sa := ne_of ht S0.ds (by intro z; cases z)
    have ntc : t ≠ ca := ne_of ht S0.dc (by intro z; cases z)
    have nwc : wd ≠ ca := ne_of hwd S0.dc (by intro z; cases z)
    have hld1 := kp1 _ _ hld nls nlc
    -- names
    refine ⟨fun σ H2 => ∃ na nm, σ = [some (.ref sa), some (.ref wd), some (.ref ld), some (.ref o), some (.ref na), none, none, none, none, none, none, none, none, none, none] ∧ H na = none ∧ H2 na = some (.lst (List.map V.str nm)) ∧ nm.Perm ((List.range N).map nameN) ∧ Src H2 sa ca ∧ Kp sa ca H1 H2, ?_, ?_⟩
    · refine ⟨_, rfl, _, rfl, ld, _, rfl, .inl (SqL.of hld1), _, rfl, by rw [List.length_map]; omega, by rw [List.length_map]; omega, fun D hD => ?_⟩
      rw [List.length_map, hN]
      refine lc_range (lo := 0) (n := N) (fun i H2 => H2 D = some (.lst (((List.range i).map nameN).map V.str)) ∧ Same H1 H2) ⟨upd_same, same_new hD⟩ ?_ ?_
      · rintro i H2 hi ⟨hD2, s2⟩
        refine ⟨rfl, tyes ?_⟩
        have hl := nameN_len i (by omega)
        refine ⟨_, rfl, _, rfl, log_small (by omega), _, _, rfl, rfl, ?_, _, hD2, Evl.sz_lt (by simp; omega), ?_, ?_⟩
        · rw [Int.zero_add]
          exact Evl.sz_of (by omega)
        · rw [upd_same, List.range_succ, List.map_append, List.map_append, Int.zero_add]
          rfl
        · intro b o e
          rw [upd_ne (ne_of_none e hD)]
          exact s2 b o e
      · rintro H2 ⟨hD2, s2⟩
        refine ⟨sa, ca, D, _, rfl, S1.same s2, SqL.of hD2, by simp; omega, fun p ys H3 hp pm hpl S3 kp3 => ?_⟩
        obtain ⟨nm, rfl, pn⟩ := perm_str pm
        have hp0 : H p = none := kp1.free S1 (s2.free hp)
        exact ⟨p, nm, rfl, hp0, hpl, pn, S3, (Kp.same s2).trans kp3⟩
    rintro σ H2 ⟨na, nm, rfl, hna0, hna, pn, S2, kp2⟩
    have hnl : nm.length = N := by rw [pn.length_eq]; simp
    obtain ⟨nns, nnc⟩ := S.ne hna0
    have ho2 := kp2 _ _ ho nos noc
    have kp02 := kp1.trans kp2
    -- seats
    refine ⟨fun σ H3 => ∃ se, σ = [some (.ref sa), some (.ref wd), some (.ref ld), some (.ref o), some (.ref na), some (.ref se), none, none, none, none, none, none, none, none, none] ∧ H3 se = some (.dK (seatKV od od.length)) ∧ Same H2 H3, ?_, ?_⟩
    · refine ⟨_, rfl, o, _, rfl, SqL.of ho2, fun D hD => ?_⟩
      refine lc_it (walk_enum (xs := natV od)) (fun i H3 => ∃ ps : List Addr, H3 D = some (.lst (ps.map V.ref)) ∧ ps.length = i ∧ Paired (fun p kv => H3 p = some (.tup [kV kv.1, kv.2])) ps (seatKV od i) ∧ Same H2 H3) ⟨[], upd_same, rfl, .nil, same_new hD⟩ (fun i H3 _ ⟨_, _, _, _, h⟩ => SqL.of (h _ _ ho2)) ?_ ?_
      · rintro i x H3 H4 hi ⟨ps, hD3, hpl, pr, s3⟩ ⟨T, x1, y1, rfl, hT, rfl, e1, e2⟩
        rw [List.length_map] at hi
        have e2 : (natV od)[i]? = some y1 := e2
        rw [List.getElem?_map] at e2
        obtain ⟨y0, hy0, rfl⟩ := Option.map_eq_some_iff.mp e2
        cases e1
        refine ⟨T, _, rfl, SqT.of upd_same, rfl, _, _, rfl, _, _, rfl, rfl, rfl, tyes ?_⟩
        refine ⟨_, rfl, _, rfl, (by show 2 ≤ sizeLine; decide), fun u hu => ?_⟩
        have sT := same_new (o := .tup [V.int (i : Nat), V.int (y0 : Int)]) hT
        have su := same_new (o := .tup [V.int (y0 : Int), V.int (i : Nat)]) hu
        have sTu := sT.trans su
        have nDu : u ≠ D := fun e => by subst e; rw [sT _ _ hD3] at hu; cases hu
        refine ⟨_, sTu _ _ hD3, Evl.sz_lt (by rw [List.length_map]; omega), ps ++ [u], by rw [upd_same, List.map_append]; rfl, by simp [hpl], ?_, ?_⟩
        · rw [seat_step hy0]
          refine paired_snoc (Paired.mapP pr fun p kv h => ?_) ?_
          · rw [upd_ne (ne_of h hD3 (by intro z; cases z))]
            exact sTu _ _ h
          · rw [upd_ne nDu]
            exact upd_same
        · intro b ob e
          rw [upd_ne (ne_of_none e hD)]
          exact sTu _ _ (s3 b ob e)
      · rintro H3 ⟨ps, hD3, hpl, pr, s3⟩
        rw [List.length_map] at pr
        refine ⟨D, ps, seatKV od od.length, rfl, SqL.of hD3, Paired.mapP pr fun p kv h => SqT.of h, fun p hp => ?_⟩
        have nd : ((seatKV od od.length).map (·.1)).Nodup := seat_nd (po.nodup_iff.mpr List.nodup_range)
        refine ⟨p, rfl, ?_, s3.trans (same_new hp)⟩
        rw [upd_same, merge_nd (acc := []) (by simpa using nd)]
        rfl
    rintro σ H3 ⟨se, rfl, hse, s3⟩
    intro t2 ht2
    have s4 := same_new (o := .dT []) ht2
    have s24 := s3.trans s4
    have S4 := S2.same s24
    have kp04 : Kp sa ca H (upd H3 t2 (.dT [])) := kp02.trans (Kp.same s24)
    have h20 : H t2 = none := kp02.free S2 (s3.free ht2)
    obtain ⟨n2s, n2c⟩ := S.ne h20
    have hwd4 := kp04 _ _ hwd nws nwc
    have hb4 := kp04 _ _ hb nbs nbc
    have ht4 := kp04 _ _ ht nts ntc
    have hld4 := kp04 _ _ hld nls nlc
    have ho4 := s24 _ _ ho2
    have hna4 := s24 _ _ hna
    have hse4 := s4 _ _ hse
    have h24 : (upd H3 t2 (.dT [])) t2 = some (.dT []) := upd_same
    have ntt : t2 ≠ t := fun e => by subst e; rw [h20] at ht; cases ht
    generalize upd H3 t2 (.dT []) = H4 at *
    -- the ties
    refine ⟨fun σ H5 => ∃ v7 v8 v9 v10 kv2, σ = [some (.ref sa), some (.ref wd), some (.ref ld), some (.ref o), some (.ref na), some (.ref se), some (.ref t2), v7, v8, v9, v10, none, none, none, none] ∧ H5 t2 = some (.dT kv2) ∧ Ties N m kv2 ∧ kv2.length ≤ 4000 ∧ (∀ b o, H4 b = some o → b ≠ t2 → H5 b = some o), ?_, ?_⟩
    · refine ⟨_, rfl, wd, _, rfl, dg_ties hwd4, t, kvs, rfl, .inl ht4, fun l bs hl hk => ?_⟩
      obtain ⟨kl, hbl⟩ := keyL_of hk
      have kl2 := kl.same (same_new (o := .lst (bs.map V.ref)) hl)
      obtain ⟨so1, so2⟩ := sort_ties kl2 ti
      refine ⟨l, _, _, rfl, SqL.of upd_same, so1, so2, fun ys p pm hp => ?_⟩
      have s5 := (same_new (o := .lst (bs.map V.ref)) hl).trans (same_new (o := .lst ys) hp)
      have kly : KeyL (upd (upd H4 l (.lst (bs.map V.ref))) p (.lst ys)) kvs ys := fun y hy => (kl.same s5) y (pm.subset hy)
      have hpp : (upd (upd H4 l (.lst (bs.map V.ref))) p (.lst ys)) p = some (.lst ys) := upd_same
      have hyl : ys.length ≤ 4000 := by rw [pm.length_eq, List.length_map]; omega
      have np2 : p ≠ t2 := fun e => by subst e; rw [same_new hl _ _ h24] at hp; cases hp
      generalize upd (upd H4 l (.lst (bs.map V.ref))) p (.lst ys) = H5 at *
      refine ⟨p, rfl, ⟨_, SqL.of hpp⟩, ?_⟩
      refine for_list (xs := ys) (fun i σ H6 => ∃ v7 v8 v9 v10 kv2, σ = [some (.ref sa), some (.ref wd), some (.ref ld), some (.ref o), some (.ref na), some (.ref se), some (.ref t2), v7, v8, v9, v10, none, none, none, none] ∧ H6 t2 = some (.dT kv2) ∧ Ties N m kv2 ∧ kv2.length ≤ i ∧ (∀ b o, H5 b = some o → b ≠ t2 → H6 b = some o))
        ⟨none, none, none, none, [], rfl, s5 _ _ h24, Ties.nil N m, Nat.le_refl _, fun b o e _ => e⟩ (fun i σ H6 _ ⟨_, _, _, _, _, _, _, _, _, h⟩ => SqL.of (h _ _ hpp np2)) ?_ ?_
      · rintro i y σ H6 hi ⟨v7, v8, v9, v10, kv2, rfl, h26, ti6, hl6, kp6⟩
        have hil := (List.getElem?_eq_some_iff.mp hi).1
        obtain ⟨b1, i1, j1, x1, kd1, rfl, hb1, hmem, hij, hjn, hkw, hx1, hx2⟩ := kly.tie ti (List.mem_of_getElem? hi)
        have stay : ∀ b o, H4 b = some o → b ≠ t2 → H6 b = some o := fun b o e h => kp6 b o (s5 _ _ e) h
        have nb12 : b1 ≠ t2 := ne_of hb1 (s5 _ _ h24) (by intro z; cases z)
        have hb6 := kp6 _ _ hb1 nb12
        have hse6 := stay _ _ hse4 (ne_of hse4 h24 (by intro z; cases z))
        have hwd6 := stay _ _ hwd4 (ne_of hwd4 h24 (by intro z; cases z))
        have ht6 := stay _ _ ht4 ntt.symm
        have seat : ∀ x < N, ∃ j, od[j]? = some x ∧ j < N ∧ valV (seatKV od od.length) (Sum.inl (x : Int) : Key) = some (V.int (j : Int)) := fun x hx => by
          obtain ⟨j, hj⟩ := List.getElem?_of_mem (po.mem_iff.mpr (List.mem_range.mpr hx))
          have hjl := (List.getElem?_eq_some_iff.mp hj).1
          exact ⟨j, hj, by omega, val_of_mem (seat_nd (po.nodup_iff.mpr List.nodup_range)) (seat_mem hj)⟩
        obtain ⟨u1, hu1, hu1n, hv1⟩ := seat i1 (by omega)
        obtain ⟨u2, hu2, hu2n, hv2⟩ := seat j1 hjn
        have hne : u1 ≠ u2 := fun e => by subst e; rw [hu1] at hu2; have := Option.some.inj hu2; omega
        refine ⟨b1, _, rfl, SqT.of hb6, rfl, _, _, rfl, _, _, rfl, _, _, rfl, rfl, ?_⟩
        refine ⟨_, rfl, _, rfl, se, _, rfl, (by rw [← hv1]; exact DGet.k (k := Sum.inl (i1 : Int)) hse6), _, rfl, _, rfl, se, _, rfl, (by rw [← hv2]; exact DGet.k (k := Sum.inl (j1 : Int)) hse6), (by show 2 ≤ sizeLine; decide), fun l1 hl1 => ?_⟩
        refine ⟨l1, [(u1 : Int), (u2 : Int)], rfl, SqL.of upd_same, (by show 2 < 64; decide), fun ns sp pms srt hsp => ?_⟩
        obtain ⟨n0, n1, rfl, h01, h1N⟩ : ∃ n0 n1 : Nat, ns = [(n0 : Int), (n1 : Int)] ∧ n0 < n1 ∧ n1 < N := by
          have hl2 : ns.length = 2 := pms.length_eq
          match ns, hl2 with
          | [z0, z1], _ =>
            have hle : z0 ≤ z1 := by simpa using srt
            have h0 := pms.mem_iff.mp (show z0 ∈ [z0, z1] by simp)
            have h1 := pms.mem_iff.mp (show z1 ∈ [z0, z1] by simp)
            have h2 := pms.mem_iff.mpr (show (u1 : Int) ∈ [(u1 : Int), (u2 : Int)] by simp)
            have h3 := pms.mem_iff.mpr (show (u2 : Int) ∈ [(u1 : Int), (u2 : Int)] by simp)
            simp at h0 h1 h2 h3
            refine ⟨z0.toNat, z1.toNat, ?_, by omega, by omega⟩
            rw [Int.toNat_of_nonneg (by omega), Int.toNat_of_nonneg (by omega)]
        have s7 := (same_new (o := .lst ([(u1 : Int), (u2 : Int)].map V.int)) hl1).trans (same_new (o := .lst ([(n0 : Int), (n1 : Int)].map V.int)) hsp)
        have hsp7 : (upd (upd H6 l1 (.lst ([(u1 : Int), (u2 : Int)].map V.int))) sp (.lst ([(n0 : Int), (n1 : Int)].map V.int))) sp = some (.lst [V.int (n0 : Int), V.int (n1 : Int)]) := upd_same
        refine ⟨_, rfl, wd, _, rfl, dg_ties (s7 _ _ hwd6), _, rfl, _, rfl, _, rfl, (by show 3 ≤ sizeLine; decide), fun q1 hq1 => ?_⟩
        have s8 := s7.trans (same_new (o := .tup [V.int (i1 : Int), V.int (j1 : Int), V.str kd1]) hq1)
        refine ⟨t, V.int (x1 : Int), rfl, (by rw [← val_of_mem ti.nd hmem]; exact DGet.t (k := [Sum.inl (i1 : Int), Sum.inl (j1 : Int), Sum.inr kd1]) (s8 _ _ ht6) upd_same), ?_⟩
        have hsp8 := same_new (o := .tup [V.int (i1 : Int), V.int (j1 : Int), V.str kd1]) hq1 _ _ hsp7
        refine ⟨_, rfl, _, rfl, sp, _, 0, V.int (n0 : Int), rfl, rfl, SqL.of hsp8, atI_nat (j := 0) rfl, _, rfl, sp, _, 1, V.int (n1 : Int), rfl, rfl, SqL.of hsp8, atI_nat (j := 1) rfl, _, rfl, (by show 3 ≤ sizeLine; decide), fun q2 hq2 => ?_⟩
        have s9 := s8.trans (same_new (o := .tup [V.int (n0 : Int), V.int (n1 : Int), V.str kd1]) hq2)
        refine ⟨t2, _, rfl, DPut.t (k := [Sum.inl (n0 : Int), Sum.inl (n1 : Int), Sum.inr kd1]) (s9 _ _ h26) upd_same (Evl.sz_lt (by omega)), ?_⟩
        refine ⟨_, _, _, _, _, rfl, upd_same, ti6.put ⟨n0, n1, kd1, rfl, h01, h1N, hkw⟩ hx1 hx2, by have := length_putK kv2 [Sum.inl (n0 : Int), Sum.inl (n1 : Int), Sum.inr kd1] (V.int (x1 : Int)); omega, fun b o e h => ?_⟩
        rw [upd_ne h]
        exact s9 _ _ (kp6 b o e h)
      · rintro σ H6 ⟨v7, v8, v9, v10, kv2, rfl, h26, ti6, hl6, kp6⟩
        exact ⟨v7, v8, v9, v10, kv2, rfl, h26, ti6, by omega, fun b o e h => kp6 b o (s5 _ _ e) h⟩
    rintro σ H5 ⟨v7, v8, v9, v10, kv2, rfl, h25, ti5, hl5, kp5⟩
    have S5 : Src H5 sa ca := by
      obtain ⟨cs, l, m, tt, S4⟩ := S4
      exact ⟨cs, l, m, tt, ⟨kp5 _ _ S4.ds n2s.symm, kp5 _ _ S4.dc n2c.symm, S4.nn, S4.len, S4.l0, S4.m0, S4.m1, S4.t0⟩⟩
    have kp05 : Kp sa ca H H5 := fun b o e h1 h2 => kp5 b o (kp04 b o e h1 h2) (ne_of_none e h20)
    have hwd5 := kp5 _ _ hwd4 (ne_of hwd4 h24 (by intro z; cases z))
    have hb5 := kp5 _ _ hb4 (ne_of hb4 h24 (by intro z; cases z))
    have hld5 := kp5 _ _ hld4 (ne_of hld4 h24 (by intro z; cases z))
    have ho5 := kp5 _ _ ho4 (ne_of ho4 h24 (by intro z; cases z))
    have hna5 := kp5 _ _ hna4 (ne_of hna4 h24 (by intro z; cases z))
    have odN : ∀ x ∈ od, x < N := fun x hx => List.mem_range.mp (po.mem_iff.mp hx)
    -- colours
    refine ⟨fun σ H6 => ∃ bc cl2, σ = [some (.ref sa), some (.ref wd), some (.ref ld), some (.ref o), some (.ref na), some (.ref se), some (.ref t2), v7, v8, v9, v10, some (.ref bc), none, none, none] ∧ H bc = none ∧ H6 bc = some (.lst (List.map V.str cl2)) ∧ cl2.length = N ∧ (∀ x ∈ cl2, isWordB x = true) ∧ Same H5 H6, ?_, ?_⟩
    · refine ⟨_, rfl, o, rfl, ⟨_, SqL.of ho5⟩, fun D hD => ?_⟩
      refine lc_list (xs := natV od) (fun i H6 => ∃ cl2, H6 D = some (.lst (List.map V.str cl2)) ∧ cl2.length = i ∧ (∀ x ∈ cl2, isWordB x = true) ∧ Same H5 H6) ⟨[], upd_same, rfl, (fun x hx => (List.not_mem_nil hx).elim), same_new hD⟩ (fun i H6 _ ⟨_, _, _, _, h⟩ => SqL.of (h _ _ ho5)) ?_ ?_
      · rintro i x H6 hi ⟨cl2, hD6, hcl2, hcw2, s6⟩
        have hil := (List.getElem?_eq_some_iff.mp hi).1
        rw [List.length_map] at hil
        rw [List.getElem?_map] at hi
        obtain ⟨y0, hy0, rfl⟩ := Option.map_eq_some_iff.mp hi
        have hyN := odN y0 (List.mem_of_getElem? hy0)
        obtain ⟨cy, hcy⟩ : ∃ cy, cl[y0]? = some cy := ⟨_, List.getElem?_eq_getElem (by omega)⟩
        refine ⟨rfl, tyes ?_⟩
        refine ⟨_, rfl, wd, _, rfl, dg_colours (s6 _ _ hwd5), _, rfl, b, _, _, V.str cy, rfl, rfl, SqL.of (s6 _ _ hb5), atI_nat (by rw [List.getElem?_map, hcy]; rfl), ?_⟩
        refine ⟨_, hD6, Evl.sz_lt (by rw [List.length_map]; omega), cl2 ++ [cy], by rw [upd_same, List.map_append]; rfl, by simp [hcl2], ?_, ?_⟩
        · intro x hx
          rcases List.mem_append.mp hx with z | z
          · exact hcw2 x z
          · rw [List.mem_singleton] at z
            subst z
            exact hcw _ (List.mem_of_getElem? hcy)
        · intro b o e
          rw [upd_ne (ne_of_none e hD)]
          exact s6 b o e
      · rintro H6 ⟨cl2, hD6, hcl2, hcw2, s6⟩
        rw [List.length_map] at hcl2
        exact ⟨D, cl2, rfl, kp05.free S5 hD, hD6, by omega, hcw2, s6⟩
    rintro σ H6 ⟨bc, cl2, rfl, hbc0, hbc, hcl2, hcw2, s6⟩
    have S6 := S5.same s6
    have kp06 := kp05.trans (Kp.same s6)
    obtain ⟨nbs', nbc'⟩ := S.ne hbc0
    -- the answer
    intro p hp
    have sp := same_new (o := .dK []) hp
    have hp0 : H p = none := kp06.free S6 hp
    obtain ⟨nps, npc⟩ := S.ne hp0
    refine ⟨_, rfl, _, rfl, _, rfl, upd_same, worldD na bc t2, rfl, (by show 3 ≤ 15; decide), ?_⟩
    rw [merge_wd]
    have hna6 := s6 _ _ hna5
    have h26 := s6 _ _ h25
    have npn : p ≠ na := fun e => by subst e; rw [hna6] at hp; cases hp
    have npb : p ≠ bc := fun e => by subst e; rw [hbc] at hp; cases hp
    have np2 : p ≠ t2 := fun e => by subst e; rw [h26] at hp; cases hp
    have ud : ∀ b o, H6 b = some o → (upd (upd H6 p (.dK [])) p (.dK (worldD na bc t2))) b = some o := fun b o e => by
      rw [upd_ne (ne_of_none e hp), upd_ne (ne_of_none e hp)]
      exact e
    have hpp : (upd (upd H6 p (.dK [])) p (.dK (worldD na bc t2))) p = some (.dK (worldD na bc t2)) := upd_same
    have s7 : Same H6 (upd (upd H6 p (.dK [])) p (.dK (worldD na bc t2))) := ud
    generalize upd (upd H6 p (.dK [])) p (.dK (worldD na bc t2)) = H7 at *
    refine ⟨_, rfl, o, rfl, ⟨_, SqL.of (s7 _ _ (s6 _ _ ho5))⟩, fun D hD => ?_⟩
    have S7 := S6.same s7
    have kp07 := kp06.trans (Kp.same s7)
    have hD0 : H D = none := kp07.free S7 hD
    refine lc_list (xs := natV od) (fun i H8 => ∃ led', H8 D = some (.lst (natV led')) ∧ led'.length = i ∧ (∀ x ∈ led', x ∈ led) ∧ Same H7 H8) ⟨[], upd_same, rfl, (fun x hx => (List.not_mem_nil hx).elim), same_new hD⟩ (fun i H8 _ ⟨_, _, _, _, h⟩ => SqL.of (h _ _ (s7 _ _ (s6 _ _ ho5)))) ?_ ?_
    · rintro i x H8 hi ⟨led', hD8, hll, hlm, s8⟩
      have hil := (List.getElem?_eq_some_iff.mp hi).1
      rw [List.length_map] at hil
      rw [List.getElem?_map] at hi
      obtain ⟨y0, hy0, rfl⟩ := Option.map_eq_some_iff.mp hi
      have hyN := odN y0 (List.mem_of_getElem? hy0)
      obtain ⟨ly, hly⟩ : ∃ ly, led[y0]? = some ly := ⟨_, List.getElem?_eq_getElem (by omega)⟩
      refine ⟨rfl, tyes ?_⟩
      refine ⟨_, rfl, _, rfl, ld, _, _, V.int (ly : Int), rfl, rfl, SqL.of (s8 _ _ (s7 _ _ (s6 _ _ hld5))), atI_nat (by rw [List.getElem?_map, hly]; rfl), ?_⟩
      refine ⟨_, hD8, Evl.sz_lt (by rw [List.length_map]; omega), led' ++ [ly], by unfold natV; rw [upd_same, List.map_append]; rfl, by simp [hll], ?_, ?_⟩
      · intro x hx
        rcases List.mem_append.mp hx with z | z
        · exact hlm x z
        · rw [List.mem_singleton] at z
          subst z
          exact List.mem_of_getElem? hly
      · intro b o e
        rw [upd_ne (ne_of_none e hD)]
        exact s8 b o e
    · rintro H8 ⟨led', hD8, hll, hlm, s8⟩
      rw [List.length_map] at hll
      refine ⟨(by show 2 ≤ sizeLine; decide), fun r hr => ?_⟩
      have s9 := s8.trans (same_new (o := .tup [.ref p, .ref D]) hr)
      have kp09 := kp07.trans (Kp.same s9)
      refine k r p na bc t2 D nm cl2 kv2 led' _ hp0 hna0 hbc0 h20 hD0 upd_same ⟨s9 _ _ hpp, s9 _ _ (s7 _ _ hna6), s9 _ _ (s7 _ _ hbc), s9 _ _ (s7 _ _ h26), ⟨nps, npc⟩, ⟨nns, nnc⟩, ⟨nbs', nbc'⟩, ⟨n2s, n2c⟩, ?_, ?_, hcw2, by omega, by omega⟩ (by omega) (by rw [hnl]; exact ti5) hl5 (same_new hr _ _ hD8) (by omega) hlm (S7.same s9) kp09
      · refine pn.nodup_iff.mpr (List.Sublist.nodup (List.Sublist.map nameN ?_) nameN_nd)
        exact List.range_sublist.mpr hn2
      · intro x hx
        obtain ⟨y, hy, rfl⟩ := List.mem_map.mp (pn.mem_iff.mp hx)
        exact nameN_w y (by have := List.mem_range.mp hy; omega)
end
end Nm
set_option maxRecDepth 100000
set_option maxHeartbeats 4000000
namespace Nm
open PySem L2
theorem Ties.mono {n m m' : Nat} {kvs : List (List Key × V)} (h : Ties n m kvs) (e : m ≤ m') : Ties n m' kvs := ⟨h.key, fun kv hm => by
  obtain ⟨x, a, b, c⟩ := h.val kv hm
  exact ⟨x, a, b, by omega⟩, h.nd⟩
def SeatsOk (kvS : List (List Key × V)) (led : List Nat) (ok : Nat → Nat → Prop) : Prop := ∀ p u, ok p u → ∃ idx : Nat, led[idx]? = some p ∧ valV kvS [Sum.inl (p : Int), Sum.inl (u : Int)] = some (V.int (idx : Int))
theorem SeatsOk.put {kvS : List (List Key × V)} {led : List Nat} {ok ok' : Nat → Nat → Prop} (h : SeatsOk kvS led ok) {i j : Nat} (e : ∀ p u, ok' p u → ok p u ∨ (p = i ∧ u = j)) :
    SeatsOk (putK kvS [Sum.inl (i : Int), Sum.inl (j : Int)] (V.int (led.length : Int))) (led ++ [i]) ok' := by
  intro p u hp
  rw [valV_put]
  by_cases hk : ([Sum.inl (p : Int), Sum.inl (u : Int)] : List Key) = [Sum.inl (i : Int), Sum.inl (j : Int)]
  · rw [if_pos hk]
    have hpi : p = i := by
      have := Sum.inl.inj (List.cons.inj hk).1
      omega
    exact ⟨led.length, by rw [hpi]; simp, rfl⟩
  · rw [if_neg hk]
    rcases e p u hp with z | ⟨z1, z2⟩
    · obtain ⟨idx, h1, h2⟩ := h p u z
      exact ⟨idx, by rw [List.getElem?_append_left (List.getElem?_eq_some_iff.mp h1).1]; exact h1, h2⟩
    · subst z1 z2
      exact absurd rfl hk
section
variable {κ : Type} [DecidableEq κ]
theorem mem_of_val : ∀ {kvs : List (κ × V)} {k : κ} {v : V}, valV kvs k = some v → (k, v) ∈ kvs
  | [], _, _, h => by cases h
  | kv :: r, k, v, h => by
    by_cases e : kv.1 = k
    · rw [valV_pos e] at h
      cases h
      subst e
      exact List.mem_cons_self
    · rw [valV_neg e] at h
      exact List.mem_cons_of_mem _ (mem_of_val h)
end
theorem two_sorted {ns : List Int} {u1 u2 N : Nat} (pms : ns.Perm [(u1 : Int), (u2 : Int)]) (srt : ns.Pairwise (· ≤ ·)) (hne : u1 ≠ u2) (h1 : u1 < N) (h2 : u2 < N) : ∃ n0 n1 : Nat, ns = [(n0 : Int), (n1 : Int)] ∧ n0 < n1 ∧ n1 < N := by
  have hl2 : ns.length = 2 := pms.length_eq
  match ns, hl2 with
  | [z0, z1], _ =>
    have hle : z0 ≤ z1 := by simpa using srt
    have h0 := pms.mem_iff.mp (show z0 ∈ [z0, z1] by simp)
    have h1 := pms.mem_iff.mp (show z1 ∈ [z0, z1] by simp)
    have h2 := pms.mem_iff.mpr (show (u1 : Int) ∈ [(u1 : Int), (u2 : Int)] by simp)
    have h3 := pms.mem_iff.mpr (show (u2 : Int) ∈ [(u1 : Int), (u2 : Int)] by simp)
    simp at h0 h1 h2 h3
    refine ⟨z0.toNat, z1.toNat, ?_, by omega, by omega⟩
    rw [Int.toNat_of_nonneg (by omega), Int.toNat_of_nonneg (by omega)]
section
variable {P : Program} {w : World} {K : PySem.W.Frag} {mg : Str → Option Value} {base : Heap}
def spPick0 : Sp := fun vs H Q _ => ∃ (s : Addr) (n : Int), vs = [.ref s, .int n] ∧ n < 2 ∧ Q (.int 0) H
/-- pick, of 0 too -/
def spPickZ : Sp := fun vs H Q E => spPick vs H Q E ∨ spPick0 vs H Q E
theorem ok_pickZ {f : Addr} {fd : FuncData} (F : Fun K "_law_pick" "_law_pick" sPick f fd) (T : TxtA mg) : FnOk P w K mg base CX0 1 f fd ["_law_source", "_law_many"] spPickZ := by
  have h0 : FnOk P w K mg base CX0 1 f fd ["_law_source", "_law_many"] spPick0 := by
    refine F.ok scPick (fun vs H Q E h => ?_) (fun cdv A outer s H vs Q E hr h => ?_)
    · obtain ⟨p, n, rfl, _⟩ := h
      rfl
    · obtain ⟨sa, n, rfl, n1, k⟩ := h
      have hu := hu_of hr
      refine ⟨_, pss_cons (ps_if (pt_cmpR op_lt (pv 1) pe_int (nomark _)) (pss_one (ps_ret pe_int)) pss_nil)
        (pss_cons (ps_set (i := 2) scPick.nd rfl (Or.inl rfl) (pe_dget hu (pv 0) pe_str (fun _ _ => rfl)))
        (Evl.pss_cut (ps_while PassesOwn.never (PW.pt (pw_and (pt_cmpR op_lt (pe_dget hu (pv 0) pe_str (fun _ _ => rfl)) pe_int (nomark _)) (pw_and1 (pt_cmpR op_gt (pe_callB call_len_seq (by rfl) T.len PySem.boot_len (pa_cons (pv 2) pa_nil)) pe_int (nomark _)))))
          (pss_one (ps_dput hu (pv 0) pe_str (pe_bm0 PySem.F.plainAttrs_list PySem.F.slot_list_pop PySem.F.type_list_pop mt_pop (pv 2)) rfl)))
        (pss_cons (ps_set (i := 3) scPick.nd rfl (Or.inl rfl) (pe_dget hu (pv 0) pe_str (fun _ _ => rfl)))
        (pss_cons (ps_if (pt_cmpR op_gt (pv 3) pe_int (nomark _))
          (pss_cons (ps_dput hu (pv 0) pe_str (pe_op op_fdiv (pv 3) (pv 1)) rfl) (pss_one (ps_ret (pe_op op_mod (pe_callTy call_int1 (by rfl) T.int (by decide +kernel) (pa_cons (pv 3) pa_nil)) (pv 1))))) pss_nil)
        (pss_cons (ps_dput hu (pv 0) pe_str (pe_op op_add (pe_dget hu (pv 0) pe_str (fun _ _ => rfl)) pe_int) rfl)
        (pss_cons (ps_set (i := 4) scPick.nd rfl (Or.inl rfl) (pe_dget hu (pv 0) pe_str (fun _ _ => rfl)))
        (pss_cons (ps_set (i := 5) scPick.nd rfl (Or.inl rfl) (pe_op op_mod (pe_callTy call_int1 (by rfl) T.int (by decide +kernel) (pa_cons (pe_op op_add (pe_dget hu (pv 0) pe_str (fun _ _ => rfl)) (pe_op op_mul (pv 4) pe_int)) pa_nil)) pe_int))
        (pss_cons (ps_set (i := 5) scPick.nd rfl (Or.inl rfl) (pe_op op_mod (pe_callTy call_int1 (by rfl) T.int (by decide +kernel) (pa_cons (pe_op op_add (pe_op op_mul (pv 5) (pv 5)) (pe_op op_mul (pv 4) pe_int)) pa_nil)) pe_int))
        (pss_one (ps_ret (pe_op op_mod (pe_callTy call_int1 (by rfl) T.int (by decide +kernel) (pa_cons (pe_op op_fdiv (pv 5) pe_int) pa_nil)) (pv 1)))))))))))), ?_⟩
      refine ⟨_, rfl, _, _, rfl, rfl, _, rfl, ?_⟩
      have : decide (n < 2) = true := decide_eq_true n1
      show (if decide (n < 2) = true then _ else _)
      rw [if_pos this]
      exact k
  have h1 := ok_pick (P := P) (w := w) (base := base) F T
  exact ⟨fun vs H Q E h => h.elim (h1.len vs H Q E) (h0.len vs H Q E), fun A outer s H args us vs Q E hr he hb hv h => h.elim (h1.run A outer s H args us vs Q E hr he hb hv) (h0.run A outer s H args us vs Q E hr he hb hv)⟩
/-! ### _law_over -/
def spOver : Sp := fun vs H Q _ => ∃ (s c wd a b t nu : Addr) (nm cl : List Str) (kvs : List (List Key × V)) (ns : List Nat), vs = [.ref s, .ref wd, .ref nu] ∧ Src H s c ∧ WorldOk H s c wd a b t nm cl kvs ∧ Ties nm.length 2 kvs ∧ kvs.length ≤ 300 ∧ nm.length ≤ 10 ∧ H nu = some (.lst (natV ns)) ∧ nu ≠ c ∧ nm.length ≤ ns.length ∧ (∀ x ∈ ns, x ≤ 5) ∧
  (∀ ps, PartsRel nm.length kvs ps → ∃ p ∈ ps, ∃ x, ns[p]? = some x ∧ 1 ≤ x) ∧
  ∀ (r wd' a' b' t' ld' : Addr) (nm' cl' : List Str) (kvs' : List (List Key × V)) (led' : List Nat) (H' : Hp), H wd' = none → H a' = none → H b' = none → H t' = none → H ld' = none → H' r = some (.tup [.ref wd', .ref ld']) → WorldOk H' s c wd' a' b' t' nm' cl' kvs' → nm'.length ≤ 100 → Ties nm'.length 4000 kvs' → kvs'.length ≤ 4000 →
    H' ld' = some (.lst (natV led')) → led'.length = nm'.length → (∀ x ∈ led', x < nm.length) → Src H' s c → Kp s c H H' → Q (.ref r) H'
abbrev nOver : List Str := ["_law_source", "_law_world", "_law_numbers", "_law_parts_here", "_law_led", "_law_seats", "_law_ties", "_law_p", "_law_part", "_law_u", "_law_one", "_law_other", "_law_kind", "_law_many", "_law_unit", "_law_turn", "_law_spot", "_law_key", "_law_colours"]
theorem scOver : FnScope nOver ["_law_source", "_law_world", "_law_numbers"] (defScope sOver) := ⟨rfl, rfl, rfl, by decide +kernel, rfl, by decide +kernel, by decide +kernel⟩
abbrev stO (sa wd nu pa ld se t2 : Addr) (v7 v8 v9 v10 v11 v12 v13 v14 v15 v16 v17 v18 : Option V) : L2.St := [some (.ref sa), some (.ref wd), some (.ref nu), some (.ref pa), some (.ref ld), some (.ref se), some (.ref t2), v7, v8, v9, v10, v11, v12, v13, v14, v15, v16, v17, v18]
theorem ok_over {f : Addr} {fd : FuncData} (F : Fun K "_law_over" "_law_over" sOver f fd) (T : TxtD mg) (Gz : Def P w K mg base "_law_pick" ["_law_source", "_law_many"] 1 spPickZ) (Gq : Def P w K mg base "_law_parts" ["_law_world"] 1 spParts)
    (Gs : Def P w K mg base "_law_seated" ["_law_source", "_law_world", "_law_led"] 3 spSeated) : FnOk P w K mg base CX0 4 f fd ["_law_source", "_law_world", "_law_numbers"] spOver := by
  obtain ⟨fp, fdp, Gp, mp, kp, bp⟩ := Gz.ex
  obtain ⟨fq, fdq, Gq, mq, kq, bq⟩ := Gq.ex
  obtain ⟨fs, fds, Gs, ms, ks, bs⟩ := Gs.ex
  refine F.ok scOver (fun vs H Q E h => ?_) (fun cdv A outer s H vs Q E hr h => ?_)
  · obtain ⟨_, _, _, _, _, _, _, _, _, _, _, rfl, _⟩ := h
    rfl
  · obtain ⟨sa, ca, wd, a, b, t, nu, nm, cl, kvs, ns, rfl, S, W, ti, hkl, hn10, hnu, nnc, hnsl, hns10, hone, k⟩ := h
    have hu := hu_of hr
    have hr1 := hr.mono (by decide : 1 ≤ 3)
    refine ⟨_, Evl.pss_cut (ps_asg (pe_tup (pa_cons (pe_call Gq hr1 (by rfl) mq kq bq .nil pass0 (pa_cons (pv 1) pa_nil)) (pa_cons (pe_lst pa_nil) (pa_cons pe_dnewT (pa_cons pe_dnewT pa_nil))))) (pg_tup rfl (pgs_cons (pg_name (i := 3) scOver.nd rfl (.inl rfl)) (pgs_cons (pg_name (i := 4) scOver.nd rfl (.inl rfl)) (pgs_cons (pg_name (i := 5) scOver.nd rfl (.inl rfl)) (pgs_cons (pg_name (i := 6) scOver.nd rfl (.inl rfl)) pgs_nil))))))
      (Evl.pss_cut (ps_for PassesOwn.never rfl (pi_enum (by rfl) T.enumerate (pa_cons (pv 3) pa_nil)) (pg_tup rfl (pgs_cons (pg_name (i := 7) scOver.nd rfl (.inl rfl)) (pgs_cons (pg_name (i := 8) scOver.nd rfl (.inl rfl)) pgs_nil)))
        (pss_one (ps_for PassesOwn.never rfl (pi_range1 (by rfl) T.range (pa_cons (pe_ix ix_list (pv 2) (pv 8) (fun _ _ => rfl)) pa_nil)) (pg_name (i := 9) scOver.nd rfl (Or.inl rfl))
          (pss_cons (ps_dput hu (pv 5) (pe_tup (pa_cons (pv 7) (pa_cons (pv 9) pa_nil))) (pe_callB call_len_seq (by rfl) T.len PySem.boot_len (pa_cons (pv 4) pa_nil)) rfl)
          (pss_one (ps_expr (pe_bm PySem.F.plainAttrs_list PySem.F.slot_list_append PySem.F.type_list_append mt_append (pv 4) (pa_cons (pv 7) pa_nil))))))))
      (Evl.pss_cut (ps_for PassesOwn.never rfl (pi_list (pe_callB cr_sortedR (by rfl) T.sorted (by decide +kernel) (pa_cons (pe_callTy (call_list_dT rfl) (by rfl) T.list (by decide +kernel) (pa_cons (pe_dget hu (pv 1) pe_str (fun _ _ => rfl)) pa_nil)) pa_nil)))
          (pg_tup rfl (pgs_cons (pg_name (i := 10) scOver.nd rfl (.inl rfl)) (pgs_cons (pg_name (i := 11) scOver.nd rfl (.inl rfl)) (pgs_cons (pg_name (i := 12) scOver.nd rfl (.inl rfl)) pgs_nil))))
        (pss_cons (ps_set (i := 13) scOver.nd rfl (Or.inl rfl) (pe_ix ix_list (pv 2) (pe_ix ix_list (pv 3) (pv 10) (fun _ _ => rfl)) (fun _ _ => rfl)))
        (pss_one (ps_for PassesOwn.never rfl (pi_range1 (by rfl) T.range (pa_cons (pe_dget hu (pe_dget hu (pv 1) pe_str (fun _ _ => rfl)) (pe_tup (pa_cons (pv 10) (pa_cons (pv 11) (pa_cons (pv 12) pa_nil)))) (fun _ _ => rfl)) pa_nil)) (pg_name (i := 14) scOver.nd rfl (Or.inl rfl))
          (Evl.pss_cut (ps_set (i := 15) scOver.nd rfl (Or.inl rfl) (pe_call Gp hr1 (by rfl) mp kp bp .nil pass0 (pa_cons (pv 0) (pa_cons (pv 13) pa_nil))))
          (pss_one (ps_for PassesOwn.never rfl (pi_range1 (by rfl) T.range (pa_cons (pv 13) pa_nil)) (pg_name (i := 9) scOver.nd rfl (Or.inl rfl))
            (pss_cons (ps_set (i := 16) scOver.nd rfl (Or.inl rfl) (pe_callB cr_sorted (by rfl) T.sorted (by decide +kernel) (pa_cons (pe_lst (pa_cons (pe_dget hu (pv 5) (pe_tup (pa_cons (pv 10) (pa_cons (pv 9) pa_nil))) (fun _ _ => rfl)) (pa_cons (pe_dget hu (pv 5) (pe_tup (pa_cons (pv 11) (pa_cons (pe_op op_mod (pe_callTy call_int1 (by rfl) T.int (by decide +kernel) (pa_cons (pe_op op_add (pv 9) (pv 15)) pa_nil)) (pv 13)) pa_nil))) (fun _ _ => rfl)) pa_nil))) pa_nil)))
            (pss_cons (ps_set (i := 17) scOver.nd rfl (Or.inl rfl) (pe_tup (pa_cons (pe_ix ix_list (pv 16) pe_int (fun _ _ => rfl)) (pa_cons (pe_ix ix_list (pv 16) pe_int (fun _ _ => rfl)) (pa_cons (pv 12) pa_nil)))))
            (pss_one (ps_dput hu (pv 6) (pv 17) (pe_op op_add (pe_dget2 hu (pv 6) (pv 17) pe_int ⟨rfl, rfl, rfl, rfl⟩) pe_int) rfl)))))))))))
      (Evl.pss_cut (ps_setLc (i := 18) (own := [("_law_p", 7)]) (g := gName 7) (tt := tYes) (te := tOp (rIxL K) (tDGet (tVar 1) (tC (.str "colours"))) (tVar 7)) rfl scOver.nd rfl rfl (sw_true rfl rfl rfl (by decide +kernel)) (pi_list (pv 4))
          (blkOk_by (N := nOver) (sc := defScope sOver) (by decide +kernel)) (fun _ _ _ _ _ => pg_name (i := 7) scOver.nd rfl (Or.inl rfl)) (fun _ _ _ _ _ => pts_nil)
          (fun _ _ _ _ _ => by exact pe_ix ix_list (pe_dget hu (pv 1) pe_str (fun _ _ => rfl)) (pv 7) (fun _ _ => rfl)))
      (pss_one (ps_ret (pe_call Gs hr (by rfl) ms ks bs .nil pass0 (pa_cons (pv 0) (pa_cons (pe_disp (pps_cons pe_str (pv 4) (pps_cons pe_str (pv 18) (pps_cons pe_str (pv 6) pps_nil))) (by rfl) (by rfl) (fun z => by cases z) (by decide)) (pa_cons (pv 4) pa_nil))))))))), ?_⟩
    generalize hn : nm.length = n at *
    refine ⟨fun σ H2 => ∃ pa ps ld se t2, σ = stO sa wd nu pa ld se t2 none none none none none none none none none none none none ∧ (H pa = none ∧ H ld = none ∧ H se = none ∧ H t2 = none ∧ pa ≠ ld ∧ se ≠ t2) ∧ H2 pa = some (.lst (natV ps)) ∧ ps.length = n ∧ (∀ x ∈ ps, x < n) ∧
        (∀ (i j : Nat) (kd : Str) (v : V), ([Sum.inl (i : Int), Sum.inl (j : Int), Sum.inr kd], v) ∈ kvs → ps[i]? = ps[j]?) ∧ PartsRel n kvs ps ∧ H2 ld = some (.lst []) ∧ H2 se = some (.dT []) ∧ H2 t2 = some (.dT []) ∧ Same H H2, ?_, ?_⟩
    · refine ⟨_, rfl, wd, a, b, t, _, 2, kvs, rfl, W.d, W.hn, W.ht, by rw [List.length_map]; omega, by omega, by rw [List.length_map, hn]; exact ti, fun pa ps H1 hpa0 hpa hpl hpn hpe hpr s1 => ?_⟩
      rw [List.length_map, hn] at hpl hpn hpr
      refine ⟨(by show 0 ≤ sizeLine; decide), fun ld hld => ?_⟩
      intro se hse t2 ht2
      refine ⟨(by show 4 ≤ sizeLine; decide), fun tp htp => ?_⟩
      obtain ⟨n1, hse1⟩ := nx hse
      obtain ⟨n2, ht2'⟩ := nx ht2
      obtain ⟨n3, ht21⟩ := nx ht2'
      have a1 := same_new (o := .lst []) hld
      have a2 := same_new (o := .dT []) hse
      have a3 := same_new (o := .dT []) ht2
      have a4 := same_new (o := .tup [V.ref pa, V.ref ld, V.ref se, V.ref t2]) htp
      refine ⟨tp, _, rfl, SqT.of upd_same, rfl, _, _, rfl, _, _, rfl, _, _, rfl, _, _, rfl, rfl, ?_⟩
      exact ⟨pa, ps, ld, se, t2, rfl, ⟨hpa0, s1.free hld, s1.free hse1, s1.free ht21, ne_of_none hpa hld, n2.symm⟩, a4 _ _ (a3 _ _ (a2 _ _ (a1 _ _ hpa))), hpl, hpn, hpe, hpr, a4 _ _ (a3 _ _ (a2 _ _ upd_same)), a4 _ _ (a3 _ _ upd_same), a4 _ _ upd_same, (((s1.trans a1).trans a2).trans a3).trans a4⟩
    rintro σ H2 ⟨pa, ps, ld, se, t2, rfl, ⟨hpa0, hld0, hse0, ht20, npl, nst⟩, hpa, hpl, hpn, hpe, hpr, hld, hse, ht2, s2⟩
    have W2 := W.same s2
    have S2 := S.same s2
    have hnu2 := s2 _ _ hnu
    obtain ⟨nls, nlc⟩ := S.ne hld0
    obtain ⟨nes, nec⟩ := S.ne hse0
    obtain ⟨n2s, n2c⟩ := S.ne ht20
    obtain ⟨nps, npc⟩ := S.ne hpa0
    have nnl : nu ≠ ld := fun e => by subst e; rw [hld0] at hnu; cases hnu
    have nne : nu ≠ se := ne_of hnu2 hse (by intro z; cases z)
    have npe : pa ≠ se := ne_of hpa hse (by intro z; cases z)
    have nle : ld ≠ se := ne_of hld hse (by intro z; cases z)
    -- seats
    refine ⟨fun σ H3 => ∃ v7 v8 v9 led kvS, σ = stO sa wd nu pa ld se t2 v7 v8 v9 none none none none none none none none none ∧ H3 ld = some (.lst (natV led)) ∧ H3 se = some (.dT kvS) ∧ (∀ x ∈ led, x < n) ∧ led.length ≤ 100 ∧ 1 ≤ led.length ∧
        SeatsOk kvS led (fun p u => ∃ q c, ps[p]? = some q ∧ ns[q]? = some c ∧ u < c) ∧ (∀ b o, H2 b = some o → b ≠ ld → b ≠ se → H3 b = some o), ?_, ?_⟩
    · refine ⟨_, rfl, pa, _, rfl, SqL.of hpa, ?_⟩
      refine for_it (walk_enum (xs := natV ps)) (fun i σ H3 => ∃ v7 v8 v9 led kvS, σ = stO sa wd nu pa ld se t2 v7 v8 v9 none none none none none none none none none ∧ H3 ld = some (.lst (natV led)) ∧ H3 se = some (.dT kvS) ∧ (∀ x ∈ led, x < n) ∧ led.length ≤ 10 * i ∧ kvS.length ≤ led.length ∧
          SeatsOk kvS led (fun p u => p < i ∧ ∃ q c, ps[p]? = some q ∧ ns[q]? = some c ∧ u < c) ∧ (∀ b o, H2 b = some o → b ≠ ld → b ≠ se → H3 b = some o))
        ⟨none, none, none, [], [], rfl, hld, hse, (fun x hx => (List.not_mem_nil hx).elim), by simp, Nat.le_refl _, fun p u h => by omega, fun b o e _ _ => e⟩ (fun i σ H3 _ ⟨_, _, _, _, _, _, _, _, _, _, _, _, h⟩ => SqL.of (h _ _ hpa npl npe)) ?_ ?_
      · rintro i x σ H3 H4 hi ⟨v7, v8, v9, led, kvS, rfl, hld3, hse3, hln, hll, hkS, hS, fr3⟩ ⟨T, x1, y1, rfl, hT, rfl, e1, e2⟩
        rw [List.length_map] at hi
        have e2 : (natV ps)[i]? = some y1 := e2
        rw [List.getElem?_map] at e2
        obtain ⟨q, hq, rfl⟩ := Option.map_eq_some_iff.mp e2
        cases e1
        have hqn := hpn q (List.mem_of_getElem? hq)
        obtain ⟨c, hc⟩ : ∃ c, ns[q]? = some c := ⟨_, List.getElem?_eq_getElem (by omega)⟩
        have hc10 := hns10 c (List.mem_of_getElem? hc)
        have sT := same_new (o := .tup [V.int (i : Nat), V.int (q : Int)]) hT
        have nTl : T ≠ ld := fun e => by subst e; rw [hld3] at hT; cases hT
        have nTe : T ≠ se := fun e => by subst e; rw [hse3] at hT; cases hT
        refine ⟨T, _, rfl, SqT.of upd_same, rfl, _, _, rfl, _, _, rfl, rfl, ?_⟩
        refine ⟨_, rfl, _, rfl, nu, _, _, V.int (c : Int), rfl, rfl, SqL.of (sT _ _ (fr3 _ _ hnu2 nnl nne)), atI_nat (by rw [List.getElem?_map, hc]; rfl), _, rfl, by omega, by omega, ?_⟩
        refine for_range (lo := 0) (n := (c : Int).toNat) (fun j σ H5 => ∃ v9 led kvS, σ = stO sa wd nu pa ld se t2 (some (.int (i : Nat))) (some (.int (q : Int))) v9 none none none none none none none none none ∧ H5 ld = some (.lst (natV led)) ∧ H5 se = some (.dT kvS) ∧ (∀ x ∈ led, x < n) ∧ led.length ≤ 10 * i + j ∧ kvS.length ≤ led.length ∧
            SeatsOk kvS led (fun p u => (p < i ∧ ∃ q c, ps[p]? = some q ∧ ns[q]? = some c ∧ u < c) ∨ (p = i ∧ u < j)) ∧ (∀ b o, H2 b = some o → b ≠ ld → b ≠ se → H5 b = some o))
          ⟨v9, led, kvS, rfl, sT _ _ hld3, sT _ _ hse3, hln, by omega, hkS, fun p u h => hS p u (h.resolve_right (by omega)), fun b o e h1 h2 => sT _ _ (fr3 b o e h1 h2)⟩ ?_ ?_
        · rintro j σ H5 hj ⟨v9, led, kvS, rfl, hld5, hse5, hln, hll, hkS, hS, fr5⟩
          have hj' : j < c := by omega
          refine ⟨_, rfl, ld, _, rfl, .inl (SqL.of hld5), _, rfl, _, rfl, _, rfl, (by show 2 ≤ sizeLine; decide), fun u hu => ?_⟩
          have su := same_new (o := .tup [V.int (i : Nat), V.int (0 + (j : Int))]) hu
          refine ⟨se, _, rfl, DPut.t (k := [Sum.inl ((i : Nat) : Int), Sum.inl (0 + (j : Int))]) (su _ _ hse5) upd_same (Evl.sz_lt (by omega)), ?_⟩
          have nul : u ≠ ld := fun e => by subst e; rw [hld5] at hu; cases hu
          have hld6 : (upd (upd H5 u (.tup [V.int (i : Nat), V.int (0 + (j : Int))])) se (.dT (putK kvS [Sum.inl ((i : Nat) : Int), Sum.inl (0 + (j : Int))] (V.int ((natV led).length : Int))))) ld = some (.lst (natV led)) := by rw [upd_ne nle]; exact su _ _ hld5
          refine ⟨_, rfl, .inl ⟨rfl, _, SqL.of hld6⟩, _, rfl, ld, _, _, rfl, rfl, hld6, Evl.sz_lt (by rw [List.length_map]; omega), ?_⟩
          refine ⟨_, led ++ [i], _, rfl, by unfold natV; rw [upd_same, List.map_append]; rfl, by rw [upd_ne nle.symm, upd_same], ?_, by simp; omega, ?_, ?_, ?_⟩
          · intro x hx
            rcases List.mem_append.mp hx with z | z
            · exact hln x z
            · rw [List.mem_singleton] at z
              omega
          · have := length_putK kvS [Sum.inl ((i : Nat) : Int), Sum.inl (0 + (j : Int))] (V.int ((natV led).length : Int))
            simp only [List.length_append, List.length_singleton]
            omega
          · rw [Int.zero_add, List.length_map]
            exact hS.put fun p u h => by
              rcases h with h | ⟨h1, h2⟩
              · exact .inl (.inl h)
              · by_cases e : u = j
                · exact .inr ⟨h1, e⟩
                · exact .inl (.inr ⟨h1, by omega⟩)
          · intro b o e h1 h2
            rw [upd_ne h1, upd_ne h2]
            exact su _ _ (fr5 b o e h1 h2)
        · rintro σ H5 ⟨v9, led, kvS, rfl, hld5, hse5, hln, hll, hkS, hS, fr5⟩
          refine ⟨_, _, v9, led, kvS, rfl, hld5, hse5, hln, by omega, hkS, fun p u h => hS p u ?_, fr5⟩
          obtain ⟨h1, q', c', h2, h3, h4⟩ := h
          by_cases e : p = i
          · subst e
            rw [hq] at h2
            cases h2
            rw [hc] at h3
            cases h3
            exact .inr ⟨rfl, by omega⟩
          · exact .inl ⟨by omega, q', c', h2, h3, h4⟩
      · rintro σ H3 ⟨v7, v8, v9, led, kvS, rfl, hld3, hse3, hln, hll, hkS, hS, fr3⟩
        rw [List.length_map] at hll hS
        have hS' : SeatsOk kvS led (fun p u => ∃ q c, ps[p]? = some q ∧ ns[q]? = some c ∧ u < c) := fun p u h => hS p u ⟨by obtain ⟨q, c, h1, _⟩ := h; exact (List.getElem?_eq_some_iff.mp h1).1, h⟩
        refine ⟨v7, v8, v9, led, kvS, rfl, hld3, hse3, hln, by omega, ?_, hS', fr3⟩
        obtain ⟨p, hp, x, hx, hx1⟩ := hone ps hpr
        obtain ⟨idx, hidx⟩ := List.getElem?_of_mem hp
        obtain ⟨z, hz, _⟩ := hS' idx 0 ⟨p, x, hidx, hx, by omega⟩
        have := (List.getElem?_eq_some_iff.mp hz).1
        omega
    rintro σ H3 ⟨v7, v8, v9, led, kvS, rfl, hld3, hse3, hln, hl100, hl1, hS, fr3⟩
    have S3 : Src H3 sa ca := by
      obtain ⟨cs, l, m, tt, S2⟩ := S2
      exact ⟨cs, l, m, tt, ⟨fr3 _ _ S2.ds nls.symm nes.symm, fr3 _ _ S2.dc nlc.symm nec.symm, S2.nn, S2.len, S2.l0, S2.m0, S2.m1, S2.t0⟩⟩
    have fr03 : ∀ b o, H b = some o → H3 b = some o := fun b o e => fr3 _ _ (s2 _ _ e) (ne_of_none e hld0) (ne_of_none e hse0)
    have W3 := W.same fr03
    have hnu3 := fr03 _ _ hnu
    have hpa3 := fr3 _ _ hpa npl npe
    have nt2l : t2 ≠ ld := (ne_of hld ht2 (by intro z; cases z)).symm
    have ht23 := fr3 _ _ ht2 nt2l nst.symm
    have npt2 : pa ≠ t2 := ne_of hpa ht2 (by intro z; cases z)
    have nut2 : nu ≠ t2 := ne_of hnu2 ht2 (by intro z; cases z)
    have ntt2 : t ≠ t2 := ne_of_none W.ht ht20
    have nus : nu ≠ sa := by
      obtain ⟨cs, l, m, tt, S0⟩ := S
      exact ne_of hnu S0.ds (by intro z; cases z)
    generalize hNN : led.length = N at *
    -- ties
    refine ⟨fun σ H6 => ∃ v9 v10 v11 v12 v13 v14 v15 v16 v17 kv2, σ = stO sa wd nu pa ld se t2 v7 v8 v9 v10 v11 v12 v13 v14 v15 v16 v17 none ∧ H6 t2 = some (.dT kv2) ∧ Ties N 4000 kv2 ∧ kv2.length ≤ 4000 ∧ Src H6 sa ca ∧ Kp3 sa ca t2 H3 H6, ?_, ?_⟩
    · refine ⟨_, rfl, wd, _, rfl, dg_ties W3.d, t, kvs, rfl, .inl W3.ht, fun l bs hl hk => ?_⟩
      obtain ⟨kl, hbl⟩ := keyL_of hk
      have kl2 := kl.same (same_new (o := .lst (bs.map V.ref)) hl)
      obtain ⟨so1, so2⟩ := sort_ties kl2 ti
      refine ⟨l, _, _, rfl, SqL.of upd_same, so1, so2, fun ys p pm hp => ?_⟩
      have s5 := (same_new (o := .lst (bs.map V.ref)) hl).trans (same_new (o := .lst ys) hp)
      have kly : KeyL (upd (upd H3 l (.lst (bs.map V.ref))) p (.lst ys)) kvs ys := fun y hy => (kl.same s5) y (pm.subset hy)
      have hpp : (upd (upd H3 l (.lst (bs.map V.ref))) p (.lst ys)) p = some (.lst ys) := upd_same
      have hyl : ys.length ≤ 300 := by rw [pm.length_eq, List.length_map]; omega
      have hp3 : H3 p = none := (same_new hl).free hp
      have np2 : p ≠ t2 := fun e => by subst e; rw [ht23] at hp3; cases hp3
      obtain ⟨nps', npc'⟩ := S3.ne hp3
      have S5 := S3.same s5
      generalize upd (upd H3 l (.lst (bs.map V.ref))) p (.lst ys) = H5 at *
      refine ⟨p, rfl, ⟨_, SqL.of hpp⟩, ?_⟩
      refine for_list (xs := ys) (fun i σ H6 => ∃ v9 v10 v11 v12 v13 v14 v15 v16 v17 kv2, σ = stO sa wd nu pa ld se t2 v7 v8 v9 v10 v11 v12 v13 v14 v15 v16 v17 none ∧ H6 t2 = some (.dT kv2) ∧ Ties N (10 * i) kv2 ∧ kv2.length ≤ 10 * i ∧ Src H6 sa ca ∧ Kp3 sa ca t2 H5 H6)
        ⟨v9, none, none, none, none, none, none, none, none, [], rfl, s5 _ _ ht23, Ties.nil N _, Nat.zero_le _, S5, Kp3.refl H5⟩ (fun i σ H6 _ ⟨_, _, _, _, _, _, _, _, _, _, _, _, _, _, _, h⟩ => SqL.of (h _ _ hpp nps' npc' np2)) ?_ ?_
      · rintro i y σ H6 hi ⟨v9, v10, v11, v12, v13, v14, v15, v16, v17, kv2, rfl, h26, ti6, hl6, S6, kp6⟩
        have hil := (List.getElem?_eq_some_iff.mp hi).1
        obtain ⟨b1, i1, j1, x1, kd1, rfl, hb1, hmem, hij, hjn, hkw, hx1, hx2⟩ := kly.tie ti (List.mem_of_getElem? hi)
        have stay : ∀ b o, H3 b = some o → b ≠ sa → b ≠ ca → b ≠ t2 → H6 b = some o := fun b o e h1 h2 h3 => kp6 b o (s5 _ _ e) h1 h2 h3
        have hb6 : H6 b1 = some (.tup [.int (i1 : Int), .int (j1 : Int), .str kd1]) := by
          obtain ⟨cs, l', m, tt, S5'⟩ := S5
          exact kp6 _ _ hb1 (ne_of hb1 S5'.ds (by intro z; cases z)) (ne_of hb1 S5'.dc (by intro z; cases z)) (ne_of hb1 (s5 _ _ ht23) (by intro z; cases z))
        obtain ⟨q, hq⟩ : ∃ q, ps[i1]? = some q := ⟨_, List.getElem?_eq_getElem (by omega)⟩
        have hq2 : ps[j1]? = some q := by rw [← hpe i1 j1 kd1 _ hmem]; exact hq
        have hqn := hpn q (List.mem_of_getElem? hq)
        obtain ⟨c, hc⟩ : ∃ c, ns[q]? = some c := ⟨_, List.getElem?_eq_getElem (by omega)⟩
        have hc10 := hns10 c (List.mem_of_getElem? hc)
        refine ⟨b1, _, rfl, SqT.of hb6, rfl, _, _, rfl, _, _, rfl, _, _, rfl, rfl, ?_⟩
        refine ⟨_, rfl, _, rfl, _, rfl, pa, _, _, V.int (q : Int), rfl, rfl, SqL.of (stay _ _ hpa3 nps npc npt2), atI_nat (by rw [List.getElem?_map, hq]; rfl), nu, _, _, V.int (c : Int), rfl, rfl, SqL.of (stay _ _ hnu3 nus nnc nut2), atI_nat (by rw [List.getElem?_map, hc]; rfl), ?_⟩
        have hwd6 := stay _ _ W3.d W3.ds.1 W3.ds.2 (ne_of W3.d ht23 (by intro z; cases z))
        have ht6 := stay _ _ W3.ht W3.ts.1 W3.ts.2 ntt2
        refine ⟨_, rfl, wd, _, rfl, dg_ties hwd6, _, rfl, _, rfl, _, rfl, (by show 3 ≤ sizeLine; decide), fun q1 hq1 => ?_⟩
        have s7 := same_new (o := .tup [V.int (i1 : Int), V.int (j1 : Int), V.str kd1]) hq1
        refine ⟨t, V.int (x1 : Int), rfl, (by rw [← val_of_mem ti.nd hmem]; exact DGet.t (k := [Sum.inl (i1 : Int), Sum.inl (j1 : Int), Sum.inr kd1]) (s7 _ _ ht6) upd_same), _, rfl, by omega, by omega, ?_⟩
        refine for_range (lo := 0) (n := (x1 : Int).toNat) (fun un σ H7 => ∃ v9 v14 v15 v16 v17 kv2, σ = stO sa wd nu pa ld se t2 v7 v8 v9 (some (.int (i1 : Int))) (some (.int (j1 : Int))) (some (.str kd1)) (some (.int (c : Int))) v14 v15 v16 v17 none ∧ H7 t2 = some (.dT kv2) ∧ Ties N (10 * i + 5 * un) kv2 ∧ kv2.length ≤ 10 * i + 5 * un ∧ Src H7 sa ca ∧ Kp3 sa ca t2 H5 H7)
          ⟨v9, v14, v15, v16, v17, kv2, rfl, s7 _ _ h26, ti6.mono (by omega), by omega, S6.same s7, kp6.kp (Kp.same s7)⟩ ?_ ?_
        · rintro un σ H7 hun ⟨v9, v14, v15, v16, v17, kv2, rfl, h27, ti7, hl7, S7, kp7⟩
          have hun' : un < x1 := by omega
          refine ⟨fun σ H8 => ∃ tu : Nat, σ = stO sa wd nu pa ld se t2 v7 v8 v9 (some (.int (i1 : Int))) (some (.int (j1 : Int))) (some (.str kd1)) (some (.int (c : Int))) (some (.int (0 + (un : Int)))) (some (.int (tu : Int))) v16 v17 none ∧ (1 ≤ c → tu < c) ∧ H8 t2 = some (.dT kv2) ∧ Src H8 sa ca ∧ Kp3 sa ca t2 H5 H8, ?_, ?_⟩
          · refine ⟨_, rfl, _, rfl, ?_⟩
            by_cases hc0 : 1 ≤ c
            · refine .inl ⟨sa, ca, _, rfl, S7, by omega, by omega, fun kk H8 k0 k1 S8 kp8 => ?_⟩
              refine ⟨kk.toNat, ?_, fun _ => by omega, kp8 _ _ h27 n2s n2c, S8, kp7.kp kp8⟩
              rw [Int.toNat_of_nonneg k0]
              rfl
            · exact .inr ⟨sa, _, rfl, by omega, 0, rfl, fun h => absurd h hc0, h27, S7, kp7⟩
          rintro σ H8 ⟨tu, rfl, htu, h28, S8, kp8⟩
          refine ⟨_, rfl, _, rfl, by omega, by omega, ?_⟩
          refine for_range (lo := 0) (n := (c : Int).toNat) (fun wu σ H9 => ∃ v9 v16 v17 kv2, σ = stO sa wd nu pa ld se t2 v7 v8 v9 (some (.int (i1 : Int))) (some (.int (j1 : Int))) (some (.str kd1)) (some (.int (c : Int))) (some (.int (0 + (un : Int)))) (some (.int (tu : Int))) v16 v17 none ∧ H9 t2 = some (.dT kv2) ∧ Ties N (10 * i + 5 * un + wu) kv2 ∧ kv2.length ≤ 10 * i + 5 * un + wu ∧ Src H9 sa ca ∧ Kp3 sa ca t2 H5 H9)
            ⟨v9, v16, v17, kv2, rfl, h28, ti7, hl7, S8, kp8⟩ ?_ ?_
          · rintro wu σ H9 hwu ⟨v9, v16, v17, kv2, rfl, h29, ti9, hl9, S9, kp9⟩
            have hwc : wu < c := by omega
            have stay9 : ∀ b o, H3 b = some o → b ≠ sa → b ≠ ca → b ≠ t2 → H9 b = some o := fun b o e h1 h2 h3 => kp9 b o (s5 _ _ e) h1 h2 h3
            have hse9 := stay9 _ _ hse3 nes nec nst
            obtain ⟨u1, hu1, hv1⟩ := hS i1 wu ⟨q, c, hq, hc, hwc⟩
            have hmod : ∃ z : Nat, (0 + (wu : Int) + (tu : Int)) % (c : Int) = (z : Int) ∧ z < c := by
              have h1 := Int.emod_nonneg (0 + (wu : Int) + (tu : Int)) (show (c : Int) ≠ 0 by omega)
              have h2 := Int.emod_lt_of_pos (0 + (wu : Int) + (tu : Int)) (show (0 : Int) < c by omega)
              exact ⟨((0 + (wu : Int) + (tu : Int)) % (c : Int)).toNat, by rw [Int.toNat_of_nonneg h1], by omega⟩
            obtain ⟨z, hz, hzc⟩ := hmod
            obtain ⟨u2, hu2, hv2⟩ := hS j1 z ⟨q, c, hq2, hc, hzc⟩
            have hu1N := (List.getElem?_eq_some_iff.mp hu1).1
            have hu2N := (List.getElem?_eq_some_iff.mp hu2).1
            have hne : u1 ≠ u2 := fun e => by subst e; rw [hu1] at hu2; have := Option.some.inj hu2; omega
            refine ⟨_, rfl, _, rfl, _, rfl, (by show 2 ≤ sizeLine; decide), fun q2 hq2' => ?_⟩
            have s10 := same_new (o := .tup [V.int (i1 : Int), V.int (0 + (wu : Int))]) hq2'
            refine ⟨se, V.int (u1 : Int), rfl, (by rw [← hv1]; refine DGet.t (k := [Sum.inl (i1 : Int), Sum.inl (wu : Int)]) (s10 _ _ hse9) ?_; rw [upd_same, Int.zero_add]; rfl), ?_⟩
            refine ⟨_, rfl, _, rfl, _, rfl, _, rfl, _, _, rfl, rfl, .inl ⟨_, rfl, _, rfl, _, _, rfl, rfl, by show (0 : Int) < c; omega, (by show 2 ≤ sizeLine; decide), fun q3 hq3 => ?_⟩⟩
            have s11 := s10.trans (same_new (o := .tup [V.int (j1 : Int), V.int ((0 + (wu : Int) + (tu : Int)) % (c : Int))]) hq3)
            refine ⟨se, V.int (u2 : Int), rfl, (by rw [← hv2]; refine DGet.t (k := [Sum.inl (j1 : Int), Sum.inl (z : Int)]) (s11 _ _ hse9) ?_; rw [upd_same]; show some (HO.tup [V.int (j1 : Int), V.int ((0 + (wu : Int) + (tu : Int)) % (c : Int))]) = _; rw [hz]; rfl), (by show 2 ≤ sizeLine; decide), fun l1 hl1 => ?_⟩
            refine ⟨l1, [(u1 : Int), (u2 : Int)], rfl, SqL.of upd_same, (by show 2 < 64; decide), fun ns' sp pms srt hsp => ?_⟩
            obtain ⟨n0, n1, rfl, h01, h1N⟩ := two_sorted pms srt hne (by omega : u1 < N) (by omega)
            have s12 := (s11.trans (same_new (o := .lst ([(u1 : Int), (u2 : Int)].map V.int)) hl1)).trans (same_new (o := .lst ([(n0 : Int), (n1 : Int)].map V.int)) hsp)
            refine ⟨_, rfl, sp, _, 0, V.int (n0 : Int), rfl, rfl, SqL.of upd_same, atI_nat (j := 0) rfl, _, rfl, sp, _, 1, V.int (n1 : Int), rfl, rfl, SqL.of upd_same, atI_nat (j := 1) rfl, _, rfl, (by show 3 ≤ sizeLine; decide), fun kt hkt => ?_⟩
            have s13 := s12.trans (same_new (o := .tup [V.int (n0 : Int), V.int (n1 : Int), V.str kd1]) hkt)
            have h213 := s13 _ _ h29
            refine ⟨_, rfl, t2, rfl, .inr ⟨kv2, .inl h213⟩, _, rfl, valV kv2 [Sum.inl (n0 : Int), Sum.inl (n1 : Int), Sum.inr kd1], DGet.t (k := [Sum.inl (n0 : Int), Sum.inl (n1 : Int), Sum.inr kd1]) h213 upd_same, ?_⟩
            obtain ⟨x, hx, hxm⟩ : ∃ x : Nat, (valV kv2 [Sum.inl (n0 : Int), Sum.inl (n1 : Int), Sum.inr kd1]).getD (V.int 0) = V.int (x : Int) ∧ x ≤ 10 * i + 5 * un + wu := by
              cases e : valV kv2 [Sum.inl (n0 : Int), Sum.inl (n1 : Int), Sum.inr kd1] with
              | none => exact ⟨0, rfl, Nat.zero_le _⟩
              | some v =>
                obtain ⟨x, h1, _, h3⟩ := ti9.val _ (mem_of_val e)
                exact ⟨x, h1, h3⟩
            rw [hx]
            refine ⟨_, _, rfl, rfl, _, rfl, _, rfl, t2, _, rfl, DPut.t (k := [Sum.inl (n0 : Int), Sum.inl (n1 : Int), Sum.inr kd1]) h213 upd_same (Evl.sz_lt (by omega)), ?_⟩
            refine ⟨_, _, _, putK kv2 [Sum.inl (n0 : Int), Sum.inl (n1 : Int), Sum.inr kd1] (V.int ((x + 1 : Nat) : Int)), rfl, upd_same, (ti9.mono (by omega)).put ⟨n0, n1, kd1, rfl, h01, h1N, hkw⟩ (by omega) (by omega), by have := length_putK kv2 [Sum.inl (n0 : Int), Sum.inl (n1 : Int), Sum.inr kd1] (V.int ((x + 1 : Nat) : Int)); omega, (S9.same s13).upd n2s n2c, (kp9.kp (Kp.same s13)).put⟩
          · rintro σ H9 ⟨v9, v16, v17, kv2, rfl, h29, ti9, hl9, S9, kp9⟩
            exact ⟨v9, _, _, v16, v17, kv2, rfl, h29, ti9.mono (by omega), by omega, S9, kp9⟩
        · rintro σ H7 ⟨v9, v14, v15, v16, v17, kv2, rfl, h27, ti7, hl7, S7, kp7⟩
          exact ⟨v9, _, _, _, _, v14, v15, v16, v17, kv2, rfl, h27, ti7.mono (by omega), by omega, S7, kp7⟩
      · rintro σ H6 ⟨v9, v10, v11, v12, v13, v14, v15, v16, v17, kv2, rfl, h26, ti6, hl6, S6, kp6⟩
        exact ⟨v9, v10, v11, v12, v13, v14, v15, v16, v17, kv2, rfl, h26, ti6.mono (by omega), by omega, S6, fun b o e h1 h2 h3 => kp6 b o (s5 _ _ e) h1 h2 h3⟩
    rintro σ H6 ⟨v9, v10, v11, v12, v13, v14, v15, v16, v17, kv2, rfl, h26, ti6, hl6, S6, kp6⟩
    have st6 : ∀ b o, H3 b = some o → b ≠ sa → b ≠ ca → b ≠ t2 → H6 b = some o := kp6
    have nlt2 : ld ≠ t2 := nt2l.symm
    have hld6 := kp6 _ _ hld3 nls nlc nlt2
    have W6d := kp6 _ _ W3.d W3.ds.1 W3.ds.2 (ne_of W3.d ht23 (by intro z; cases z))
    have W6c := kp6 _ _ W3.hc W3.bs.1 W3.bs.2 (ne_of W3.hc ht23 (by intro z; cases z))
    have kp06 : Kp sa ca H H6 := fun b o e h1 h2 => kp6 b o (fr03 b o e) h1 h2 (ne_of_none e ht20)
    -- colours
    refine ⟨fun σ H7 => ∃ bc cl2, σ = stO sa wd nu pa ld se t2 v7 v8 v9 v10 v11 v12 v13 v14 v15 v16 v17 (some (.ref bc)) ∧ H6 bc = none ∧ H7 bc = some (.lst (List.map V.str cl2)) ∧ cl2.length = N ∧ (∀ x ∈ cl2, isWordB x = true) ∧ Same H6 H7, ?_, ?_⟩
    · refine ⟨_, rfl, ld, rfl, ⟨_, SqL.of hld6⟩, fun D hD => ?_⟩
      refine lc_list (xs := natV led) (fun i H7 => ∃ cl2, H7 D = some (.lst (List.map V.str cl2)) ∧ cl2.length = i ∧ (∀ x ∈ cl2, isWordB x = true) ∧ Same H6 H7) ⟨[], upd_same, rfl, (fun x hx => (List.not_mem_nil hx).elim), same_new hD⟩ (fun i H7 _ ⟨_, _, _, _, h⟩ => SqL.of (h _ _ hld6)) ?_ ?_
      · rintro i x H7 hi ⟨cl2, hD7, hcl2, hcw2, s7⟩
        have hil := (List.getElem?_eq_some_iff.mp hi).1
        rw [List.length_map] at hil
        rw [List.getElem?_map] at hi
        obtain ⟨y0, hy0, rfl⟩ := Option.map_eq_some_iff.mp hi
        have hyN := hln y0 (List.mem_of_getElem? hy0)
        have hcn := W.cn
        obtain ⟨cy, hcy⟩ : ∃ cy, cl[y0]? = some cy := ⟨_, List.getElem?_eq_getElem (by omega)⟩
        refine ⟨rfl, tyes ?_⟩
        refine ⟨_, rfl, wd, _, rfl, dg_colours (s7 _ _ W6d), _, rfl, b, _, _, V.str cy, rfl, rfl, SqL.of (s7 _ _ W6c), atI_nat (by rw [List.getElem?_map, hcy]; rfl), ?_⟩
        refine ⟨_, hD7, Evl.sz_lt (by rw [List.length_map]; omega), cl2 ++ [cy], by rw [upd_same, List.map_append]; rfl, by simp [hcl2], ?_, ?_⟩
        · intro x hx
          rcases List.mem_append.mp hx with z | z
          · exact hcw2 x z
          · rw [List.mem_singleton] at z
            subst z
            exact W.cw _ (List.mem_of_getElem? hcy)
        · intro b o e
          rw [upd_ne (ne_of_none e hD)]
          exact s7 b o e
      · rintro H7 ⟨cl2, hD7, hcl2, hcw2, s7⟩
        rw [List.length_map] at hcl2
        exact ⟨D, cl2, rfl, hD, hD7, by omega, hcw2, s7⟩
    rintro σ H7 ⟨bc, cl2, rfl, hbc6, hbc, hcl2, hcw2, s7⟩
    have S7 := S6.same s7
    have hbc0 : H bc = none := kp06.free S6 hbc6
    obtain ⟨nbs, nbc⟩ := S.ne hbc0
    refine ⟨_, rfl, ?_⟩
    intro p hp
    have sp := same_new (o := .dK []) hp
    obtain ⟨nps', npc'⟩ := S7.ne hp
    refine ⟨_, rfl, _, rfl, _, rfl, upd_same, worldD ld bc t2, rfl, (by show 3 ≤ 15; decide), ?_⟩
    rw [merge_wd]
    have s8 : Same H7 (upd (upd H7 p (.dK [])) p (.dK (worldD ld bc t2))) := fun b o e => by
      rw [upd_ne (ne_of_none e hp), upd_ne (ne_of_none e hp)]
      exact e
    have hpp : (upd (upd H7 p (.dK [])) p (.dK (worldD ld bc t2))) p = some (.dK (worldD ld bc t2)) := upd_same
    have kp08 : Kp sa ca H (upd (upd H7 p (.dK [])) p (.dK (worldD ld bc t2))) := (kp06.trans (Kp.same s7)).trans (Kp.same s8)
    generalize upd (upd H7 p (.dK [])) p (.dK (worldD ld bc t2)) = H8 at *
    have S8 := S7.same s8
    refine ⟨_, rfl, sa, ca, p, ld, bc, t2, ld, cl2, 4000, kv2, led, rfl, S8, hpp, nps', s8 _ _ hbc, nbc, s8 _ _ (s7 _ _ h26), s8 _ _ (s7 _ _ hld6), nlc, by omega, hcw2, by omega, by omega, hl6, by rw [hNN]; exact ti6, ?_⟩
    intro r wd' a' b' t' ld' nm' cl' kvs' led' H' z1 z2 z3 z4 z5 hr' W' hl' ti' hk' hld' hll' hlm S' kp'
    refine k r wd' a' b' t' ld' nm' cl' kvs' led' H' (kp08.free S8 z1) (kp08.free S8 z2) (kp08.free S8 z3) (kp08.free S8 z4) (kp08.free S8 z5) hr' W' (by omega) ti' hk' hld' (by omega) (fun x hx => hln x (hlm x hx)) S' (kp08.trans kp')
end
end Nm
set_option maxRecDepth 100000
set_option maxHeartbeats 4000000
namespace Nm
open PySem PySem.Spec PyProof.Rows L2
/-- len(set(xs)) of ints, equal ones among them -/
def tLenSetJ (K : PySem.W.Frag) (ta : TE) : TE := fun σ H Q => ta σ H fun x H1 => ∃ (l : Addr) (ns : List Int), x = .ref l ∧ SqL K H1 l (ns.map V.int) ∧ ns.length ≤ 4000 ∧ Q (.int ((firstMet (fun i => ns.getD i 0) ns.length).length : Nat)) H1
theorem pe_lenSetJ {X : Cx} {a : PySem.Expr} {ta : TE} {p p2 q pos : Pos} (hg : Gl X "len") (hm : X.mg "len" = none) (hg2 : Gl X "set") (hm2 : X.mg "set" = none) (ha : PE X a ta) (hc : X.calm = true := by rfl)
    (na : starEach [a] X.env = (false, eval a X.env) :: starEach [] X.env := by rfl) : PE X (.Call (.Name "len" p) [.Call (.Name "set" p2) [a] [] q] [] pos) (tLenSetJ X.K ta) := by
  refine ⟨fun pins s σ H Q I h => ?_⟩
  refine Call_ (ld_blt I hg hm boot_len ?_)
  refine callWith_builtin1 (args_cons ?_ rfl) rfl rfl
  refine Call_ (ld_blt I hg2 hm2 boot_set ?_)
  refine callWith_type1 (args_cons (thn (ha.run pins s σ H _ I h) fun v s1 ⟨x, H1, I1, r1, q1⟩ => args_nil ?_) na) na rfl
  obtain ⟨l, ns, rfl, hq, hl, q1⟩ := q1
  cases r1
  obtain ⟨its, r, pl, hz⟩ := I1.list hq
  have hlen : its.toArray.size = ns.length := by rw [List.size_toArray, ← r.length, List.length_map]
  refine call_set_list (I1.ok.hd hc) pl.isList (by simpa using RZ.intsAre_vals r) (by rw [hlen]; unfold scanBound; omega) fun h' tk hS hk => ?_
  refine args_nil ?_
  rw [hlen] at hS
  have hle := firstMet_length_le (fun i => ns.getD i 0) ns.length
  obtain ⟨o, es, ep, t, ho, hex, hd, _, _, _, hf, hn⟩ := hS
  have I2 : Inv X pins σ H1 { s1 with heap := h', toks := tk } := I1.kept fun b o e => hk b o (Heap.lt_size e) e
  exact call_len_set ho hex hd hf (by rw [hn] <;> omega) ⟨.int ((firstMet (fun i => ns.getD i 0) ns.length).length : Nat), H1, I2.tok _, ⟨_, by rw [hn]⟩, q1⟩
end Nm
set_option maxRecDepth 100000
set_option maxHeartbeats 4000000
namespace Nm
open PySem L2
structure TxtE (mg : Str → Option Value) : Prop extends TxtD mg where
  max : mg "max" = none
  min : mg "min" = none
  set : mg "set" = none
  sum : mg "sum" = none
theorem natV_int (l : List Nat) : natV l = (l.map fun (i : Nat) => (i : Int)).map V.int := by
  unfold natV
  rw [List.map_map]
  rfl
theorem sum_zero : ∀ {l : List Nat}, (∀ x ∈ l, x = 0) → (l.map fun (i : Nat) => (i : Int)).sum = 0
  | [], _ => rfl
  | x :: l, h => by
    rw [List.map_cons, List.sum_cons, sum_zero fun y hy => h y (List.mem_cons_of_mem _ hy), h x List.mem_cons_self]
    rfl
section
variable {P : Program} {w : World} {K : PySem.W.Frag} {mg : Str → Option Value} {base : Heap}
/-! ### _law_copied_over -/
def spCopied : Sp := fun vs H Q _ => ∃ (s c wd a b t : Addr) (nm cl : List Str) (kvs : List (List Key × V)), vs = [.ref s, .ref wd] ∧ Src H s c ∧ WorldOk H s c wd a b t nm cl kvs ∧ Ties nm.length 2 kvs ∧ kvs.length ≤ 300 ∧ nm.length ≤ 5 ∧
  ∀ (r wd' a' b' t' ld' : Addr) (nm' cl' : List Str) (kvs' : List (List Key × V)) (led' : List Nat) (H' : Hp), H wd' = none → H a' = none → H b' = none → H t' = none → H ld' = none → H' r = some (.tup [.ref wd', .ref ld']) → WorldOk H' s c wd' a' b' t' nm' cl' kvs' → nm'.length ≤ 100 → Ties nm'.length 4000 kvs' → kvs'.length ≤ 4000 →
    H' ld' = some (.lst (natV led')) → led'.length = nm'.length → (∀ x ∈ led', x < nm.length) → Src H' s c → Kp s c H H' → Q (.ref r) H'
abbrev nCop : List Str := ["_law_source", "_law_world", "_law_most", "_law_parts_here", "_law_numbers", "_law_name", "_law_part"]
theorem scCop : FnScope nCop ["_law_source", "_law_world"] (defScope sCopiedOver) := ⟨rfl, rfl, rfl, by decide +kernel, rfl, by decide +kernel, by decide +kernel⟩
theorem ok_copied {f : Addr} {fd : FuncData} (F : Fun K "_law_copied_over" "_law_copied_over" sCopiedOver f fd) (T : TxtE mg) (Gp : Def P w K mg base "_law_pick" ["_law_source", "_law_many"] 1 spPick) (Gq : Def P w K mg base "_law_parts" ["_law_world"] 1 spParts)
    (Go : Def P w K mg base "_law_over" ["_law_source", "_law_world", "_law_numbers"] 4 spOver) : FnOk P w K mg base CX0 5 f fd ["_law_source", "_law_world"] spCopied := by
  obtain ⟨fp, fdp, Gp, mp, kp, bp⟩ := Gp.ex
  obtain ⟨fq, fdq, Gq, mq, kq, bq⟩ := Gq.ex
  obtain ⟨fo, fdo, Go, mo, ko, bo⟩ := Go.ex
  refine F.ok scCop (fun vs H Q E h => ?_) (fun cdv A outer s H vs Q E hr h => ?_)
  · obtain ⟨_, _, _, _, _, _, _, _, _, rfl, _⟩ := h
    rfl
  · obtain ⟨sa, ca, wd, a, b, t, nm, cl, kvs, rfl, S, W, ti, hkl, hn5, k⟩ := h
    have hu := hu_of hr
    have hr1 := hr.mono (by decide : 1 ≤ 4)
    refine ⟨_, Evl.pss_cut (ps_asg (pe_tup (pa_cons (pe_callB (call_max2 rfl) (by rfl) T.max (by decide +kernel) (pa_cons pe_int (pa_cons (pe_op op_fdiv pe_int (pe_callB call_len_seq (by rfl) T.len PySem.boot_len (pa_cons (pe_dget hu (pv 1) pe_str (fun _ _ => rfl)) pa_nil))) pa_nil))) (pa_cons (pe_call Gq hr1 (by rfl) mq kq bq .nil pass0 (pa_cons (pv 1) pa_nil)) pa_nil))) (pg_tup rfl (pgs_cons (pg_name (i := 2) scCop.nd rfl (.inr rfl)) (pgs_cons (pg_name (i := 3) scCop.nd rfl (.inl rfl)) pgs_nil))))
      (Evl.pss_cut (ps_set (i := 4) scCop.nd rfl (Or.inr rfl) (pe_op op_rep (pe_lst (pa_cons (pe_op op_add pe_int (pe_call Gp hr1 (by rfl) mp kp bp .nil pass0 (pa_cons (pv 0) (pa_cons (pe_callB (call_min2 rfl) (by rfl) T.min (by decide +kernel) (pa_cons pe_int (pa_cons (pv 2) pa_nil))) pa_nil)))) pa_nil)) (pe_callB call_len_seq (by rfl) T.len PySem.boot_len (pa_cons (pv 3) pa_nil))))
      (Evl.pss_cut (ps_if (PW.pt (pw_or (pt_cmpR op_eq (pe_call Gp hr1 (by rfl) mp kp bp .nil pass0 (pa_cons (pv 0) (pa_cons pe_int pa_nil))) pe_int (nomark _)) (pw_or1 (PW.pt (pw_and (pt_cmpR op_gt (pe_lenSetJ (by rfl) T.len (by rfl) T.set (pv 3)) pe_int (nomark _)) (pw_and1 (pt_cmpR op_eq (pe_call Gp hr1 (by rfl) mp kp bp .nil pass0 (pa_cons (pv 0) (pa_cons pe_int pa_nil))) pe_int (nomark _)))))))) 
          (Evl.pss_cut (ps_set (i := 4) scCop.nd rfl (Or.inr rfl) (pe_lc (own := [("_law_name", 5)]) (g := gName 5) (tt := tYes) rfl scCop.nd (pi_list (pv 3))
            (blkOk_by (N := nCop) (sc := defScope sCopiedOver) (by decide +kernel)) (fun _ _ _ _ _ => pg_name (i := 5) scCop.nd rfl (Or.inl rfl)) (fun _ _ _ _ _ => pts_nil)
            (fun _ _ _ _ _ => by exact pe_call Gp hr1 (by rfl) mp kp bp .nil pass0 (pa_cons (pv 0) (pa_cons (pe_op op_add (pe_callB (call_min2 rfl) (by rfl) T.min (by decide +kernel) (pa_cons pe_int (pa_cons (pv 2) pa_nil))) pe_int) pa_nil)))))
          (pss_one (ps_if (pt_cmpR op_eq (pe_callB (cr_sum rfl) (by rfl) T.sum (by decide +kernel) (pa_cons (pe_lc (own := [("_law_part", 6)]) (g := gName 6) (tt := tYes) (te := tOp (rIxL K) (tVar 4) (tVar 6)) rfl scCop.nd (pi_list (pv 3))
              (blkOk_by (N := nCop) (sc := defScope sCopiedOver) (by decide +kernel)) (fun _ _ _ _ _ => pg_name (i := 6) scCop.nd rfl (Or.inl rfl)) (fun _ _ _ _ _ => pts_nil)
              (fun _ _ _ _ _ => by exact pe_ix ix_list (pv 4) (pv 6) (fun _ _ => rfl))) pa_nil)) pe_int (nomark _))
            (pss_one (ps_asg pe_int (pg_sub (pv 4) (pe_ix ix_list (pv 3) pe_int (fun _ _ => rfl)) set_list))) pss_nil))) pss_nil)
      (pss_one (ps_ret (pe_call Go hr (by rfl) mo ko bo .nil pass0 (pa_cons (pv 0) (pa_cons (pv 1) (pa_cons (pv 4) pa_nil)))))))), ?_⟩
    generalize hn : nm.length = n at *
    have hn1 : 1 ≤ n := by rw [← hn]; exact W.n1
    -- most, parts
    refine ⟨fun σ H1 => ∃ mo pa ps, σ = [some (.ref sa), some (.ref wd), some (.int mo), some (.ref pa), none, none, none] ∧ 1 ≤ mo ∧ H pa = none ∧ H1 pa = some (.lst (natV ps)) ∧ ps.length = n ∧ (∀ x ∈ ps, x < n) ∧ PartsRel n kvs ps ∧ Same H H1, ?_, ?_⟩
    · refine ⟨_, rfl, wd, _, rfl, dg_names W.d, a, _, rfl, .inl (SqL.of W.hn), _, _, rfl, rfl, ⟨by show (0 : Int) < ((List.map V.str nm).length : Int); rw [List.length_map]; omega, by show ((List.map V.str nm).length : Int) < _; rw [List.length_map]; omega⟩, _, _, rfl, ?_⟩
      refine ⟨_, rfl, wd, a, b, t, _, 2, kvs, rfl, W.d, W.hn, W.ht, by rw [List.length_map]; omega, by omega, by rw [List.length_map, hn]; exact ti, fun pa ps H1 hpa0 hpa hpl hpn hpe hpr s1 => ?_⟩
      rw [List.length_map, hn] at hpl hpn hpr
      refine ⟨(by show 2 ≤ sizeLine; decide), fun tp htp => ?_⟩
      have a4 := same_new (o := .tup [V.int (if (20 : Int) / ((List.map V.str nm).length : Int) > 1 then (20 : Int) / ((List.map V.str nm).length : Int) else 1), V.ref pa]) htp
      refine ⟨tp, _, rfl, SqT.of upd_same, rfl, _, _, rfl, _, _, rfl, rfl, ?_⟩
      exact ⟨_, pa, ps, rfl, by split <;> omega, hpa0, a4 _ _ hpa, hpl, hpn, hpr, s1.trans a4⟩
    rintro σ H1 ⟨mo, pa, ps, rfl, hmo, hpa0, hpa, hpl, hpn, hpr, s1⟩
    have S1 := S.same s1
    obtain ⟨nps, npc⟩ := S.ne hpa0
    -- numbers
    refine ⟨fun σ H2 => ∃ nu ns, σ = [some (.ref sa), some (.ref wd), some (.int mo), some (.ref pa), some (.ref nu), none, none] ∧ H nu = none ∧ H2 nu = some (.lst (natV ns)) ∧ ns.length = n ∧ (∀ x ∈ ns, 1 ≤ x ∧ x ≤ 5) ∧ Src H2 sa ca ∧ Kp sa ca H1 H2, ?_, ?_⟩
    · refine ⟨_, rfl, _, rfl, _, _, rfl, sa, ca, _, rfl, S1, by show 1 ≤ (if mo < 4 then mo else 4); split <;> omega, by show (if mo < 4 then mo else 4) < _; split <;> omega, fun kk H2 k0 k1 S2 kp2 => ⟨_, _, rfl, rfl, (by show 1 ≤ sizeLine; decide), fun l hl => ?_⟩⟩
      have hk4 : kk < 4 := by
        have : kk < (if mo < 4 then mo else 4) := k1
        split at this <;> omega
      have hpa2 := kp2 _ _ hpa nps npc
      have sl := same_new (o := .lst [V.int (1 + kk)]) hl
      refine ⟨_, rfl, pa, _, rfl, .inl (SqL.of (sl _ _ hpa2)), l, _, _, rfl, rfl, upd_same, by rw [List.length_map]; omega, by rw [List.length_map]; omega, ?_, fun p hp => ?_⟩
      · rw [List.length_map]
        exact Evl.sz_of (by simp; omega)
      · have sp := sl.trans (same_new (o := .lst (List.replicate (((natV ps).length : Int)).toNat [V.int (1 + kk)]).flatten) hp)
        refine ⟨p, List.replicate n (1 + kk).toNat, rfl, s1.free (kp2.free S2 (sl.free hp)), ?_, by simp, ?_, S2.same sp, kp2.trans (Kp.same sp)⟩
        · rw [upd_same, List.length_map, hpl, Int.toNat_natCast, List.flatten_replicate_singleton]
          unfold natV
          rw [List.map_replicate, Int.toNat_of_nonneg (by omega)]
        · intro x hx
          have := List.eq_of_mem_replicate hx
          omega
    rintro σ H2 ⟨nu, ns, rfl, hnu0, hnu, hnl, hn110, S2, kp2⟩
    have hpa2 := kp2 _ _ hpa nps npc
    have kp02 : Kp sa ca H H2 := (Kp.same s1).trans kp2
    obtain ⟨nns, nnc⟩ := S.ne hnu0
    refine ⟨fun σ H3 => ∃ nu ns, σ = [some (.ref sa), some (.ref wd), some (.int mo), some (.ref pa), some (.ref nu), none, none] ∧ H nu = none ∧ H3 nu = some (.lst (natV ns)) ∧ ns.length = n ∧ (∀ x ∈ ns, x ≤ 5) ∧ (∃ p ∈ ps, ∃ x, ns[p]? = some x ∧ 1 ≤ x) ∧ Src H3 sa ca ∧ Kp sa ca H H3, ?_, ?_⟩
    · have keep : ∀ H3, Src H3 sa ca → Kp sa ca H2 H3 → ∃ nu' ns', [some (V.ref sa), some (.ref wd), some (.int mo), some (.ref pa), some (.ref nu), none, none] = [some (V.ref sa), some (.ref wd), some (.int mo), some (.ref pa), some (.ref nu'), none, none] ∧ H nu' = none ∧ H3 nu' = some (.lst (natV ns')) ∧ ns'.length = n ∧ (∀ x ∈ ns', x ≤ 5) ∧ (∃ p ∈ ps, ∃ x, ns'[p]? = some x ∧ 1 ≤ x) ∧ Src H3 sa ca ∧ Kp sa ca H H3 := fun H3 S3 kp3 => by
        refine ⟨nu, ns, rfl, hnu0, kp3 _ _ hnu nns nnc, hnl, fun x hx => (hn110 x hx).2, ?_, S3, kp02.trans kp3⟩
        obtain ⟨p0, hp0⟩ : ∃ p0, ps[0]? = some p0 := ⟨_, List.getElem?_eq_getElem (by omega)⟩
        have hpn0 := hpn p0 (List.mem_of_getElem? hp0)
        obtain ⟨x0, hx0⟩ : ∃ x0, ns[p0]? = some x0 := ⟨_, List.getElem?_eq_getElem (by omega)⟩
        exact ⟨p0, List.mem_of_getElem? hp0, x0, hx0, (hn110 x0 (List.mem_of_getElem? hx0)).1⟩
      refine ⟨_, rfl, sa, ca, 3, rfl, S2, by decide, by decide, fun k3 HX _ _ SX kpX => ⟨rfl, _, rfl, ?_⟩⟩
      have hpaX := kpX _ _ hpa2 nps npc
      have kp0X := kp02.trans kpX
      refine ite2 (fun _ => iteT ?_) (fun _ => ?_)
      · refine ⟨fun σ H4 => ∃ nu ns, σ = [some (.ref sa), some (.ref wd), some (.int mo), some (.ref pa), some (.ref nu), none, none] ∧ H nu = none ∧ H4 nu = some (.lst (natV ns)) ∧ ns.length = n ∧ (∀ x ∈ ns, x ≤ 5) ∧ Src H4 sa ca ∧ Kp sa ca HX H4, ?_, ?_⟩
        · refine ⟨_, rfl, pa, rfl, ⟨_, SqL.of hpaX⟩, fun D hD => ?_⟩
          have hD0 : H D = none := kp0X.free SX hD
          obtain ⟨nDs, nDc⟩ := S.ne hD0
          refine lc_list (xs := natV ps) (fun i H4 => ∃ ns, H4 D = some (.lst (natV ns)) ∧ ns.length = i ∧ (∀ x ∈ ns, x ≤ 5) ∧ Src H4 sa ca ∧ Kp sa ca HX H4) ⟨[], upd_same, rfl, (fun x hx => (List.not_mem_nil hx).elim), SX.new hD, (Kp.refl HX).off hD⟩ (fun i H4 _ ⟨_, _, _, _, _, h⟩ => SqL.of (h _ _ hpaX nps npc)) ?_ ?_
          · rintro i x H4 hi ⟨ns, hD4, hnl, hn10, S4, kp4⟩
            have hil := (List.getElem?_eq_some_iff.mp hi).1
            rw [List.length_map] at hil
            refine ⟨rfl, tyes ?_⟩
            refine ⟨_, rfl, _, rfl, _, _, rfl, _, _, rfl, rfl, sa, ca, _, rfl, S4, by show 1 ≤ (if mo < 4 then mo else 4) + 1; split <;> omega, by show (if mo < 4 then mo else 4) + 1 < _; split <;> omega, fun kk H5 k0 k1 S5 kp5 => ?_⟩
            have hk10 : kk ≤ 5 := by
              have : kk < (if mo < 4 then mo else 4) + 1 := k1
              split at this <;> omega
            refine ⟨_, kp5 _ _ hD4 nDs nDc, Evl.sz_lt (by rw [List.length_map]; omega), ns ++ [kk.toNat], ?_, by simp [hnl], ?_, S5.upd nDs nDc, (kp4.trans kp5).off hD⟩
            · unfold natV
              rw [upd_same, List.map_append]
              show some (HO.lst (natV ns ++ [V.int kk])) = some (HO.lst (natV ns ++ [V.int (kk.toNat : Int)]))
              rw [Int.toNat_of_nonneg k0]
            · intro x hx
              rcases List.mem_append.mp hx with z | z
              · exact hn10 x z
              · rw [List.mem_singleton] at z
                omega
          · rintro H4 ⟨ns, hD4, hnl, hn10, S4, kp4⟩
            rw [List.length_map] at hnl
            exact ⟨D, ns, rfl, hD0, hD4, by omega, hn10, S4, kp4⟩
        rintro σ H4 ⟨nu, ns, rfl, hnu0, hnu, hnl, hn10, S4, kp4⟩
        obtain ⟨nns, nnc⟩ := S.ne hnu0
        have hpa4 := kp4 _ _ hpaX nps npc
        have kp04 := kp0X.trans kp4
        refine ⟨_, rfl, pa, rfl, ⟨_, SqL.of hpa4⟩, fun D hD => ?_⟩
        refine lc_list (xs := natV ps) (fun i H5 => H5 D = some (.lst (natV ((ps.map fun p => (ns[p]?).getD 0).take i))) ∧ Same H4 H5) ⟨upd_same, same_new hD⟩ (fun i H5 _ h => SqL.of (h.2 _ _ hpa4)) ?_ ?_
        · rintro i x H5 hi ⟨hD5, s5⟩
          have hil := (List.getElem?_eq_some_iff.mp hi).1
          rw [List.length_map] at hil
          rw [List.getElem?_map] at hi
          obtain ⟨p0, hp0, rfl⟩ := Option.map_eq_some_iff.mp hi
          have hpn0 := hpn p0 (List.mem_of_getElem? hp0)
          obtain ⟨x0, hx0⟩ : ∃ x0, ns[p0]? = some x0 := ⟨_, List.getElem?_eq_getElem (by omega)⟩
          refine ⟨rfl, tyes ?_⟩
          refine ⟨_, rfl, _, rfl, nu, _, _, V.int (x0 : Int), rfl, rfl, SqL.of (s5 _ _ hnu), atI_nat (by rw [List.getElem?_map, hx0]; rfl), ?_⟩
          refine ⟨_, hD5, Evl.sz_lt (by rw [List.length_map, List.length_take, List.length_map]; omega), ?_, fun b o e => ?_⟩
          · have e : (ps.map fun p => (ns[p]?).getD 0)[i]? = some x0 := by rw [List.getElem?_map, hp0]; simp [hx0]
            rw [upd_same, List.take_add_one, e]
            unfold natV
            rw [List.map_append]
            rfl
          · rw [upd_ne (ne_of_none e hD)]
            exact s5 b o e
        · rintro H5 ⟨hD5, s5⟩
          rw [List.length_map, List.take_of_length_le (by simp), natV_int] at hD5
          have S5 := S4.same s5
          have kp05 := kp04.trans (Kp.same s5)
          refine ⟨D, _, rfl, SqL.of hD5, rfl, _, rfl, ?_⟩
          refine ite2 (fun h => ?_) (fun h => ?_)
          · obtain ⟨p0, hp0⟩ : ∃ p0, ps[0]? = some p0 := ⟨_, List.getElem?_eq_getElem (by omega)⟩
            have hpn0 := hpn p0 (List.mem_of_getElem? hp0)
            have hix : ixN (natV ns).length (p0 : Int) = some p0 := by
              have h1 := ixN_seq (n := (natV ns).length) (i := (p0 : Int)) (j := p0)
              unfold ixN
              rw [List.length_map]
              simp
              omega
            refine ⟨_, rfl, _, rfl, pa, _, 0, V.int (p0 : Int), rfl, rfl, SqL.of (s5 _ _ hpa4), atI_nat (j := 0) (by rw [List.getElem?_map, hp0]; rfl), nu, _, _, p0, rfl, rfl, s5 _ _ hnu, hix, ?_⟩
            refine ⟨nu, ns.set p0 1, rfl, hnu0, ?_, by simp [hnl], ?_, ⟨p0, List.mem_of_getElem? hp0, 1, ?_, by decide⟩, S5.upd nns nnc, kp05.off hnu0⟩
            · rw [upd_same]
              unfold natV
              rw [List.map_set]
              rfl
            · intro x hx
              rcases List.mem_or_eq_of_mem_set hx with z | z
              · exact hn10 x z
              · omega
            · rw [List.getElem?_set_self (by omega)]
          · refine ⟨nu, ns, rfl, hnu0, s5 _ _ hnu, hnl, hn10, ?_, S5, kp05⟩
            have hne : ¬ V.int (((ps.map fun p => (ns[p]?).getD 0).map fun (i : Nat) => (i : Int)).sum) = V.int 0 := of_decide_eq_false (Bool.eq_false_iff.mpr h)
            apply Classical.byContradiction
            intro hno
            apply hne
            rw [sum_zero]
            intro x hx
            obtain ⟨p, hp, rfl⟩ := List.mem_map.mp hx
            obtain ⟨x0, hx0⟩ : ∃ x0, ns[p]? = some x0 := ⟨_, List.getElem?_eq_getElem (by have := hpn p hp; omega)⟩
            rw [hx0]
            show x0 = 0
            apply Classical.byContradiction
            intro hx0'
            exact hno ⟨p, hp, x0, hx0, by omega⟩
      · refine ⟨_, rfl, pa, _, rfl, SqL.of (by rw [hpaX, natV_int]), by rw [List.length_map]; omega, _, _, rfl, rfl, _, rfl, ?_⟩
        refine ite2 (fun _ => ?_) (fun _ => iteF (keep HX SX kpX))
        refine ⟨_, rfl, sa, ca, 2, rfl, SX, by decide, by decide, fun k2 HY _ _ SY kpY => ⟨rfl, _, rfl, ?_⟩⟩
        refine ite2 (fun _ => ?_) (fun _ => keep HY SY (kpX.trans kpY))
        have hpaY := kpY _ _ hpaX nps npc
        have kp0Y := kp0X.trans kpY
        refine ⟨fun σ H4 => ∃ nu ns, σ = [some (.ref sa), some (.ref wd), some (.int mo), some (.ref pa), some (.ref nu), none, none] ∧ H nu = none ∧ H4 nu = some (.lst (natV ns)) ∧ ns.length = n ∧ (∀ x ∈ ns, x ≤ 5) ∧ Src H4 sa ca ∧ Kp sa ca HY H4, ?_, ?_⟩
        · refine ⟨_, rfl, pa, rfl, ⟨_, SqL.of hpaY⟩, fun D hD => ?_⟩
          have hD0 : H D = none := kp0Y.free SY hD
          obtain ⟨nDs, nDc⟩ := S.ne hD0
          refine lc_list (xs := natV ps) (fun i H4 => ∃ ns, H4 D = some (.lst (natV ns)) ∧ ns.length = i ∧ (∀ x ∈ ns, x ≤ 5) ∧ Src H4 sa ca ∧ Kp sa ca HY H4) ⟨[], upd_same, rfl, (fun x hx => (List.not_mem_nil hx).elim), SY.new hD, (Kp.refl HY).off hD⟩ (fun i H4 _ ⟨_, _, _, _, _, h⟩ => SqL.of (h _ _ hpaY nps npc)) ?_ ?_
          · rintro i x H4 hi ⟨ns, hD4, hnl, hn10, S4, kp4⟩
            have hil := (List.getElem?_eq_some_iff.mp hi).1
            rw [List.length_map] at hil
            refine ⟨rfl, tyes ?_⟩
            refine ⟨_, rfl, _, rfl, _, _, rfl, _, _, rfl, rfl, sa, ca, _, rfl, S4, by show 1 ≤ (if mo < 4 then mo else 4) + 1; split <;> omega, by show (if mo < 4 then mo else 4) + 1 < _; split <;> omega, fun kk H5 k0 k1 S5 kp5 => ?_⟩
            have hk10 : kk ≤ 5 := by
              have : kk < (if mo < 4 then mo else 4) + 1 := k1
              split at this <;> omega
            refine ⟨_, kp5 _ _ hD4 nDs nDc, Evl.sz_lt (by rw [List.length_map]; omega), ns ++ [kk.toNat], ?_, by simp [hnl], ?_, S5.upd nDs nDc, (kp4.trans kp5).off hD⟩
            · unfold natV
              rw [upd_same, List.map_append]
              show some (HO.lst (natV ns ++ [V.int kk])) = some (HO.lst (natV ns ++ [V.int (kk.toNat : Int)]))
              rw [Int.toNat_of_nonneg k0]
            · intro x hx
              rcases List.mem_append.mp hx with z | z
              · exact hn10 x z
              · rw [List.mem_singleton] at z
                omega
          · rintro H4 ⟨ns, hD4, hnl, hn10, S4, kp4⟩
            rw [List.length_map] at hnl
            exact ⟨D, ns, rfl, hD0, hD4, by omega, hn10, S4, kp4⟩
        rintro σ H4 ⟨nu, ns, rfl, hnu0, hnu, hnl, hn10, S4, kp4⟩
        obtain ⟨nns, nnc⟩ := S.ne hnu0
        have hpa4 := kp4 _ _ hpaY nps npc
        have kp04 := kp0Y.trans kp4
        refine ⟨_, rfl, pa, rfl, ⟨_, SqL.of hpa4⟩, fun D hD => ?_⟩
        refine lc_list (xs := natV ps) (fun i H5 => H5 D = some (.lst (natV ((ps.map fun p => (ns[p]?).getD 0).take i))) ∧ Same H4 H5) ⟨upd_same, same_new hD⟩ (fun i H5 _ h => SqL.of (h.2 _ _ hpa4)) ?_ ?_
        · rintro i x H5 hi ⟨hD5, s5⟩
          have hil := (List.getElem?_eq_some_iff.mp hi).1
          rw [List.length_map] at hil
          rw [List.getElem?_map] at hi
          obtain ⟨p0, hp0, rfl⟩ := Option.map_eq_some_iff.mp hi
          have hpn0 := hpn p0 (List.mem_of_getElem? hp0)
          obtain ⟨x0, hx0⟩ : ∃ x0, ns[p0]? = some x0 := ⟨_, List.getElem?_eq_getElem (by omega)⟩
          refine ⟨rfl, tyes ?_⟩
          refine ⟨_, rfl, _, rfl, nu, _, _, V.int (x0 : Int), rfl, rfl, SqL.of (s5 _ _ hnu), atI_nat (by rw [List.getElem?_map, hx0]; rfl), ?_⟩
          refine ⟨_, hD5, Evl.sz_lt (by rw [List.length_map, List.length_take, List.length_map]; omega), ?_, fun b o e => ?_⟩
          · have e : (ps.map fun p => (ns[p]?).getD 0)[i]? = some x0 := by rw [List.getElem?_map, hp0]; simp [hx0]
            rw [upd_same, List.take_add_one, e]
            unfold natV
            rw [List.map_append]
            rfl
          · rw [upd_ne (ne_of_none e hD)]
            exact s5 b o e
        · rintro H5 ⟨hD5, s5⟩
          rw [List.length_map, List.take_of_length_le (by simp), natV_int] at hD5
          have S5 := S4.same s5
          have kp05 := kp04.trans (Kp.same s5)
          refine ⟨D, _, rfl, SqL.of hD5, rfl, _, rfl, ?_⟩
          refine ite2 (fun h => ?_) (fun h => ?_)
          · obtain ⟨p0, hp0⟩ : ∃ p0, ps[0]? = some p0 := ⟨_, List.getElem?_eq_getElem (by omega)⟩
            have hpn0 := hpn p0 (List.mem_of_getElem? hp0)
            have hix : ixN (natV ns).length (p0 : Int) = some p0 := by
              have h1 := ixN_seq (n := (natV ns).length) (i := (p0 : Int)) (j := p0)
              unfold ixN
              rw [List.length_map]
              simp
              omega
            refine ⟨_, rfl, _, rfl, pa, _, 0, V.int (p0 : Int), rfl, rfl, SqL.of (s5 _ _ hpa4), atI_nat (j := 0) (by rw [List.getElem?_map, hp0]; rfl), nu, _, _, p0, rfl, rfl, s5 _ _ hnu, hix, ?_⟩
            refine ⟨nu, ns.set p0 1, rfl, hnu0, ?_, by simp [hnl], ?_, ⟨p0, List.mem_of_getElem? hp0, 1, ?_, by decide⟩, S5.upd nns nnc, kp05.off hnu0⟩
            · rw [upd_same]
              unfold natV
              rw [List.map_set]
              rfl
            · intro x hx
              rcases List.mem_or_eq_of_mem_set hx with z | z
              · exact hn10 x z
              · omega
            · rw [List.getElem?_set_self (by omega)]
          · refine ⟨nu, ns, rfl, hnu0, s5 _ _ hnu, hnl, hn10, ?_, S5, kp05⟩
            have hne : ¬ V.int (((ps.map fun p => (ns[p]?).getD 0).map fun (i : Nat) => (i : Int)).sum) = V.int 0 := of_decide_eq_false (Bool.eq_false_iff.mpr h)
            apply Classical.byContradiction
            intro hno
            apply hne
            rw [sum_zero]
            intro x hx
            obtain ⟨p, hp, rfl⟩ := List.mem_map.mp hx
            obtain ⟨x0, hx0⟩ : ∃ x0, ns[p]? = some x0 := ⟨_, List.getElem?_eq_getElem (by have := hpn p hp; omega)⟩
            rw [hx0]
            show x0 = 0
            apply Classical.byContradiction
            intro hx0'
            exact hno ⟨p, hp, x0, hx0, by omega⟩
    rintro σ H3 ⟨nu, ns, rfl, hnu0, hnu, hnl, hn10, hex, S3, kp3⟩
    obtain ⟨nns, nnc⟩ := S.ne hnu0
    refine ⟨_, rfl, _, rfl, _, rfl, sa, ca, wd, a, b, t, nu, nm, cl, kvs, ns, rfl, S3, W.kp kp3, by rw [hn]; exact ti, hkl, by omega, hnu, nnc, by omega, hn10, ?_, ?_⟩
    · intro qs hq
      rw [hn] at hq
      rw [hq.one hpr]
      exact hex
    · intro r wd' a' b' t' ld' nm' cl' kvs' led' H' z1 z2 z3 z4 z5 hr' W' hl' ti' hk' hld' hll' hlm S' kp'
      rw [hn] at hlm
      exact k r wd' a' b' t' ld' nm' cl' kvs' led' H' (kp3.free S3 z1) (kp3.free S3 z2) (kp3.free S3 z3) (kp3.free S3 z4) (kp3.free S3 z5) hr' W' hl' ti' hk' hld' hll' hlm S' (kp3.trans kp')
end
end Nm
set_option maxRecDepth 100000
set_option maxHeartbeats 4000000
namespace Nm
open PySem L2
def keyOf : V → Key
  | .int i => Sum.inl i
  | .str x => Sum.inr x
  | _ => Sum.inl 0
theorem keyOf_kV (k : Key) : keyOf (kV k) = k := by cases k <;> rfl
theorem perm_key {ys : List V} {l : List Key} (h : ys.Perm (l.map kV)) : ∃ zs : List Key, ys = zs.map kV ∧ zs.Perm l := by
  refine ⟨ys.map keyOf, ?_, ?_⟩
  · rw [List.map_map]
    conv => lhs; rw [← List.map_id ys]
    refine List.map_congr_left fun v hv => ?_
    obtain ⟨x, _, rfl⟩ := List.mem_map.mp (h.subset hv)
    show kV x = kV (keyOf (kV x))
    rw [keyOf_kV]
  · have := h.map keyOf
    rw [List.map_map] at this
    have e : l.map (keyOf ∘ kV) = l := by
      conv => rhs; rw [← List.map_id l]
      exact List.map_congr_left fun x _ => keyOf_kV x
    rw [e] at this
    exact this
/-- the pairs of a dict told by keys -/
def byKeys (kvs : List (Key × V)) (ks : List Key) : List (Key × V) := ks.map fun k => (k, (valV kvs k).getD .non)
theorem byKeys_self {kvs : List (Key × V)} (nd : (kvs.map (·.1)).Nodup) : byKeys kvs (kvs.map (·.1)) = kvs := by
  unfold byKeys
  rw [List.map_map]
  conv => rhs; rw [← List.map_id kvs]
  refine List.map_congr_left fun kv hm => ?_
  show (kv.1, (valV kvs kv.1).getD .non) = kv
  rw [val_of_mem nd (v := kv.2) hm]
  rfl
theorem byKeys_perm {kvs : List (Key × V)} {ks : List Key} (nd : (kvs.map (·.1)).Nodup) (h : ks.Perm (kvs.map (·.1))) : (byKeys kvs ks).Perm kvs := by
  have := h.map fun k => (k, (valV kvs k).getD .non)
  rw [show (kvs.map (·.1)).map (fun k => (k, (valV kvs k).getD .non)) = kvs from byKeys_self nd] at this
  exact this
structure TxtF (mg : Str → Option Value) : Prop extends TxtE mg where
  zip : mg "zip" = none
section
variable {P : Program} {w : World} {K : PySem.W.Frag} {mg : Str → Option Value} {base : Heap}
/-! ### _law_any_dict -/
def spAnyDict : Sp := fun vs H Q _ => ∃ (s c d : Addr) (kvs : List (Key × V)), vs = [.ref s, .ref d] ∧ Src H s c ∧ H d = some (.dK kvs) ∧ d ≠ s ∧ (kvs.map (·.1)).Nodup ∧ kvs.length ≤ 1000 ∧
  ∀ (p : Addr) (kvs' : List (Key × V)) (H' : Hp), H p = none → kvs'.Perm kvs → H' p = some (.dK kvs') → Src H' s c → Kp s c H H' → Q (.ref p) H'
abbrev nAD : List Str := ["_law_source", "_law_told", "_law_key"]
theorem scAD : FnScope nAD ["_law_source", "_law_told"] (defScope sAnyDict) := ⟨rfl, rfl, rfl, by decide +kernel, rfl, by decide +kernel, by decide +kernel⟩
theorem ok_anyDict {f : Addr} {fd : FuncData} (F : Fun K "_law_any_dict" "_law_any_dict" sAnyDict f fd) (T : TxtF mg) (Ga : Def P w K mg base "_law_any_order" ["_law_source", "_law_items"] 2 (spAny K)) : FnOk P w K mg base CX0 3 f fd ["_law_source", "_law_told"] spAnyDict := by
  obtain ⟨fa, fda, Ga, ma, ka, ba⟩ := Ga.ex
  refine F.ok scAD (fun vs H Q E h => ?_) (fun cdv A outer s H vs Q E hr h => ?_)
  · obtain ⟨_, _, _, _, rfl, _⟩ := h
    rfl
  · obtain ⟨sa, ca, d, kvs, rfl, S, hd, nds, nd, hl, k⟩ := h
    have hu := hu_of hr
    refine ⟨_, pss_one (ps_ret (pe_callTy (call_dictP rfl) (by rfl) T.dict (by decide +kernel) (pa_cons (pe_lc (own := [("_law_key", 2)]) (g := gName 2) (tt := tYes) rfl scAD.nd (pi_list (pe_call Ga hr (by rfl) ma ka ba .nil pass0 (pa_cons (pv 0) (pa_cons (pe_callTy (call_list_dK rfl) (by rfl) T.list (by decide +kernel) (pa_cons (pv 1) pa_nil)) pa_nil))))
          (blkOk_by (N := nAD) (sc := defScope sAnyDict) (by decide +kernel)) (fun _ _ _ _ _ => pg_name (i := 2) scAD.nd rfl (Or.inl rfl)) (fun _ _ _ _ _ => pts_nil)
          (fun _ _ _ _ _ => pe_tup (pa_cons (pv 2) (pa_cons (pe_dget hu (pv 1) (pv 2) (fun _ _ => rfl)) pa_nil)))) pa_nil))), ?_⟩
    have ndc : d ≠ ca := by
      obtain ⟨cs, l, m, tt, S0⟩ := S
      exact ne_of hd S0.dc (by intro z; cases z)
    refine ⟨_, rfl, _, rfl, d, kvs, rfl, hd, fun q hq => ?_⟩
    refine ⟨sa, ca, q, _, rfl, S.new hq, SqL.of upd_same, by rw [List.length_map]; exact (by omega), fun p ys H1 hp pm hpl S1 kp1 => ?_⟩
    rw [show (kvs.map fun kv => kV kv.1) = (kvs.map (·.1)).map kV by rw [List.map_map]; rfl] at pm
    obtain ⟨ks, rfl, pk⟩ := perm_key pm
    have kp01 : Kp sa ca H H1 := (Kp.same (same_new hq)).trans kp1
    have hd1 := kp01 _ _ hd nds ndc
    have hkl : ks.length ≤ 1000 := by rw [pk.length_eq, List.length_map]; exact hl
    refine ⟨p, rfl, ⟨_, SqL.of hpl⟩, fun D hD => ?_⟩
    refine lc_list (xs := ks.map kV) (fun i H2 => ∃ ps : List Addr, H2 D = some (.lst (ps.map V.ref)) ∧ ps.length = i ∧ Paired (fun p kv => H2 p = some (.tup [kV kv.1, kv.2])) ps ((byKeys kvs ks).take i) ∧ Same H1 H2) ⟨[], upd_same, rfl, .nil, same_new hD⟩ (fun i H2 _ ⟨_, _, _, _, h⟩ => SqL.of (h _ _ hpl)) ?_ ?_
    · rintro i x H2 hi ⟨ps, hD2, hpsl, pr, s2⟩
      have hil := (List.getElem?_eq_some_iff.mp hi).1
      rw [List.length_map] at hil
      rw [List.getElem?_map] at hi
      obtain ⟨k0, hk0, rfl⟩ := Option.map_eq_some_iff.mp hi
      obtain ⟨kv0, hm0, e0⟩ := List.mem_map.mp (pk.mem_iff.mp (List.mem_of_getElem? hk0))
      have hv0 : valV kvs k0 = some kv0.2 := by rw [← e0]; exact val_of_mem nd hm0
      refine ⟨rfl, tyes ?_⟩
      refine ⟨_, rfl, _, rfl, _, rfl, d, kv0.2, rfl, (by rw [← hv0]; exact DGet.k (s2 _ _ hd1)), (by show 2 ≤ sizeLine; decide), fun u hu => ?_⟩
      have su := same_new (o := .tup [kV k0, kv0.2]) hu
      have nDu : u ≠ D := fun e => by subst e; rw [hD2] at hu; cases hu
      refine ⟨_, su _ _ hD2, Evl.sz_lt (by rw [List.length_map]; omega), ps ++ [u], by rw [upd_same, List.map_append]; rfl, by simp [hpsl], ?_, fun b o e => ?_⟩
      · have e : (byKeys kvs ks)[i]? = some (k0, kv0.2) := by unfold byKeys; rw [List.getElem?_map, hk0]; simp [hv0]
        rw [List.take_add_one, e]
        refine paired_snoc (Paired.mapP pr fun p kv h => ?_) ?_
        · rw [upd_ne (ne_of h hD2 (by intro z; cases z))]
          exact su _ _ h
        · rw [upd_ne nDu]
          exact upd_same
      · rw [upd_ne (ne_of_none e hD)]
        exact su _ _ (s2 b o e)
    · rintro H2 ⟨ps, hD2, hpsl, pr, s2⟩
      rw [List.length_map, List.take_of_length_le (by unfold byKeys; simp)] at pr
      refine ⟨D, ps, byKeys kvs ks, rfl, SqL.of hD2, Paired.mapP pr fun p kv h => SqT.of h, fun r hr => ?_⟩
      have pb := byKeys_perm nd pk
      refine k r (byKeys kvs ks) _ (kp01.free S1 (s2.free hr)) pb ?_ ((S1.same s2).new hr) ((kp01.trans (Kp.same s2)).trans (Kp.same (same_new hr)))
      rw [upd_same, merge_nd (acc := []) (by simpa using (pb.map (·.1)).nodup_iff.mpr nd)]
      rfl
/-! ### _law_dict -/
/-- each name of nm' to the name that its number leads to -/
def leadKV (nm' nm : List Str) (led : List Nat) : List (Key × V) := (nm'.zip led).map fun p => (Sum.inr p.1, V.str ((nm[p.2]?).getD ""))
theorem lead_keys {nm' nm : List Str} {led : List Nat} (h : led.length = nm'.length) : (leadKV nm' nm led).map (·.1) = nm'.map Sum.inr := by
  unfold leadKV
  rw [List.map_map]
  have : nm' = (nm'.zip led).map (·.1) := by rw [List.map_fst_zip (by omega)]
  conv => rhs; rw [this]
  rw [List.map_map]
  rfl
theorem lead_nd {nm' nm : List Str} {led : List Nat} (h : led.length = nm'.length) (nd : nm'.Nodup) : ((leadKV nm' nm led).map (·.1)).Nodup := by
  rw [lead_keys h]
  exact List.Pairwise.map _ (fun a b hab e => hab (Sum.inr.inj e)) nd
def spDict : Sp := fun vs H Q _ => ∃ (s c wo ao bo to ww aw bw tw ld : Addr) (nm' nm : List Str) (led : List Nat), vs = [.ref s, .ref wo, .ref ww, .ref ld] ∧ Src H s c ∧ H wo = some (.dK (worldD ao bo to)) ∧ H ao = some (.lst (nm'.map V.str)) ∧ H ww = some (.dK (worldD aw bw tw)) ∧ H aw = some (.lst (nm.map V.str)) ∧ H ld = some (.lst (natV led)) ∧
  led.length = nm'.length ∧ (∀ x ∈ led, x < nm.length) ∧ nm'.Nodup ∧ nm'.length ≤ 100 ∧
  ∀ (p : Addr) (kvs' : List (Key × V)) (H' : Hp), H p = none → kvs'.Perm (leadKV nm' nm led) → H' p = some (.dK kvs') → Src H' s c → Kp s c H H' → Q (.ref p) H'
abbrev nDc : List Str := ["_law_source", "_law_over_here", "_law_web", "_law_led", "_law_name", "_law_p"]
theorem scDc : FnScope nDc ["_law_source", "_law_over_here", "_law_web", "_law_led"] (defScope sDict) := ⟨rfl, rfl, rfl, by decide +kernel, rfl, by decide +kernel, by decide +kernel⟩
theorem ok_dict {f : Addr} {fd : FuncData} (F : Fun K "_law_dict" "_law_dict" sDict f fd) (T : TxtF mg) (Gd : Def P w K mg base "_law_any_dict" ["_law_source", "_law_told"] 3 spAnyDict) : FnOk P w K mg base CX0 4 f fd ["_law_source", "_law_over_here", "_law_web", "_law_led"] spDict := by
  obtain ⟨fa, fda, Ga, ma, ka, ba⟩ := Gd.ex
  refine F.ok scDc (fun vs H Q E h => ?_) (fun cdv A outer s H vs Q E hr h => ?_)
  · obtain ⟨_, _, _, _, _, _, _, _, _, _, _, _, _, _, rfl, _⟩ := h
    rfl
  · obtain ⟨sa, ca, wo, ao, bo, to, ww, aw, bw, tw, ld, nm', nm, led, rfl, S, hwo, hao, hww, haw, hld, hll, hln, nd, hl100, k⟩ := h
    have hu := hu_of hr
    refine ⟨_, pss_one (ps_ret (pe_call Ga hr (by rfl) ma ka ba .nil pass0 (pa_cons (pv 0) (pa_cons (pe_callTy (call_dictP rfl) (by rfl) T.dict (by decide +kernel) (pa_cons (pe_lc (own := [("_law_name", 4), ("_law_p", 5)]) (g := gTup K 2 (gCons (gName 4) (gCons (gName 5) gNil))) (tt := tYes) (te := tTup (tCons (tVar 4) (tCons (tOp (rIxL K) (tDGet (tVar 2) (tC (.str "names"))) (tVar 5)) tNil))) rfl scDc.nd (pi_zip (by rfl) T.zip (pa_cons (pe_dget hu (pv 1) pe_str (fun _ _ => rfl)) (pa_cons (pv 3) pa_nil)))
          (blkOk_by (N := nDc) (sc := defScope sDict) (by decide +kernel)) (fun _ _ _ _ _ => pg_tup rfl (pgs_cons (pg_name (i := 4) scDc.nd rfl (Or.inl rfl)) (pgs_cons (pg_name (i := 5) scDc.nd rfl (Or.inl rfl)) pgs_nil))) (fun _ _ _ _ _ => pts_nil)
          (fun _ _ _ _ _ => by exact pe_tup (pa_cons (pv 4) (pa_cons (pe_ix ix_list (pe_dget hu (pv 2) pe_str (fun _ _ => rfl)) (pv 5) (fun _ _ => rfl)) pa_nil)))) pa_nil)) pa_nil)))), ?_⟩
    refine ⟨_, rfl, _, rfl, wo, _, rfl, dg_names hwo, _, rfl, ao, ld, _, _, rfl, SqL.of hao, SqL.of hld, fun D hD => ?_⟩
    refine lc_it (walk_zip (xs := nm'.map V.str) (ys := natV led) (n := nm'.length) (by rw [List.length_map, List.length_map]; omega)) (fun i H2 => ∃ ps : List Addr, H2 D = some (.lst (ps.map V.ref)) ∧ ps.length = i ∧ Paired (fun p kv => H2 p = some (.tup [kV kv.1, kv.2])) ps ((leadKV nm' nm led).take i) ∧ Same H H2) ⟨[], upd_same, rfl, .nil, same_new hD⟩ (fun i H2 _ ⟨_, _, _, _, h⟩ => ⟨SqL.of (h _ _ hao), SqL.of (h _ _ hld)⟩) ?_ ?_
    · rintro i x H2 H3 hi ⟨ps, hD2, hpsl, pr, s2⟩ ⟨T, x1, y1, rfl, hT, rfl, e1, e2⟩
      have e1 : (nm'.map V.str)[i]? = some x1 := e1
      have e2 : (natV led)[i]? = some y1 := e2
      rw [List.getElem?_map] at e1 e2
      obtain ⟨x0, hx0, rfl⟩ := Option.map_eq_some_iff.mp e1
      obtain ⟨y0, hy0, rfl⟩ := Option.map_eq_some_iff.mp e2
      have hyn := hln y0 (List.mem_of_getElem? hy0)
      obtain ⟨z0, hz0⟩ : ∃ z0, nm[y0]? = some z0 := ⟨_, List.getElem?_eq_getElem hyn⟩
      have sT := same_new (o := .tup [V.str x0, V.int (y0 : Int)]) hT
      refine ⟨T, _, rfl, SqT.of upd_same, rfl, _, _, rfl, _, _, rfl, rfl, rfl, tyes ?_⟩
      refine ⟨_, rfl, _, rfl, ww, _, rfl, dg_names (sT _ _ (s2 _ _ hww)), _, rfl, aw, _, _, V.str z0, rfl, rfl, SqL.of (sT _ _ (s2 _ _ haw)), atI_nat (by rw [List.getElem?_map, hz0]; rfl), (by show 2 ≤ sizeLine; decide), fun u hu => ?_⟩
      have su := sT.trans (same_new (o := .tup [V.str x0, V.str z0]) hu)
      have nDu : u ≠ D := fun e => by subst e; rw [sT _ _ hD2] at hu; cases hu
      refine ⟨_, su _ _ hD2, Evl.sz_lt (by rw [List.length_map]; omega), ps ++ [u], by rw [upd_same, List.map_append]; rfl, by simp [hpsl], ?_, fun b o e => ?_⟩
      · have e : (leadKV nm' nm led)[i]? = some (Sum.inr x0, V.str z0) := by
          unfold leadKV
          have hz : (nm'.zip led)[i]? = some (x0, y0) := by rw [List.getElem?_zip_eq_some]; exact ⟨hx0, hy0⟩
          rw [List.getElem?_map, hz]
          simp [hz0]
        rw [List.take_add_one, e]
        refine paired_snoc (Paired.mapP pr fun p kv h => ?_) ?_
        · rw [upd_ne (ne_of h hD2 (by intro z; cases z))]
          exact su _ _ h
        · rw [upd_ne nDu]
          exact upd_same
      · rw [upd_ne (ne_of_none e hD)]
        exact su _ _ (s2 b o e)
    · rintro H2 ⟨ps, hD2, hpsl, pr, s2⟩
      have hlk : (leadKV nm' nm led).length = nm'.length := by unfold leadKV; simp; omega
      rw [List.take_of_length_le (by omega)] at pr
      refine ⟨D, ps, leadKV nm' nm led, rfl, SqL.of hD2, Paired.mapP pr fun p kv h => SqT.of h, fun r hr => ?_⟩
      have lnd := lead_nd (nm := nm) hll nd
      have s3 := s2.trans (same_new (o := .dK (mergeK [] (leadKV nm' nm led))) hr)
      have S3 := S.same s3
      refine ⟨sa, ca, r, leadKV nm' nm led, rfl, S3, ?_, (S.ne (s2.free hr)).1, lnd, by omega, fun p kvs' H' hp pm hp' S' kp' => ?_⟩
      · rw [upd_same, merge_nd (acc := []) (by simpa using lnd)]
        rfl
      · exact k p kvs' H' (s3.free hp) pm hp' S' ((Kp.same s3).trans kp')
end
end Nm
set_option maxRecDepth 100000
set_option maxHeartbeats 4000000
namespace Nm
open PySem L2
/-- the places below i that are led to q -/
def posU (led : List Nat) (i q : Nat) : List Nat := (List.range i).filter fun w => decide (led[w]? = some q)
theorem posU_yes {led : List Nat} {i q : Nat} (h : led[i]? = some q) : posU led (i + 1) q = posU led i q ++ [i] := by
  unfold posU
  rw [List.range_succ, List.filter_append]
  simp [h]
theorem posU_no {led : List Nat} {i q q' : Nat} (h : led[i]? = some q') (hn : q ≠ q') : posU led (i + 1) q = posU led i q := by
  unfold posU
  rw [List.range_succ, List.filter_append]
  simp [h]
  exact fun e => hn e.symm
theorem posU_len (led : List Nat) (i q : Nat) : (posU led i q).length ≤ i := by
  unfold posU
  have := List.length_filter_le (fun w => decide (led[w]? = some q)) (List.range i)
  rw [List.length_range] at this
  exact this
theorem posU_lt {led : List Nat} {i q w : Nat} (h : w ∈ posU led i q) : w < i := List.mem_range.mp (List.mem_filter.mp h).1
structure TxtG (mg : Str → Option Value) : Prop extends TxtF mg where
  isinstance : mg "isinstance" = none
  all : mg "all" = none
  bool : mg "bool" = none
  letters : ∃ t, mg "LETTERS" = some (.str "abcdefghijklmnopqrstuvwxyz" t)
  digits : ∃ t, mg "DIGITS" = some (.str "0123456789" t)
section
variable {P : Program} {w : World} {K : PySem.W.Frag} {mg : Str → Option Value} {base : Heap}
/-! ### _law_above -/
def spAbove : Sp := fun vs H Q _ => ∃ (ld : Addr) (led : List Nat) (n : Nat), vs = [.ref ld, .int (n : Int)] ∧ H ld = some (.lst (natV led)) ∧ led.length ≤ 1000 ∧ n ≤ 1000 ∧ (∀ x ∈ led, x < n) ∧
  ∀ (f : Addr) (as : List Addr) (H' : Hp), H f = none → H' f = some (.lst (as.map V.ref)) → as.length = n → (∀ q a, as[q]? = some a → H a = none ∧ H' a = some (.lst (natV (posU led led.length q)))) → Same H H' → Q (.ref f) H'
abbrev nAb : List Str := ["_law_led", "_law_many", "_law_p", "_law_found", "_law_w"]
theorem scAb : FnScope nAb ["_law_led", "_law_many"] (defScope sAbove) := ⟨rfl, rfl, rfl, by decide +kernel, rfl, by decide +kernel, by decide +kernel⟩
theorem ok_above {f : Addr} {fd : FuncData} (F : Fun K "_law_above" "_law_above" sAbove f fd) (T : TxtF mg) : FnOk P w K mg base CX0 1 f fd ["_law_led", "_law_many"] spAbove := by
  refine F.ok scAb (fun vs H Q E h => ?_) (fun cdv A outer s H vs Q E hr h => ?_)
  · obtain ⟨_, _, _, rfl, _⟩ := h
    rfl
  · obtain ⟨ld, led, n, rfl, hld, hl, hn, hln, k⟩ := h
    refine ⟨_, Evl.pss_cut (ps_setLc (i := 3) (own := [("_law_p", 2)]) (g := gName 2) (tt := tYes) rfl scAb.nd rfl rfl (sw_true rfl rfl rfl (by decide +kernel)) (pi_range1 (by rfl) T.range (pa_cons (pv 1) pa_nil))
        (blkOk_by (N := nAb) (sc := defScope sAbove) (by decide +kernel)) (fun _ _ _ _ _ => pg_name (i := 2) scAb.nd rfl (Or.inl rfl)) (fun _ _ _ _ _ => pts_nil) (fun _ _ _ _ _ => pe_lst pa_nil))
      (pss_cons (ps_for PassesOwn.never rfl (pi_enum (by rfl) T.enumerate (pa_cons (pv 0) pa_nil)) (pg_tup rfl (pgs_cons (pg_name (i := 4) scAb.nd rfl (.inl rfl)) (pgs_cons (pg_name (i := 2) scAb.nd rfl (.inl rfl)) pgs_nil)))
        (pss_one (ps_expr (pe_bm PySem.F.plainAttrs_list PySem.F.slot_list_append PySem.F.type_list_append mt_append (pe_ix ix_list (pv 3) (pv 2) (fun _ _ => rfl)) (pa_cons (pv 4) pa_nil)))))
      (pss_one (ps_ret (pv 3)))), ?_⟩
    refine ⟨fun σ H1 => ∃ f as, σ = [some (.ref ld), some (.int (n : Int)), none, some (.ref f), none] ∧ H f = none ∧ H1 f = some (.lst (List.map V.ref as)) ∧ as.length = n ∧ as.Nodup ∧ f ∉ as ∧ (∀ a ∈ as, H a = none ∧ H1 a = some (.lst [])) ∧ Same H H1, ?_, ?_⟩
    · refine ⟨_, rfl, _, rfl, by omega, by omega, fun D hD => ?_⟩
      refine lc_range (lo := 0) (n := (n : Int).toNat) (fun i H1 => ∃ as, H1 D = some (.lst (List.map V.ref as)) ∧ as.length = i ∧ as.Nodup ∧ D ∉ as ∧ (∀ a ∈ as, H a = none ∧ H1 a = some (.lst [])) ∧ Same H H1) ⟨[], upd_same, rfl, List.nodup_nil, by simp, (fun a ha => (List.not_mem_nil ha).elim), same_new hD⟩ ?_ ?_
      · rintro i H1 hi ⟨as, hD1, hal, hand, hDa, hae, s1⟩
        refine ⟨rfl, tyes ?_⟩
        refine ⟨(by show 0 ≤ sizeLine; decide), fun u hu => ?_⟩
        have su := same_new (o := .lst []) hu
        have nDu : u ≠ D := fun e => by subst e; rw [hD1] at hu; cases hu
        have hua : u ∉ as := fun hm => by have := (hae u hm).2; rw [hu] at this; cases this
        refine ⟨_, su _ _ hD1, Evl.sz_lt (by rw [List.length_map]; omega), as ++ [u], by rw [upd_same, List.map_append]; rfl, by simp [hal], ?_, ?_, ?_, fun b o e => ?_⟩
        · rw [List.nodup_append]
          refine ⟨hand, by simp, fun a ha b hb e => ?_⟩
          rw [List.mem_singleton] at hb
          subst hb e
          exact hua ha
        · simp [hDa]
          exact fun e => nDu e.symm
        · intro a ha
          rcases List.mem_append.mp ha with z | z
          · have na : a ≠ D := fun e => by subst e; exact hDa z
            exact ⟨(hae a z).1, by rw [upd_ne na]; exact su _ _ (hae a z).2⟩
          · rw [List.mem_singleton] at z
            subst z
            exact ⟨s1.free hu, by rw [upd_ne nDu]; exact upd_same⟩
        · rw [upd_ne (ne_of_none e hD)]
          exact su _ _ (s1 b o e)
      · rintro H1 ⟨as, hD1, hal, hand, hDa, hae, s1⟩
        exact ⟨D, as, rfl, hD, hD1, by omega, hand, hDa, hae, s1⟩
    rintro σ H1 ⟨f, as, rfl, hf0, hf, hal, hand, hfa, hae, s1⟩
    refine ⟨_, rfl, ld, _, rfl, SqL.of (s1 _ _ hld), ?_⟩
    refine for_it (walk_enum (xs := natV led)) (fun i σ H2 => ∃ v2 v4, σ = [some (.ref ld), some (.int (n : Int)), v2, some (.ref f), v4] ∧ H2 f = some (.lst (List.map V.ref as)) ∧ (∀ q a, as[q]? = some a → H2 a = some (.lst (natV (posU led i q)))) ∧ Same H H2)
      ⟨none, none, rfl, hf, fun q a ha => (hae a (List.mem_of_getElem? ha)).2, s1⟩ (fun i σ H2 _ ⟨_, _, _, _, _, h⟩ => SqL.of (h _ _ hld)) ?_ ?_
    · rintro i x σ H2 H3 hi ⟨v2, v4, rfl, hf2, hq2, s2⟩ ⟨T', x1, y1, rfl, hT, rfl, e1, e2⟩
      rw [List.length_map] at hi
      have e2 : (natV led)[i]? = some y1 := e2
      rw [List.getElem?_map] at e2
      obtain ⟨q, hq, rfl⟩ := Option.map_eq_some_iff.mp e2
      cases e1
      have hqn := hln q (List.mem_of_getElem? hq)
      obtain ⟨a, ha⟩ : ∃ a, as[q]? = some a := ⟨_, List.getElem?_eq_getElem (by omega)⟩
      have haf : a ≠ f := fun e => by subst e; exact hfa (List.mem_of_getElem? ha)
      have sT := same_new (o := .tup [V.int (i : Nat), V.int (q : Int)]) hT
      have ha3 := sT _ _ (hq2 q a ha)
      refine ⟨T', _, rfl, SqT.of upd_same, rfl, _, _, rfl, _, _, rfl, rfl, ?_⟩
      refine ⟨_, rfl, _, rfl, f, _, _, V.ref a, rfl, rfl, SqL.of (sT _ _ hf2), atI_nat (by rw [List.getElem?_map, ha]; rfl), .inl ⟨rfl, _, SqL.of ha3⟩, _, rfl, a, _, _, rfl, rfl, ha3, Evl.sz_lt (by rw [List.length_map]; have := posU_len led i q; omega), ?_⟩
      refine ⟨_, _, rfl, by rw [upd_ne haf.symm]; exact sT _ _ hf2, fun q' a' ha' => ?_, fun b o e => ?_⟩
      · by_cases e : q' = q
        · subst e
          rw [ha] at ha'
          cases ha'
          rw [upd_same, posU_yes hq]
          unfold natV
          rw [List.map_append]
          rfl
        · have naa : a' ≠ a := fun z => by
            subst z
            have h1 := (List.getElem?_eq_some_iff.mp ha').1
            have h2 := (List.getElem?_eq_some_iff.mp ha).1
            exact e ((List.getElem?_inj h1 hand).mp (by rw [ha, ha']))
          rw [upd_ne naa, posU_no hq e]
          exact sT _ _ (hq2 q' a' ha')
      · rw [upd_ne (ne_of_none e (hae a (List.mem_of_getElem? ha)).1)]
        exact sT _ _ (s2 b o e)
    · rintro σ H2 ⟨v2, v4, rfl, hf2, hq2, s2⟩
      rw [List.length_map] at hq2
      exact ⟨_, rfl, k f as H2 hf0 hf2 hal (fun q a ha => ⟨(hae a (List.mem_of_getElem? ha)).1, hq2 q a ha⟩) s2⟩
/-! ### is_word, is_number -/
def spWord : Sp := fun vs H Q _ => ∃ z : Str, vs = [.str z] ∧ isWordB z = true ∧ ∀ H', Same H H' → Q (.bl true) H'
abbrev nWord : List Str := ["value", "letters", "letter"]
theorem scWord : FnScope nWord ["value"] (defScope sIsWord) := ⟨rfl, rfl, rfl, by decide +kernel, rfl, by decide +kernel, by decide +kernel⟩
theorem ok_word {f : Addr} {fd : FuncData} (F : Fun K "is_word" "is_word" sIsWord f fd) (T : TxtG mg) : FnOk P w K mg base CX0 1 f fd ["value"] spWord := by
  obtain ⟨tl, Tl⟩ := T.letters
  obtain ⟨td, Td⟩ := T.digits
  refine F.ok scWord (fun vs H Q E h => ?_) (fun cdv A outer s H vs Q E hr h => ?_)
  · obtain ⟨_, rfl, _⟩ := h
    rfl
  · obtain ⟨z, rfl, hz, k⟩ := h
    refine ⟨_, pss_cons (ps_if (pt_not (pt_val (pe_callB call_isi (by rfl) T.isinstance (by decide +kernel) (pa_cons (pv 0) (pa_cons (pe_bltn (v := .ty "str") (by rfl) T.str (by decide +kernel) rfl) pa_nil))))) (pss_one (ps_ret pe_bl)) pss_nil)
      (pss_cons (ps_set (i := 1) scWord.nd rfl (Or.inl rfl) (pe_bm PySem.F.plainAttrs_str PySem.F.slot_str_rstrip PySem.F.type_str_rstrip mt_rstripChars (pv 0) (pa_cons (pe_glob (v := .str "0123456789") (by rfl) Td ⟨_, rfl⟩) pa_nil)))
      (pss_cons (ps_if (PW.pt (pw_or (pt_not (pt_chain op_le op_le pe_int (pe_callB call_len_str (by rfl) T.len PySem.boot_len (pa_cons (pv 1) pa_nil)) pe_int)) (pw_or1 (pt_cmpR op_gt (pe_op op_sub (pe_callB call_len_str (by rfl) T.len PySem.boot_len (pa_cons (pv 0) pa_nil)) (pe_callB call_len_str (by rfl) T.len PySem.boot_len (pa_cons (pv 1) pa_nil))) pe_int (nomark _))))) (pss_one (ps_ret pe_bl)) pss_nil)
      (pss_one (ps_ret (pe_callB (cr_all rfl) (by rfl) T.all (by decide +kernel) (pa_cons (pe_lc (own := [("letter", 2)]) (g := gName 2) (tt := tYes) rfl scWord.nd (pi_str (pv 1))
          (blkOk_by (N := nWord) (sc := defScope sIsWord) (by decide +kernel)) (fun _ _ _ _ _ => pg_name (i := 2) scWord.nd rfl (Or.inl rfl)) (fun _ _ _ _ _ => pts_nil)
          (fun _ _ _ _ _ => pe_cmpR op_in_sign (pv 2) (pe_glob (v := .str "abcdefghijklmnopqrstuvwxyz") (by rfl) Tl ⟨_, rfl⟩) (by rfl))) pa_nil)))))), ?_⟩
    unfold isWordB at hz
    simp only [Bool.and_eq_true, decide_eq_true_eq, List.all_eq_true] at hz
    obtain ⟨⟨⟨⟨h100, h1⟩, h8⟩, h4⟩, hall⟩ := hz
    refine ⟨_, rfl, _, _, _, _, true, rfl, ClsV.ty "str", TyX.base (TyOf.str z), kit_ty (by decide +kernel), _, rfl, iteF ?_⟩
    refine ⟨_, rfl, ?_, _, _, rfl, rfl, Evl.sz_of (by omega), ?_⟩
    · rfl
    refine ⟨_, rfl, _, rfl, Evl.sz_of (show (letB z).length ≤ 100000 by omega), _, _, rfl, rfl, _, rfl, ?_⟩
    have c1 : decide ((1 : Int) ≤ ((letB z).length : Int)) = true := decide_eq_true (by omega)
    have c2 : decide (((letB z).length : Int) ≤ 8) = true := decide_eq_true (by omega)
    have c3 : decide ((4 : Int) < (z.length : Int) - ((letB z).length : Int)) = false := decide_eq_false (by omega)
    show (if decide ((1 : Int) ≤ ((letB z).length : Int)) = true then _ else _)
    rw [if_pos c1]
    refine ⟨_, _, rfl, rfl, _, rfl, ?_⟩
    show (if (!decide (((letB z).length : Int) ≤ 8)) = true then _ else _)
    rw [c2]
    refine iteF ?_
    refine ⟨_, rfl, _, rfl, Evl.sz_of (by omega), _, rfl, _, rfl, Evl.sz_of (show (letB z).length ≤ 100000 by omega), _, _, rfl, rfl, _, _, rfl, rfl, _, rfl, ?_⟩
    show (if decide ((4 : Int) < (z.length : Int) - ((letB z).length : Int)) = true then _ else _)
    rw [c3]
    refine iteF ?_
    refine ⟨_, rfl, letB z, rfl, fun D hD => ?_⟩
    refine lc_it walk_str (fun i H1 => ∃ bs : List Bool, H1 D = some (.lst (bs.map V.bl)) ∧ bs.length = i ∧ (∀ b ∈ bs, b = true) ∧ Same H H1) ⟨[], upd_same, rfl, (fun b hb => (List.not_mem_nil hb).elim), same_new hD⟩ (fun _ _ _ _ => trivial) ?_ ?_
    · rintro i x H1 H2 hi ⟨bs, hD1, hbl, hbt, s1⟩ ⟨rfl, c, hc, rfl⟩
      have hi8 : i < 8 := by
        have : (letB z).cps.size = (letB z).length := rfl
        omega
      have hcm : c ∈ (letB z).cps.toList := by
        rw [← Array.getElem?_toList] at hc
        exact List.mem_of_getElem? hc
      have hin : decide (c ∈ ("abcdefghijklmnopqrstuvwxyz" : Str).cps.toList) = true := decide_eq_true (hall c hcm)
      refine ⟨rfl, tyes ?_⟩
      refine ⟨_, rfl, c, _, rfl, rfl, _, hD1, Evl.sz_lt (by rw [List.length_map]; omega), bs ++ [true], ?_, by simp [hbl], ?_, fun b o e => ?_⟩
      · rw [upd_same, List.map_append, hin]
        rfl
      · intro b hb
        rcases List.mem_append.mp hb with q | q
        · exact hbt b q
        · exact List.mem_singleton.mp q
      · rw [upd_ne (ne_of_none e hD)]
        exact s1 b o e
    · rintro H1 ⟨bs, hD1, hbl, hbt, s1⟩
      refine ⟨D, bs, rfl, SqL.of hD1, ?_⟩
      have : bs.all id = true := List.all_eq_true.mpr fun b hb => hbt b hb
      rw [this]
      exact k H1 s1
def spInteger : Sp := fun vs H Q _ => ∃ i : Int, vs = [.int i] ∧ Q (.bl true) H
theorem scInteger : FnScope ["value"] ["value"] (defScope sIsInteger) := ⟨rfl, rfl, rfl, by decide +kernel, rfl, by decide +kernel, by decide +kernel⟩
theorem ok_integer {f : Addr} {fd : FuncData} (F : Fun K "is_integer" "is_integer" sIsInteger f fd) (T : TxtG mg) : FnOk P w K mg base CX0 1 f fd ["value"] spInteger := by
  refine F.ok scInteger (fun vs H Q E h => ?_) (fun cdv A outer s H vs Q E hr h => ?_)
  · obtain ⟨_, rfl, _⟩ := h
    rfl
  · obtain ⟨i, rfl, k⟩ := h
    refine ⟨_, pss_one (ps_ret (pe_and (pe_callB call_isi (by rfl) T.isinstance (by decide +kernel) (pa_cons (pv 0) (pa_cons (pe_bltn (v := .ty "int") (by rfl) T.int (by decide +kernel) rfl) pa_nil)))
      (pe_one (pe_not (pe_callB call_isi (by rfl) T.isinstance (by decide +kernel) (pa_cons (pv 0) (pa_cons (pe_bltn (v := .ty "bool") (by rfl) T.bool (by decide +kernel) rfl) pa_nil))))))), ?_⟩
    refine ⟨_, rfl, _, _, _, _, true, rfl, ClsV.ty "int", TyX.base (TyOf.int i), kit_ty (by decide +kernel), _, rfl, iteT ?_⟩
    exact ⟨_, rfl, _, _, _, _, false, rfl, ClsV.ty "bool", TyX.base (TyOf.int i), kit_ty (by decide +kernel), _, rfl, k⟩
def spNumber : Sp := fun vs H Q _ => ∃ i l : Int, vs = [.int i, .int l] ∧ Q (.bl (decide (l ≤ i))) H
theorem scNumber : FnScope ["value", "least"] ["value", "least"] (defScope sIsNumber) := ⟨rfl, rfl, rfl, by decide +kernel, rfl, by decide +kernel, by decide +kernel⟩
theorem ok_number {f : Addr} {fd : FuncData} (F : Fun K "is_number" "is_number" sIsNumber f fd) (Gi : Def P w K mg base "is_integer" ["value"] 1 spInteger) : FnOk P w K mg base CX0 2 f fd ["value", "least"] spNumber := by
  obtain ⟨fi, fdi, Gi, mi, ki, bi⟩ := Gi.ex
  refine F.ok scNumber (fun vs H Q E h => ?_) (fun cdv A outer s H vs Q E hr h => ?_)
  · obtain ⟨_, _, rfl, _⟩ := h
    rfl
  · obtain ⟨i, l, rfl, k⟩ := h
    refine ⟨_, pss_one (ps_ret (pe_and (pe_call Gi hr (by rfl) mi ki bi .nil pass0 (pa_cons (pv 0) pa_nil)) (pe_one (pe_cmpR op_ge (pv 0) (pv 1) (nomark _))))), ?_⟩
    refine ⟨_, rfl, i, rfl, _, rfl, iteT ?_⟩
    exact ⟨_, rfl, _, rfl, _, _, rfl, rfl, k⟩
end
end Nm
set_option maxRecDepth 100000
set_option maxHeartbeats 4000000
namespace Nm
open PySem L2
/-- a list of pairs (name, colour) stands at p -/
def PlacesAt (H : Hp) (p : Addr) (nm cl : List Str) : Prop := ∃ ts : List Addr, H p = some (.lst (ts.map V.ref)) ∧ ts.length = nm.length ∧ ∀ (i : Nat) (t : Addr), ts[i]? = some t → ∃ x y, nm[i]? = some x ∧ cl[i]? = some y ∧ H t = some (.tup [.str x, .str y])
section
variable {P : Program} {w : World} {K : PySem.W.Frag} {mg : Str → Option Value} {base : Heap}
/-! ### need_word -/
def spNeedW : Sp := fun vs H Q _ => ∃ x : Str, vs = [.str x] ∧ isWordB x = true ∧ ∀ H', Same H H' → Q .non H'
abbrev nNW : List Str := ["value"]
theorem scNW : FnScope nNW ["value"] (defScope sNeedWord) := ⟨rfl, rfl, rfl, by decide +kernel, rfl, by decide +kernel, by decide +kernel⟩
theorem ok_needW {f : Addr} {fd : FuncData} (F : Fun K "need_word" "need_word" sNeedWord f fd) (_T : TxtG mg) (Gw : Def P w K mg base "is_word" ["value"] 1 spWord) : FnOk P w K mg base CX0 2 f fd ["value"] spNeedW := by
  obtain ⟨fw, fdw, Gw, mw, kw, bw⟩ := Gw.ex
  refine F.ok scNW (fun vs H Q E h => ?_) (fun cdv A outer s H vs Q E hr h => ?_)
  · obtain ⟨_, rfl, _⟩ := h
    rfl
  · obtain ⟨x, rfl, hx, k⟩ := h
    refine ⟨_, pss_one (ps_if (pt_not (pt_val (pe_call Gw hr (by rfl) mw kw bw .nil pass0 (pa_cons (pv 0) pa_nil)))) (pss_one ps_never) pss_nil), ?_⟩
    refine ⟨_, rfl, x, rfl, hx, fun H2 s2 => ⟨_, rfl, iteF ?_⟩⟩
    exact k H2 s2
/-! ### need_once -/
def spOnce : Sp := fun vs H Q _ => ∃ (p : Addr) (nm : List Str), vs = [.ref p] ∧ H p = some (.lst (nm.map V.str)) ∧ nm.length ≤ 1000 ∧ nm.Nodup ∧ ∀ H', Same H H' → Q .non H'
abbrev nNO : List Str := ["names", "told", "name"]
theorem scNO : FnScope nNO ["names"] (defScope sNeedOnce) := ⟨rfl, rfl, rfl, by decide +kernel, rfl, by decide +kernel, by decide +kernel⟩
theorem ok_once {f : Addr} {fd : FuncData} (F : Fun K "need_once" "need_once" sNeedOnce f fd) (T : TxtG mg) : FnOk P w K mg base CX0 1 f fd ["names"] spOnce := by
  refine F.ok scNO (fun vs H Q E h => ?_) (fun cdv A outer s H vs Q E hr h => ?_)
  · obtain ⟨_, _, rfl, _⟩ := h
    rfl
  · obtain ⟨p, nm, rfl, hp, h1000, nd, k⟩ := h
    refine ⟨_, pss_cons (ps_set (i := 1) scNO.nd rfl (Or.inl rfl) (pe_callTy0 cr_set0K (by rfl) T.set (by decide +kernel)))
      (pss_one (ps_for PassesOwn.never rfl (pi_list (pv 0)) (pg_name (i := 2) scNO.nd rfl (.inl rfl))
        (pss_cons (ps_if (pt_cmpR or_sinK (pv 2) (pv 1) (by rfl)) (pss_one ps_never) pss_nil)
        (pss_one (ps_expr (pe_saddK (pv 1) (pa_cons (pv 2) pa_nil))))))), ?_⟩
    refine ⟨rfl, fun se hse => ?_⟩
    have s2 := same_new (o := SetK P w se (fun _ => false) 0) hse
    refine ⟨_, rfl, p, rfl, ⟨_, SqL.of (s2 _ _ hp)⟩, ?_⟩
    refine for_list (xs := nm.map V.str) (fun i σ H2 => ∃ v2 S n, σ = [some (.ref p), some (.ref se), v2] ∧ H2 se = some (SetK P w se S n) ∧ n ≤ i ∧ (∀ k, S k = true → ∃ x ∈ nm.take i, k = Sum.inr x) ∧ Same H H2)
      ⟨none, fun _ => false, 0, rfl, upd_same, Nat.le_refl _, (fun k h => by cases h), s2⟩ (fun i σ H2 _ ⟨_, _, _, _, _, _, _, h⟩ => SqL.of (h _ _ hp)) ?_ ?_
    · rintro i v σ H2 hi ⟨v2, S, n, rfl, hS, hn, hSk, s3⟩
      have hil := (List.getElem?_eq_some_iff.mp hi).1
      rw [List.length_map] at hil
      rw [List.getElem?_map] at hi
      obtain ⟨x, hx, rfl⟩ := Option.map_eq_some_iff.mp hi
      have hxS : S (Sum.inr x) = false := by
        cases e : S (Sum.inr x) with
        | false => rfl
        | true =>
          obtain ⟨x', hx', e'⟩ := hSk _ e
          cases e'
          obtain ⟨j, hj⟩ := List.getElem?_of_mem hx'
          rw [List.getElem?_take] at hj
          split at hj
          · rename_i hji
            have h1 := (List.getElem?_eq_some_iff.mp hj).1
            have h2 := (List.getElem?_eq_some_iff.mp hx).1
            have : j = i := (List.getElem?_inj h1 nd).mp (hj.trans hx.symm)
            omega
          · cases hj
      refine ⟨_, rfl, _, rfl, Sum.inr x, se, S, n, rfl, rfl, hS, _, rfl, ?_⟩
      show (if (if false = true then !S (Sum.inr x) else S (Sum.inr x)) = true then _ else _)
      rw [hxS]
      refine iteF ?_
      refine ⟨_, rfl, ⟨se, S, n, rfl, hS⟩, _, rfl, se, Sum.inr x, S, n, rfl, rfl, hS, by unfold scanBound; omega, ?_⟩
      refine ⟨_, _, _, rfl, upd_same, ?_, ?_, fun b o e => ?_⟩
      · split <;> omega
      · intro k' hk'
        rw [List.take_add_one, hx]
        by_cases e : k' = Sum.inr x
        · exact ⟨x, by simp, e⟩
        · have : S k' = true := by simpa [e] using hk'
          obtain ⟨x', h1, h2⟩ := hSk k' this
          exact ⟨x', List.mem_append_left _ h1, h2⟩
      · rw [upd_ne (ne_of_none e hse)]
        exact s3 b o e
    · rintro σ H2 ⟨v2, S, n, rfl, hS, hn, hSk, s3⟩
      exact k H2 s3
/-! ### need_places -/
def spNeedP : Sp := fun vs H Q _ => ∃ (p : Addr) (nm cl : List Str), vs = [.ref p] ∧ PlacesAt H p nm cl ∧ 1 ≤ nm.length ∧ nm.length ≤ 1000 ∧ nm.Nodup ∧ (∀ x ∈ nm, isWordB x = true) ∧ (∀ x ∈ cl, isWordB x = true) ∧ ∀ H', Same H H' → Q .non H'
abbrev nNP : List Str := ["places", "name", "colour", "_"]
theorem scNP : FnScope nNP ["places"] (defScope sNeedPlaces) := ⟨rfl, rfl, rfl, by decide +kernel, rfl, by decide +kernel, by decide +kernel⟩
theorem ok_needP {f : Addr} {fd : FuncData} (F : Fun K "need_places" "need_places" sNeedPlaces f fd) (T : TxtG mg) (Gw : Def P w K mg base "need_word" ["value"] 2 spNeedW) (Go : Def P w K mg base "need_once" ["names"] 1 spOnce) : FnOk P w K mg base CX0 3 f fd ["places"] spNeedP := by
  obtain ⟨fw, fdw, Gw, mw, kw, bw⟩ := Gw.ex
  obtain ⟨fo, fdo, Go, mo, ko, bo⟩ := Go.ex
  refine F.ok scNP (fun vs H Q E h => ?_) (fun cdv A outer s H vs Q E hr h => ?_)
  · obtain ⟨_, _, _, rfl, _⟩ := h
    rfl
  · obtain ⟨p, nm, cl, rfl, ⟨ts, hp, htl, hts⟩, h1, h1000, nd, hnw, hcw, k⟩ := h
    have hr1 := hr.mono (by decide : 1 ≤ 2)
    refine ⟨_, pss_cons (ps_if (pt_cmpR op_eq (pe_callB call_len_seq (by rfl) T.len PySem.boot_len (pa_cons (pv 0) pa_nil)) pe_int (nomark _)) (pss_one ps_never) pss_nil)
      (pss_cons (ps_for PassesOwn.never rfl (pi_list (pv 0)) (pg_tup rfl (pgs_cons (pg_name (i := 1) scNP.nd rfl (.inl rfl)) (pgs_cons (pg_name (i := 2) scNP.nd rfl (.inl rfl)) pgs_nil)))
        (pss_cons (ps_expr (pe_call Gw hr (by rfl) mw kw bw .nil pass0 (pa_cons (pv 1) pa_nil)))
        (pss_one (ps_expr (pe_call Gw hr (by rfl) mw kw bw .nil pass0 (pa_cons (pv 2) pa_nil))))))
      (pss_one (ps_expr (pe_call Go hr1 (by rfl) mo ko bo .nil pass0 (pa_cons (pe_lc (own := [("name", 1), ("_", 3)]) (g := gTup K 2 (gCons (gName 1) (gCons (gName 3) gNil))) (tt := tYes) (te := tVar 1) rfl scNP.nd (pi_list (pv 0)) (blkOk_by (N := nNP) (sc := defScope sNeedPlaces) (by decide +kernel))
          (fun _ _ _ _ _ => pg_tup rfl (pgs_cons (pg_name (i := 1) scNP.nd rfl (Or.inl rfl)) (pgs_cons (pg_name (i := 3) scNP.nd rfl (Or.inl rfl)) pgs_nil))) (fun _ _ _ _ _ => pts_nil) (fun _ _ _ _ _ => pv 1)) pa_nil))))), ?_⟩
    refine ⟨_, rfl, p, _, rfl, .inl (SqL.of hp), rfl, _, rfl, ?_⟩
    refine ite2 (fun h => ?_) (fun _ => ?_)
    · have h := of_decide_eq_true h
      injection h with h
      rw [List.length_map] at h
      omega
    refine ⟨_, rfl, p, rfl, ⟨_, SqL.of hp⟩, ?_⟩
    refine for_list (xs := ts.map V.ref) (fun i σ H1 => ∃ v1 v2, σ = [some (.ref p), v1, v2, none] ∧ Same H H1) ⟨none, none, rfl, Same.refl H⟩ (fun i σ H1 _ ⟨_, _, _, h⟩ => SqL.of (h _ _ hp)) ?_ ?_
    · rintro i v σ H1 hi ⟨v1, v2, rfl, s1⟩
      rw [List.getElem?_map] at hi
      obtain ⟨t, ht, rfl⟩ := Option.map_eq_some_iff.mp hi
      obtain ⟨x, y, hx, hy, htt⟩ := hts i t ht
      refine ⟨t, _, rfl, SqT.of (s1 _ _ htt), rfl, _, _, rfl, _, _, rfl, rfl, ?_⟩
      refine ⟨_, rfl, x, rfl, hnw x (List.mem_of_getElem? hx), fun H2 s2 => ?_⟩
      refine ⟨_, rfl, y, rfl, hcw y (List.mem_of_getElem? hy), fun H3 s3 => ?_⟩
      exact ⟨_, _, rfl, (s1.trans s2).trans s3⟩
    rintro σ H1 ⟨v1, v2, rfl, s1⟩
    refine ⟨_, rfl, p, rfl, ⟨_, SqL.of (s1 _ _ hp)⟩, fun D hD => ?_⟩
    have hp1 := s1 _ _ hp
    refine lc_list (xs := ts.map V.ref) (fun i H4 => H4 D = some (.lst ((nm.take i).map V.str)) ∧ Same H1 H4) ⟨upd_same, same_new hD⟩ (fun i H4 _ h => SqL.of (h.2 _ _ hp1)) ?_ ?_
    · rintro i x H4 hx ⟨hD4, s4⟩
      have hi := (List.getElem?_eq_some_iff.mp hx).1
      rw [List.length_map] at hi
      rw [List.getElem?_map] at hx
      obtain ⟨t, ht, rfl⟩ := Option.map_eq_some_iff.mp hx
      obtain ⟨x, y, hx, hy, htt'⟩ := hts i t ht
      refine ⟨t, _, rfl, SqT.of (s4 _ _ (s1 _ _ htt')), rfl, _, _, rfl, _, _, rfl, rfl, rfl, tyes ?_⟩
      refine ⟨_, rfl, _, hD4, Evl.sz_lt (by rw [List.length_map, List.length_take]; omega), ?_, fun b o e => ?_⟩
      · rw [upd_same, List.take_add_one, hx, List.map_append]
        rfl
      · rw [upd_ne (ne_of_none e hD)]
        exact s4 b o e
    · rintro H4 ⟨hD4, s4⟩
      rw [List.length_map, htl, List.take_of_length_le (Nat.le_refl _)] at hD4
      exact ⟨D, nm, rfl, hD4, h1000, nd, fun H5 s5 => k H5 ((s1.trans s4).trans s5)⟩
end
end Nm
set_option maxRecDepth 100000
set_option maxHeartbeats 4000000
/-! min and max of two texts -/
namespace Nm
open PySem PySem.Spec PyProof.Rows L2
section
variable {prog : Program} {w : World} {A : Around} {E : Value → Shared → Prop} {s : Shared}
def two (a b : Value) : Array Value := #[a, b]
theorem two_at {a b : Value} {i : Nat} {v : Value} (h : (two a b)[i]? = some v) : (i = 0 ∧ v = a) ∨ (i = 1 ∧ v = b) := by
  match i, h with
  | 0, h => left; simpa [two, eq_comm] using h
  | 1, h => right; simpa [two, eq_comm] using h
  | i + 2, h => simp [two] at h
def strAt (x y : Str) (i : Nat) : Str := if i = 0 then x else y
theorem two_str {x y : Str} {t u : Tok} {i : Nat} {v : Value} (h : (two (.str x t) (.str y u))[i]? = some v) : ∃ t', v = .str (strAt x y i) t' := by
  rcases two_at h with ⟨rfl, rfl⟩ | ⟨rfl, rfl⟩
  · exact ⟨t, rfl⟩
  · exact ⟨u, rfl⟩
theorem min_two_strs {x y : Str} {t u : Tok} {Q : Value → Shared → Prop} (hh : A.handled = none)
    (h : ∀ h' tk, (∀ c o, s.heap.get? c = some o → h'.get? c = some o) → Q (if y.cps.toList < x.cps.toList then .str y u else .str x t) { s with heap := h', toks := tk }) :
    wpAny (model prog w) A (call (.builtin "min") [.str x t, .str y u]) Q E s := by
  have hT : (s.heap.push { cls := .type "tuple", data := .seq #[.str x t, .str y u] }).IsTuple s.heap.objs.size (two (.str x t) (.str y u)) := ⟨_, Heap.get?_push_size _ rfl, rfl, 0, rfl⟩
  refine call_min_two (wpAny_pyIter_tuple hT ?_)
  have hsz : (s.heap.push { cls := .type "tuple", data := .seq #[.str x t, .str y u] }).objs.size = s.heap.objs.size + 1 := Heap.size_push ..
  refine ⟨_, [_, s.heap.objs.size], [_], _, _, _, fun i j => decide ((strAt x y i).cps.toList < (strAt x y j).cps.toList), rfl, Walks.tuple (A := A.in1) hh _ s.heap.objs.size (by rw [hsz]; exact Nat.ne_of_lt (Nat.lt_succ_self _)) (two (.str x t) (.str y u)),
    ⟨⟨_, Heap.get?_push_size _ rfl, rfl, rfl⟩, hT.push _⟩, fun c hc => ?_, by simp [two], ?_, fun v h' tk hP hk => ?_⟩
  · show c < ((s.heap.push _).push _).objs.size
    rw [Heap.size_push, hsz]
    rcases List.mem_cons.mp hc with rfl | hc
    · rw [hsz]; exact Nat.lt_succ_self _
    · rcases List.mem_cons.mp hc with rfl | hc
      · exact Nat.lt_succ_of_lt (Nat.lt_succ_self _)
      · cases hc
  · intro i j vi vj s' Q' E' hi hj hq
    obtain ⟨t1, rfl⟩ := two_str hi
    obtain ⟨t2, rfl⟩ := two_str hj
    exact lt_str (t := t1) (u := t2) hq
  · have hold : ∀ c o, s.heap.get? c = some o → h'.get? c = some o := fun c o e => by
      refine hk c o (fun hm => ?_) (Heap.get?_push_of_some _ (Heap.get?_push_of_some _ e))
      rcases List.mem_cons.mp hm with e1 | hm
      · have := Heap.lt_size e; rw [e1, hsz] at this; exact Nat.lt_irrefl _ (Nat.lt_of_succ_lt this)
      · cases hm
    have := h h' tk hold
    have hv : v = if y.cps.toList < x.cps.toList then Value.str y u else Value.str x t := by
      have hP' : (two (.str x t) (.str y u))[argBest (fun i j => decide ((strAt x y i).cps.toList < (strAt x y j).cps.toList)) 1]? = some v := hP
      by_cases hba : y.cps.toList < x.cps.toList
      · have e : argBest (fun i j => decide ((strAt x y i).cps.toList < (strAt x y j).cps.toList)) 1 = 1 := by simp [argBest, strAt, hba]
        rw [e] at hP'
        rw [if_pos hba]
        simpa [two] using hP'.symm
      · have e : argBest (fun i j => decide ((strAt x y i).cps.toList < (strAt x y j).cps.toList)) 1 = 0 := by simp [argBest, strAt, hba]
        rw [e] at hP'
        rw [if_neg hba]
        simpa [two] using hP'.symm
    rw [hv]; exact this
theorem max_two_strs {x y : Str} {t u : Tok} {Q : Value → Shared → Prop} (hh : A.handled = none)
    (h : ∀ h' tk, (∀ c o, s.heap.get? c = some o → h'.get? c = some o) → Q (if x.cps.toList < y.cps.toList then .str y u else .str x t) { s with heap := h', toks := tk }) :
    wpAny (model prog w) A (call (.builtin "max") [.str x t, .str y u]) Q E s := by
  have hT : (s.heap.push { cls := .type "tuple", data := .seq #[.str x t, .str y u] }).IsTuple s.heap.objs.size (two (.str x t) (.str y u)) := ⟨_, Heap.get?_push_size _ rfl, rfl, 0, rfl⟩
  refine call_max_two (wpAny_pyIter_tuple hT ?_)
  have hsz : (s.heap.push { cls := .type "tuple", data := .seq #[.str x t, .str y u] }).objs.size = s.heap.objs.size + 1 := Heap.size_push ..
  refine ⟨_, [_, s.heap.objs.size], [_], _, _, _, fun i j => decide ((strAt x y j).cps.toList < (strAt x y i).cps.toList), rfl, Walks.tuple (A := A.in1) hh _ s.heap.objs.size (by rw [hsz]; exact Nat.ne_of_lt (Nat.lt_succ_self _)) (two (.str x t) (.str y u)),
    ⟨⟨_, Heap.get?_push_size _ rfl, rfl, rfl⟩, hT.push _⟩, fun c hc => ?_, by simp [two], ?_, fun v h' tk hP hk => ?_⟩
  · show c < ((s.heap.push _).push _).objs.size
    rw [Heap.size_push, hsz]
    rcases List.mem_cons.mp hc with rfl | hc
    · rw [hsz]; exact Nat.lt_succ_self _
    · rcases List.mem_cons.mp hc with rfl | hc
      · exact Nat.lt_succ_of_lt (Nat.lt_succ_self _)
      · cases hc
  · intro i j vi vj s' Q' E' hi hj hq
    obtain ⟨t1, rfl⟩ := two_str hi
    obtain ⟨t2, rfl⟩ := two_str hj
    exact PySem.P.gt_str (t := t1) (u := t2) hq
  · have hold : ∀ c o, s.heap.get? c = some o → h'.get? c = some o := fun c o e => by
      refine hk c o (fun hm => ?_) (Heap.get?_push_of_some _ (Heap.get?_push_of_some _ e))
      rcases List.mem_cons.mp hm with e1 | hm
      · have := Heap.lt_size e; rw [e1, hsz] at this; exact Nat.lt_irrefl _ (Nat.lt_of_succ_lt this)
      · cases hm
    have := h h' tk hold
    have hv : v = if x.cps.toList < y.cps.toList then Value.str y u else Value.str x t := by
      have hP' : (two (.str x t) (.str y u))[argBest (fun i j => decide ((strAt x y j).cps.toList < (strAt x y i).cps.toList)) 1]? = some v := hP
      by_cases hba : x.cps.toList < y.cps.toList
      · have e : argBest (fun i j => decide ((strAt x y j).cps.toList < (strAt x y i).cps.toList)) 1 = 1 := by simp [argBest, strAt, hba]
        rw [e] at hP'
        rw [if_pos hba]
        simpa [two] using hP'.symm
      · have e : argBest (fun i j => decide ((strAt x y j).cps.toList < (strAt x y i).cps.toList)) 1 = 0 := by simp [argBest, strAt, hba]
        rw [e] at hP'
        rw [if_neg hba]
        simpa [two] using hP'.symm
    rw [hv]; exact this
end
def minS (x y : Str) : Str := if y.cps.toList < x.cps.toList then y else x
def maxS (x y : Str) : Str := if x.cps.toList < y.cps.toList then y else x
section
variable {X : Cx}
theorem call_min2S (hc : X.calm = true) : CallR X (.builtin "min") (fun xs H Q => ∃ x y, xs = [.str x, .str y] ∧ Q (.str (minS x y)) H) := by
  intro pins s σ H xs us Q I r h
  obtain ⟨x, y, rfl, q⟩ := h
  obtain ⟨u, w', rfl, ⟨t, rfl⟩, ⟨t', rfl⟩⟩ := vals2 r
  refine min_two_strs (I.ok.hd hc) fun h' tk k => ⟨_, H, I.kept k, ?_, q⟩
  unfold minS
  by_cases hj : y.cps.toList < x.cps.toList
  · rw [if_pos hj, if_pos hj]; exact ⟨_, rfl⟩
  · rw [if_neg hj, if_neg hj]; exact ⟨_, rfl⟩
theorem call_max2S (hc : X.calm = true) : CallR X (.builtin "max") (fun xs H Q => ∃ x y, xs = [.str x, .str y] ∧ Q (.str (maxS x y)) H) := by
  intro pins s σ H xs us Q I r h
  obtain ⟨x, y, rfl, q⟩ := h
  obtain ⟨u, w', rfl, ⟨t, rfl⟩, ⟨t', rfl⟩⟩ := vals2 r
  refine max_two_strs (I.ok.hd hc) fun h' tk k => ⟨_, H, I.kept k, ?_, q⟩
  unfold maxS
  by_cases hj : x.cps.toList < y.cps.toList
  · rw [if_pos hj, if_pos hj]; exact ⟨_, rfl⟩
  · rw [if_neg hj, if_neg hj]; exact ⟨_, rfl⟩
end
end Nm
set_option maxRecDepth 100000
set_option maxHeartbeats 4000000
namespace Nm
open PySem L2
theorem val_ex : ∀ {kvs : List (Key × V)} {k : Key}, k ∈ kvs.map (·.1) → ∃ v, valV kvs k = some v
  | kv :: r, k, h => by
    by_cases e : kv.1 = k
    · exact ⟨_, valV_pos e⟩
    · rw [valV_neg e]
      rw [List.map_cons] at h
      rcases List.mem_cons.mp h with z | z
      · exact absurd z.symm e
      · exact val_ex z
/-- a tie as it is told -/
structure TieV where
  x : Str
  y : Str
  kd : Str
  w : Int
def TieV.tup (t : TieV) : List V := [.str t.x, .str t.y, .str t.kd, .int t.w]
structure TieV.Ok (t : TieV) (nm : List Str) : Prop where
  hx : t.x ∈ nm
  hy : t.y ∈ nm
  ne : t.x ≠ t.y
  kw : isWordB t.kd = true
  w1 : 1 ≤ t.w
/-- the spot of a tie -/
def TieV.spot (t : TieV) : List Key := [Sum.inr (minS t.x t.y), Sum.inr (maxS t.x t.y), Sum.inr t.kd]
section
variable {P : Program} {w : World} {K : PySem.W.Frag} {mg : Str → Option Value} {base : Heap}
/-! ### tie_spot -/
def spSpot : Sp := fun vs H Q _ => ∃ (t d : Addr) (tv : TieV) (nm : List Str) (kvs : List (Key × V)), vs = [.ref t, .ref d] ∧ H t = some (.tup tv.tup) ∧ H d = some (.dK kvs) ∧ kvs.map (·.1) = nm.map Sum.inr ∧ tv.Ok nm ∧
  ∀ (r : Addr) (H' : Hp), H r = none → H' r = some (.tup (tv.spot.map kV)) → Same H H' → Q (.ref r) H'
abbrev nSp : List Str := ["tie", "names", "one", "other", "kind", "width"]
theorem scSp : FnScope nSp ["tie", "names"] (defScope sTieSpot) := ⟨rfl, rfl, rfl, by decide +kernel, rfl, by decide +kernel, by decide +kernel⟩
structure TxtH (mg : Str → Option Value) : Prop extends TxtG mg where
  tuple : mg "tuple" = none
theorem ok_spot {f : Addr} {fd : FuncData} (F : Fun K "tie_spot" "tie_spot" sTieSpot f fd) (T : TxtH mg) (Gw : Def P w K mg base "is_word" ["value"] 1 spWord) (Gn : Def P w K mg base "is_number" ["value", "least"] 2 spNumber) : FnOk P w K mg base CX0 3 f fd ["tie", "names"] spSpot := by
  obtain ⟨fw, fdw, Gw, mw, kw, bw⟩ := Gw.ex
  obtain ⟨fn, fdn, Gn, mn, kn, bn⟩ := Gn.ex
  refine F.ok scSp (fun vs H Q E h => ?_) (fun cdv A outer s H vs Q E hr h => ?_)
  · obtain ⟨_, _, _, _, _, rfl, _⟩ := h
    rfl
  · obtain ⟨t, d, tv, nm, kvs, rfl, ht, hd, hk, ok, k⟩ := h
    have hu := hu_of hr
    refine ⟨_, pss_cons (ps_if (PW.pt (pw_or (pt_not (pt_val (pe_callB call_isi (by rfl) T.isinstance (by decide +kernel) (pa_cons (pv 0) (pa_cons (pe_bltn (v := .ty "tuple") (by rfl) T.tuple (by decide +kernel) rfl) pa_nil))))) (pw_or1 (pt_cmpR op_ne (pe_callB call_len_seq (by rfl) T.len PySem.boot_len (pa_cons (pv 0) pa_nil)) pe_int (nomark _))))) (pss_one (ps_ret pe_non)) pss_nil)
      (pss_cons (ps_asg (pv 0) (pg_tup rfl (pgs_cons (pg_name (i := 2) scSp.nd rfl (.inl rfl)) (pgs_cons (pg_name (i := 3) scSp.nd rfl (.inl rfl)) (pgs_cons (pg_name (i := 4) scSp.nd rfl (.inl rfl)) (pgs_cons (pg_name (i := 5) scSp.nd rfl (.inl rfl)) pgs_nil))))))
      (pss_cons (ps_if (PW.pt (pw_or (pt_not (pt_val (pe_callB call_isi (by rfl) T.isinstance (by decide +kernel) (pa_cons (pv 2) (pa_cons (pe_bltn (v := .ty "str") (by rfl) T.str (by decide +kernel) rfl) pa_nil))))) (pw_or (pt_not (pt_val (pe_callB call_isi (by rfl) T.isinstance (by decide +kernel) (pa_cons (pv 3) (pa_cons (pe_bltn (v := .ty "str") (by rfl) T.str (by decide +kernel) rfl) pa_nil))))) (pw_or1 (pt_cmpR op_eq (pv 2) (pv 3) (nomark _)))))) (pss_one (ps_ret pe_non)) pss_nil)
      (pss_cons (ps_if (PW.pt (pw_or (pt_cmp (pc_dnotin hu (pv 2) (pv 1))) (pw_or1 (pt_cmp (pc_dnotin hu (pv 3) (pv 1)))))) (pss_one (ps_ret pe_non)) pss_nil)
      (pss_cons (ps_if (PW.pt (pw_or (pt_not (pt_val (pe_call Gw (hr.mono (by decide)) (by rfl) mw kw bw .nil pass0 (pa_cons (pv 4) pa_nil)))) (pw_or1 (pt_not (pt_val (pe_call Gn hr (by rfl) mn kn bn .nil pass0 (pa_cons (pv 5) (pa_cons pe_int pa_nil)))))))) (pss_one (ps_ret pe_non)) pss_nil)
      (pss_one (ps_ret (pe_tup (pa_cons (pe_callB (call_min2S rfl) (by rfl) T.min (by decide +kernel) (pa_cons (pv 2) (pa_cons (pv 3) pa_nil))) (pa_cons (pe_callB (call_max2S rfl) (by rfl) T.max (by decide +kernel) (pa_cons (pv 2) (pa_cons (pv 3) pa_nil))) (pa_cons (pv 4) pa_nil)))))))))), ?_⟩
    refine ⟨_, rfl, _, _, _, _, true, rfl, ClsV.ty "tuple", TyX.base (TyOf.tup ht), kit_ty (by decide +kernel), _, rfl, iteF ?_⟩
    refine ⟨_, rfl, t, _, rfl, .inr (SqT.of ht), rfl, _, rfl, iteF ?_⟩
    refine ⟨_, rfl, t, _, rfl, SqT.of ht, rfl, _, _, rfl, _, _, rfl, _, _, rfl, _, _, rfl, rfl, ?_⟩
    refine ⟨_, rfl, _, _, _, _, true, rfl, ClsV.ty "str", TyX.base (TyOf.str _), kit_ty (by decide +kernel), _, rfl, iteF ?_⟩
    refine ⟨_, rfl, _, _, _, _, true, rfl, ClsV.ty "str", TyX.base (TyOf.str _), kit_ty (by decide +kernel), _, rfl, iteF ?_⟩
    have hne : decide (V.str tv.x = V.str tv.y) = false := decide_eq_false (fun e => ok.ne (by injection e))
    refine ⟨_, rfl, _, rfl, rfl, _, rfl, ?_⟩
    rw [hne]
    refine iteF ?_
    have there : ∀ z, z ∈ nm → ∃ v, valV kvs (Sum.inr z) = some v := fun z hz => val_ex (by rw [hk]; exact List.mem_map.mpr ⟨z, hz, rfl⟩)
    obtain ⟨vx, hvx⟩ := there tv.x ok.hx
    obtain ⟨vy, hvy⟩ := there tv.y ok.hy
    refine ⟨_, rfl, _, rfl, d, some vx, rfl, (by rw [← hvx]; exact DGet.k (k := Sum.inr tv.x) hd), _, rfl, iteF ?_⟩
    refine ⟨_, rfl, _, rfl, d, some vy, rfl, (by rw [← hvy]; exact DGet.k (k := Sum.inr tv.y) hd), _, rfl, iteF ?_⟩
    refine ⟨_, rfl, tv.kd, rfl, ok.kw, fun H1 s1 => ⟨_, rfl, iteF ?_⟩⟩
    have hw1 : decide ((1 : Int) ≤ tv.w) = true := decide_eq_true ok.w1
    refine ⟨_, rfl, tv.w, 1, rfl, _, rfl, ?_⟩
    rw [hw1]
    refine iteF ?_
    refine ⟨_, rfl, _, rfl, _, _, rfl, _, rfl, _, rfl, _, _, rfl, _, rfl, (by show 3 ≤ sizeLine; decide), fun r hr => ?_⟩
    exact k r _ (s1.free hr) upd_same (s1.trans (same_new hr))
end
end Nm
set_option maxRecDepth 100000
set_option maxHeartbeats 4000000
/-! name = {k: v for ..}, the name a local -/
namespace Nm
open PySem PySem.Spec PyProof.Rows L2
section
variable {X : Cx}
theorem ps_setDc {n : Nat} {z : Str} {zp : Pos} {ke ve tg iter : PySem.Expr} {ifs : List PySem.Expr} {scp : Scope} {own : List (Str × Nat)} {pos spos : Pos} {wi : TI} {g : TG} {tt : TT} {tk tv : TE}
    (calm : X.calm = true) (nd : X.N.Nodup) (at_ : X.N[n]? = some z) (loc : X.env.scope.names.lookup z = some .local)
    (sw : swapsWith (.DictComp ke ve [⟨tg, iter, ifs, 0⟩] scp pos) (some (.Name z zp)) spos.line X.env = pure true) (wlk : PI X tg iter wi) (blk : BlkOk X.N X.env.scope scp own)
    (tgt : ∀ (s : Shared) (H : Hp) (C : Addr) (cs : List (Str × Addr)) (fp : List Addr), PG (X.blk s H scp (compEnvC scp cs C X.env) fp) tg g)
    (tst : ∀ (s : Shared) (H : Hp) (C : Addr) (cs : List (Str × Addr)) (fp : List Addr), PTs (X.blk s H scp (compEnvC scp cs C X.env) fp) ifs tt)
    (key : ∀ (s : Shared) (H : Hp) (C : Addr) (cs : List (Str × Addr)) (fp : List Addr), PE (X.blk s H scp (compEnvC scp cs C X.env) fp) ke tk)
    (val : ∀ (s : Shared) (H : Hp) (C : Addr) (cs : List (Str × Addr)) (fp : List Addr), PE (X.blk s H scp (compEnvC scp cs C X.env) fp) ve tv)
    (fold : ∀ x, foldedSetIterable iter X.env x = pure x := by intro _; rfl) :
    PS X (.Assign [.Name z zp] (.DictComp ke ve [⟨tg, iter, ifs, 0⟩] scp pos) spos) (tAsg (tDc wi g tt tk tv (own.map (·.2))) (gName n)) := by
  refine ⟨fun pins s σ H D I hyp => ?_⟩
  rw [exec_Assign_Name_used _ _ _ _ sw]
  refine wpAny_bind (wpAny_standAt (wpAny_bind ?_))
  show wpAny _ X.A (do let _ ← comprehension (.DictComp ke ve [⟨tg, iter, ifs, 0⟩] scp pos) scp X.env (firstIterPos [⟨tg, iter, ifs, 0⟩] pos) newDict false (eval iter X.env) (some (assign (.Name z zp) X.env))) _ _ s
  have hyp' : tDc wi g tt tk tv (own.map (·.2)) σ H (fun x H1 => gName n x σ H1 D.nx) := hyp
  have core := dc_core (pos := pos) (pos' := firstIterPos [⟨tg, iter, ifs, 0⟩] pos) (use := some (assign (.Name z zp) X.env)) (Qf := fun _ s' => SP X pins D .next s') calm nd I wlk blk tgt tst key val fold hyp' fun L C s' m H' I' q hn f => ?_
  · exact wpAny_bind (thn core fun _ s' hq => wpAny_pure (wpAny_pure hq))
  show wpAny _ _ (assign (.Name z zp) X.env (.ref L)) _ _ _
  refine wpAny_assign_Name (store_ok2 (v := V.ref L) I' nd at_ (.inl loc) rfl (fun s2 I2 ⟨a, sb, ha⟩ => ?_) (.inr loc))
  have ⟨f0, f1, f2, f3, f4, f5⟩ := f
  have haC : C ≠ a := ha.elim (fun e => e ▸ f1) (fun e w => f4 z a e w.symm)
  exact ⟨m, hn.sameBut sb haC, fun h3 sb3 => ⟨_, H', I2.turned (t' := s2.toks) (fun b o hb e => (sb3.2 b hb).trans e) f0 f1 f3 f4 f5, q⟩⟩
theorem sw_dict {ke ve : PySem.Expr} {gs : List Comprehension} {scp : Scope} {pos zp : Pos} {z : Str} {l : Nat} {env : Env} (hk : env.scope.kind = .function) (loc : env.scope.names.lookup z = some .local) (hl : (zp.line == pos.line) = true)
    (ha : (scp.names.any fun (n, k) => n == z && (k == .local || k == .cell)) = false) : swapsWith (.DictComp ke ve gs scp pos) (some (.Name z zp)) l env = pure true := by
  have kz : env.kindOf z = some .local := loc
  have hb : env.blockKind = .function := by
    unfold Env.blockKind
    rw [hk]
    rfl
  unfold swapsWith
  simp only [hb, kz, ha, Expr.pos, hl]
  rfl
end
end Nm
set_option maxRecDepth 100000
set_option maxHeartbeats 4000000
namespace Nm
open PySem L2
/-- a dict comprehension over any walk: P by the turn and the heap, the new dict at D within -/
theorem dc_walk {J : It} {n : Nat} {G : Hp → Prop} {Y : Nat → Hp → V → Hp → Prop} (wk : Walk J n G Y) {g : TG} {tt : TT} {tk tv : TE} {vs : List Nat} {σ : L2.St} {H1 : Hp} {D : Addr} {Qd : Hp → Prop} (Pv : Nat → Hp → Prop) (h0 : Pv 0 (upd H1 D (.dK [])))
    (hG : ∀ i H, i ≤ n → Pv i H → G H)
    (hs : ∀ i x H H', i < n → Pv i H → Y i H x H' → g x (wipe σ vs) H' fun σ2 H2 => wipe σ2 vs = wipe σ vs ∧ tt σ2 H2 fun b H3 =>
      if b = true then tk σ2 H3 fun y H4 => tv σ2 H4 fun z H5 => ∃ kvs k, y = kV k ∧ H5 D = some (.dK kvs) ∧ kvs.length < sizeLine ∧ Pv (i + 1) (upd H5 D (.dK (putK kvs k z))) else Pv (i + 1) H3)
    (hd : ∀ H, Pv n H → Qd H) :
    ∃ W : Nat → Nat → Hp → Prop, (∃ m, W 0 m (upd H1 D (.dK []))) ∧ ∀ i m H, W i m H →
      (J.stop i H ∧ Qd H) ∨ (J.go i H ∧ ∃ Nx : Hp → Prop, (∀ H', Nx H' → ∃ m', m' < m ∧ W (i + 1) m' H') ∧ ∀ x H', J.yld i H x H' → g x (wipe σ vs) H' fun σ2 H2 => wipe σ2 vs = wipe σ vs ∧ tt σ2 H2 fun b H3 =>
        if b = true then tk σ2 H3 fun y H4 => tv σ2 H4 fun z H5 => ∃ kvs k, y = kV k ∧ H5 D = some (.dK kvs) ∧ kvs.length < sizeLine ∧ Nx (upd H5 D (.dK (putK kvs k z))) else Nx H3) := by
  refine ⟨fun i m H => m + i = n ∧ Pv i H, ⟨n, by omega, h0⟩, fun i m H ⟨e, p⟩ => ?_⟩
  have q := hG i H (by omega) p
  cases m with
  | zero =>
    obtain rfl : i = n := by omega
    exact .inl ⟨wk.stops H q, hd H p⟩
  | succ m => exact .inr ⟨wk.goes i H (by omega) q, Pv (i + 1), fun H' p' => ⟨m, by omega, by omega, p'⟩, fun x H' y => hs i x H H' (by omega) p (wk.yields i H x H' (by omega) q y)⟩
/-- names and their places -/
def numKV (nm : List Str) (i : Nat) : List (Key × V) := (nm.zipIdx.take i).map fun p => (Sum.inr p.1, V.int (p.2 : Int))
theorem num_step {nm : List Str} {i : Nat} {x : Str} (h : nm[i]? = some x) : numKV nm (i + 1) = numKV nm i ++ [(Sum.inr x, V.int (i : Int))] := by
  unfold numKV
  have e : nm.zipIdx[i]? = some (x, i) := by simp [h]
  rw [List.take_add_one, e, List.map_append]
  rfl
theorem num_keys (nm : List Str) (i : Nat) : (numKV nm i).map (·.1) = (nm.take i).map Sum.inr := by
  unfold numKV
  rw [List.map_map]
  have : nm.take i = (nm.zipIdx.take i).map (·.1) := by rw [List.map_take]; simp
  rw [this, List.map_map]
  rfl
theorem num_nd {nm : List Str} (nd : nm.Nodup) (i : Nat) : ((numKV nm i).map (·.1)).Nodup := by
  rw [num_keys]
  exact List.Pairwise.map _ (fun a b hab e => hab (Sum.inr.inj e)) ((List.take_sublist i nm).nodup nd)
theorem num_new {nm : List Str} (nd : nm.Nodup) {i : Nat} {x : Str} (h : nm[i]? = some x) : valV (numKV nm i) (Sum.inr x) = none := by
  refine val_none_of fun hm => ?_
  rw [num_keys] at hm
  obtain ⟨y, hy, e⟩ := List.mem_map.mp hm
  cases e
  obtain ⟨j, hj⟩ := List.getElem?_of_mem hy
  rw [List.getElem?_take] at hj
  split at hj
  · rename_i hji
    have h1 := (List.getElem?_eq_some_iff.mp hj).1
    have : j = i := (List.getElem?_inj h1 nd).mp (hj.trans h.symm)
    omega
  · cases hj
theorem num_at {nm : List Str} (nd : nm.Nodup) {i : Nat} {x : Str} (h : nm[i]? = some x) : valV (numKV nm nm.length) (Sum.inr x) = some (V.int (i : Int)) := by
  refine val_of_mem (num_nd nd _) ?_
  unfold numKV
  rw [List.take_of_length_le (by simp)]
  refine List.mem_map.mpr ⟨(x, i), ?_, rfl⟩
  rw [List.mem_zipIdx_iff_getElem?]
  exact h
/-- the row of a tie: its places, the lesser first, its kind, its width -/
structure RowV where
  i : Nat
  j : Nat
  kd : Str
  w : Int
def RowV.key (r : RowV) : Int × List Key := ((r.i : Int), [Sum.inl (r.j : Int), Sum.inr r.kd, Sum.inl r.w])
def RowV.tup (r : RowV) : List V := [.int (r.i : Int), .int (r.j : Int), .str r.kd, .int r.w]
/-- r is the row of t -/
def RowOf (nm : List Str) (t : TieV) (r : RowV) : Prop := ∃ a b, nm[a]? = some t.x ∧ nm[b]? = some t.y ∧ r.i = min a b ∧ r.j = max a b ∧ r.kd = t.kd ∧ r.w = t.w
/-- a list of ties stands at p -/
def TiesAt (H : Hp) (p : Addr) (tl : List TieV) : Prop := ∃ ts : List Addr, H p = some (.lst (ts.map V.ref)) ∧ Paired (fun t tv => H t = some (.tup (TieV.tup tv))) ts tl
/-- the ordered ties: a list of tuples by rows in order -/
def OrdAt (H : Hp) (p : Addr) (nm : List Str) (rs : List RowV) : Prop := ∃ ts : List Addr, H p = some (.lst (ts.map V.ref)) ∧ Paired (fun t (r : RowV) => ∃ x y, nm[r.i]? = some x ∧ nm[r.j]? = some y ∧ H t = some (.tup [.str x, .str y, .str r.kd, .int r.w])) ts rs
def rowBack (H : Hp) : V → RowV
  | .ref b => (match H b with
    | some (.tup [.int i, .int j, .str kd, .int w]) => ⟨i.toNat, j.toNat, kd, w⟩
    | _ => ⟨0, 0, "", 0⟩)
  | _ => ⟨0, 0, "", 0⟩
theorem rowBack_of {H : Hp} {b : Addr} {r : RowV} (h : H b = some (.tup r.tup)) : rowBack H (.ref b) = r := by
  show (match H b with
    | some (.tup [.int i, .int j, .str kd, .int w]) => (⟨i.toNat, j.toNat, kd, w⟩ : RowV)
    | _ => ⟨0, 0, "", 0⟩) = r
  rw [h]
  cases r
  rfl
theorem rows_back {H : Hp} : ∀ {us : List Addr} {rw : List RowV}, Paired (fun u (r : RowV) => H u = some (.tup r.tup)) us rw → (us.map V.ref).map (rowBack H) = rw
  | _, _, .nil => rfl
  | _, _, .cons h t => by
    rw [List.map_cons, List.map_cons, rows_back t, rowBack_of h]
theorem paired_get {α β : Type} {F : α → β → Prop} : ∀ {l : List α} {m : List β} {i : Nat} {a : α}, Paired F l m → l[i]? = some a → ∃ b, m[i]? = some b ∧ F a b
  | _, _, _, _, .nil, h => by simp at h
  | _, _, 0, _, .cons r _, h => by
    simp at h
    subst h
    exact ⟨_, rfl, r⟩
  | _, _, i + 1, _, .cons _ t, h => by
    simp at h
    obtain ⟨b, h1, h2⟩ := paired_get t h
    exact ⟨b, by simpa using h1, h2⟩
theorem paired_mem {α β : Type} {F : α → β → Prop} {l : List α} {m : List β} {a : α} (h : Paired F l m) (hm : a ∈ l) : ∃ b ∈ m, F a b := by
  obtain ⟨i, hi⟩ := List.getElem?_of_mem hm
  obtain ⟨b, h1, h2⟩ := paired_get h hi
  exact ⟨b, List.mem_of_getElem? h1, h2⟩
theorem paired_back {α β : Type} {F : α → β → Prop} : ∀ {l : List α} {m : List β} {b : β}, Paired F l m → b ∈ m → ∃ a ∈ l, F a b
  | _, _, _, .nil, h => (List.not_mem_nil h).elim
  | _, _, b, .cons (a := a) r t, h => by
    rcases List.mem_cons.mp h with e | e
    · subst e
      exact ⟨a, List.mem_cons_self, r⟩
    · obtain ⟨a', h1, h2⟩ := paired_back t e
      exact ⟨a', List.mem_cons_of_mem _ h1, h2⟩
section
variable {P : Program} {w : World} {K : PySem.W.Frag} {mg : Str → Option Value} {base : Heap}
/-! ### ordered_ties -/
def spOrd : Sp := fun vs H Q _ => ∃ (p q : Addr) (nm : List Str) (tl : List TieV), vs = [.ref p, .ref q] ∧ TiesAt H p tl ∧ H q = some (.lst (nm.map V.str)) ∧ nm.Nodup ∧ nm.length ≤ 1000 ∧ tl.length ≤ 20000 ∧ (∀ t ∈ tl, t.Ok nm) ∧
  ∀ (r : Addr) (rs rw : List RowV) (H' : Hp), H r = none → Paired (RowOf nm) tl rw → rs.Perm rw → rs.Pairwise (fun x y => lexK (rowK y.key) (rowK x.key) = false) → OrdAt H' r nm rs → Same H H' → Q (.ref r) H'
abbrev nOrd : List Str := ["ties", "names", "numbers", "rows", "one", "other", "kind", "width", "first", "last", "at", "name"]
theorem scOrd : FnScope nOrd ["ties", "names"] (defScope sOrderedTies) := ⟨rfl, rfl, rfl, by decide +kernel, rfl, by decide +kernel, by decide +kernel⟩
theorem ok_ord {f : Addr} {fd : FuncData} (F : Fun K "ordered_ties" "ordered_ties" sOrderedTies f fd) (T : TxtH mg) : FnOk P w K mg base CX0 1 f fd ["ties", "names"] spOrd := by
  refine F.ok scOrd (fun vs H Q E h => ?_) (fun cdv A outer s H vs Q E hr h => ?_)
  · obtain ⟨_, _, _, _, rfl, _⟩ := h
    rfl
  · obtain ⟨p, q, nm, tl, rfl, ⟨ts, hp, hts⟩, hq, nd, hn, htl, hok, k⟩ := h
    have hu := hu_of hr
    refine ⟨_, Evl.pss_cut (ps_setDc (n := 2) (own := [("at", 10), ("name", 11)]) (g := gTup K 2 (gCons (gName 10) (gCons (gName 11) gNil))) (tt := tYes) rfl scOrd.nd rfl rfl (sw_dict rfl rfl rfl (by decide +kernel)) (pi_enum (by rfl) T.enumerate (pa_cons (pv 1) pa_nil))
        (blkOk_by (N := nOrd) (sc := defScope sOrderedTies) (by decide +kernel)) (fun _ _ _ _ _ => pg_tup rfl (pgs_cons (pg_name (i := 10) scOrd.nd rfl (Or.inl rfl)) (pgs_cons (pg_name (i := 11) scOrd.nd rfl (Or.inl rfl)) pgs_nil))) (fun _ _ _ _ _ => pts_nil) (fun _ _ _ _ _ => pv 11) (fun _ _ _ _ _ => pv 10))
      (pss_cons (ps_set (i := 3) scOrd.nd rfl (Or.inl rfl) (pe_lst pa_nil))
      (Evl.pss_cut (ps_for PassesOwn.never rfl (pi_list (pv 0)) (pg_tup rfl (pgs_cons (pg_name (i := 4) scOrd.nd rfl (.inl rfl)) (pgs_cons (pg_name (i := 5) scOrd.nd rfl (.inl rfl)) (pgs_cons (pg_name (i := 6) scOrd.nd rfl (.inl rfl)) (pgs_cons (pg_name (i := 7) scOrd.nd rfl (.inl rfl)) pgs_nil)))))
        (pss_cons (ps_set (i := 8) scOrd.nd rfl (Or.inl rfl) (pe_callB (call_min2 rfl) (by rfl) T.min (by decide +kernel) (pa_cons (pe_dget hu (pv 2) (pv 4) (fun _ _ => rfl)) (pa_cons (pe_dget hu (pv 2) (pv 5) (fun _ _ => rfl)) pa_nil))))
        (pss_cons (ps_set (i := 9) scOrd.nd rfl (Or.inl rfl) (pe_callB (call_max2 rfl) (by rfl) T.max (by decide +kernel) (pa_cons (pe_dget hu (pv 2) (pv 4) (fun _ _ => rfl)) (pa_cons (pe_dget hu (pv 2) (pv 5) (fun _ _ => rfl)) pa_nil))))
        (pss_one (ps_expr (pe_bm PySem.F.plainAttrs_list PySem.F.slot_list_append PySem.F.type_list_append mt_append (pv 3) (pa_cons (pe_tup (pa_cons (pv 8) (pa_cons (pv 9) (pa_cons (pv 6) (pa_cons (pv 7) pa_nil))))) pa_nil)))))))
      (pss_one (ps_ret (pe_lc (own := [("first", 8), ("last", 9), ("kind", 6), ("width", 7)]) (g := gTup K 4 (gCons (gName 8) (gCons (gName 9) (gCons (gName 6) (gCons (gName 7) gNil))))) (tt := tYes) (te := tTup (tCons (tOp (rIxL K) (tVar 1) (tVar 8)) (tCons (tOp (rIxL K) (tVar 1) (tVar 9)) (tCons (tVar 6) (tCons (tVar 7) tNil))))) rfl scOrd.nd (pi_list (pe_callB cr_sortedO (by rfl) T.sorted (by decide +kernel) (pa_cons (pv 3) pa_nil)))
          (blkOk_by (N := nOrd) (sc := defScope sOrderedTies) (by decide +kernel)) (fun _ _ _ _ _ => pg_tup rfl (pgs_cons (pg_name (i := 8) scOrd.nd rfl (Or.inl rfl)) (pgs_cons (pg_name (i := 9) scOrd.nd rfl (Or.inl rfl)) (pgs_cons (pg_name (i := 6) scOrd.nd rfl (Or.inl rfl)) (pgs_cons (pg_name (i := 7) scOrd.nd rfl (Or.inl rfl)) pgs_nil))))) (fun _ _ _ _ _ => pts_nil)
          (fun _ _ _ _ _ => by exact pe_tup (pa_cons (pe_ix ix_list (pv 1) (pv 8) (fun _ _ => rfl)) (pa_cons (pe_ix ix_list (pv 1) (pv 9) (fun _ _ => rfl)) (pa_cons (pv 6) (pa_cons (pv 7) pa_nil)))))))))), ?_⟩
    -- numbers
    refine ⟨fun σ H1 => ∃ nu, σ = [some (.ref p), some (.ref q), some (.ref nu), none, none, none, none, none, none, none, none, none] ∧ H1 nu = some (.dK (numKV nm nm.length)) ∧ Same H H1, ?_, ?_⟩
    · refine ⟨_, rfl, q, _, rfl, SqL.of hq, fun D hD => ?_⟩
      refine dc_walk (walk_enum (xs := nm.map V.str)) (fun i H1 => H1 D = some (.dK (numKV nm i)) ∧ Same H H1) ⟨upd_same, same_new hD⟩ (fun i H1 _ h => SqL.of (h.2 _ _ hq)) ?_ ?_
      · rintro i x H1 H2 hi ⟨hD1, s1⟩ ⟨T', x1, y1, rfl, hT, rfl, e1, e2⟩
        rw [List.length_map] at hi
        have e2 : (nm.map V.str)[i]? = some y1 := e2
        rw [List.getElem?_map] at e2
        obtain ⟨z, hz, rfl⟩ := Option.map_eq_some_iff.mp e2
        cases e1
        have sT := same_new (o := .tup [V.int (i : Nat), V.str z]) hT
        refine ⟨T', _, rfl, SqT.of upd_same, rfl, _, _, rfl, _, _, rfl, rfl, rfl, tyes ?_⟩
        refine ⟨_, rfl, _, rfl, _, Sum.inr z, rfl, sT _ _ hD1, Evl.sz_lt (by unfold numKV; simp; omega), ?_, fun b o e => ?_⟩
        · rw [upd_same, putK_new _ (num_new nd hz), num_step hz]
        · rw [upd_ne (ne_of_none e hD)]
          exact sT _ _ (s1 b o e)
      · rintro H1 ⟨hD1, s1⟩
        rw [List.length_map] at hD1
        exact ⟨D, rfl, hD1, s1⟩
    rintro σ H1 ⟨nu, rfl, hnu, s1⟩
    refine ⟨(by show 0 ≤ sizeLine; decide), fun ro hro => ?_⟩
    have s2 := s1.trans (same_new (o := .lst []) hro)
    have hnu2 := same_new (o := .lst []) hro _ _ hnu
    have hro2 : (upd H1 ro (.lst [])) ro = some (.lst (List.map V.ref [])) := upd_same
    have hro0 : H ro = none := s1.free hro
    generalize upd H1 ro (.lst []) = H2 at *
    have nnr : nu ≠ ro := ne_of hnu2 hro2 (by intro z; cases z)
    -- rows
    refine ⟨fun σ H3 => ∃ v4 v5 v6 v7 v8 v9 us rw, σ = [some (.ref p), some (.ref q), some (.ref nu), some (.ref ro), v4, v5, v6, v7, v8, v9, none, none] ∧ H3 ro = some (.lst (List.map V.ref us)) ∧ us.length = tl.length ∧ Paired (fun u (r : RowV) => H3 u = some (.tup r.tup)) us rw ∧ Paired (RowOf nm) tl rw ∧ Same H H3, ?_, ?_⟩
    · refine ⟨_, rfl, p, rfl, ⟨_, SqL.of (s2 _ _ hp)⟩, ?_⟩
      have htl2 : ts.length = tl.length := Paired.length hts
      refine for_list (xs := ts.map V.ref) (fun i σ H3 => ∃ v4 v5 v6 v7 v8 v9 us rw, σ = [some (.ref p), some (.ref q), some (.ref nu), some (.ref ro), v4, v5, v6, v7, v8, v9, none, none] ∧ H3 ro = some (.lst (List.map V.ref us)) ∧ us.length = i ∧ Paired (fun u (r : RowV) => H3 u = some (.tup r.tup)) us rw ∧ Paired (RowOf nm) (tl.take i) rw ∧ H3 nu = some (.dK (numKV nm nm.length)) ∧ Same H H3)
        ⟨none, none, none, none, none, none, [], [], rfl, hro2, rfl, .nil, .nil, hnu2, s2⟩ (fun i σ H3 _ ⟨_, _, _, _, _, _, _, _, _, _, _, _, _, _, h⟩ => SqL.of (h _ _ hp)) ?_ ?_
      · rintro i v σ H3 hi ⟨v4, v5, v6, v7, v8, v9, us, rw', rfl, hro3, hul, pu, pr, hnu3, s3⟩
        have hil := (List.getElem?_eq_some_iff.mp hi).1
        rw [List.length_map] at hil
        rw [List.getElem?_map] at hi
        obtain ⟨t, ht, rfl⟩ := Option.map_eq_some_iff.mp hi
        obtain ⟨tv, htv, htt⟩ := paired_get hts ht
        have ok := hok tv (List.mem_of_getElem? htv)
        obtain ⟨a, ha⟩ := List.getElem?_of_mem ok.hx
        obtain ⟨b, hb⟩ := List.getElem?_of_mem ok.hy
        have da : DGet H3 nu (V.str tv.x) (some (V.int (a : Int))) := by rw [← num_at nd ha]; exact DGet.k (k := Sum.inr tv.x) hnu3
        have db : DGet H3 nu (V.str tv.y) (some (V.int (b : Int))) := by rw [← num_at nd hb]; exact DGet.k (k := Sum.inr tv.y) hnu3
        refine ⟨t, _, rfl, SqT.of (s3 _ _ htt), rfl, _, _, rfl, _, _, rfl, _, _, rfl, _, _, rfl, rfl, ?_⟩
        refine ⟨_, rfl, _, rfl, nu, _, rfl, da, _, rfl, _, rfl, nu, _, rfl, db, _, _, rfl, ?_⟩
        refine ⟨_, rfl, _, rfl, nu, _, rfl, da, _, rfl, _, rfl, nu, _, rfl, db, _, _, rfl, ?_⟩
        refine ⟨_, rfl, .inl ⟨rfl, _, SqL.of hro3⟩, _, rfl, _, rfl, _, rfl, _, rfl, (by show 4 ≤ sizeLine; decide), fun u hu => ?_⟩
        have e1 : (if (b : Int) < (a : Int) then (b : Int) else (a : Int)) = ((min a b : Nat) : Int) := by split <;> omega
        have e2 : (if (b : Int) > (a : Int) then (b : Int) else (a : Int)) = ((max a b : Nat) : Int) := by split <;> omega
        rw [e1, e2]
        have su := same_new (o := .tup [V.int ((min a b : Nat) : Int), V.int ((max a b : Nat) : Int), V.str tv.kd, V.int tv.w]) hu
        have nur : u ≠ ro := fun e => by subst e; rw [hro3] at hu; cases hu
        refine ⟨ro, _, _, rfl, rfl, su _ _ hro3, Evl.sz_lt (by rw [List.length_map]; omega), ?_⟩
        refine ⟨_, _, _, _, _, _, us ++ [u], rw' ++ [⟨min a b, max a b, tv.kd, tv.w⟩], rfl, by rw [upd_same, List.map_append]; rfl, by simp [hul], ?_, ?_, by rw [upd_ne nnr]; exact su _ _ hnu3, fun b' o e => ?_⟩
        · refine paired_snoc (Paired.mapP pu fun u' r h => ?_) ?_
          · rw [upd_ne (ne_of h hro3 (by intro z; cases z))]
            exact su _ _ h
          · rw [upd_ne nur]
            exact upd_same
        · rw [List.take_add_one, htv]
          exact paired_snoc pr ⟨a, b, ha, hb, rfl, rfl, rfl, rfl⟩
        · rw [upd_ne (ne_of_none e hro0)]
          exact su _ _ (s3 b' o e)
      · rintro σ H3 ⟨v4, v5, v6, v7, v8, v9, us, rw', rfl, hro3, hul, pu, pr, hnu3, s3⟩
        rw [List.length_map] at hul pr
        rw [htl2, List.take_of_length_le (Nat.le_refl _)] at pr
        exact ⟨v4, v5, v6, v7, v8, v9, us, rw', rfl, hro3, by omega, pu, pr, s3⟩
    rintro σ H3 ⟨v4, v5, v6, v7, v8, v9, us, rw', rfl, hro3, hul, pu, pr, s3⟩
    have inr' : ∀ r ∈ rw', r.i < nm.length ∧ r.j < nm.length := fun r hr' => by
      obtain ⟨tv, _, a, b, ha, hb, e1, e2, _⟩ := paired_back pr hr'
      have h1 := (List.getElem?_eq_some_iff.mp ha).1
      have h2 := (List.getElem?_eq_some_iff.mp hb).1
      omega
    have isr : ∀ y ∈ us.map V.ref, ∃ u r, y = V.ref u ∧ H3 u = some (.tup (RowV.tup r)) ∧ r ∈ rw' ∧ rowBack H3 y = r := fun y hy => by
      obtain ⟨u, hu', rfl⟩ := List.mem_map.mp hy
      obtain ⟨r, hr', hur⟩ := paired_mem pu hu'
      exact ⟨u, r, rfl, hur, hr', rowBack_of hur⟩
    refine ⟨_, rfl, ro, us.map V.ref, fun v => (rowBack H3 v).key, rfl, SqL.of hro3, fun y hy => ?_, fun y hy z hz => .int (.str (.int .nil)), fun ys pp srt pm hpp => ?_⟩
    · obtain ⟨u, r, rfl, hur, _, e⟩ := isr y hy
      refine ⟨u, rfl, ?_⟩
      show H3 u = some (.tup ((rowK (rowBack H3 (V.ref u)).key).map kV))
      rw [e]
      exact hur
    have s4 := same_new (o := .lst ys) hpp
    have hq4 := s4 _ _ (s3 _ _ hq)
    have hyl : ys.length = tl.length := by rw [pm.length_eq, List.length_map]; exact hul
    refine ⟨pp, rfl, ⟨_, SqL.of upd_same⟩, fun D hD => ?_⟩
    have hD0 : H D = none := s3.free (s4.free hD)
    refine lc_list (xs := ys) (fun i H5 => ∃ os : List Addr, H5 D = some (.lst (os.map V.ref)) ∧ os.length = i ∧ Paired (fun t (r : RowV) => ∃ x y, nm[r.i]? = some x ∧ nm[r.j]? = some y ∧ H5 t = some (.tup [.str x, .str y, .str r.kd, .int r.w])) os ((ys.map (rowBack H3)).take i) ∧ Same (upd H3 pp (.lst ys)) H5)
      ⟨[], upd_same, rfl, .nil, same_new hD⟩ (fun i H5 _ ⟨_, _, _, _, h⟩ => SqL.of (h _ _ upd_same)) ?_ ?_
    · rintro i y H5 hi ⟨os, hD5, hol, po, s5⟩
      have hil := (List.getElem?_eq_some_iff.mp hi).1
      obtain ⟨u, r, rfl, hur, hrm, e⟩ := isr y (pm.subset (List.mem_of_getElem? hi))
      obtain ⟨hi1, hj1⟩ := inr' r hrm
      obtain ⟨x1, hx1⟩ : ∃ x1, nm[r.i]? = some x1 := ⟨_, List.getElem?_eq_getElem hi1⟩
      obtain ⟨y1, hy1⟩ : ∃ y1, nm[r.j]? = some y1 := ⟨_, List.getElem?_eq_getElem hj1⟩
      refine ⟨u, _, rfl, SqT.of (s5 _ _ (s4 _ _ hur)), rfl, _, _, rfl, _, _, rfl, _, _, rfl, _, _, rfl, rfl, rfl, tyes ?_⟩
      refine ⟨_, rfl, _, rfl, q, _, _, V.str x1, rfl, rfl, SqL.of (s5 _ _ hq4), atI_nat (by rw [List.getElem?_map, hx1]; rfl), _, rfl, _, rfl, q, _, _, V.str y1, rfl, rfl, SqL.of (s5 _ _ hq4), atI_nat (by rw [List.getElem?_map, hy1]; rfl), _, rfl, _, rfl, (by show 4 ≤ sizeLine; decide), fun o ho => ?_⟩
      have so := same_new (o := .tup [V.str x1, V.str y1, V.str r.kd, V.int r.w]) ho
      have noD : o ≠ D := fun e => by subst e; rw [hD5] at ho; cases ho
      refine ⟨_, so _ _ hD5, Evl.sz_lt (by rw [List.length_map]; omega), os ++ [o], by rw [upd_same, List.map_append]; rfl, by simp [hol], ?_, fun b' o' e' => ?_⟩
      · have e3 : (ys.map (rowBack H3))[i]? = some r := by rw [List.getElem?_map, hi, ← e]; rfl
        rw [List.take_add_one, e3]
        refine paired_snoc (Paired.mapP po fun t' r' ⟨x', y', h1, h2, h3⟩ => ⟨x', y', h1, h2, ?_⟩) ⟨x1, y1, hx1, hy1, by rw [upd_ne noD]; exact upd_same⟩
        rw [upd_ne (ne_of h3 hD5 (by intro z; cases z))]
        exact so _ _ h3
      · rw [upd_ne (ne_of_none e' hD)]
        exact so _ _ (s5 b' o' e')
    · rintro H5 ⟨os, hD5, hol, po, s5⟩
      rw [List.take_of_length_le (by simp)] at po
      refine k D (ys.map (rowBack H3)) rw' H5 hD0 pr ?_ ?_ ⟨os, hD5, po⟩ ((s3.trans s4).trans s5)
      · rw [← rows_back pu]
        exact pm.map _
      · exact List.pairwise_map.mpr srt
end
end Nm
set_option maxRecDepth 100000
set_option maxHeartbeats 4000000
namespace Nm
open PySem L2
/-- what of the class is asked -/
structure TxtW (K : PySem.W.Frag) (mg : Str → Option Value) (C : Addr) : Prop extends TxtH mg where
  cl : Cls K C
  nCo : NoAttr K C "_colour_of"
  nNa : NoAttr K C "_names"
  nTi : NoAttr K C "_ties"
  nWi : NoAttr K C "_width_of"
/-- a web stands at p, the list of its names at q -/
def WebAt (C : Addr) (H : Hp) (p q : Addr) (nm : List Str) : Prop := ∃ dx fs, H p = some (.ins C dx fs) ∧ fs.lookup ("_names" : Str) = some (.ref q) ∧ fs.lookup ("places" : Str) = none ∧ H q = some (.lst (nm.map V.str))
/-- all but what stands at p is kept -/
def But (p : Addr) (H H' : Hp) : Prop := ∀ b o, H b = some o → b ≠ p → H' b = some o
theorem But.of {p : Addr} {H H' : Hp} (h : Same H H') : But p H H' := fun b o e _ => h b o e
theorem But.trans {p : Addr} {H H1 H2 : Hp} (a : But p H H1) (b : But p H1 H2) : But p H H2 := fun c o e n => b c o (a c o e n) n
theorem But.upd {p : Addr} {H : Hp} {o : HO} : But p H (upd H p o) := fun b u e n => by
  rw [upd_ne n]
  exact e
theorem nm_new {nm : List Str} (nd : nm.Nodup) {i : Nat} {x : Str} {kvs : List (Key × V)} (h : nm[i]? = some x) (hk : kvs.map (·.1) = (nm.take i).map Sum.inr) : valV kvs (Sum.inr x) = none := by
  refine val_none_of fun hm => ?_
  rw [hk, ← num_keys] at hm
  have z := num_new nd h
  obtain ⟨v, e⟩ := val_ex hm
  rw [z] at e
  cases e
theorem PlacesAt.but {H H' : Hp} {p pl : Addr} {nm cl : List Str} {C dx : Addr} {fs : List (Str × V)} (h : PlacesAt H pl nm cl) (hp : H p = some (.ins C dx fs)) (b : But p H H') : PlacesAt H' pl nm cl := by
  obtain ⟨ts, h1, h2, h3⟩ := h
  refine ⟨ts, b _ _ h1 (ne_of h1 hp (by intro z; cases z)), h2, fun i t ht => ?_⟩
  obtain ⟨x, y, hx, hy, e⟩ := h3 i t ht
  exact ⟨x, y, hx, hy, b _ _ e (ne_of e hp (by intro z; cases z))⟩
theorem TiesAt.but {H H' : Hp} {p q : Addr} {tl : List TieV} {C dx : Addr} {fs : List (Str × V)} (h : TiesAt H q tl) (hp : H p = some (.ins C dx fs)) (b : But p H H') : TiesAt H' q tl := by
  obtain ⟨ts, h1, h2⟩ := h
  exact ⟨ts, b _ _ h1 (ne_of h1 hp (by intro z; cases z)), Paired.mapP h2 fun t v e => b _ _ e (ne_of e hp (by intro z; cases z))⟩
section
variable {P : Program} {w : World} {K : PySem.W.Frag} {mg : Str → Option Value} {base : Heap}
/-! ### need_ties: what is asked of it -/
def spNeedT : Sp := fun vs H Q _ => ∃ (p d : Addr) (tl : List TieV) (nm : List Str) (kvs : List (Key × V)), vs = [.ref p, .ref d] ∧ TiesAt H p tl ∧ H d = some (.dK kvs) ∧ kvs.map (·.1) = nm.map Sum.inr ∧ (∀ t ∈ tl, t.Ok nm) ∧ (tl.map TieV.spot).Nodup ∧ tl.length ≤ 4000 ∧
  ∀ H', Same H H' → Q .non H'
/-! ### Web.__init__ -/
def spWebI (C : Addr) : Sp := fun vs H Q _ => ∃ (p dx pl tt : Addr) (nm cl : List Str) (tl : List TieV), vs = [.ref p, .ref pl, .ref tt] ∧ H p = some (.ins C dx []) ∧ PlacesAt H pl nm cl ∧ TiesAt H tt tl ∧ 1 ≤ nm.length ∧ nm.length ≤ 1000 ∧ nm.Nodup ∧ (∀ x ∈ nm, isWordB x = true) ∧ (∀ x ∈ cl, isWordB x = true) ∧
  (∀ t ∈ tl, t.Ok nm) ∧ (tl.map TieV.spot).Nodup ∧ tl.length ≤ 4000 ∧ ∀ (q : Addr) (H' : Hp), H q = none → WebAt C H' p q nm → But p H H' → Q .non H'
abbrev nWI : List Str := ["self", "places", "ties", "one", "other", "kind", "width", "name", "colour", "_"]
theorem scWI : FnScope nWI ["self", "places", "ties"] (defScope sWebInit) := ⟨rfl, rfl, rfl, by decide +kernel, rfl, by decide +kernel, by decide +kernel⟩
theorem ok_webI {f C : Addr} {fd : FuncData} (F : Fun K "__init__" "Web.__init__" sWebInit f fd) (T : TxtW K mg C) (Gp : Def P w K mg base "need_places" ["places"] 3 spNeedP) (Gt : Def P w K mg base "need_ties" ["ties", "names"] 4 spNeedT) (Go : Def P w K mg base "ordered_ties" ["ties", "names"] 1 spOrd) :
    FnOk P w K mg base CX0 5 f fd ["self", "places", "ties"] (spWebI C) := by
  obtain ⟨fp, fdp, Gp, mp, kp, bp⟩ := Gp.ex
  obtain ⟨ft, fdt, Gt, mt, kt, bt⟩ := Gt.ex
  obtain ⟨fo, fdo, Go, mo, ko, bo⟩ := Go.ex
  refine F.ok scWI (fun vs H Q E h => ?_) (fun cdv A outer s H vs Q E hr h => ?_)
  · obtain ⟨_, _, _, _, _, _, _, rfl, _⟩ := h
    rfl
  · obtain ⟨p, dx, pl, tt, nm, cl, tl, rfl, hp, hpl, htt, h1, hn, nd, hnw, hcw, hok, hsp, htl, k⟩ := h
    have hu := hu_of hr
    have hr1 := hr.mono (by decide : 1 ≤ 4)
    have hr2 := hr.mono (by decide : 3 ≤ 4)
    refine ⟨_, pss_cons (ps_expr (pe_call Gp hr2 (by rfl) mp kp bp .nil pass0 (pa_cons (pv 1) pa_nil)))
      (Evl.pss_cut (ps_fld (pv 0) (pe_dc (own := [("name", 7), ("colour", 8)]) (g := gTup K 2 (gCons (gName 7) (gCons (gName 8) gNil))) (tt := tYes) rfl scWI.nd (pi_list (pv 1)) (blkOk_by (N := nWI) (sc := defScope sWebInit) (by decide +kernel))
          (fun _ _ _ _ _ => pg_tup rfl (pgs_cons (pg_name (i := 7) scWI.nd rfl (Or.inl rfl)) (pgs_cons (pg_name (i := 8) scWI.nd rfl (Or.inl rfl)) pgs_nil))) (fun _ _ _ _ _ => pts_nil) (fun _ _ _ _ _ => pv 7) (fun _ _ _ _ _ => pv 8)) rfl)
      (pss_cons (ps_expr (pe_call Gt hr (by rfl) mt kt bt .nil pass0 (pa_cons (pv 2) (pa_cons (pe_fld (pv 0) rfl) pa_nil))))
      (Evl.pss_cut (ps_fld (pv 0) (pe_lc (own := [("name", 7), ("_", 9)]) (g := gTup K 2 (gCons (gName 7) (gCons (gName 9) gNil))) (tt := tYes) (te := tVar 7) rfl scWI.nd (pi_list (pv 1)) (blkOk_by (N := nWI) (sc := defScope sWebInit) (by decide +kernel))
          (fun _ _ _ _ _ => pg_tup rfl (pgs_cons (pg_name (i := 7) scWI.nd rfl (Or.inl rfl)) (pgs_cons (pg_name (i := 9) scWI.nd rfl (Or.inl rfl)) pgs_nil))) (fun _ _ _ _ _ => pts_nil) (fun _ _ _ _ _ => pv 7)) rfl)
      (pss_cons (ps_fld (pv 0) (pe_call Go hr1 (by rfl) mo ko bo .nil pass0 (pa_cons (pv 2) (pa_cons (pe_fld (pv 0) rfl) pa_nil))) rfl)
      (pss_cons (ps_fld (pv 0) pe_dnewT rfl)
      (pss_one (ps_for PassesOwn.never rfl (pi_list (pe_fld (pv 0) rfl)) (pg_tup rfl (pgs_cons (pg_name (i := 3) scWI.nd rfl (.inl rfl)) (pgs_cons (pg_name (i := 4) scWI.nd rfl (.inl rfl)) (pgs_cons (pg_name (i := 5) scWI.nd rfl (.inl rfl)) (pgs_cons (pg_name (i := 6) scWI.nd rfl (.inl rfl)) pgs_nil)))))
        (pss_cons (ps_dput hu (pe_fld (pv 0) rfl) (pe_tup (pa_cons (pv 3) (pa_cons (pv 4) (pa_cons (pv 5) pa_nil)))) (pv 6) rfl)
        (pss_one (ps_dput hu (pe_fld (pv 0) rfl) (pe_tup (pa_cons (pv 4) (pa_cons (pv 3) (pa_cons (pv 5) pa_nil)))) (pv 6) rfl)))))))))), ?_⟩
    refine ⟨_, rfl, pl, nm, cl, rfl, hpl, h1, hn, nd, hnw, hcw, fun H1 s1 => ?_⟩
    have hp1 := s1 _ _ hp
    have b1 : But p H H1 := But.of s1
    -- the colours
    refine ⟨fun σ H2 => ∃ dc kvs, σ = [some (.ref p), some (.ref pl), some (.ref tt), none, none, none, none, none, none, none] ∧ H2 p = some (.ins C dx (putF "_colour_of" (.ref dc) [])) ∧ H2 dc = some (.dK kvs) ∧ kvs.map (·.1) = nm.map Sum.inr ∧ But p H H2, ?_, ?_⟩
    · obtain ⟨ts, hpl1, hlen, hts⟩ := hpl.but hp b1
      refine ⟨_, rfl, pl, rfl, ⟨_, SqL.of hpl1⟩, fun D hD => ?_⟩
      refine dc_walk (walk_list (xs := ts.map V.ref)) (fun i H2 => (∃ kvs, H2 D = some (.dK kvs) ∧ kvs.map (·.1) = (nm.take i).map Sum.inr) ∧ Same H1 H2) ⟨⟨[], upd_same, rfl⟩, same_new hD⟩ (fun i H2 _ h => SqL.of (h.2 _ _ hpl1)) ?_ ?_
      · rintro i x H2 H3 hi ⟨⟨kvs, hD2, hk⟩, s2⟩ ⟨rfl, hx⟩
        rw [List.length_map] at hi
        rw [List.getElem?_map] at hx
        obtain ⟨t, ht, rfl⟩ := Option.map_eq_some_iff.mp hx
        obtain ⟨x, y, hx, hy, htt'⟩ := hts i t ht
        refine ⟨t, _, rfl, SqT.of (s2 _ _ htt'), rfl, _, _, rfl, _, _, rfl, rfl, rfl, tyes ?_⟩
        have hkl : kvs.length = (nm.take i).length := by
          have := congrArg List.length hk
          simpa using this
        refine ⟨_, rfl, _, rfl, _, Sum.inr x, rfl, hD2, Evl.sz_lt (by rw [hkl, List.length_take]; omega), ⟨_, upd_same, ?_⟩, fun b o e => ?_⟩
        · rw [putK_new _ (nm_new nd hx hk), List.map_append, hk, List.take_add_one, hx]
          simp
        · rw [upd_ne (ne_of_none e hD)]
          exact s2 b o e
      · rintro H2 ⟨⟨kvs, hD2, hk⟩, s2⟩
        rw [List.length_map, hlen, List.take_of_length_le (Nat.le_refl _)] at hk
        have hp2 := s2 _ _ hp1
        have npD : D ≠ p := ne_of hD2 hp2 (by intro z; cases z)
        refine ⟨_, rfl, p, C, dx, _, rfl, hp2, T.cl, T.nCo, (by show 0 < 1000; decide), D, kvs, rfl, upd_same, by rw [upd_ne npD]; exact hD2, hk, ?_⟩
        exact (b1.trans (But.of s2)).trans But.upd
    rintro σ H2 ⟨dc, kvs, rfl, hp2, hdc2, hk, b2⟩
    -- need_ties
    refine ⟨_, rfl, _, rfl, p, C, dx, _, _, rfl, hp2, T.cl, T.nCo, (by rw [lookup_putF, if_pos rfl]), tt, dc, tl, nm, kvs, rfl, htt.but hp b2, hdc2, hk, hok, hsp, htl, fun H3 s3 => ?_⟩
    have hp3 := s3 _ _ hp2
    have b3 := b2.trans (But.of s3)
    -- the names
    refine ⟨fun σ H4 => ∃ q fs, σ = [some (.ref p), some (.ref pl), some (.ref tt), none, none, none, none, none, none, none] ∧ H4 p = some (.ins C dx fs) ∧ fs.length ≤ 2 ∧ fs.lookup ("_names" : Str) = some (.ref q) ∧ fs.lookup ("places" : Str) = none ∧ H q = none ∧ H4 q = some (.lst (nm.map V.str)) ∧ But p H H4, ?_, ?_⟩
    · obtain ⟨ts, hpl3, hlen, hts⟩ := hpl.but hp b3
      refine ⟨_, rfl, pl, rfl, ⟨_, SqL.of hpl3⟩, fun D hD => ?_⟩
      refine lc_list (xs := ts.map V.ref) (fun i H4 => H4 D = some (.lst ((nm.take i).map V.str)) ∧ Same H3 H4) ⟨upd_same, same_new hD⟩ (fun i H4 _ h => SqL.of (h.2 _ _ hpl3)) ?_ ?_
      · rintro i x H4 hx ⟨hD4, s4⟩
        have hi := (List.getElem?_eq_some_iff.mp hx).1
        rw [List.length_map] at hi
        rw [List.getElem?_map] at hx
        obtain ⟨t, ht, rfl⟩ := Option.map_eq_some_iff.mp hx
        obtain ⟨x, y, hx, hy, htt'⟩ := hts i t ht
        refine ⟨t, _, rfl, SqT.of (s4 _ _ htt'), rfl, _, _, rfl, _, _, rfl, rfl, rfl, tyes ?_⟩
        refine ⟨_, rfl, _, hD4, Evl.sz_lt (by rw [List.length_map, List.length_take]; omega), ?_, fun b o e => ?_⟩
        · rw [upd_same, List.take_add_one, hx, List.map_append]
          rfl
        · rw [upd_ne (ne_of_none e hD)]
          exact s4 b o e
      · rintro H4 ⟨hD4, s4⟩
        rw [List.length_map, hlen, List.take_of_length_le (Nat.le_refl _)] at hD4
        have hp4 := s4 _ _ hp3
        have npD : D ≠ p := ne_of hD4 hp4 (by intro z; cases z)
        have hD0 : H D = none := by
          cases e : H D with
          | none => rfl
          | some o =>
            have := b3 D o e npD
            rw [hD] at this
            cases this
        refine ⟨_, rfl, p, C, dx, _, rfl, hp4, T.cl, T.nNa, Nat.lt_of_le_of_lt (length_putF _ _ _) (by show 1 < 1000; decide), D, _, rfl, upd_same, Nat.le_trans (length_putF _ _ _) (Nat.succ_le_succ (length_putF _ _ _)), by rw [lookup_putF, if_pos rfl], ?_, hD0, by rw [upd_ne npD]; exact hD4, ?_⟩
        · rw [lookup_putF, if_neg (by decide +kernel), lookup_putF, if_neg (by decide +kernel)]
          rfl
        · exact (b3.trans (But.of s4)).trans But.upd
    rintro σ H4 ⟨q, fs, rfl, hp4, hfl, hfn, hfp, hq0, hq4, b4⟩
    -- the ties in order
    refine ⟨_, rfl, _, rfl, p, C, dx, _, _, rfl, hp4, T.cl, T.nNa, hfn, tt, q, nm, tl, rfl, htt.but hp b4, hq4, nd, hn, (by omega), hok, fun r rs rw' H5 hr0 pr pm _ ho s5 => ?_⟩
    have hp5 := s5 _ _ hp4
    have b5 := b4.trans (But.of s5)
    refine ⟨_, rfl, p, C, dx, _, rfl, hp5, T.cl, T.nTi, (by omega), ?_⟩
    have hrl : rs.length = tl.length := by rw [pm.length_eq, ← Paired.length pr]
    obtain ⟨os, hos, hpr⟩ := ho
    have nrp : r ≠ p := ne_of hos hp5 (by intro z; cases z)
    have nqp : q ≠ p := ne_of hq4 hp4 (by intro z; cases z)
    generalize hfs2 : putF "_ties" (V.ref r) fs = fs2
    have hfl2 : fs2.length ≤ 3 := by have := length_putF "_ties" (V.ref r) fs; rw [hfs2] at this; omega
    have hfn2 : fs2.lookup ("_names" : Str) = some (.ref q) := by rw [← hfs2, lookup_putF, if_neg (by decide +kernel)]; exact hfn
    have hfp2 : fs2.lookup ("places" : Str) = none := by rw [← hfs2, lookup_putF, if_neg (by decide +kernel)]; exact hfp
    have hft2 : fs2.lookup ("_ties" : Str) = some (.ref r) := by rw [← hfs2, lookup_putF, if_pos rfl]
    have b6 : But p H5 (upd H5 p (.ins C dx fs2)) := But.upd
    have hp6 : (upd H5 p (.ins C dx fs2)) p = some (.ins C dx fs2) := upd_same
    generalize upd H5 p (.ins C dx fs2) = H6 at *
    -- the widths
    intro wd hwd
    have s7 := same_new (o := .dT []) hwd
    have hwd7 : (upd H6 wd (.dT [])) wd = some (.dT []) := upd_same
    generalize upd H6 wd (.dT []) = H7 at *
    have hp7 := s7 _ _ hp6
    refine ⟨_, rfl, p, C, dx, _, rfl, hp7, T.cl, T.nWi, (by omega), ?_⟩
    generalize hfs3 : putF "_width_of" (V.ref wd) fs2 = fs3
    have hfn3 : fs3.lookup ("_names" : Str) = some (.ref q) := by rw [← hfs3, lookup_putF, if_neg (by decide +kernel)]; exact hfn2
    have hfp3 : fs3.lookup ("places" : Str) = none := by rw [← hfs3, lookup_putF, if_neg (by decide +kernel)]; exact hfp2
    have hft3 : fs3.lookup ("_ties" : Str) = some (.ref r) := by rw [← hfs3, lookup_putF, if_neg (by decide +kernel)]; exact hft2
    have hfw3 : fs3.lookup ("_width_of" : Str) = some (.ref wd) := by rw [← hfs3, lookup_putF, if_pos rfl]
    have nwp : wd ≠ p := ne_of hwd7 hp7 (by intro z; cases z)
    have b8 : But p H7 (upd H7 p (.ins C dx fs3)) := But.upd
    have hp8 : (upd H7 p (.ins C dx fs3)) p = some (.ins C dx fs3) := upd_same
    generalize upd H7 p (.ins C dx fs3) = H8 at *
    have bb : But p H H8 := ((b5.trans b6).trans (But.of s7)).trans b8
    have b58 : But p H5 H8 := (b6.trans (But.of s7)).trans b8
    have hwd8 := b8 _ _ hwd7 nwp
    have hr8 := b58 _ _ hos nrp
    have hq8 := b58 _ _ (s5 _ _ hq4) nqp
    have hw0 : H wd = none := by
      cases e : H wd with
      | none => rfl
      | some o =>
        have := (b5.trans b6) wd o e nwp
        rw [hwd] at this
        cases this
    have nrw : r ≠ wd := ne_of hr8 hwd8 (by intro z; cases z)
    have nqw : q ≠ wd := ne_of hq8 hwd8 (by intro z; cases z)
    have hpr8 : Paired (fun t (r : RowV) => ∃ x y, H8 t = some (.tup [.str x, .str y, .str r.kd, .int r.w])) os rs := Paired.mapP hpr fun t r ⟨x, y, _, _, h⟩ => ⟨x, y, b58 _ _ h (ne_of h hp5 (by intro z; cases z))⟩
    refine ⟨_, rfl, p, C, dx, _, _, rfl, hp8, T.cl, T.nTi, hft3, r, rfl, ⟨_, SqL.of hr8⟩, ?_⟩
    refine for_list (xs := os.map V.ref) (fun i σ H9 => ∃ v3 v4 v5 v6 kvs, σ = [some (.ref p), some (.ref pl), some (.ref tt), v3, v4, v5, v6, none, none, none] ∧ H9 wd = some (.dT kvs) ∧ kvs.length ≤ 2 * i ∧ But wd H8 H9) ⟨none, none, none, none, [], rfl, hwd8, Nat.le_refl _, fun b o e _ => e⟩ (fun i σ H9 _ ⟨_, _, _, _, _, _, _, _, h⟩ => SqL.of (h _ _ hr8 nrw)) ?_ ?_
    · rintro i v σ H9 hi ⟨v3, v4, v5, v6, kv, rfl, hwd9, hkl, b9⟩
      have hil := (List.getElem?_eq_some_iff.mp hi).1
      rw [List.length_map, Paired.length hpr, hrl] at hil
      rw [List.getElem?_map] at hi
      obtain ⟨t, ht, rfl⟩ := Option.map_eq_some_iff.mp hi
      obtain ⟨rv, _, x, y, htt8⟩ := paired_get hpr8 ht
      have nt : t ≠ wd := ne_of htt8 hwd8 (by intro z; cases z)
      have hp9 := b9 _ _ hp8 nwp.symm
      refine ⟨t, _, rfl, SqT.of (b9 _ _ htt8 nt), rfl, _, _, rfl, _, _, rfl, _, _, rfl, _, _, rfl, rfl, ?_⟩
      refine ⟨_, rfl, _, rfl, p, C, dx, _, _, rfl, hp9, T.cl, T.nWi, hfw3, _, rfl, _, rfl, _, rfl, (by show 3 ≤ sizeLine; decide), fun u hu' => ?_⟩
      have su := same_new (o := .tup [V.str x, V.str y, V.str rv.kd]) hu'
      have hu1 : (upd H9 u (.tup [V.str x, V.str y, V.str rv.kd])) u = some (.tup (List.map kV [Sum.inr x, Sum.inr y, Sum.inr rv.kd])) := upd_same
      generalize upd H9 u (.tup [V.str x, V.str y, V.str rv.kd]) = H10 at *
      refine ⟨wd, _, rfl, DPut.t (su _ _ hwd9) hu1 (Evl.sz_lt (by omega)), ?_⟩
      have l1 := length_putK kv [Sum.inr x, Sum.inr y, Sum.inr rv.kd] (V.int rv.w)
      generalize putK kv [Sum.inr x, Sum.inr y, Sum.inr rv.kd] (V.int rv.w) = kv1 at *
      have b11 : But wd H9 (upd H10 wd (.dT kv1)) := (But.of su).trans But.upd
      have hwd11 : (upd H10 wd (.dT kv1)) wd = some (.dT kv1) := upd_same
      generalize upd H10 wd (.dT kv1) = H11 at *
      refine ⟨_, rfl, _, rfl, p, C, dx, _, _, rfl, b11 _ _ hp9 nwp.symm, T.cl, T.nWi, hfw3, _, rfl, _, rfl, _, rfl, (by show 3 ≤ sizeLine; decide), fun u2 hu2 => ?_⟩
      have su2 := same_new (o := .tup [V.str y, V.str x, V.str rv.kd]) hu2
      have hu3 : (upd H11 u2 (.tup [V.str y, V.str x, V.str rv.kd])) u2 = some (.tup (List.map kV [Sum.inr y, Sum.inr x, Sum.inr rv.kd])) := upd_same
      generalize upd H11 u2 (.tup [V.str y, V.str x, V.str rv.kd]) = H12 at *
      refine ⟨wd, _, rfl, DPut.t (su2 _ _ hwd11) hu3 (Evl.sz_lt (by omega)), ?_⟩
      have l2 := length_putK kv1 [Sum.inr y, Sum.inr x, Sum.inr rv.kd] (V.int rv.w)
      exact ⟨_, _, _, _, _, rfl, upd_same, (by omega), ((b9.trans b11).trans (But.of su2)).trans But.upd⟩
    · rintro σ H9 ⟨v3, v4, v5, v6, kv, rfl, hwd9, hkl, b9⟩
      refine k q H9 hq0 ⟨dx, fs3, b9 _ _ hp8 nwp.symm, hfn3, hfp3, b9 _ _ hq8 nqw⟩ fun b o e hb => ?_
      exact b9 _ _ (bb b o e hb) (ne_of_none e hw0)
end
end Nm
set_option maxRecDepth 100000
set_option maxHeartbeats 4000000
namespace Nm
open PySem L2
/-- a method and its promise -/
structure MethD (P : Program) (w : World) (K : PySem.W.Frag) (mg : Str → Option Value) (base : Heap) (C : Addr) (m : Str) (ps : List Str) (k : Nat) (sp : Sp) : Prop where
  ex : ∃ f fd, FnOk P w K mg base CX0 k f fd ps sp ∧ Meth K C m f ∧ Binds K fd ps []
theorem WebAt.same {C : Addr} {H H' : Hp} {p q : Addr} {nm : List Str} (h : WebAt C H p q nm) (s : Same H H') : WebAt C H' p q nm := by
  obtain ⟨dx, fs, h1, h2, h3, h4⟩ := h
  exact ⟨dx, fs, s _ _ h1, h2, h3, s _ _ h4⟩
/-- the places over y -/
def overL (nm' : List Str) (g : Str → Str) (y : Str) : List Str := nm'.filter fun x => decide (g x = y)
theorem overL_yes {nm' : List Str} {g : Str → Str} {y x : Str} {i : Nat} (h : nm'[i]? = some x) (e : g x = y) : overL (nm'.take (i + 1)) g y = overL (nm'.take i) g y ++ [x] := by
  unfold overL
  rw [List.take_add_one, h, List.filter_append]
  simp [e]
theorem overL_no {nm' : List Str} {g : Str → Str} {y x : Str} {i : Nat} (h : nm'[i]? = some x) (e : ¬ g x = y) : overL (nm'.take (i + 1)) g y = overL (nm'.take i) g y := by
  unfold overL
  rw [List.take_add_one, h, List.filter_append]
  simp [e]
theorem overL_len (nm' : List Str) (g : Str → Str) (y : Str) : (overL nm' g y).length ≤ nm'.length := List.length_filter_le _ _
/-- names and the lists over them -/
def poKV (nm : List Str) (as : List Addr) : List (Key × V) := (nm.zip as).map fun p => (Sum.inr p.1, V.ref p.2)
theorem po_keys {nm : List Str} {as : List Addr} (h : as.length = nm.length) : (poKV nm as).map (·.1) = nm.map Sum.inr := by
  unfold poKV
  rw [List.map_map]
  have : nm = (nm.zip as).map (·.1) := by rw [List.map_fst_zip (by omega)]
  conv => rhs; rw [this]
  rw [List.map_map]
  rfl
theorem po_nd {nm : List Str} {as : List Addr} (h : as.length = nm.length) (nd : nm.Nodup) : ((poKV nm as).map (·.1)).Nodup := by
  rw [po_keys h]
  exact List.Pairwise.map _ (fun a b hab e => hab (Sum.inr.inj e)) nd
theorem po_at {nm : List Str} {as : List Addr} (h : as.length = nm.length) (nd : nm.Nodup) {q : Nat} {y : Str} {a : Addr} (hy : nm[q]? = some y) (ha : as[q]? = some a) : valV (poKV nm as) (Sum.inr y) = some (V.ref a) := by
  refine val_of_mem (po_nd h nd) ?_
  unfold poKV
  refine List.mem_map.mpr ⟨(y, a), ?_, rfl⟩
  refine List.mem_of_getElem? (i := q) ?_
  rw [List.getElem?_zip_eq_some]
  exact ⟨hy, ha⟩
section
variable {P : Program} {w : World} {K : PySem.W.Frag} {mg : Str → Option Value} {base : Heap}
/-! ### Web.places -/
def spPlaces (C : Addr) : Sp := fun vs H Q _ => ∃ (p q : Addr) (nm : List Str), vs = [.ref p] ∧ WebAt C H p q nm ∧ nm.length ≤ 1000 ∧ ∀ (r : Addr) (H' : Hp), H r = none → H' r = some (.lst (nm.map V.str)) → Same H H' → Q (.ref r) H'
theorem scPl : FnScope ["self"] ["self"] (defScope sWebPlaces) := ⟨rfl, rfl, rfl, by decide +kernel, rfl, by decide +kernel, by decide +kernel⟩
theorem ok_places {f C : Addr} {fd : FuncData} (F : Fun K "places" "Web.places" sWebPlaces f fd) (T : TxtW K mg C) : FnOk P w K mg base CX0 1 f fd ["self"] (spPlaces C) := by
  refine F.ok scPl (fun vs H Q E h => ?_) (fun cdv A outer s H vs Q E hr h => ?_)
  · obtain ⟨_, _, _, rfl, _⟩ := h
    rfl
  · obtain ⟨p, q, nm, rfl, ⟨dx, fs, hp, hfn, _, hq⟩, hn, k⟩ := h
    refine ⟨_, pss_one (ps_ret (pe_callTy call_list_of (by rfl) T.list (by decide +kernel) (pa_cons (pe_fld (pv 0) rfl) pa_nil))), ?_⟩
    refine ⟨_, rfl, p, C, dx, _, _, rfl, hp, T.cl, T.nNa, hfn, ?_⟩
    exact ⟨q, _, rfl, .inl (SqL.of hq), fun r hr0 => k r _ hr0 upd_same (same_new hr0)⟩
/-! ### places_over -/
def spPO (C : Addr) : Sp := fun vs H Q _ => ∃ (ov qo we qw fo : Addr) (nm' nm : List Str) (fkv : List (Key × V)) (g : Str → Str), vs = [.ref ov, .ref we, .ref fo] ∧ WebAt C H ov qo nm' ∧ WebAt C H we qw nm ∧ H fo = some (.dK fkv) ∧ nm'.length ≤ 1000 ∧ nm.length ≤ 1000 ∧ nm.Nodup ∧
  (∀ x ∈ nm', valV fkv (Sum.inr x) = some (V.str (g x)) ∧ g x ∈ nm) ∧
  ∀ (D : Addr) (as : List Addr) (H' : Hp), H D = none → H' D = some (.dK (poKV nm as)) → as.length = nm.length → (∀ (q : Nat) (a : Addr) (y : Str), as[q]? = some a → nm[q]? = some y → H a = none ∧ H' a = some (.lst ((overL nm' g y).map V.str))) → Same H H' → Q (.ref D) H'
abbrev nPO : List Str := ["over", "web", "folding", "found", "name", "place"]
theorem scPO : FnScope nPO ["over", "web", "folding"] (defScope sPlacesOver) := ⟨rfl, rfl, rfl, by decide +kernel, rfl, by decide +kernel, by decide +kernel⟩
theorem ok_placesOver {f C : Addr} {fd : FuncData} (F : Fun K "places_over" "places_over" sPlacesOver f fd) (T : TxtW K mg C) (Gm : MethD P w K mg base C "places" ["self"] 1 (spPlaces C)) : FnOk P w K mg base CX0 2 f fd ["over", "web", "folding"] (spPO C) := by
  obtain ⟨fm, fdm, Gm, mm, bm⟩ := Gm.ex
  refine F.ok scPO (fun vs H Q E h => ?_) (fun cdv A outer s H vs Q E hr h => ?_)
  · obtain ⟨_, _, _, _, _, _, _, _, _, rfl, _⟩ := h
    rfl
  · obtain ⟨ov, qo, we, qw, fo, nm', nm, fkv, g, rfl, hov, hwe, hfo, hn', hn, nd, hg, k⟩ := h
    have hu := hu_of hr
    refine ⟨_, Evl.pss_cut (ps_setDc (n := 3) (own := [("place", 5)]) (g := gName 5) (tt := tYes) rfl scPO.nd rfl rfl (sw_dict rfl rfl rfl (by decide +kernel)) (pi_list (pe_meth0 (pv 1) T.cl mm Gm hr bm .nil pass0))
        (blkOk_by (N := nPO) (sc := defScope sPlacesOver) (by decide +kernel)) (fun _ _ _ _ _ => pg_name (i := 5) scPO.nd rfl (Or.inl rfl)) (fun _ _ _ _ _ => pts_nil) (fun _ _ _ _ _ => pv 5) (fun _ _ _ _ _ => pe_lst pa_nil))
      (pss_cons (ps_for PassesOwn.never rfl (pi_list (pe_meth0 (pv 0) T.cl mm Gm hr bm .nil pass0)) (pg_name (i := 4) scPO.nd rfl (.inl rfl))
        (pss_one (ps_expr (pe_bm PySem.F.plainAttrs_list PySem.F.slot_list_append PySem.F.type_list_append mt_append (pe_dget hu (pv 3) (pe_dget hu (pv 2) (pv 4) (fun _ _ => rfl)) (fun _ _ => rfl)) (pa_cons (pv 4) pa_nil)))))
      (pss_one (ps_ret (pv 3)))), ?_⟩
    refine ⟨fun σ H1 => ∃ D as, σ = [some (.ref ov), some (.ref we), some (.ref fo), some (.ref D), none, none] ∧ H D = none ∧ H1 D = some (.dK (poKV nm as)) ∧ as.length = nm.length ∧ as.Nodup ∧ (∀ a ∈ as, H a = none ∧ H1 a = some (.lst [])) ∧ Same H H1, ?_, ?_⟩
    · obtain ⟨dw, fw, hw1, hw2, hw3, hw4⟩ := id hwe
      refine ⟨_, rfl, we, dw, fw, rfl, hw1, hw3, we, qw, nm, rfl, hwe, hn, fun r H1 hr0 hr1 s1 => ?_⟩
      refine ⟨r, rfl, ⟨_, SqL.of hr1⟩, fun D hD => ?_⟩
      have hD0 := s1.free hD
      refine dc_walk (walk_list (xs := nm.map V.str)) (fun i H2 => ∃ as, H2 D = some (.dK (poKV (nm.take i) as)) ∧ as.length = (nm.take i).length ∧ as.Nodup ∧ (∀ a ∈ as, H a = none ∧ H2 a = some (.lst [])) ∧ Same H1 H2) ⟨[], upd_same, rfl, List.nodup_nil, (fun a ha => (List.not_mem_nil ha).elim), same_new hD⟩ (fun i H2 _ ⟨_, _, _, _, _, h⟩ => SqL.of (h _ _ hr1)) ?_ ?_
      · rintro i x H2 H3 hi ⟨as, hD2, hal, hand, hae, s2⟩ ⟨rfl, hx⟩
        rw [List.length_map] at hi
        rw [List.getElem?_map] at hx
        obtain ⟨y, hy, rfl⟩ := Option.map_eq_some_iff.mp hx
        refine ⟨rfl, tyes ?_⟩
        refine ⟨_, rfl, (by show 0 ≤ sizeLine; decide), fun u hu' => ?_⟩
        have su := same_new (o := .lst []) hu'
        have nuD : u ≠ D := fun e => by subst e; rw [hD2] at hu'; cases hu'
        have hua : u ∉ as := fun hm => by have := (hae u hm).2; rw [hu'] at this; cases this
        have hnew : valV (poKV (nm.take i) as) (Sum.inr y) = none := nm_new nd hy (po_keys hal)
        have hkl : (poKV (nm.take i) as).length ≤ i := by
          unfold poKV
          rw [List.length_map, List.length_zip, List.length_take]
          omega
        refine ⟨_, Sum.inr y, rfl, su _ _ hD2, Evl.sz_lt (by omega), as ++ [u], ?_, ?_, ?_, ?_, fun b o e => ?_⟩
        · rw [upd_same, putK_new _ hnew, List.take_add_one, hy]
          unfold poKV
          rw [Option.toList_some, List.zip_append hal.symm, List.map_append]
          rfl
        · rw [List.take_add_one, hy]
          simp [hal]
        · rw [List.nodup_append]
          refine ⟨hand, by simp, fun a ha b hb e => ?_⟩
          rw [List.mem_singleton] at hb
          subst hb e
          exact hua ha
        · intro a ha
          rcases List.mem_append.mp ha with z | z
          · have na : a ≠ D := ne_of (hae a z).2 hD2 (by intro z; cases z)
            exact ⟨(hae a z).1, by rw [upd_ne na]; exact su _ _ (hae a z).2⟩
          · rw [List.mem_singleton] at z
            subst z
            exact ⟨(s1.trans s2).free hu', by rw [upd_ne nuD]; exact upd_same⟩
        · rw [upd_ne (ne_of_none e hD)]
          exact su _ _ (s2 b o e)
      · rintro H2 ⟨as, hD2, hal, hand, hae, s2⟩
        rw [List.length_map, List.take_of_length_le (Nat.le_refl _)] at hD2 hal
        exact ⟨D, as, rfl, hD0, hD2, hal, hand, hae, s1.trans s2⟩
    rintro σ H1 ⟨D, as, rfl, hD0, hD1, hal, hand, hae, s1⟩
    obtain ⟨dw, fw, hw1, hw2, hw3, hw4⟩ := hov.same s1
    refine ⟨_, rfl, ov, dw, fw, rfl, hw1, hw3, ov, qo, nm', rfl, hov.same s1, hn', fun r H2 hr0 hr2 s2 => ?_⟩
    refine ⟨r, rfl, ⟨_, SqL.of hr2⟩, ?_⟩
    have hr00 := s1.free hr0
    have s12 := s1.trans s2
    have hra : ∀ a ∈ as, r ≠ a := fun a ha e => by subst e; rw [(hae r ha).2] at hr0; cases hr0
    refine for_list (xs := nm'.map V.str) (fun i σ H3 => ∃ v4, σ = [some (.ref ov), some (.ref we), some (.ref fo), some (.ref D), v4, none] ∧ H3 D = some (.dK (poKV nm as)) ∧ H3 r = some (.lst (nm'.map V.str)) ∧ (∀ (q : Nat) (a : Addr) (y : Str), as[q]? = some a → nm[q]? = some y → H3 a = some (.lst ((overL (nm'.take i) g y).map V.str))) ∧ Same H H3)
      ⟨none, rfl, s2 _ _ hD1, hr2, fun q a y ha _ => s2 _ _ (hae a (List.mem_of_getElem? ha)).2, s12⟩ (fun i σ H3 _ ⟨_, _, _, h, _, _⟩ => SqL.of h) ?_ ?_
    · rintro i v σ H3 hi ⟨v4, rfl, hD3, hr3, hq3, s3⟩
      have hil := (List.getElem?_eq_some_iff.mp hi).1
      rw [List.length_map] at hil
      rw [List.getElem?_map] at hi
      obtain ⟨x, hx, rfl⟩ := Option.map_eq_some_iff.mp hi
      obtain ⟨hg1, hg2⟩ := hg x (List.mem_of_getElem? hx)
      obtain ⟨q, hq⟩ := List.getElem?_of_mem hg2
      have hql := (List.getElem?_eq_some_iff.mp hq).1
      obtain ⟨a, ha⟩ : ∃ a, as[q]? = some a := ⟨_, List.getElem?_eq_getElem (by omega)⟩
      have ha3 := hq3 q a _ ha hq
      have d1 : DGet H3 fo (V.str x) (some (V.str (g x))) := by rw [← hg1]; exact DGet.k (k := Sum.inr x) (s3 _ _ hfo)
      have d2 : DGet H3 D (V.str (g x)) (some (V.ref a)) := by rw [← po_at hal nd hq ha]; exact DGet.k (k := Sum.inr (g x)) hD3
      refine ⟨_, rfl, _, rfl, _, rfl, fo, _, rfl, d1, D, _, rfl, d2, .inl ⟨rfl, _, SqL.of ha3⟩, _, rfl, a, _, _, rfl, rfl, ha3, Evl.sz_lt (by rw [List.length_map]; have := overL_len (nm'.take i) g (g x); rw [List.length_take] at this; omega), ?_⟩
      have naD : a ≠ D := ne_of ha3 hD3 (by intro z; cases z)
      refine ⟨_, rfl, by rw [upd_ne naD.symm]; exact hD3, by rw [upd_ne (hra a (List.mem_of_getElem? ha))]; exact hr3, fun q' a' y' ha' hy' => ?_, fun b o e => ?_⟩
      · by_cases e : q' = q
        · subst e
          rw [ha] at ha'
          cases ha'
          rw [hq] at hy'
          cases hy'
          rw [upd_same, overL_yes hx rfl, List.map_append]
          rfl
        · have naa : a' ≠ a := fun z => by
            subst z
            have h1 := (List.getElem?_eq_some_iff.mp ha').1
            exact e ((List.getElem?_inj h1 hand).mp (by rw [ha, ha']))
          have nyy : ¬ g x = y' := fun z => by
            subst z
            have h1 := (List.getElem?_eq_some_iff.mp hy').1
            exact e ((List.getElem?_inj h1 nd).mp (by rw [hq, hy']))
          rw [upd_ne naa, overL_no hx nyy]
          exact hq3 q' a' y' ha' hy'
      · rw [upd_ne (ne_of_none e (hae a (List.mem_of_getElem? ha)).1)]
        exact s3 b o e
    · rintro σ H3 ⟨v4, rfl, hD3, hr3, hq3, s3⟩
      rw [List.length_map, List.take_of_length_le (Nat.le_refl _)] at hq3
      exact ⟨_, rfl, k D as H3 hD0 hD3 hal (fun q a y ha hy => ⟨(hae a (List.mem_of_getElem? ha)).1, hq3 q a y ha hy⟩) s3⟩
end
end Nm
set_option maxRecDepth 100000
set_option maxHeartbeats 4000000
namespace Nm
open PySem L2
/-- e, and what it gives stands still from here on -/
def tStill (t : TE) : TE := fun σ H Q => t σ H fun x H1 => ∃ d u, x = .ref d ∧ H1 d = some u ∧ Mut (some u) ∧ ∀ od, Q x (upd H1 d (.frz od u))
theorem pe_still {X : Cx} {e : PySem.Expr} {t : TE} (h : PE X e t) : PE X e (tStill t) := by
  refine ⟨fun pins s σ H Q I hw => ?_⟩
  refine thn (h.run pins s σ H _ I hw) fun v s1 ⟨x, H1, I1, r, d, u, _, hd, mu, q⟩ => ?_
  obtain ⟨od, I2⟩ := I1.lock hd mu
  exact ⟨x, _, I2, r, q od⟩
theorem po_get {nm : List Str} {as : List Addr} {i : Nat} {k : Key} {x : V} (h : (poKV nm as)[i]? = some (k, x)) : ∃ y a, nm[i]? = some y ∧ as[i]? = some a ∧ x = V.ref a := by
  unfold poKV at h
  rw [List.getElem?_map] at h
  obtain ⟨⟨y, a⟩, e1, e2⟩ := Option.map_eq_some_iff.mp h
  rw [List.getElem?_zip_eq_some] at e1
  cases e2
  exact ⟨y, a, e1.1, e1.2, rfl⟩
theorem po_len {nm : List Str} {as : List Addr} (h : as.length = nm.length) : (poKV nm as).length = nm.length := by
  unfold poKV
  rw [List.length_map, List.length_zip]
  omega
section
variable {P : Program} {w : World} {K : PySem.W.Frag} {mg : Str → Option Value} {base : Heap}
/-! ### is_onto -/
def spOnto (C : Addr) : Sp := fun vs H Q _ => ∃ (ov qo we qw fo : Addr) (nm' nm : List Str) (fkv : List (Key × V)) (g : Str → Str), vs = [.ref ov, .ref we, .ref fo] ∧ WebAt C H ov qo nm' ∧ WebAt C H we qw nm ∧ H fo = some (.dK fkv) ∧ nm'.length ≤ 1000 ∧ nm.length ≤ 1000 ∧ nm.Nodup ∧
  (∀ x ∈ nm', valV fkv (Sum.inr x) = some (V.str (g x)) ∧ g x ∈ nm) ∧ ∀ (H' : Hp), Same H H' → Q (.bl ((nm.map fun y => (overL nm' g y).length).all fun n => decide (0 < n))) H'
abbrev nOn : List Str := ["over", "web", "folding", "names"]
theorem scOn : FnScope nOn ["over", "web", "folding"] (defScope sIsOnto) := ⟨rfl, rfl, rfl, by decide +kernel, rfl, by decide +kernel, by decide +kernel⟩
theorem ok_onto {f C : Addr} {fd : FuncData} (F : Fun K "is_onto" "is_onto" sIsOnto f fd) (T : TxtW K mg C) (Gp : Def P w K mg base "places_over" ["over", "web", "folding"] 2 (spPO C)) : FnOk P w K mg base CX0 3 f fd ["over", "web", "folding"] (spOnto C) := by
  obtain ⟨fp, fdp, Gp, mp, kp, bp⟩ := Gp.ex
  refine F.ok scOn (fun vs H Q E h => ?_) (fun cdv A outer s H vs Q E hr h => ?_)
  · obtain ⟨_, _, _, _, _, _, _, _, _, rfl, _⟩ := h
    rfl
  · obtain ⟨ov, qo, we, qw, fo, nm', nm, fkv, g, rfl, hov, hwe, hfo, hn', hn, nd, hg, k⟩ := h
    refine ⟨_, pss_one (ps_ret (pe_callB (cr_all rfl) (by rfl) T.all (by decide +kernel) (pa_cons (pe_lc (own := [("names", 3)]) (g := gName 3) (tt := tYes) (te := tOp (rI0 fun i j => .bl (decide (j < i))) (tCB (Evl.rLenS K) (tCons (tVar 3) tNil)) (tC (.int 0))) rfl scOn.nd (pi_values (pe_still (pe_call Gp hr (by rfl) mp kp bp .nil pass0 (pa_cons (pv 0) (pa_cons (pv 1) (pa_cons (pv 2) pa_nil))))))
          (blkOk_by (N := nOn) (sc := defScope sIsOnto) (by decide +kernel)) (fun _ _ _ _ _ => pg_name (i := 3) scOn.nd rfl (Or.inl rfl)) (fun _ _ _ _ _ => pts_nil)
          (fun _ _ _ _ _ => by exact pe_cmpR op_gt (pe_callB call_len_seq (by rfl) T.len PySem.boot_len (pa_cons (pv 3) pa_nil)) pe_int (nomark _))) pa_nil))), ?_⟩
    refine ⟨_, rfl, _, rfl, _, rfl, ov, qo, we, qw, fo, nm', nm, fkv, g, rfl, hov, hwe, hfo, hn', hn, nd, hg, fun D as H1 hD0 hD1 hal has s1 => ?_⟩
    refine ⟨D, _, rfl, hD1, trivial, fun od => ⟨D, od, _, rfl, upd_same, fun L hL => ?_⟩⟩
    have s2 : Same H (upd H1 D (.frz od (.dK (poKV nm as)))) := fun b o e => by
      rw [upd_ne (ne_of_none e hD0)]
      exact s1 b o e
    have hD2 : (upd H1 D (.frz od (.dK (poKV nm as)))) D = some (.frz od (.dK (poKV nm as))) := upd_same
    have ha2 : ∀ (q : Nat) (a : Addr) (y : Str), as[q]? = some a → nm[q]? = some y → (upd H1 D (.frz od (.dK (poKV nm as)))) a = some (.lst ((overL nm' g y).map V.str)) := fun q a y ha hy => by
      have e := (has q a y ha hy).2
      rw [upd_ne (ne_of e hD1 (by intro z; cases z))]
      exact e
    generalize upd H1 D (.frz od (.dK (poKV nm as))) = H2 at *
    refine lc_it walk_values (fun i H3 => H3 L = some (.lst (((nm.take i).map fun y => decide (0 < (overL nm' g y).length)).map V.bl)) ∧ Same H2 H3) ⟨upd_same, same_new hL⟩ (fun i H3 _ h => h.2 _ _ hD2) ?_ ?_
    · rintro i x H3 H4 hi ⟨hL3, s3⟩ ⟨rfl, kk, hx⟩
      obtain ⟨y, a, hy, ha, rfl⟩ := po_get hx
      rw [po_len hal] at hi
      refine ⟨rfl, tyes ?_⟩
      refine ⟨_, rfl, a, _, rfl, .inl (SqL.of (s3 _ _ (ha2 i a y ha hy))), _, _, rfl, rfl, _, hL3, Evl.sz_lt (by rw [List.length_map, List.length_map, List.length_take]; omega), ?_, fun b o e => ?_⟩
      · rw [upd_same, List.take_add_one, hy, List.length_map]
        simp
      · rw [upd_ne (ne_of_none e hL)]
        exact s3 b o e
    · rintro H3 ⟨hL3, s3⟩
      rw [po_len hal, List.take_of_length_le (Nat.le_refl _)] at hL3
      refine ⟨L, _, rfl, SqL.of hL3, ?_⟩
      have e := k H3 (s2.trans s3)
      rw [List.all_map] at e
      rw [List.all_map]
      exact e
/-! ### is_spread -/
def spSpread (C : Addr) : Sp := fun vs H Q _ => ∃ (ov qo we qw fo : Addr) (nm' nm : List Str) (fkv : List (Key × V)) (g : Str → Str) (y0 : Str), vs = [.ref ov, .ref we, .ref fo] ∧ WebAt C H ov qo nm' ∧ WebAt C H we qw nm ∧ H fo = some (.dK fkv) ∧ nm'.length ≤ 1000 ∧ nm.length ≤ 1000 ∧ nm.Nodup ∧
  (∀ x ∈ nm', valV fkv (Sum.inr x) = some (V.str (g x)) ∧ g x ∈ nm) ∧ nm[0]? = some y0 ∧
  ∀ (H' : Hp), Same H H' → Q (.bl (decide (0 < (overL nm' g y0).length) && (nm.map fun y => (overL nm' g y).length).all fun n => decide (n = (overL nm' g y0).length))) H'
abbrev nSd : List Str := ["over", "web", "folding", "many", "names", "number"]
theorem scSd : FnScope nSd ["over", "web", "folding"] (defScope sIsSpread) := ⟨rfl, rfl, rfl, by decide +kernel, rfl, by decide +kernel, by decide +kernel⟩
theorem ok_spread {f C : Addr} {fd : FuncData} (F : Fun K "is_spread" "is_spread" sIsSpread f fd) (T : TxtW K mg C) (Gp : Def P w K mg base "places_over" ["over", "web", "folding"] 2 (spPO C)) : FnOk P w K mg base CX0 3 f fd ["over", "web", "folding"] (spSpread C) := by
  obtain ⟨fp, fdp, Gp, mp, kp, bp⟩ := Gp.ex
  refine F.ok scSd (fun vs H Q E h => ?_) (fun cdv A outer s H vs Q E hr h => ?_)
  · obtain ⟨_, _, _, _, _, _, _, _, _, _, rfl, _⟩ := h
    rfl
  · obtain ⟨ov, qo, we, qw, fo, nm', nm, fkv, g, y0, rfl, hov, hwe, hfo, hn', hn, nd, hg, hy0, k⟩ := h
    refine ⟨_, Evl.pss_cut (ps_set (i := 3) scSd.nd rfl (Or.inr rfl) (pe_lc (own := [("names", 4)]) (g := gName 4) (tt := tYes) (te := tCB (Evl.rLenS K) (tCons (tVar 4) tNil)) rfl scSd.nd (pi_values (pe_still (pe_call Gp hr (by rfl) mp kp bp .nil pass0 (pa_cons (pv 0) (pa_cons (pv 1) (pa_cons (pv 2) pa_nil))))))
          (blkOk_by (N := nSd) (sc := defScope sIsSpread) (by decide +kernel)) (fun _ _ _ _ _ => pg_name (i := 4) scSd.nd rfl (Or.inl rfl)) (fun _ _ _ _ _ => pts_nil)
          (fun _ _ _ _ _ => by exact pe_callB call_len_seq (by rfl) T.len PySem.boot_len (pa_cons (pv 4) pa_nil))))
      (pss_one (ps_ret (pe_and (pe_cmpR op_gt (pe_ix ix_list (pv 3) pe_int (fun _ _ => rfl)) pe_int (nomark _)) (pe_one (pe_callB (cr_all rfl) (by rfl) T.all (by decide +kernel) (pa_cons (pe_lc (own := [("number", 5)]) (g := gName 5) (tt := tYes) (te := tOp rEq (tVar 5) (tOp (rIxL K) (tVar 3) (tC (.int 0)))) rfl scSd.nd (pi_list (pv 3))
          (blkOk_by (N := nSd) (sc := defScope sIsSpread) (by decide +kernel)) (fun _ _ _ _ _ => pg_name (i := 5) scSd.nd rfl (Or.inl rfl)) (fun _ _ _ _ _ => pts_nil)
          (fun _ _ _ _ _ => by exact pe_cmpR op_eq (pv 5) (pe_ix ix_list (pv 3) pe_int (fun _ _ => rfl)) (nomark _))) pa_nil)))))), ?_⟩
    refine ⟨fun σ H1 => ∃ m, σ = [some (.ref ov), some (.ref we), some (.ref fo), some (.ref m), none, none] ∧ H1 m = some (.lst ((nm.map fun y => (overL nm' g y).length).map fun (n : Nat) => V.int (n : Int))) ∧ Same H H1, ?_, ?_⟩
    · refine ⟨_, rfl, _, rfl, _, rfl, ov, qo, we, qw, fo, nm', nm, fkv, g, rfl, hov, hwe, hfo, hn', hn, nd, hg, fun D as H1 hD0 hD1 hal has s1 => ?_⟩
      refine ⟨D, _, rfl, hD1, trivial, fun od => ⟨D, od, _, rfl, upd_same, fun L hL => ?_⟩⟩
      have s2 : Same H (upd H1 D (.frz od (.dK (poKV nm as)))) := fun b o e => by
        rw [upd_ne (ne_of_none e hD0)]
        exact s1 b o e
      have hD2 : (upd H1 D (.frz od (.dK (poKV nm as)))) D = some (.frz od (.dK (poKV nm as))) := upd_same
      have ha2 : ∀ (q : Nat) (a : Addr) (y : Str), as[q]? = some a → nm[q]? = some y → (upd H1 D (.frz od (.dK (poKV nm as)))) a = some (.lst ((overL nm' g y).map V.str)) := fun q a y ha hy => by
        have e := (has q a y ha hy).2
        rw [upd_ne (ne_of e hD1 (by intro z; cases z))]
        exact e
      generalize upd H1 D (.frz od (.dK (poKV nm as))) = H2 at *
      refine lc_it walk_values (fun i H3 => H3 L = some (.lst (((nm.take i).map fun y => (overL nm' g y).length).map fun (n : Nat) => V.int (n : Int))) ∧ Same H2 H3) ⟨upd_same, same_new hL⟩ (fun i H3 _ h => h.2 _ _ hD2) ?_ ?_
      · rintro i x H3 H4 hi ⟨hL3, s3⟩ ⟨rfl, kk, hx⟩
        obtain ⟨y, a, hy, ha, rfl⟩ := po_get hx
        rw [po_len hal] at hi
        refine ⟨rfl, tyes ?_⟩
        refine ⟨_, rfl, a, _, rfl, .inl (SqL.of (s3 _ _ (ha2 i a y ha hy))), _, hL3, Evl.sz_lt (by rw [List.length_map, List.length_map, List.length_take]; omega), ?_, fun b o e => ?_⟩
        · rw [upd_same, List.take_add_one, hy, List.length_map]
          simp
        · rw [upd_ne (ne_of_none e hL)]
          exact s3 b o e
      · rintro H3 ⟨hL3, s3⟩
        rw [po_len hal, List.take_of_length_le (Nat.le_refl _)] at hL3
        exact ⟨L, rfl, hL3, s2.trans s3⟩
    rintro σ H1 ⟨m, rfl, hm, s1⟩
    have at0 : ((nm.map fun y => (overL nm' g y).length).map fun (n : Nat) => V.int (n : Int))[0]? = some (V.int ((overL nm' g y0).length : Int)) := by
      rw [List.getElem?_map, List.getElem?_map, hy0]
      rfl
    refine ⟨_, rfl, m, _, _, _, rfl, rfl, SqL.of hm, atI_nat (j := 0) at0, _, _, rfl, rfl, _, rfl, ?_⟩
    by_cases c : 0 < (overL nm' g y0).length
    · have c' : decide ((0 : Int) < ((overL nm' g y0).length : Int)) = true := decide_eq_true (by omega)
      show (if decide ((0 : Int) < ((overL nm' g y0).length : Int)) = true then _ else _)
      rw [if_pos c']
      refine ⟨_, rfl, m, rfl, ⟨_, SqL.of hm⟩, fun L hL => ?_⟩
      refine lc_list (xs := (nm.map fun y => (overL nm' g y).length).map fun (n : Nat) => V.int (n : Int)) (fun i H3 => H3 L = some (.lst ((((nm.map fun y => (overL nm' g y).length).take i).map fun n => decide (n = (overL nm' g y0).length)).map V.bl)) ∧ Same H1 H3) ⟨upd_same, same_new hL⟩ (fun i H3 _ h => SqL.of (h.2 _ _ hm)) ?_ ?_
      · rintro i x H3 hx ⟨hL3, s3⟩
        have hi := (List.getElem?_eq_some_iff.mp hx).1
        rw [List.length_map, List.length_map] at hi
        rw [List.getElem?_map] at hx
        obtain ⟨n, hxn, rfl⟩ := Option.map_eq_some_iff.mp hx
        refine ⟨rfl, tyes ?_⟩
        refine ⟨_, rfl, _, rfl, m, _, _, _, rfl, rfl, SqL.of (s3 _ _ hm), atI_nat (j := 0) at0, ?_⟩
        have e : decide (V.int (n : Int) = V.int ((overL nm' g y0).length : Int)) = decide (n = (overL nm' g y0).length) := by
          by_cases z : n = (overL nm' g y0).length
          · rw [decide_eq_true z, decide_eq_true (by rw [z])]
          · rw [decide_eq_false z, decide_eq_false (fun h => z (by injection h with h; exact Int.ofNat_inj.mp h))]
        refine ⟨rfl, ?_⟩
        rw [e]
        refine ⟨_, hL3, Evl.sz_lt (by rw [List.length_map, List.length_map, List.length_take, List.length_map]; omega), ?_, fun b o e => ?_⟩
        · rw [upd_same, List.take_add_one, hxn]
          simp
        · rw [upd_ne (ne_of_none e hL)]
          exact s3 b o e
      · rintro H3 ⟨hL3, s3⟩
        rw [List.length_map, List.take_of_length_le (Nat.le_refl _)] at hL3
        refine ⟨L, _, rfl, SqL.of hL3, ?_⟩
        have e := k H3 (s1.trans s3)
        rw [decide_eq_true c, Bool.true_and] at e
        rw [List.all_map]
        exact e
    · have c' : decide ((0 : Int) < ((overL nm' g y0).length : Int)) = false := decide_eq_false (by omega)
      have e := k H1 s1
      rw [decide_eq_false c, Bool.false_and] at e
      show (if decide ((0 : Int) < ((overL nm' g y0).length : Int)) = true then _ else _)
      rw [c']
      exact e
end
end Nm
set_option maxRecDepth 100000
set_option maxHeartbeats 4000000
/-! list(zip(xs, ys)) -/
namespace Nm
open PySem PySem.Spec PyProof.Rows L2
theorem zip_lenless : typeLookup (.type "zip") "__len__" = pure none := am_miss_of_fast (by decide +kernel)
theorem zip_hintless : typeLookup (.type "zip") "__length_hint__" = pure none := am_miss_of_fast (by decide +kernel)
/-- a list of references as it stands -/
abbrev refsObj (ts : List Addr) (c : Nat) : Obj := { cls := .type "list", dict := none, data := .seq (ts.map Value.ref).toArray c, slots := #[] }
/-- a zip on its way into the list at S; g: the heap ahead of it all -/
structure ZL (g h : Heap) (z TI TO i1 i2 l1 l2 S : Addr) (xs ys : Array Value) (i : Nat) (ts : List Addr) (c : Nat) : Prop where
  base : ∀ b o, g.get? b = some o → h.get? b = some o
  size : g.objs.size ≤ h.objs.size
  ti : IsPair h TI (.ref i1) (.ref i2)
  a1 : h.IsListIter i1 l1 i
  a2 : h.IsListIter i2 l2 i
  b1 : h.IsList l1 xs
  b2 : h.IsList l2 ys
  to : ∃ u v, IsPair h TO u v
  st : IsZip h z TI TO .none ∨ ∃ T f oT, IsZipHeld h z TI TO T f ∧ h.get? T = some oT ∧ T ≠ z ∧ T ≠ i1 ∧ T ≠ i2 ∧ T ≠ S
  at_ : h.get? S = some (refsObj ts c)
  len : ts.length = i
  nd : ts.Nodup
  each : ∀ (j : Nat) t, ts[j]? = some t → ∃ x y, xs[j]? = some x ∧ ys[j]? = some y ∧ IsPair h t x y ∧ t ≠ z ∧ t ≠ TO ∧ t ≠ i1 ∧ t ≠ i2 ∧ t ≠ S ∧ g.objs.size ≤ t
/-- S stands apart -/
structure Off (g : Heap) (z TI TO i1 i2 l1 l2 S : Addr) : Prop where
  oz : S ≠ z
  oti : S ≠ TI
  oto : S ≠ TO
  oi1 : S ≠ i1
  oi2 : S ≠ i2
  ol1 : S ≠ l1
  ol2 : S ≠ l2
  nz : g.get? z = none
  nto : g.get? TO = none
  n1 : g.get? i1 = none
  n2 : g.get? i2 = none
  ns : g.get? S = none
/-- what comes of it -/
structure ZD (g h : Heap) (S : Addr) (xs ys : Array Value) (ts : List Addr) (c : Nat) : Prop where
  base : ∀ b o, g.get? b = some o → h.get? b = some o
  at_ : h.get? S = some (refsObj ts c)
  len : ts.length = xs.size
  nd : ts.Nodup
  each : ∀ (j : Nat) t, ts[j]? = some t → ∃ x y, xs[j]? = some x ∧ ys[j]? = some y ∧ IsPair h t x y ∧ t ≠ S ∧ g.objs.size ≤ t
section
variable {P : Program} {w : World} {A : Around} {E : Value → Shared → Prop} {R : Result → Shared → Prop} {g : Heap} {z TI TO i1 i2 l1 l2 S : Addr} {xs ys : Array Value}
/-- S changed -/
theorem ZL.lay {h h' : Heap} {i : Nat} {ts : List Addr} {c c' : Nat} (Z : ZL g h z TI TO i1 i2 l1 l2 S xs ys i ts c) (O : Off g z TI TO i1 i2 l1 l2 S) (k : ∀ b o, b ≠ S → h.get? b = some o → h'.get? b = some o) (le : h.objs.size ≤ h'.objs.size)
    (at_ : h'.get? S = some (refsObj ts c')) : ZL g h' z TI TO i1 i2 l1 l2 S xs ys i ts c' := by
  refine ⟨fun b o e => k b o (fun q => by subst q; rw [O.ns] at e; cases e) (Z.base b o e), Nat.le_trans Z.size le, k _ _ O.oti.symm Z.ti, Z.a1.at fun o e => k _ o O.oi1.symm e, Z.a2.at fun o e => k _ o O.oi2.symm e, Z.b1.at fun o e => k _ o O.ol1.symm e, Z.b2.at fun o e => k _ o O.ol2.symm e, let ⟨u, v, b⟩ := Z.to; ⟨u, v, k _ _ O.oto.symm b⟩, ?_, at_, Z.len, Z.nd, fun j t e => ?_⟩
  · rcases Z.st with a | ⟨T, f, oT, a, b, n1, n2, n3, n4⟩
    · exact .inl (k _ _ O.oz.symm a)
    · exact .inr ⟨T, f, oT, k _ _ O.oz.symm a, k _ _ n4 b, n1, n2, n3, n4⟩
  · obtain ⟨x, y, ex, ey, ep, n1, n2, n3, n4, n5, n6⟩ := Z.each j t e
    exact ⟨x, y, ex, ey, k _ _ n5 ep, n1, n2, n3, n4, n5, n6⟩
theorem zl_loop (D : ZipApart z TI TO i1 i2 l1 l2) (O : Off g z TI TO i1 i2 l1 l2 S) (same : xs.size = ys.size) (lim : xs.size ≤ sizeLine) (hh : A.in1.handled = none) (res : Value) :
    ∀ (k i : Nat) (s : Shared) (ts : List Addr) (c : Nat), xs.size - i = k → i ≤ xs.size → ZL g s.heap z TI TO i1 i2 l1 l2 S xs ys i ts c →
      (∀ h' ts' c', ZD g h' S xs ys ts' c' → R (.ok (.ret res)) { s with heap := h' }) →
      codeAny (model P w) A (.builtin "list.extend.loop" ⟨[.ref S, .ref z, res], []⟩) R s := by
  intro k
  induction k with
  | zero =>
    intro i s ts c ek le Z hR
    obtain rfl : i = xs.size := by omega
    have fin : ∀ h', (∀ b o, b ≠ z → b ≠ TO → b ≠ i1 → b ≠ i2 → s.heap.get? b = some o → h'.get? b = some o) → R (.ok (.ret res)) { s with heap := h' } := fun h' kp => by
      refine hR h' ts c ⟨fun b o e => kp b o (fun q => ?_) (fun q => ?_) (fun q => ?_) (fun q => ?_) (Z.base b o e), kp _ _ O.oz O.oto O.oi1 O.oi2 Z.at_, Z.len, Z.nd, fun j t e => ?_⟩
      · subst q; rw [O.nz] at e; cases e
      · subst q; rw [O.nto] at e; cases e
      · subst q; rw [O.n1] at e; cases e
      · subst q; rw [O.n2] at e; cases e
      · obtain ⟨x, y, ex, ey, ep, n1, n2, n3, n4, n5, n6⟩ := Z.each j t e
        exact ⟨x, y, ex, ey, kp _ _ n1 n2 n3 n4 ep, n5, n6⟩
    have hend : xs[xs.size]? = none ∨ ys[xs.size]? = none := .inl (Array.getElem?_eq_none (Nat.le_refl _))
    refine codeAny_builtin F.entry_extend_loop (by
      rw [Around.under_plainId F.plain_extend_loop _]
      show wpAny _ A.in1 (pyNext (.ref z) >>= _) _ _ s
      refine wpAny_bind ?_
      obtain ⟨u, v, o0⟩ := Z.to
      rcases Z.st with a | ⟨T, f, oT, a, b, n1, n2, n3, n4⟩
      · exact wpAny_pyNext_zip_end hh D a Z.ti o0 Z.a1 Z.a2 Z.b1 Z.b2 hend fun h' kp => wpAny_pure (fin h' kp)
      · exact wpAny_pyNext_zip_end_held hh D a b Z.ti Z.a1 Z.a2 Z.b1 Z.b2 hend fun h' kp => wpAny_pure (fin h' fun b o m1 _ m3 m4 e => kp b o m1 m3 m4 e))
  | succ k ih =>
    intro i s ts c ek le Z hR
    have lt : i < xs.size := by omega
    have ex := Array.getElem?_eq_getElem lt
    have ey := Array.getElem?_eq_getElem (show i < ys.size by omega)
    have off : ∀ {b o}, s.heap.get? b = some o → s.heap.objs.size ≠ b := fun e => Nat.ne_of_gt (Heap.lt_size e)
    have m1 : s.heap.objs.size ≠ i1 := let ⟨_, e, _⟩ := Z.a1; off e
    have m2 : s.heap.objs.size ≠ i2 := let ⟨_, e, _⟩ := Z.a2; off e
    have m3 : s.heap.objs.size ≠ S := off Z.at_
    have m4 : s.heap.objs.size ≠ z := by rcases Z.st with a | ⟨_, _, _, a, _⟩ <;> exact off a
    -- behind one item
    have turn : ∀ h1, (∃ T f oT, IsZipHeld h1 z TI TO T f ∧ h1.get? T = some oT ∧ T ≠ z ∧ T ≠ i1 ∧ T ≠ i2 ∧ T ≠ S) → (∃ u v, IsPair h1 TO u v) → h1.IsListIter i1 l1 (i + 1) → h1.IsListIter i2 l2 (i + 1) → IsPair h1 s.heap.objs.size xs[i] ys[i] → h1.objs.size = s.heap.objs.size + 1 →
        (∀ b o, b ≠ z → b ≠ TO → b ≠ i1 → b ≠ i2 → s.heap.get? b = some o → h1.get? b = some o) →
        wpAny (model P w) A.in1 (updateSeq S (·.push (.ref s.heap.objs.size)) >>= fun _ => again (.builtin "list.extend.loop" ⟨[.ref S, .ref z, res], []⟩))
          (fun fin s' => match fin with | .done f => R (.ok f) s' | .again c' => c'.quiet = true ∧ codeAny (model P w) A c' R s') (fun e s' => R (.error e) s') { s with heap := h1 } := fun h1 st1 to1 c1 c2 cp csz kp => by
      obtain ⟨_, _, o0⟩ := Z.to
      have m5 : s.heap.objs.size ≠ TO := off o0
      have at1 : h1.get? S = some (refsObj ts c) := kp _ _ O.oz O.oto O.oi1 O.oi2 Z.at_
      have sz1 : (ts.map Value.ref).toArray.size = i := by simp [Z.len]
      have nin : s.heap.objs.size ∉ ts := fun m => by
        obtain ⟨j, hj⟩ := List.getElem?_of_mem m
        obtain ⟨_, _, _, _, ep, _⟩ := Z.each j _ hj
        exact off ep rfl
      refine wpAny_bind (wpAny_updateSeq at1 rfl (wpAny_pure ⟨plainId_quiet F.plain_extend_loop _, ?_⟩) (by rw [sz1]; omega) (by show ((ts.map Value.ref).toArray.push _).size ≤ sizeLine + 1; rw [Array.size_push, sz1]; omega))
      have oth : ∀ b o, b ≠ S → h1.get? b = some o → (h1.update S (Obj.mapSeq (·.push (.ref s.heap.objs.size)))).get? b = some o := fun b o n e => (Heap.get?_update_other _ _ n.symm).trans e
      have at2 := Heap.get?_update_self (Obj.mapSeq (·.push (.ref s.heap.objs.size))) at1 rfl
      have size2 : (h1.update S (Obj.mapSeq (·.push (.ref s.heap.objs.size)))).objs.size = s.heap.objs.size + 1 := by rw [Heap.size_update, csz]
      refine ih (i + 1) { s with heap := h1.update S (Obj.mapSeq (·.push (.ref s.heap.objs.size))) } (ts ++ [s.heap.objs.size]) (c + 1) (by omega) lt ⟨fun b o e => ?_, by show g.objs.size ≤ (h1.update S _).objs.size; rw [size2]; have := Z.size; omega, oth _ _ O.oti.symm (kp _ _ D.TIz D.TITO D.TIi1 D.TIi2 Z.ti), c1.at fun o e => oth _ o O.oi1.symm e, c2.at fun o e => oth _ o O.oi2.symm e,
        Z.b1.at fun o e => oth _ o O.ol1.symm (kp _ o D.l1z D.l1TO D.l1i1 D.l1i2 e), Z.b2.at fun o e => oth _ o O.ol2.symm (kp _ o D.l2z D.l2TO D.l2i1 D.l2i2 e), let ⟨u, v, b⟩ := to1; ⟨u, v, oth _ _ O.oto.symm b⟩, .inr ?_, ?_, by simp [Z.len], ?_, fun j t e => ?_⟩ fun h' ts' c' zd => hR h' ts' c' zd
      · refine oth _ _ (fun q => ?_) (kp _ _ (fun q => ?_) (fun q => ?_) (fun q => ?_) (fun q => ?_) (Z.base b o e))
        · subst q; rw [O.ns] at e; cases e
        · subst q; rw [O.nz] at e; cases e
        · subst q; rw [O.nto] at e; cases e
        · subst q; rw [O.n1] at e; cases e
        · subst q; rw [O.n2] at e; cases e
      · obtain ⟨T, f, oT, a, b, n1, n2, n3, n4⟩ := st1
        exact ⟨T, f, oT, oth _ _ O.oz.symm a, oth _ _ n4 b, n1, n2, n3, n4⟩
      · rw [at2]
        simp [refsObj, Obj.mapSeq]
      · rw [List.nodup_append]
        refine ⟨Z.nd, by simp, fun a ha b hb q => ?_⟩
        rw [List.mem_singleton] at hb
        subst hb q
        exact nin ha
      · by_cases q : j < ts.length
        · rw [List.getElem?_append_left q] at e
          obtain ⟨x, y, fx, fy, ep, n1, n2, n3, n4, n5, n6⟩ := Z.each j t e
          exact ⟨x, y, fx, fy, oth _ _ n5 (kp _ _ n1 n2 n3 n4 ep), n1, n2, n3, n4, n5, n6⟩
        · have ej : j = i := by
            have := (List.getElem?_eq_some_iff.mp e).1
            rw [List.length_append, List.length_singleton, Z.len] at this
            rw [Z.len] at q
            omega
          subst ej
          rw [List.getElem?_append_right (by rw [Z.len]; exact Nat.le_refl _), Z.len, Nat.sub_self] at e
          cases e
          exact ⟨_, _, ex, ey, oth _ _ m3 cp, m4, m5, m1, m2, m3, Z.size⟩
    refine codeAny_builtin F.entry_extend_loop (by
      rw [Around.under_plainId F.plain_extend_loop _]
      show wpAny _ A.in1 (pyNext (.ref z) >>= _) _ _ s
      refine wpAny_bind ?_
      obtain ⟨u, v, o0⟩ := Z.to
      rcases Z.st with a | ⟨T, f, oT, a, b, n1, n2, n3, n4⟩
      · refine wpAny_pyNext_zip_item D a Z.ti o0 Z.a1 Z.a2 Z.b1 Z.b2 ex ey fun h1 q1 q2 q3 q4 q5 q6 kp => ?_
        exact turn h1 ⟨s.heap.objs.size, false, _, q1, q5, m4, m1, m2, m3⟩ ⟨_, _, q2⟩ q3 q4 q5 q6 kp
      · refine wpAny_pyNext_zip_item_held D a b Z.ti Z.a1 Z.a2 Z.b1 Z.b2 ex ey fun h1 q1 q3 q4 q5 q6 kp => ?_
        exact turn h1 ⟨T, true, oT, q1, kp _ _ n1 n2 n3 b, n1, n2, n3, n4⟩ ⟨u, v, kp _ _ D.TOz D.TOi1 D.TOi2 o0⟩ q3 q4 q5 q6 fun b o k1 _ k3 k4 e => kp b o k1 k3 k4 e)
end
end Nm
set_option maxRecDepth 100000
set_option maxHeartbeats 4000000
/-! list(zip(xs, ys)) as an expression -/
namespace Nm
open PySem PySem.Spec PyProof.Rows L2
section
variable {P : Program} {w : World} {A : Around} {E : Value → Shared → Prop} {R : Result → Shared → Prop} {g : Heap} {z TI TO i1 i2 l1 l2 S : Addr} {xs ys : Array Value} {s : Shared}
/-- what a list's making waits for -/
abbrev Waits (P : Program) (w : World) (A : Around) (R : Result → Shared → Prop) : PySem.Fin → Shared → Prop := fun fin s' => match fin with
  | .done f => R (.ok f) s'
  | .again c' => c'.quiet = true ∧ codeAny (model P w) A c' R s'
theorem extend_zip (D : ZipApart z TI TO i1 i2 l1 l2) (O : Off g z TI TO i1 i2 l1 l2 S) (same : xs.size = ys.size) (lim : xs.size ≤ sizeLine) (hh : A.in1.handled = none) (res : Value) {c : Nat} (hz : IsZip s.heap z TI TO .none) (Z : ZL g s.heap z TI TO i1 i2 l1 l2 S xs ys 0 [] c)
    (hR : ∀ h' ts c', ZD g h' S xs ys ts c' → R (.ok (.ret res)) { s with heap := h' }) :
    wpAny (model P w) A.in1 (Builtin.List.listExtendWith (.ref S) (.ref z) res) (Waits P w A R) (fun e s' => R (.error e) s') s := by
  have ty : s.TypeIs (.ref z) "zip" := ⟨_, hz, rfl⟩
  unfold Builtin.List.listExtendWith
  refine wpAny_bind (wpAny_typeOf ty ?_)
  have q1 : Builtin.List.listSameRef (.ref S) (.ref z) = false := by simp [Builtin.List.listSameRef, O.oz]
  have q2 : (Value.type "zip" == Value.type "list") = false := by decide
  have q3 : (Value.type "zip" == Value.type "tuple") = false := by decide
  simp only [q1, q2, q3, Bool.or_false, Bool.false_eq_true, if_false]
  refine wpAny_bind (wpAny_pyIter_zip hz (wpAny_bind (wpAny_holding ?_)))
  unfold Builtin.List.listLengthHint
  refine wpAny_bind (wpAny_specialOf ty zip_lenless ?_)
  show wpAny _ A.in1 (specialOf (Value.ref z) (Str.ofString "__length_hint__") >>= _) _ _ _
  refine wpAny_bind (wpAny_specialOf ty zip_hintless (wpAny_pure ?_))
  show wpAny _ A.in1 (rule "list.extend.makes-room" >>= fun _ => Builtin.List.listTouch (.ref S) >>= fun _ => again (.builtin "list.extend.loop" ⟨[.ref S, .ref z, res], []⟩)) _ _ _
  refine wpAny_bind (wpAny_rule (wpAny_bind ?_))
  show wpAny _ A.in1 (updateSeq S (·.push .none) >>= fun _ => updateSeq S (·.pop)) _ _ _
  refine wpAny_bind (wpAny_updateSeq Z.at_ rfl ?_ (by simp [sizeLine_eq]) (by simp [sizeLine_eq]))
  have at2 := Heap.get?_update_self (Obj.mapSeq (·.push Value.none)) Z.at_ rfl
  refine wpAny_updateSeq at2 rfl ?_ (by simp [Obj.mapSeq, refsObj, sizeLine_eq]) (by simp [Obj.mapSeq, refsObj, sizeLine_eq])
  have at3 := Heap.get?_update_self (Obj.mapSeq (·.pop)) at2 rfl
  have oth : ∀ b o, b ≠ S → s.heap.get? b = some o → ((s.heap.update S (Obj.mapSeq (·.push Value.none))).update S (Obj.mapSeq (·.pop))).get? b = some o := fun b o n e => (Heap.get?_update_other _ _ n.symm).trans ((Heap.get?_update_other _ _ n.symm).trans e)
  have Z2 := Z.lay (h' := (s.heap.update S (Obj.mapSeq (·.push Value.none))).update S (Obj.mapSeq (·.pop))) (c' := c + 2) O oth (by rw [Heap.size_update, Heap.size_update]; exact Nat.le_refl _) (by rw [at3]; simp [refsObj, Obj.mapSeq])
  exact wpAny_pure ⟨plainId_quiet F.plain_extend_loop _, zl_loop D O same lim hh res _ 0 _ [] (c + 2) rfl (Nat.zero_le _) Z2 hR⟩
theorem init_zip (D : ZipApart z TI TO i1 i2 l1 l2) (O : Off g z TI TO i1 i2 l1 l2 S) (same : xs.size = ys.size) (lim : xs.size ≤ sizeLine) (hh : A.in1.handled = none) {c : Nat} (hz : IsZip s.heap z TI TO .none) (Z : ZL g s.heap z TI TO i1 i2 l1 l2 S xs ys 0 [] c)
    (hR : ∀ h' ts c', ZD g h' S xs ys ts c' → R (.ok (.ret .none)) { s with heap := h' }) :
    wpAny (model P w) A.in1 (Builtin.«list.__init__» ⟨[.ref S, .ref z], []⟩) (Waits P w A R) (fun e s' => R (.error e) s') s := by
  show wpAny _ A.in1 (Builtin.List.listItems (.ref S) >>= fun old => Builtin.List.listUpdate (.ref S) (fun _ => #[]) >>= fun _ => letGo old.toList.reverse >>= fun _ => Builtin.List.listExtendWith (.ref S) (.ref z) .none) _ _ s
  refine wpAny_bind ?_
  unfold Builtin.List.listItems
  refine wpAny_bind (wpAny_seqItems Z.at_ rfl (wpAny_pure ?_))
  show wpAny _ A.in1 (updateSeq S (fun _ => #[]) >>= fun _ => letGo ((([] : List Addr).map Value.ref).toArray).toList.reverse >>= fun _ => Builtin.List.listExtendWith (.ref S) (.ref z) .none) _ _ s
  refine wpAny_bind (wpAny_updateSeq Z.at_ rfl ?_ (by simp [sizeLine_eq]) (by simp [sizeLine_eq]))
  have at2 := Heap.get?_update_self (Obj.mapSeq (fun _ => (#[] : Array Value))) Z.at_ rfl
  have oth : ∀ b o, b ≠ S → s.heap.get? b = some o → (s.heap.update S (Obj.mapSeq (fun _ => (#[] : Array Value)))).get? b = some o := fun b o n e => (Heap.get?_update_other _ _ n.symm).trans e
  have Z2 := Z.lay (h' := s.heap.update S (Obj.mapSeq (fun _ => (#[] : Array Value)))) (c' := c) O oth (by rw [Heap.size_update]; exact Nat.le_refl _) (by rw [at2]; simp [refsObj, Obj.mapSeq])
  exact wpAny_bind (wpAny_letGo (extend_zip (s := { s with heap := s.heap.update S (Obj.mapSeq (fun _ => (#[] : Array Value))) }) D O same lim hh .none (oth _ _ O.oz.symm hz) Z2 hR))
/-- list(z) of a zip just made -/
theorem call_listZip {Q : Value → Shared → Prop} {h0 : Heap} (la : l1 < h0.objs.size) (lb : l2 < h0.objs.size) (hb1 : h0.IsList l1 xs) (hb2 : h0.IsList l2 ys) (same : xs.size = ys.size) (lim : xs.size ≤ sizeLine) (hh : A.in1.in1.handled = none)
    (hz : IsZip s.heap (h0.objs.size + 4) (h0.objs.size + 2) (h0.objs.size + 3) .none) (hTI : IsPair s.heap (h0.objs.size + 2) (.ref h0.objs.size) (.ref (h0.objs.size + 1))) (hTO : IsPair s.heap (h0.objs.size + 3) .none .none) (a1 : s.heap.IsListIter h0.objs.size l1 0) (a2 : s.heap.IsListIter (h0.objs.size + 1) l2 0)
    (hsz : s.heap.objs.size = h0.objs.size + 5) (hk : ∀ b o, h0.get? b = some o → s.heap.get? b = some o)
    (hQ : ∀ h' ts c', ZD h0 h' (h0.objs.size + 5) xs ys ts c' → Q (.ref (h0.objs.size + 5)) { s with heap := h' }) : wpAny (model P w) A (call (.type "list") [.ref (h0.objs.size + 4)]) Q E s := by
  have fresh : ∀ k, h0.get? (h0.objs.size + k) = none := fun k => Heap.get?_none_of_le (Nat.le_add_right _ _)
  have O : Off h0 (h0.objs.size + 4) (h0.objs.size + 2) (h0.objs.size + 3) h0.objs.size (h0.objs.size + 1) l1 l2 (h0.objs.size + 5) := ⟨Nat.ne_of_gt (Nat.add_lt_add_left (by decide) _), Nat.ne_of_gt (Nat.add_lt_add_left (by decide) _), Nat.ne_of_gt (Nat.add_lt_add_left (by decide) _), Nat.ne_of_gt (Nat.lt_add_of_pos_right (by decide)), Nat.ne_of_gt (Nat.add_lt_add_left (by decide) _), Nat.ne_of_gt (Nat.lt_add_right 5 la), Nat.ne_of_gt (Nat.lt_add_right 5 lb), fresh 4, fresh 3, fresh 0, fresh 1, fresh 5⟩
  refine callType_codes (Q₁ := fun obj s₁ => obj = .ref s.heap.objs.size ∧ s₁ = { s with heap := s.heap.push { cls := .type "list", data := .seq #[] } }) F.called_list (F.typeCall_list_1 _) F.entry_list_init (code_list_new _ ⟨rfl, rfl⟩) fun obj s₁ h₁ => ?_
  obtain ⟨rfl, rfl⟩ := h₁
  have at_ : (s.heap.push { cls := .type "list", data := .seq #[] }).get? s.heap.objs.size = some { cls := .type "list", data := .seq #[] } := Heap.get?_push_size _ rfl
  have kp : ∀ b o, s.heap.get? b = some o → (s.heap.push { cls := .type "list", data := .seq #[] }).get? b = some o := fun b o e => Heap.get?_push_of_some _ e
  refine ⟨⟨_, at_, rfl⟩, F.args_list_init_2 _ _, ?_⟩
  rw [hsz] at at_ ⊢
  refine init_zip (s := { s with heap := s.heap.push { cls := .type "list", data := .seq #[] } }) (PySem.W.ktu_apart h0.objs.size l1 l2 la lb) O same lim hh (kp _ _ hz) ⟨fun b o e => kp b o (hk b o e), by show h0.objs.size ≤ (s.heap.push _).objs.size; rw [Heap.size_push, hsz]; omega, kp _ _ hTI, a1.at fun o e => kp _ o e, a2.at fun o e => kp _ o e, hb1.at fun o e => kp _ o (hk _ o e), hb2.at fun o e => kp _ o (hk _ o e), ⟨_, _, kp _ _ hTO⟩, .inl (kp _ _ hz), at_, rfl, List.nodup_nil, fun j t e => by simp at e⟩ fun h' ts c' zd => ?_
  exact ⟨rfl, hQ h' ts c' zd⟩
/-! ### the objects that come of it -/
theorem refs_vals : ∀ ts : List Addr, Vals (ts.map V.ref) (ts.map Value.ref)
  | [] => .nil
  | t :: ts => .cons (show RelV (.ref t) (.ref t) from rfl) (refs_vals ts)
/-- tuples laid at these places -/
def layT (H : Hp) : List Addr → List V → List V → Hp
  | t :: ts, x :: xs, y :: ys => upd (layT H ts xs ys) t (.tup [x, y])
  | _, _, _ => H
theorem layT_out {H : Hp} {b : Addr} : ∀ {ts : List Addr} {xs ys : List V}, b ∉ ts → layT H ts xs ys b = H b
  | [], _, _, _ => by unfold layT; rfl
  | _ :: _, [], _, _ => by unfold layT; rfl
  | _ :: _, _ :: _, [], _ => by unfold layT; rfl
  | t :: ts, x :: xs, y :: ys, n => by
    show upd (layT H ts xs ys) t _ b = H b
    rw [upd_ne fun e => n (by rw [e]; exact List.mem_cons_self)]
    exact layT_out fun m => n (List.mem_cons_of_mem _ m)
theorem layT_at {H : Hp} : ∀ {ts : List Addr} {xs ys : List V} {j : Nat} {t : Addr} {x y : V}, ts.Nodup → ts[j]? = some t → xs[j]? = some x → ys[j]? = some y → layT H ts xs ys t = some (.tup [x, y])
  | [], _, _, _, _, _, _, _, e, _, _ => by simp at e
  | _ :: _, [], _, _, _, _, _, _, _, e, _ => by simp at e
  | _ :: _, _ :: _, [], _, _, _, _, _, _, _, e => by simp at e
  | t :: ts, x :: xs, y :: ys, 0, _, _, _, _, e1, e2, e3 => by
    cases e1
    cases e2
    cases e3
    exact upd_same
  | t :: ts, x :: xs, y :: ys, j + 1, t', _, _, nd, e1, e2, e3 => by
    obtain ⟨n1, n2⟩ := List.nodup_cons.mp nd
    rw [List.getElem?_cons_succ] at e1 e2 e3
    show upd (layT H ts xs ys) t _ t' = _
    rw [upd_ne fun e => n1 (by rw [← e]; exact List.mem_of_getElem? e1)]
    exact layT_at n2 e1 e2 e3
variable {X : Cx} {pins : List (Addr × Obj)} {σ : L2.St} {H H' : Hp} {h' : Heap}
/-- many objects laid at once -/
theorem laid_all (I : Inv X pins σ H s) (k : ∀ b u, s.heap.get? b = some u → h'.get? b = some u) (old : ∀ b, b < s.heap.objs.size → H' b = H b) (new : ∀ b o, s.heap.objs.size ≤ b → H' b = some o → ObjOk X.prog X.w H' h' b o) : Inv X pins σ H' { s with heap := h' } := by
  have same : ∀ b o, H b = some o → H' b = some o := fun b o e => (old b (I.hok.lt e)).trans e
  refine I.un (t' := s.toks) ⟨fun b o e _ _ _ => k b o e, fun b o e _ _ _ => ⟨o.slots, k b o e⟩, fun b o e n _ => (old b (Heap.lt_size e)).trans n, fun b o e _ => ⟨o, k b o e⟩, fun b xs e => same b _ e, fun b o u e => same b _ e, fun b ps e => ⟨#[], by rw [same b _ e]; simp⟩⟩ fun b o e => ?_
  by_cases c : b < s.heap.objs.size
  · rw [old b c] at e
    exact (I.hok b o e).stay (fun b u _ q => k b u q) (fun b q => same b _ q) fun b xs q => same b _ q
  · exact new b o (Nat.le_of_not_lt c) e
/-- list(zip(xs, ys)): new tuples in a new list -/
def tListZip (K : PySem.W.Frag) (t : TA) : TE := fun σ H Q => t σ H fun vs H1 => ∃ (a b : Addr) (xs ys : List V), vs = [.ref a, .ref b] ∧ SqL K H1 a xs ∧ SqL K H1 b ys ∧ xs.length = ys.length ∧ xs.length ≤ 1000 ∧
  ∀ (p : Addr) (ts : List Addr) (H2 : Hp), H1 p = none → ts.length = xs.length → H2 p = some (.lst (ts.map V.ref)) → (∀ (i : Nat) (t : Addr), ts[i]? = some t → ∃ x y, xs[i]? = some x ∧ ys[i]? = some y ∧ H2 t = some (.tup [x, y])) → (∀ b o, H1 b = some o → H2 b = some o) → Q (.ref p) H2
theorem pe_listZip {e e2 : Expr} {t : TA} {p p2 q pos : Pos} (hc : X.calm = true) (g1 : Gl X "list") (m1 : X.mg "list" = none) (g2 : Gl X "zip") (m2 : X.mg "zip" = none) (ha : PA X [e, e2] t)
    (n1 : starEach [e, e2] X.env = (false, eval e X.env) :: starEach [e2] X.env := by rfl) (n2 : (backTo q (starEach [e2] X.env)).any (·.1) = false := by rfl) (n3 : starEach [.Call (.Name "zip" p2) [e, e2] [] q] X.env = (false, eval (.Call (.Name "zip" p2) [e, e2] [] q) X.env) :: starEach [] X.env := by rfl) : PE X (.Call (.Name "list" p) [.Call (.Name "zip" p2) [e, e2] [] q] [] pos) (tListZip X.K t) := by
  refine ⟨fun pins s σ H Q I h => ?_⟩
  refine Call_ (ld_blt I g1 m1 (show bootBuiltins "list" = some (.type "list") by decide +kernel) (PyProof.Rows.callWith_type1 (PyProof.Rows.args_cons ?_ n3) n3 rfl))
  refine Call_ (ld_blt I g2 m2 PyProof.Rows.boot_zip (PyProof.Rows.callWith_type1 (thn (ha.run q pins s σ H _ I h) fun us s1 ⟨vs, H1, I1, r1, q1⟩ => ?_) n1 n2))
  obtain ⟨a, b, xs, ys, rfl, hqx, hqy, same, lim, k⟩ := q1
  obtain ⟨its, rv, p1, _⟩ := I1.list hqx
  obtain ⟨its2, rv2, p2', _⟩ := I1.list hqy
  have e1 := rv.length
  have e2' := rv2.length
  cases r1 with
  | cons r rr =>
    cases rr with
    | cons r' rr =>
      cases rr
      cases r
      cases r'
      refine call_zip_2 p1.isList p2'.isList fun h1 hz hTI hTO a1 a2 hsz hk => PyProof.Rows.args_nil ?_
      refine call_listZip (s := { s1 with heap := h1 }) (h0 := s1.heap) p1.lt p2'.lt p1.isList p2'.isList (by simp only [List.size_toArray]; omega) (by simp only [List.size_toArray, sizeLine_eq]; omega) (I1.ok.hd hc) hz hTI hTO a1 a2 hsz hk fun h2 ts c zd => ?_
      have len : ts.length = xs.length := by rw [zd.len, List.size_toArray, e1]
      have nsT : s1.heap.objs.size + 5 ∉ ts := fun m => by
        obtain ⟨j, hj⟩ := List.getElem?_of_mem m
        obtain ⟨_, _, _, _, _, n, _⟩ := zd.each j _ hj
        exact n rfl
      have at1 : upd (layT H1 ts xs ys) (s1.heap.objs.size + 5) (.lst (ts.map V.ref)) (s1.heap.objs.size + 5) = some (.lst (ts.map V.ref)) := upd_same
      have tup1 : ∀ (j : Nat) t x y, ts[j]? = some t → xs[j]? = some x → ys[j]? = some y → upd (layT H1 ts xs ys) (s1.heap.objs.size + 5) (.lst (ts.map V.ref)) t = some (.tup [x, y]) := fun j t x y f1 f2 f3 => by
        rw [upd_ne fun q => nsT (by rw [← q]; exact List.mem_of_getElem? f1)]
        exact layT_at zd.nd f1 f2 f3
      have old1 : ∀ b, b < s1.heap.objs.size → upd (layT H1 ts xs ys) (s1.heap.objs.size + 5) (.lst (ts.map V.ref)) b = H1 b := fun b lt => by
        rw [upd_ne (Nat.ne_of_lt (Nat.lt_add_right 5 lt))]
        refine layT_out fun m => ?_
        obtain ⟨j, hj⟩ := List.getElem?_of_mem m
        obtain ⟨_, _, _, _, _, _, n⟩ := zd.each j _ hj
        exact absurd lt (Nat.not_lt.mpr n)
      refine ⟨.ref (s1.heap.objs.size + 5), _, laid_all (s := s1) I1 zd.base old1 fun b o ge eb => ?_, rfl, k (s1.heap.objs.size + 5) ts _ (I1.hok.fresh (Nat.le_add_right _ _)) len at1 (fun j t f1 => ?_) fun b o eb => ?_⟩
      · by_cases cS : b = s1.heap.objs.size + 5
        · subst cS
          rw [at1] at eb
          cases eb
          exact ⟨by rw [List.length_map, len, sizeLine_eq]; omega, ts.map Value.ref, c, refs_vals ts, zd.at_⟩
        · by_cases cT : b ∈ ts
          · obtain ⟨j, hj⟩ := List.getElem?_of_mem cT
            have jl : j < ts.length := (List.getElem?_eq_some_iff.mp hj).1
            have fx := List.getElem?_eq_getElem (show j < xs.length by omega)
            have fy := List.getElem?_eq_getElem (show j < ys.length by omega)
            rw [tup1 j b _ _ hj fx fy] at eb
            cases eb
            obtain ⟨u, v, hu, hv, hp, _⟩ := zd.each j b hj
            obtain ⟨u', hu', ru⟩ := rv.get fx
            obtain ⟨v', hv', rv'⟩ := rv2.get fy
            have eu : u' = u := Option.some.inj (hu'.symm.trans (by simpa using hu))
            have ev : v' = v := Option.some.inj (hv'.symm.trans (by simpa using hv))
            subst eu ev
            exact ⟨by show 2 ≤ sizeLine; decide, [u', v'], .cons ru (.cons rv' .nil), ⟨_, hp, rfl, _, rfl⟩⟩
          · rw [upd_ne cS, layT_out cT, I1.hok.fresh ge] at eb
            cases eb
      · have jl : j < ts.length := (List.getElem?_eq_some_iff.mp f1).1
        have fx := List.getElem?_eq_getElem (show j < xs.length by omega)
        have fy := List.getElem?_eq_getElem (show j < ys.length by omega)
        exact ⟨_, _, fx, fy, tup1 j t _ _ f1 fx fy⟩
      · rw [old1 b (I1.hok.lt eb)]
        exact eb
end
end Nm
set_option maxRecDepth 100000
set_option maxHeartbeats 4000000
/-! spots of ties, by the places of their ends -/
namespace Nm
open PySem L2
theorem pair_mm {x y : Str} (h : x ≠ y) : (minS x y = x ∧ maxS x y = y) ∨ (minS x y = y ∧ maxS x y = x) := by
  unfold minS maxS
  by_cases a : x.cps.toList < y.cps.toList
  · rw [if_pos a, if_neg (List.lt_asymm a)]
    exact .inl ⟨rfl, rfl⟩
  · by_cases b : y.cps.toList < x.cps.toList
    · rw [if_neg a, if_pos b]
      exact .inr ⟨rfl, rfl⟩
    · exfalso
      have := List.le_antisymm (List.not_lt.mp b) (List.not_lt.mp a)
      apply h
      cases x
      cases y
      simp_all
theorem mm_comm {x y : Str} (h : x ≠ y) : minS x y = minS y x ∧ maxS x y = maxS y x := by
  unfold minS maxS
  by_cases a : x.cps.toList < y.cps.toList
  · rw [if_pos a, if_neg (List.lt_asymm a), if_pos a, if_neg (List.lt_asymm a)]
    exact ⟨rfl, rfl⟩
  · by_cases b : y.cps.toList < x.cps.toList
    · rw [if_neg a, if_pos b, if_neg a, if_pos b]
      exact ⟨rfl, rfl⟩
    · exfalso
      have := List.le_antisymm (List.not_lt.mp b) (List.not_lt.mp a)
      apply h
      cases x
      cases y
      simp_all
/-- the spot that a key of a world's ties leads to -/
def spotK (nm : List Str) : List Key → List Key
  | [Sum.inl i, Sum.inl j, Sum.inr kd] => [Sum.inr (minS ((nm[i.toNat]?).getD "") ((nm[j.toNat]?).getD "")), Sum.inr (maxS ((nm[i.toNat]?).getD "") ((nm[j.toNat]?).getD "")), Sum.inr kd]
  | _ => []
theorem spotK_at {nm : List Str} {i j : Nat} {kd x y : Str} (hx : nm[i]? = some x) (hy : nm[j]? = some y) : spotK nm [Sum.inl (i : Int), Sum.inl (j : Int), Sum.inr kd] = [Sum.inr (minS x y), Sum.inr (maxS x y), Sum.inr kd] := by
  show [Sum.inr (minS ((nm[(i : Int).toNat]?).getD "") ((nm[(j : Int).toNat]?).getD "")), Sum.inr (maxS ((nm[(i : Int).toNat]?).getD "") ((nm[(j : Int).toNat]?).getD "")), Sum.inr kd] = _
  rw [Int.toNat_natCast, Int.toNat_natCast, hx, hy]
  rfl
theorem spotK_inj {nm : List Str} (nd : nm.Nodup) {k k' : List Key} (h : TieK nm.length k) (h' : TieK nm.length k') (e : spotK nm k = spotK nm k') : k = k' := by
  obtain ⟨i, j, kd, rfl, h1, h2, _⟩ := h
  obtain ⟨i', j', kd', rfl, h1', h2', _⟩ := h'
  obtain ⟨x, hx⟩ : ∃ x, nm[i]? = some x := ⟨_, List.getElem?_eq_getElem (by omega)⟩
  obtain ⟨y, hy⟩ : ∃ y, nm[j]? = some y := ⟨_, List.getElem?_eq_getElem (by omega)⟩
  obtain ⟨x', hx'⟩ : ∃ x, nm[i']? = some x := ⟨_, List.getElem?_eq_getElem (by omega)⟩
  obtain ⟨y', hy'⟩ : ∃ y, nm[j']? = some y := ⟨_, List.getElem?_eq_getElem (by omega)⟩
  rw [spotK_at hx hy, spotK_at hx' hy'] at e
  simp only [List.cons.injEq, Sum.inr.injEq, and_true] at e
  obtain ⟨e1, e2, e3⟩ := e
  have at_ : ∀ {a b : Nat} {z : Str}, nm[a]? = some z → nm[b]? = some z → a = b := fun {a b z} ha hb => (List.getElem?_inj (List.getElem?_eq_some_iff.mp ha).1 nd).mp (ha.trans hb.symm)
  have hne : x ≠ y := fun z => by
    subst z
    have := at_ hx hy
    omega
  have hne' : x' ≠ y' := fun z => by
    subst z
    have := at_ hx' hy'
    omega
  have fin : (i = i' ∧ j = j') ∨ (i = j' ∧ j = i') := by
    rcases pair_mm hne with ⟨a, b⟩ | ⟨a, b⟩ <;> rcases pair_mm hne' with ⟨a', b'⟩ | ⟨a', b'⟩ <;> rw [a, a'] at e1 <;> rw [b, b'] at e2 <;> subst e1 e2
    · exact .inl ⟨at_ hx hx', at_ hy hy'⟩
    · exact .inr ⟨at_ hx hy', at_ hy hx'⟩
    · exact .inr ⟨at_ hx hy', at_ hy hx'⟩
    · exact .inl ⟨at_ hx hx', at_ hy hy'⟩
  subst e3
  rcases fin with ⟨rfl, rfl⟩ | ⟨rfl, rfl⟩
  · rfl
  · omega
theorem spots_nd {nm : List Str} (nd : nm.Nodup) {ks : List (List Key)} (hk : ∀ k ∈ ks, TieK nm.length k) (hn : ks.Nodup) : (ks.map (spotK nm)).Nodup := by
  refine List.pairwise_map.mpr (List.Pairwise.imp_of_mem (fun {a b} ha hb hne e => hne ?_) hn)
  exact spotK_inj nd (hk a ha) (hk b hb) e
/-- the key that a tuple tells -/
def keyBack (H : Hp) : V → List Key
  | .ref b => (match H b with
    | some (.tup xs) => xs.map keyOf
    | _ => [])
  | _ => []
theorem keyBack_of {H : Hp} {b : Addr} {k : List Key} (h : H b = some (.tup (k.map kV))) : keyBack H (.ref b) = k := by
  show (match H b with
    | some (.tup xs) => xs.map keyOf
    | _ => []) = k
  rw [h]
  show (k.map kV).map keyOf = k
  rw [List.map_map]
  conv => rhs; rw [← List.map_id k]
  exact List.map_congr_left fun x _ => keyOf_kV x
theorem keys_back {H : Hp} : ∀ {kvs : List (List Key × V)} {bs : List Addr}, IsKeys H kvs bs → (bs.map V.ref).map (keyBack H) = kvs.map (·.1)
  | _, _, .nil => rfl
  | _, _, .cons h t => by
    rw [List.map_cons, List.map_cons, List.map_cons, keys_back t, keyBack_of h]
end Nm
set_option maxRecDepth 100000
set_option maxHeartbeats 4000000
namespace Nm
open PySem L2
theorem step_up (x y : V) : stepV [x, y] 1 = [x, y] := by
  have e : stepIx 1 2 = [0, 1] := by decide +kernel
  show (stepIx 1 2).filterMap ([x, y][·]?) = [x, y]
  rw [e]
  rfl
theorem step_down (x y : V) : stepV [x, y] (-1) = [y, x] := by
  have e : stepIx (-1) 2 = [1, 0] := by decide +kernel
  show (stepIx (-1) 2).filterMap ([x, y][·]?) = [y, x]
  rw [e]
  rfl
structure TxtM (K : PySem.W.Frag) (mg : Str → Option Value) (C f : Addr) : Prop extends TxtW K mg C where
  mgC : mg "Web" = some (.ref C)
  mkC : Mk K C f
section
variable {P : Program} {w : World} {K : PySem.W.Frag} {mg : Str → Option Value} {base : Heap}
/-! ### _law_made -/
def spMade (C : Addr) : Sp := fun vs H Q _ => ∃ (s c wd a b t : Addr) (nm cl : List Str) (kvs : List (List Key × V)) (m : Nat), vs = [.ref s, .ref wd] ∧ Src H s c ∧ WorldOk H s c wd a b t nm cl kvs ∧ Ties nm.length m kvs ∧ kvs.length ≤ 4000 ∧ nm.length ≤ 1000 ∧
  ∀ (p q : Addr) (H' : Hp), H p = none → H q = none → WebAt C H' p q nm → Src H' s c → Kp s c H H' → Q (.ref p) H'
abbrev nMd : List Str := ["_law_source", "_law_world", "_law_names", "_law_rows", "_law_one", "_law_other", "_law_kind", "_law_ends"]
theorem scMd : FnScope nMd ["_law_source", "_law_world"] (defScope sMade) := ⟨rfl, rfl, rfl, by decide +kernel, rfl, by decide +kernel, by decide +kernel⟩
theorem ok_made {f C fi : Addr} {fd fdi : FuncData} (F : Fun K "_law_made" "_law_made" sMade f fd) (T : TxtM K mg C fi) (Gp : Def P w K mg base "_law_pick" ["_law_source", "_law_many"] 1 spPick) (Ga : Def P w K mg base "_law_any_order" ["_law_source", "_law_items"] 2 (spAny K))
    (Gi : FnOk P w K mg base CX0 5 fi fdi ["self", "places", "ties"] (spWebI C)) (bi : Binds K fdi ["self", "places", "ties"] []) : FnOk P w K mg base CX0 7 f fd ["_law_source", "_law_world"] (spMade C) := by
  obtain ⟨fp, fdp, Gp, mp, kp, bp⟩ := Gp.ex
  obtain ⟨fa, fda, Ga, ma, ka, ba⟩ := Ga.ex
  refine F.ok scMd (fun vs H Q E h => ?_) (fun cdv A outer s H vs Q E hr h => ?_)
  · obtain ⟨_, _, _, _, _, _, _, _, _, _, rfl, _⟩ := h
    rfl
  · obtain ⟨sa, ca, wd, a, b, t, nm, cl, kvs, m, rfl, S, W, ti, hkl, hnl, k⟩ := h
    have hu := hu_of hr
    have hr1 := hr.mono (by decide : 1 ≤ 6)
    have hr2 := hr.mono (by decide : 2 ≤ 6)
    refine ⟨_, pss_cons (ps_par (i := 2) (j := 3) (by rfl) scMd.nd rfl rfl (by decide) rfl rfl (pa_cons (pe_dget hu (pv 1) pe_str (fun _ _ => rfl)) (pa_cons (pe_lst pa_nil) pa_nil)) (by rfl))
      (Evl.pss_cut (ps_for PassesOwn.never rfl (pi_list (pe_call Ga hr2 (by rfl) ma ka ba .nil pass0 (pa_cons (pv 0) (pa_cons (pe_callTy (call_list_dT rfl) (by rfl) T.list (by decide +kernel) (pa_cons (pe_dget hu (pv 1) pe_str (fun _ _ => rfl)) pa_nil)) pa_nil))))
        (pg_tup rfl (pgs_cons (pg_name (i := 4) scMd.nd rfl (.inl rfl)) (pgs_cons (pg_name (i := 5) scMd.nd rfl (.inl rfl)) (pgs_cons (pg_name (i := 6) scMd.nd rfl (.inl rfl)) pgs_nil))))
        (pss_cons (ps_set (i := 7) scMd.nd rfl (Or.inl rfl) (pe_stepL (pe_lst (pa_cons (pe_ix ix_list (pv 2) (pv 4) (fun _ _ => rfl)) (pa_cons (pe_ix ix_list (pv 2) (pv 5) (fun _ _ => rfl)) pa_nil))) (pe_op op_sub pe_int (pe_op op_mul pe_int (pe_call Gp hr1 (by rfl) mp kp bp .nil pass0 (pa_cons (pv 0) (pa_cons pe_int pa_nil)))))))
        (pss_one (ps_expr (pe_bm PySem.F.plainAttrs_list PySem.F.slot_list_append PySem.F.type_list_append mt_append (pv 3) (pa_cons (pe_tup (pa_cons (pe_ix ix_list (pv 7) pe_int (fun _ _ => rfl)) (pa_cons (pe_ix ix_list (pv 7) pe_int (fun _ _ => rfl)) (pa_cons (pv 6) (pa_cons (pe_dget hu (pe_dget hu (pv 1) pe_str (fun _ _ => rfl)) (pe_tup (pa_cons (pv 4) (pa_cons (pv 5) (pa_cons (pv 6) pa_nil)))) (fun _ _ => rfl)) pa_nil))))) pa_nil))))))
      (pss_one (ps_ret (pe_make T.mkC Gi hr (by rfl) T.mgC bi .nil pass0 (pa_cons (pe_listZip rfl (by rfl) T.list (by rfl) T.zip (pa_cons (pv 2) (pa_cons (pe_dget hu (pv 1) pe_str (fun _ _ => rfl)) pa_nil))) (pa_cons (pv 3) pa_nil)))))), ?_⟩
    have hn := W.hn
    refine ⟨_, rfl, wd, _, rfl, dg_names W.d, (by show 0 ≤ sizeLine; decide), fun ro hro => ⟨_, _, rfl, ?_⟩⟩
    have s1 := same_new (o := .lst []) hro
    have hro1 : (upd H ro (.lst [])) ro = some (.lst (List.map V.ref [])) := upd_same
    have W1 := W.same s1
    have S1 := S.same s1
    generalize upd H ro (.lst []) = H1 at *
    obtain ⟨nrs, nrc⟩ := S.ne hro
    refine ⟨fun σ H2 => ∃ v4 v5 v6 v7 tl, σ = [some (.ref sa), some (.ref wd), some (.ref a), some (.ref ro), v4, v5, v6, v7] ∧ TiesAt H2 ro tl ∧ (∀ t ∈ tl, t.Ok nm) ∧ (tl.map TieV.spot).Nodup ∧ tl.length ≤ 4000 ∧ Src H2 sa ca ∧ Kp sa ca H H2, ?_, ?_⟩
    · refine ⟨_, rfl, _, rfl, wd, _, rfl, dg_ties W1.d, t, kvs, rfl, .inl W1.ht, fun l bs hl hk => ?_⟩
      obtain ⟨kl, hbl⟩ := keyL_of hk
      have s2 := same_new (o := .lst (bs.map V.ref)) hl
      have hl2 : (upd H1 l (.lst (bs.map V.ref))) l = some (.lst (bs.map V.ref)) := upd_same
      have kb : (bs.map V.ref).map (keyBack H1) = kvs.map (·.1) := keys_back hk
      have hbk : ∀ y ∈ bs.map V.ref, ∃ b k, y = V.ref b ∧ H1 b = some (.tup (List.map kV k)) := fun y hy => by
        obtain ⟨b, k, v, h1, h2, _⟩ := kl y hy
        exact ⟨b, k, h1, h2⟩
      generalize upd H1 l (.lst (bs.map V.ref)) = H2 at *
      refine ⟨sa, ca, l, _, rfl, S1.same s2, SqL.of hl2, by rw [List.length_map]; omega, fun p ys H3 hp pm hp3 S3 kp3 => ?_⟩
      have kly : KeyL H3 kvs ys := fun y hy => ((kl.same s2).kp (S1.same s2) kp3) y (pm.subset hy)
      have W3 := (W1.same s2).kp kp3
      have hro3 := kp3 _ _ (s2 _ _ hro1) nrs nrc
      have hyl : ys.length ≤ 4000 := by rw [pm.length_eq, List.length_map]; omega
      have npr : p ≠ ro := fun e => by subst e; rw [s2 _ _ hro1] at hp; cases hp
      have hkk : ((ys.map (keyBack H1)).Perm (kvs.map (·.1))) := by rw [← kb]; exact pm.map _
      have kp03 : Kp sa ca H H3 := (Kp.same (s1.trans s2)).trans kp3
      have hp0 := S3
      have npsc := (S1.same s2).ne hp
      refine ⟨p, rfl, ⟨_, SqL.of hp3⟩, ?_⟩
      refine for_list (xs := ys) (fun i σ H4 => ∃ v4 v5 v6 v7 us tl, σ = [some (.ref sa), some (.ref wd), some (.ref a), some (.ref ro), v4, v5, v6, v7] ∧ H4 ro = some (.lst (List.map V.ref us)) ∧ us.length = i ∧ Paired (fun u tv => H4 u = some (.tup (TieV.tup tv))) us tl ∧ (∀ t ∈ tl, t.Ok nm) ∧ tl.map TieV.spot = ((ys.map (keyBack H1)).take i).map (spotK nm) ∧ Src H4 sa ca ∧ Kp3 sa ca ro H3 H4)
        ⟨none, none, none, none, [], [], rfl, hro3, rfl, .nil, (fun t ht => (List.not_mem_nil ht).elim), rfl, S3, Kp3.refl H3⟩ (fun i σ H4 _ ⟨_, _, _, _, _, _, _, _, _, _, _, _, _, h⟩ => SqL.of (h _ _ hp3 npsc.1 npsc.2 npr)) ?_ ?_
      · rintro i y σ H4 hi ⟨v4, v5, v6, v7, us, tl, rfl, hro4, hul, pu, hok, hsp, S4, kp4⟩
        have hil := (List.getElem?_eq_some_iff.mp hi).1
        have hym := List.mem_of_getElem? hi
        obtain ⟨b1, i1, j1, x1, kd1, rfl, hb1, hmem, hij, hjn, hkw, hx1, hx2⟩ := kly.tie ti hym
        obtain ⟨b1', k1, eb, hbk1⟩ := hbk _ (pm.subset hym)
        cases eb
        obtain ⟨cs0, l0, m0, t0, S30⟩ := id S3
        have nb1 : b1 ≠ sa := ne_of hb1 S30.ds (by intro z; cases z)
        have nb2 : b1 ≠ ca := ne_of hb1 S30.dc (by intro z; cases z)
        have nb3 : b1 ≠ ro := ne_of hb1 hro3 (by intro z; cases z)
        have ek : keyBack H1 (V.ref b1) = [Sum.inl (i1 : Int), Sum.inl (j1 : Int), Sum.inr kd1] := by
          have q1 := (kp3 _ _ (s2 _ _ hbk1) nb1 nb2).symm.trans hb1
          rw [keyBack_of hbk1]
          have q2 : List.map kV k1 = List.map kV [Sum.inl (i1 : Int), Sum.inl (j1 : Int), Sum.inr kd1] := by
            have := Option.some.inj q1
            injection this
          have q3 := congrArg (List.map keyOf) q2
          rw [List.map_map, List.map_map] at q3
          have idk : (keyOf ∘ kV : Key → Key) = id := funext fun z => keyOf_kV z
          rw [idk, List.map_id, List.map_id] at q3
          exact q3
        obtain ⟨x, hx⟩ : ∃ x, nm[i1]? = some x := ⟨_, List.getElem?_eq_getElem (by omega)⟩
        obtain ⟨y, hy⟩ : ∃ x, nm[j1]? = some x := ⟨_, List.getElem?_eq_getElem (by omega)⟩
        have hxy : x ≠ y := fun e => by
          subst e
          have := (List.getElem?_inj (List.getElem?_eq_some_iff.mp hx).1 W.nn).mp (hx.trans hy.symm)
          omega
        have nar : a ≠ ro := fun e => by subst e; rw [W.hn] at hro; cases hro
        have nwr : wd ≠ ro := fun e => by subst e; rw [W.d] at hro; cases hro
        have ntr : t ≠ ro := fun e => by subst e; rw [W.ht] at hro; cases hro
        have hn4 := kp4 _ _ W3.hn W.as.1 W.as.2 nar
        have hwd4 := kp4 _ _ W3.d W.ds.1 W.ds.2 nwr
        have ht4 := kp4 _ _ W3.ht W.ts.1 W.ts.2 ntr
        refine ⟨b1, _, rfl, SqT.of (kp4 _ _ hb1 nb1 nb2 nb3), rfl, _, _, rfl, _, _, rfl, _, _, rfl, rfl, ?_⟩
        refine ⟨_, rfl, _, rfl, a, _, _, V.str x, rfl, rfl, SqL.of hn4, atI_nat (by rw [List.getElem?_map, hx]; rfl), _, rfl, _, rfl, a, _, _, V.str y, rfl, rfl, SqL.of hn4, atI_nat (by rw [List.getElem?_map, hy]; rfl), (by show 2 ≤ sizeLine; decide), fun l1 hl1 => ?_⟩
        have s5 := same_new (o := .lst [V.str x, V.str y]) hl1
        have hl5 : (upd H4 l1 (.lst [V.str x, V.str y])) l1 = some (.lst [V.str x, V.str y]) := upd_same
        have S5 := S4.same s5
        have nl1 := S4.ne hl1
        generalize upd H4 l1 (.lst [V.str x, V.str y]) = H5 at *
        refine ⟨_, rfl, sa, ca, 2, rfl, S5, by decide, by decide, fun kk H6 k0 k1' S6 kp6 => ⟨_, _, rfl, rfl, .inl (by decide), _, _, rfl, rfl, ?_⟩⟩
        refine ⟨_, rfl, l1, _, rfl, ?_, rfl, SqL.of (kp6 _ _ hl5 nl1.1 nl1.2), fun en hen => ?_⟩
        · show (1 : Int) - 2 * kk ≠ 0
          omega
        have ends : ∃ x' y', stepV [V.str x, V.str y] ((some ((1 : Int) - 2 * kk)).getD 1) = [V.str x', V.str y'] ∧ ((x' = x ∧ y' = y) ∨ (x' = y ∧ y' = x)) := by
          have : kk = 0 ∨ kk = 1 := by omega
          rcases this with rfl | rfl
          · exact ⟨x, y, step_up _ _, .inl ⟨rfl, rfl⟩⟩
          · exact ⟨y, x, step_down _ _, .inr ⟨rfl, rfl⟩⟩
        obtain ⟨x', y', est, hor⟩ := ends
        rw [est]
        have s7 := same_new (o := .lst [V.str x', V.str y']) hen
        have hen7 : (upd H6 en (.lst [V.str x', V.str y'])) en = some (.lst [V.str x', V.str y']) := upd_same
        have S7 := S6.same s7
        have kp47 : Kp sa ca H4 (upd H6 en (.lst [V.str x', V.str y'])) := ((Kp.same s5).trans kp6).trans (Kp.same s7)
        generalize upd H6 en (.lst [V.str x', V.str y']) = H7 at *
        have hro7 := kp47 _ _ hro4 nrs nrc
        have hwd7 := kp47 _ _ hwd4 W.ds.1 W.ds.2
        have ht7 := kp47 _ _ ht4 W.ts.1 W.ts.2
        have hval : valV kvs [Sum.inl (i1 : Int), Sum.inl (j1 : Int), Sum.inr kd1] = some (V.int (x1 : Int)) := val_of_mem ti.nd hmem
        refine ⟨_, rfl, .inl ⟨rfl, _, SqL.of hro7⟩, _, rfl, en, _, _, V.str x', rfl, rfl, SqL.of hen7, atI_nat (j := 0) rfl, _, rfl, en, _, _, V.str y', rfl, rfl, SqL.of hen7, atI_nat (j := 1) rfl, _, rfl, _, rfl, wd, _, rfl, dg_ties hwd7, _, rfl, _, rfl, _, rfl, (by show 3 ≤ sizeLine; decide), fun u hu' => ?_⟩
        have s8 := same_new (o := .tup [V.int (i1 : Int), V.int (j1 : Int), V.str kd1]) hu'
        have hu8 : (upd H7 u (.tup [V.int (i1 : Int), V.int (j1 : Int), V.str kd1])) u = some (.tup (List.map kV [Sum.inl (i1 : Int), Sum.inl (j1 : Int), Sum.inr kd1])) := upd_same
        generalize upd H7 u (.tup [V.int (i1 : Int), V.int (j1 : Int), V.str kd1]) = H8 at *
        refine ⟨t, _, rfl, (by rw [← hval]; exact DGet.t (s8 _ _ ht7) hu8), (by show 4 ≤ sizeLine; decide), fun o ho => ?_⟩
        have s9 := same_new (o := .tup [V.str x', V.str y', V.str kd1, V.int (x1 : Int)]) ho
        have ho9 : (upd H8 o (.tup [V.str x', V.str y', V.str kd1, V.int (x1 : Int)])) o = some (.tup (TieV.tup ⟨x', y', kd1, (x1 : Int)⟩)) := upd_same
        have kp79 : Kp sa ca H4 (upd H8 o (.tup [V.str x', V.str y', V.str kd1, V.int (x1 : Int)])) := kp47.trans (Kp.same (s8.trans s9))
        have S9 := S7.same (s8.trans s9)
        have hro9 := s9 _ _ (s8 _ _ hro7)
        generalize upd H8 o (.tup [V.str x', V.str y', V.str kd1, V.int (x1 : Int)]) = H9 at *
        refine ⟨ro, _, _, rfl, rfl, hro9, Evl.sz_lt (by rw [List.length_map]; omega), ?_⟩
        obtain ⟨cs4, l4, m4, t4, S40⟩ := id S4
        have nor : o ≠ ro := ne_of ho9 hro9 (by intro z; cases z)
        refine ⟨_, _, _, _, us ++ [o], tl ++ [⟨x', y', kd1, (x1 : Int)⟩], rfl, by rw [upd_same, List.map_append]; rfl, by simp [hul], ?_, ?_, ?_, S9.upd nrs nrc, fun b' o' e' h1 h2 h3 => ?_⟩
        · refine paired_snoc (Paired.mapP pu fun u' tv h => ?_) (by rw [upd_ne nor]; exact ho9)
          rw [upd_ne (ne_of h hro4 (by intro z; cases z))]
          exact kp79 _ _ h (ne_of h S40.ds (by intro z; cases z)) (ne_of h S40.dc (by intro z; cases z))
        · intro tv htv
          rcases List.mem_append.mp htv with z | z
          · exact hok tv z
          · rw [List.mem_singleton] at z
            subst z
            have mx := List.mem_of_getElem? hx
            have my := List.mem_of_getElem? hy
            rcases hor with ⟨rfl, rfl⟩ | ⟨rfl, rfl⟩
            · exact ⟨mx, my, hxy, hkw, by show (1 : Int) ≤ (x1 : Int); omega⟩
            · exact ⟨my, mx, hxy.symm, hkw, by show (1 : Int) ≤ (x1 : Int); omega⟩
        · have e3 : (ys.map (keyBack H1))[i]? = some [Sum.inl (i1 : Int), Sum.inl (j1 : Int), Sum.inr kd1] := by rw [List.getElem?_map, hi]; exact congrArg some ek
          rw [List.take_add_one, e3, List.map_append, List.map_append, hsp]
          have e4 : TieV.spot ⟨x', y', kd1, (x1 : Int)⟩ = spotK nm [Sum.inl (i1 : Int), Sum.inl (j1 : Int), Sum.inr kd1] := by
            rw [spotK_at hx hy]
            show [Sum.inr (minS x' y'), Sum.inr (maxS x' y'), Sum.inr kd1] = _
            rcases hor with ⟨rfl, rfl⟩ | ⟨rfl, rfl⟩
            · rfl
            · rw [(mm_comm hxy).1, (mm_comm hxy).2]
          rw [List.map_singleton, e4]
          rfl
        · rw [upd_ne h3]
          exact kp79 _ _ (kp4 _ _ e' h1 h2 h3) h1 h2
      · rintro σ H4 ⟨v4, v5, v6, v7, us, tl, rfl, hro4, hul, pu, hok, hsp, S4, kp4⟩
        rw [List.take_of_length_le (by simp)] at hsp
        refine ⟨v4, v5, v6, v7, tl, rfl, ⟨us, hro4, pu⟩, hok, ?_, by rw [← Paired.length pu]; omega, S4, fun b' o' e' h1 h2 => ?_⟩
        · rw [hsp]
          refine spots_nd W.nn (fun k hk' => ?_) (hkk.nodup_iff.mpr ti.nd)
          obtain ⟨kv, hkv, rfl⟩ := List.mem_map.mp (hkk.subset hk')
          exact ti.key kv hkv
        · exact kp4 _ _ (kp03 _ _ e' h1 h2) h1 h2 (ne_of_none e' hro)
    rintro σ H2 ⟨v4, v5, v6, v7, tl, rfl, hti, hok, hnd, hlen, S2, kp2⟩
    have W2 := W.kp kp2
    refine ⟨_, rfl, _, rfl, wd, _, rfl, dg_colours W2.d, a, b, _, _, rfl, SqL.of W2.hn, SqL.of W2.hc, by rw [List.length_map, List.length_map, W.cn], by rw [List.length_map]; exact hnl, fun pl ts H3 hpl0 htl hpl hts s3 => ?_⟩
    refine ⟨_, rfl, fun p dx hp0 hdx0 ne => ?_⟩
    have s4 : Same H3 (upd (upd H3 dx (.own p)) p (.ins C dx [])) := (same_new hdx0).trans (same_new (by rw [upd_ne ne.symm]; exact hp0))
    have hp4 : (upd (upd H3 dx (.own p)) p (.ins C dx [])) p = some (.ins C dx []) := upd_same
    generalize upd (upd H3 dx (.own p)) p (.ins C dx []) = H4 at *
    have s3 : Same H2 H3 := s3
    have s34 := s3.trans s4
    have S4 := S2.same s34
    refine ⟨p, dx, pl, ro, nm, cl, tl, rfl, hp4, ⟨ts, s4 _ _ hpl, by rw [htl, List.length_map], fun i t' ht' => ?_⟩, ?_, W.n1, hnl, W.nn, W.nw, W.cw, hok, hnd, hlen, fun q H5 hq0 web bt => ⟨rfl, ?_⟩⟩
    · obtain ⟨x, y, hx, hy, he⟩ := hts i t' ht'
      rw [List.getElem?_map] at hx hy
      obtain ⟨x', hx', rfl⟩ := Option.map_eq_some_iff.mp hx
      obtain ⟨y', hy', rfl⟩ := Option.map_eq_some_iff.mp hy
      exact ⟨x', y', hx', hy', s4 _ _ he⟩
    · obtain ⟨us, h1, h2⟩ := hti
      exact ⟨us, s34 _ _ h1, Paired.mapP h2 fun u tv e => s34 _ _ e⟩
    · have hp00 : H p = none := kp2.free S2 (s3.free hp0)
      have hq00 : H q = none := kp2.free S2 (s34.free hq0)
      refine k p q H5 hp00 hq00 web ?_ fun b' o' e' h1 h2 => bt _ _ (s34 _ _ (kp2 _ _ e' h1 h2)) (ne_of_none e' hp00)
      obtain ⟨cs, l, m', t', S0⟩ := S4
      exact ⟨cs, l, m', t', ⟨bt _ _ S0.ds (ne_of S0.ds hp4 (by intro z; cases z)), bt _ _ S0.dc (ne_of S0.dc hp4 (by intro z; cases z)), S0.nn, S0.len, S0.l0, S0.m0, S0.m1, S0.t0⟩⟩
end
end Nm
/-! x -> 5 x + 1 goes the whole round of every power of two -/
namespace Nm
open L2
def seq5 : Nat → Nat
  | 0 => 0
  | n + 1 => 5 * seq5 n + 1
theorem seq5_pow : ∀ n, 4 * seq5 n + 1 = 5 ^ n
  | 0 => rfl
  | n + 1 => by
    have h := seq5_pow n
    rw [Nat.pow_succ, ← h]
    show 4 * (5 * seq5 n + 1) + 1 = _
    omega
theorem seq5_add (a : Nat) : ∀ b, seq5 (a + b) = 5 ^ b * seq5 a + seq5 b
  | 0 => by
    show seq5 a = 1 * seq5 a + 0
    omega
  | b + 1 => by
    show 5 * seq5 (a + b) + 1 = 5 ^ (b + 1) * seq5 a + (5 * seq5 b + 1)
    rw [seq5_add a b, Nat.pow_succ, Nat.mul_add, Nat.mul_comm (5 ^ b) 5, Nat.mul_assoc]
    omega
/-- at 2^k it is 2^k times an odd number -/
theorem seq5_two : ∀ k, ∃ c, seq5 (2 ^ k) = 2 ^ k * (2 * c + 1)
  | 0 => ⟨0, rfl⟩
  | k + 1 => by
    obtain ⟨c, h⟩ := seq5_two k
    have e : 2 ^ (k + 1) = 2 ^ k + 2 ^ k := by rw [Nat.pow_succ]; omega
    refine ⟨2 * seq5 (2 ^ k) * c + seq5 (2 ^ k) + c, ?_⟩
    have h2 : seq5 (2 ^ (k + 1)) = (5 ^ (2 ^ k) + 1) * seq5 (2 ^ k) := by
      rw [e, seq5_add, Nat.add_mul, Nat.one_mul]
    rw [h2, ← seq5_pow]
    have h3 : (4 * seq5 (2 ^ k) + 1 + 1) * seq5 (2 ^ k) = 2 * ((2 * seq5 (2 ^ k) + 1) * (2 ^ k * (2 * c + 1))) := by
      conv => lhs; rhs; rw [h]
      have : 4 * seq5 (2 ^ k) + 1 + 1 = 2 * (2 * seq5 (2 ^ k) + 1) := by omega
      rw [this, Nat.mul_assoc]
    rw [h3, Nat.pow_succ, Nat.mul_left_comm (2 * seq5 (2 ^ k) + 1), Nat.mul_comm (2 ^ k) 2, Nat.mul_assoc]
    congr 1
    congr 1
    generalize seq5 (2 ^ k) = z
    rw [Nat.mul_add, Nat.add_mul, Nat.mul_one, Nat.one_mul, Nat.mul_add, Nat.mul_add]
    have : 2 * z * (2 * c) = 2 * (2 * z * c) := by rw [Nat.mul_left_comm]
    omega
theorem seq5_odd (b : Nat) : ∃ d, 5 ^ b = 2 * d + 1 := ⟨2 * seq5 b, by rw [← seq5_pow]; omega⟩
theorem odd_mul (d c : Nat) : (2 * d + 1) * (2 * c + 1) = 2 * (2 * d * c + d + c) + 1 := by
  rw [Nat.add_mul, Nat.mul_add, Nat.mul_one, Nat.one_mul, Nat.mul_add, Nat.mul_add]
  have : 2 * d * (2 * c) = 2 * (2 * d * c) := by rw [Nat.mul_left_comm]
  omega
/-- every number below 2^k is met within the round -/
theorem seq5_all : ∀ k j, j < 2 ^ k → ∃ b, b < 2 ^ k ∧ seq5 b % 2 ^ k = j
  | 0, j, h => ⟨0, Nat.one_pos, by
    have : j = 0 := by
      have : (2 : Nat) ^ 0 = 1 := rfl
      omega
    rw [this]
    rfl⟩
  | k + 1, j, h => by
    have e : 2 ^ (k + 1) = 2 * 2 ^ k := by rw [Nat.pow_succ, Nat.mul_comm]
    have hp : 0 < 2 ^ k := Nat.pow_pos (by decide)
    obtain ⟨b, hb, hbj⟩ := seq5_all k (j % 2 ^ k) (Nat.mod_lt _ hp)
    rw [e] at h ⊢
    by_cases c : seq5 b % (2 * 2 ^ k) = j
    · exact ⟨b, by omega, c⟩
    · refine ⟨2 ^ k + b, by omega, ?_⟩
      obtain ⟨c1, h1⟩ := seq5_two k
      obtain ⟨d, h2⟩ := seq5_odd b
      rw [seq5_add, h1, h2, Nat.mul_left_comm, odd_mul]
      generalize 2 * d * c1 + d + c1 = q
      generalize 2 ^ k = D at *
      have h3 : D * (2 * q + 1) + seq5 b = (D + seq5 b) + 2 * D * q := by
        rw [Nat.mul_add, Nat.mul_one, Nat.mul_assoc, Nat.mul_left_comm]
        omega
      rw [h3, Nat.add_mul_mod_self_left]
      have h4 : seq5 b % (2 * D) % D = j % D := by rw [Nat.mod_mul_left_mod]; exact hbj
      have h5 : seq5 b % (2 * D) < 2 * D := Nat.mod_lt _ (by omega)
      have h6 : (D + seq5 b) % (2 * D) = (D + seq5 b % (2 * D)) % (2 * D) := by rw [Nat.add_mod_mod]
      rw [h6]
      generalize seq5 b % (2 * D) = r at *
      have split : ∀ x, x < 2 * D → x % D = if x < D then x else x - D := fun x hx => by
        split
        · exact Nat.mod_eq_of_lt (by assumption)
        · rw [Nat.mod_eq_sub_mod (by omega)]
          exact Nat.mod_eq_of_lt (by omega)
      rw [split r h5, split j h] at h4
      by_cases r1 : r < D
      · rw [if_pos r1] at h4
        split at h4
        · exact absurd h4 c
        · rw [Nat.mod_eq_of_lt (by omega)]
          omega
      · rw [if_neg r1] at h4
        split at h4
        · rw [Nat.mod_eq_sub_mod (by omega), Nat.mod_eq_of_lt (by omega)]
          omega
        · omega
theorem lcg_seq (m : Nat) : ∀ b, lcgN m b = seq5 b % (m + 1)
  | 0 => by
    show 0 = 0 % (m + 1)
    rw [Nat.zero_mod]
  | b + 1 => by
    show (lcgN m b * 5 + 1) % (m + 1) = (5 * seq5 b + 1) % (m + 1)
    rw [lcg_seq m b, Nat.mul_comm 5, Nat.add_mod, Nat.mod_mul_mod, ← Nat.add_mod]
/-- a mask: one less than a power of two -/
def Pow2 (m : Nat) : Prop := ∃ k, m + 1 = 2 ^ k
theorem lcg_full {m j : Nat} (hm : Pow2 m) (hj : j ≤ m) : ∃ b, b ≤ m ∧ lcgN m b = j := by
  obtain ⟨k, hk⟩ := hm
  obtain ⟨b, h1, h2⟩ := seq5_all k j (by omega)
  exact ⟨b, by omega, by rw [lcg_seq, hk]; exact h2⟩
theorem lcg_back {m : Nat} (hm : Pow2 m) : lcgN m (m + 1) = 0 := by
  obtain ⟨k, hk⟩ := hm
  obtain ⟨c, h⟩ := seq5_two k
  rw [lcg_seq, hk, h]
  exact Nat.mul_mod_right _ _
end Nm
/-! the way of a search through a table of any size -/
namespace Nm
open PySem L2
theorem lcg_turn {m : Nat} (pw : Pow2 m) (n : Nat) : lcgN m (m + 1 + n) = lcgN m n := by
  have z := lcg_back pw
  rw [lcg_seq] at z
  rw [lcg_seq, lcg_seq, seq5_add, Nat.add_mod, Nat.mul_mod, z, Nat.mul_zero, Nat.zero_mod, Nat.zero_add, Nat.mod_mod]
/-- from every slot to every slot -/
theorem lcg_from {m a b : Nat} (pw : Pow2 m) (ha : a ≤ m) (hb : b ≤ m) : ∃ n, n ≤ m ∧ lcgI m a n = b := by
  obtain ⟨u, hu, rfl⟩ := lcg_full pw ha
  obtain ⟨v, hv, rfl⟩ := lcg_full pw hb
  by_cases c : u ≤ v
  · refine ⟨v - u, by omega, ?_⟩
    rw [lcgN_add, show u + (v - u) = v by omega]
  · refine ⟨m + 1 + v - u, by omega, ?_⟩
    rw [lcgN_add, show u + (m + 1 + v - u) = m + 1 + v by omega, lcg_turn pw]
theorem way_meets {m j : Nat} (pw : Pow2 m) (h : Int) (hj : j ≤ m) : ∃ n, n < 10 * SetTable.turns m ∧ way m h n = j := by
  obtain ⟨r, hr, er⟩ := lcg_from pw (runI_le m (SetTable.bits h) 12) hj
  obtain ⟨n, hn, en⟩ := run_nth m (SetTable.bits h) (12 + r)
  refine ⟨n, ?_, ?_⟩
  · unfold SetTable.turns
    omega
  · show (nth m _ n).j = j
    rw [en, ← er, ← runI_tail (bits_lt h)]
    rfl
theorem way_in (m : Nat) (h : Int) (n : Nat) : way m h n ≤ m := by
  have b0 : SetTable.bits h % (m + 1) < m + 1 := Nat.mod_lt _ (Nat.succ_pos _)
  obtain ⟨r1, r2, _⟩ := runEnd_bd (Nat.le_of_lt_succ b0)
  have := nth_in (m := m) n (runAt m (SetTable.bits h % (m + 1)) (SetTable.bits h)) (by unfold runAt; simp only; omega)
  exact Nat.le_trans (Nat.le_add_right _ _) this
/-- a table in which each hash leads to its slot, its mask any -/
structure Tab (t : SetTable) (hs : List Int) : Prop where
  up : Ris t.place.toList
  clean : t.dummies = #[]
  many : t.place.size = hs.length
  pow : Pow2 t.mask
  low : ∀ j ∈ t.place.toList, j ≤ t.mask
  led : ∀ (i : Nat) (h : Int) (j : Nat), hs[i]? = some h → t.place.toList[i]? = some j → ∃ n, way t.mask h n = j ∧ ∀ n' < n, way t.mask h n' ∈ t.place.toList
/-- where the search for a hash ends: the first free slot of its way -/
theorem Tab.free {t : SetTable} {hs : List Int} (T : Tab t hs) (room : hs.length ≤ t.mask) (h : Int) : ∃ N, N < 10 * SetTable.turns t.mask ∧ way t.mask h N ∉ t.place.toList ∧ ∀ n < N, way t.mask h n ∈ t.place.toList := by
  obtain ⟨j, lt, out⟩ := st_missing t.place.toList (t.mask + 1) (by rw [Array.length_toList, T.many]; omega)
  obtain ⟨n, hn, e⟩ := way_meets T.pow h (Nat.le_of_lt_succ lt)
  obtain ⟨N, a, b, c⟩ := st_least (p := fun n => way t.mask h n ∉ t.place.toList) n (e ▸ out)
  exact ⟨N, by omega, b, fun n' hn' => Classical.not_not.mp (c n' hn')⟩
/-- a hash that stands in the table is met ahead of it -/
theorem Tab.ahead {t : SetTable} {hs : List Int} (T : Tab t hs) {h : Int} {N i j : Nat} (out : way t.mask h N ∉ t.place.toList) (hi : hs[i]? = some h) (hj : t.place.toList[i]? = some j) : ∃ n < N, way t.mask h n = j := by
  obtain ⟨n, e, before⟩ := T.led i h j hi hj
  refine ⟨n, Nat.lt_of_not_le fun le => ?_, e⟩
  rcases Nat.lt_or_eq_of_le le with lt | eq
  · exact out (before N lt)
  · subst eq
    exact out (e ▸ List.mem_of_getElem? hj)
/-- one more put at the first free slot of its way -/
theorem Tab.more {t : SetTable} {hs : List Int} (T : Tab t hs) {h : Int} {N : Nat} (out : way t.mask h N ∉ t.place.toList) (bef : ∀ n < N, way t.mask h n ∈ t.place.toList) :
    SetTable.below t.place (way t.mask h N) ≤ hs.length ∧ Tab (t.put (way t.mask h N)).1 (hs.take (SetTable.below t.place (way t.mask h N)) ++ h :: hs.drop (SetTable.below t.place (way t.mask h N))) ∧ (t.put (way t.mask h N)).1.fill = hs.length + 1 := by
  generalize hw : way t.mask h N = j at *
  have hjm : j ≤ t.mask := hw ▸ way_in t.mask h N
  obtain ⟨cut, _, _⟩ := below_cut T.up j
  have in1 : SetTable.below t.place j ≤ hs.length := T.many ▸ cut
  have in2 : SetTable.below t.place j ≤ t.place.toList.length := by rw [Array.length_toList]; exact cut
  have fresh : t.place[SetTable.below t.place j]? ≠ some j := fun e => out (List.mem_of_getElem? (i := SetTable.below t.place j) (by rw [Array.getElem?_toList]; exact e))
  have pp := put_place t j
  have keep : ∀ {x : Nat}, x ∈ t.place.toList → x ∈ (t.put j).1.place.toList := fun hx => pp ▸ mem_ins.2 (.inr hx)
  have sz : (t.put j).1.place.size = hs.length + 1 := by
    rw [← Array.length_toList, pp, len_ins _ in2, Array.length_toList, T.many]
  refine ⟨in1, ⟨ris_insert T.up fresh, put_dm T.clean j, by rw [len_ins _ in1, sz], T.pow, fun x hx => ?_, fun i h' j' a b => ?_⟩, ?_⟩
  · rw [pp] at hx
    rcases mem_ins.1 hx with rfl | z
    · exact hjm
    · exact T.low x z
  · rw [tins_get hs in1] at a
    rw [pp, tins_get _ in2] at b
    have old : ∀ i', hs[i']? = some h' → t.place.toList[i']? = some j' → ∃ n, way t.mask h' n = j' ∧ ∀ n' < n, way t.mask h' n' ∈ (t.put j).1.place.toList := fun i' u v => by
      obtain ⟨n, e, z⟩ := T.led i' h' j' u v
      exact ⟨n, e, fun n' lt => keep (z n' lt)⟩
    rcases Nat.lt_trichotomy i (SetTable.below t.place j) with c | c | c
    · rw [if_pos c] at a b
      exact old i a b
    · rw [if_neg (by omega), if_pos c] at a b
      cases a
      cases b
      exact ⟨N, hw, fun n' lt => keep (bef n' lt)⟩
    · rw [if_neg (by omega), if_neg (by omega)] at a b
      exact old (i - 1) a b
  · show (t.put j).1.place.size + (t.put j).1.dummies.size = _
    rw [sz, put_dm T.clean j]
    rfl
end Nm
/-! laying a table anew, its mask any -/
namespace Nm
open PySem L2
/-- the first free slot on the way of a hash is the one that the laying takes -/
theorem lay_free {m : Nat} (pw : Pow2 m) (ow : Array (Option Nat)) (h : Int) {j : Nat} (hj : j ≤ m) (fr : oAt ow j = none) :
    ∃ N, SetTable.layClean.free m ow (SetTable.turns m) (SetTable.bits h % (m + 1)) (SetTable.bits h) = some (way m h N) ∧ oAt ow (way m h N) = none ∧ ∀ n < N, oAt ow (way m h n) ≠ none := by
  obtain ⟨r, hr, er⟩ := lcg_from pw (runI_le m (SetTable.bits h) 12) hj
  have at_ : way m h (off m (SetTable.bits h % (m + 1)) (SetTable.bits h) (12 + r)) = j := by
    show (nth m _ _).j = j
    rw [nth_off, itL_run, ← er, ← runI_tail (bits_lt h)]
    rfl
  obtain ⟨N, le, emp, occ⟩ := st_least (p := fun n => oAt ow (way m h n) = none) _ (show oAt ow (way m h (off m (SetTable.bits h % (m + 1)) (SetTable.bits h) (12 + r))) = none by rw [at_]; exact fr)
  refine ⟨N, free_spec m ow _ (12 + r) _ _ N ?_ le (fun n lt => ?_) ?_, emp, occ⟩
  · unfold SetTable.turns
    omega
  · cases z : oAt ow (way m h n) with
    | none => exact absurd z (occ n lt)
    | some _ => rfl
  · exact congrArg Option.isNone emp
/-- one hash more -/
theorem own_more {m : Nat} (pw : Pow2 m) {hs : List Int} {ow : Array (Option Nat)} (O : Own m hs ow) (room : hs.length ≤ m) (h : Int) :
    ∃ j, SetTable.layClean.free m ow (SetTable.turns m) (SetTable.bits h % (m + 1)) (SetTable.bits h) = some j ∧ Own m (hs ++ [h]) (ow.setIfInBounds j (some hs.length)) := by
  obtain ⟨ps, pl, pin⟩ := O.ps
  obtain ⟨f, flt, fout⟩ := st_missing ps (m + 1) (by omega)
  have ffree : oAt ow f = none := Classical.byContradiction fun z => fout (pin f (by omega) z)
  obtain ⟨N, got, emp, occ⟩ := lay_free pw ow h (Nat.le_of_lt_succ flt) ffree
  generalize hw : way m h N = j at *
  have jm : j ≤ m := hw ▸ way_in m h N
  have new : oAt (ow.setIfInBounds j (some hs.length)) j = some hs.length := oAt_set_self _ (by rw [O.sz]; omega)
  have still : ∀ i, oAt ow i ≠ none → oAt (ow.setIfInBounds j (some hs.length)) i ≠ none := fun i hi => by
    by_cases c : i = j
    · subst c
      rw [new]
      exact Option.some_ne_none _
    · rw [oAt_set_ne _ c]
      exact hi
  refine ⟨j, got, ⟨by rw [Array.size_setIfInBounds, O.sz], fun i k hi e => ?_, fun k hk => ?_, j :: ps, by simp [pl], fun i hi e => ?_⟩⟩
  · by_cases c : i = j
    · subst c
      rw [new] at e
      cases e
      exact ⟨h, N, by simp, hw, fun n lt => still _ (occ n lt)⟩
    · rw [oAt_set_ne _ c] at e
      obtain ⟨h', n', a, b, d⟩ := O.at_ i k hi e
      refine ⟨h', n', ?_, b, fun n lt => still _ (d n lt)⟩
      rw [List.getElem?_append_left (List.getElem?_eq_some_iff.mp a).1, a]
  · rw [List.length_append, List.length_singleton] at hk
    rcases Nat.lt_or_eq_of_le (Nat.le_of_lt_succ hk) with lt | rfl
    · obtain ⟨i, hi, e⟩ := O.all k lt
      refine ⟨i, hi, ?_⟩
      rw [oAt_set_ne _ (fun z => by subst z; rw [emp] at e; cases e), e]
    · exact ⟨j, jm, new⟩
  · by_cases c : i = j
    · exact c ▸ List.mem_cons_self
    · rw [oAt_set_ne _ c] at e
      exact List.mem_cons_of_mem _ (pin i hi e)
theorem own_all {m : Nat} (pw : Pow2 m) : ∀ (todo hs : List Int) (ow : Array (Option Nat)), Own m hs ow → hs.length + todo.length ≤ m →
    ∃ ow', todo.foldl (stepF m) (some (ow, hs.length)) = some (ow', hs.length + todo.length) ∧ Own m (hs ++ todo) ow'
  | [], hs, ow, O, _ => ⟨ow, rfl, by rw [List.append_nil]; exact O⟩
  | h :: todo, hs, ow, O, room => by
    rw [List.length_cons] at room
    obtain ⟨j, got, O'⟩ := own_more pw O (by omega) h
    obtain ⟨ow', a, b⟩ := own_all pw todo (hs ++ [h]) _ O' (by rw [List.length_append, List.length_singleton]; omega)
    rw [List.length_append, List.length_singleton] at a
    refine ⟨ow', ?_, by rw [List.append_assoc] at b; exact b⟩
    rw [List.foldl_cons, stepF_some got, a, List.length_cons]
    congr 2
    omega
/-- the table laid anew: the entries in another order, each hash led to its slot -/
theorem lay_new (t : SetTable) {hs : Array Int} {want M : Nat} (hM : SetTable.sizeAbove want - 1 = M) (pw : Pow2 M) (room : hs.size ≤ M) :
    ∃ t' ord, t.relaid hs want = some (t', ord) ∧ ord.toList.Perm (List.range hs.size) ∧ Tab t' (ord.toList.map fun i => hs.getD i 0) ∧ t'.mask = M ∧ t'.led = t.led ∧ t'.plain = t.plain := by
  obtain ⟨ow, a, O⟩ := own_all pw hs.toList [] _ (Own.init M) (by rw [Array.length_toList]; show 0 + hs.size ≤ M; omega)
  rw [List.nil_append] at O
  have lay : SetTable.layClean M hs = some ow := by
    rw [layClean_eq]
    exact congrArg (Option.map Prod.fst) a
  have at_ : ∀ {j k : Nat}, (j, k) ∈ liveOf M ow ↔ j ≤ M ∧ oAt ow j = some k := mem_live O.sz
  obtain ⟨up, low⟩ := ris_live (fun j => ow.getD j none) (List.range (M + 1)) (show Ris (List.range (M + 1)) from List.pairwise_lt_range)
  change Ris ((liveOf M ow).map (·.1)) at up
  have all : ∀ k < hs.size, k ∈ (liveOf M ow).map (·.2) := fun k lt => by
    obtain ⟨j, u, v⟩ := O.all k (by rw [Array.length_toList]; exact lt)
    exact List.mem_map.mpr ⟨(j, k), at_.2 ⟨u, v⟩, rfl⟩
  have count : (liveOf M ow).length = hs.size := by
    obtain ⟨ps, pl, pin⟩ := O.ps
    have le : ((liveOf M ow).map (·.1)).length ≤ ps.length := nat_nodup_len _ ps (up.imp fun lt => Nat.ne_of_lt lt) fun x hx => by
      obtain ⟨⟨y, k⟩, hq, rfl⟩ := List.mem_map.mp hx
      obtain ⟨u, v⟩ := at_.1 hq
      exact pin y u (by rw [v]; exact Option.some_ne_none _)
    have ge := nat_nodup_len (List.range hs.size) ((liveOf M ow).map (·.2)) List.nodup_range fun k hk => all k (List.mem_range.mp hk)
    rw [List.length_map, pl] at le
    have hz : hs.toList.length = hs.size := rfl
    rw [List.length_map, List.length_range] at ge
    omega
  refine ⟨tabOf t M ow, ((liveOf M ow).map (·.2)).toArray, by rw [relaid_eq, hM, lay]; rfl, perm_range _ _ (by rw [List.toList_toArray, List.length_map, count]) (fun k lt => by rw [List.toList_toArray]; exact all k lt), ?_, rfl, rfl, rfl⟩
  refine ⟨up, rfl, ?_, pw, fun x hx => ?_, fun i h j u v => ?_⟩
  · show ((liveOf M ow).map (·.1)).toArray.size = _
    simp
  · obtain ⟨⟨y, k⟩, hq, rfl⟩ := List.mem_map.mp (show x ∈ (liveOf M ow).map (·.1) from hx)
    exact (at_.1 hq).1
  · change ((liveOf M ow).map (·.1))[i]? = some j at v
    rw [List.toList_toArray, List.map_map, List.getElem?_map] at u
    rw [List.getElem?_map] at v
    obtain ⟨⟨y, k⟩, hq, rfl⟩ := Option.map_eq_some_iff.mp v
    rw [hq] at u
    have eh : hs.getD k 0 = h := Option.some.inj u
    obtain ⟨b1, b2⟩ := at_.1 (List.mem_of_getElem? hq)
    obtain ⟨h0, N, c1, c2, c3⟩ := O.at_ y k b1 b2
    have e0 : hs.getD k 0 = h0 := by
      rw [Array.getElem?_toList] at c1
      rw [Array.getD_eq_getD_getElem?, c1]
      rfl
    rw [e0] at eh
    subst eh
    refine ⟨N, c2, fun n lt => ?_⟩
    cases z : oAt ow (way M h0 n) with
    | none => exact absurd z (c3 n lt)
    | some k2 => exact List.mem_map.mpr ⟨(way M h0 n, k2), at_.2 ⟨way_in M h0 n, z⟩, rfl⟩
end Nm
set_option maxRecDepth 100000
set_option maxHeartbeats 4000000
/-! sets of tuples of keys (ints, texts): what is asked of the tuples, and the search -/
namespace Nm
open PySem PySem.Spec PyProof.Rows L2
abbrev kh (P : Program) (w : World) (k : List Key) : Int := tupleKeyHash (mixKind P w) k
abbrev IsK (P : Program) (w : World) (h : Heap) (k : List Key) (a : Addr) : Prop := IsTupleKey (mixKind P w) h k a
section
variable {P : Program} {w : World} {A : Around} {E : Value → Shared → Prop} {s : Shared}
theorem told_items {k : List Key} {us : List Value} (T : PySem.ItemsAre (mixKind P w) k us) : ∀ u ∈ us, ∃ y : Key, keyIs y u = true := by
  induction T with
  | nil => exact fun u m => (List.not_mem_nil m).elim
  | @cons y u ks us e _ ih =>
    intro z m
    rcases List.mem_cons.mp m with rfl | m
    · exact ⟨y, e⟩
    · exact ih z m
theorem no_class {y : Key} {u : Value} (n : Nat) (e : keyIs y u = true) : ofAClassStatement n u = pure false := by
  rcases keyIs_shape e with ⟨i, t, rfl, rfl⟩ | ⟨x, t, rfl, rfl⟩ <;> cases n <;> rfl
theorem some_hash {y : Key} {u : Value} (n : Nat) (e : keyIs y u = true) : ∃ b, hashByValue n u = pure b := by
  rcases keyIs_shape e with ⟨i, t, rfl, rfl⟩ | ⟨x, t, rfl, rfl⟩
  · exact ⟨true, by cases n <;> rfl⟩
  · exact ⟨false, by cases n <;> rfl⟩
theorem class_of {k : List Key} {b : Addr} {Q : Bool → Shared → Prop} (T : IsK P w s.heap k b) (q : Q false s) : wpAny (model P w) A (ofAClassStatement 8 (.ref b)) Q E s := by
  have ty := T.typeIs
  obtain ⟨ob, its, cnt, hob, _, dat, itk⟩ := T
  unfold ofAClassStatement
  refine wpAny_bind (wpAny_typeOf ty ?_)
  dsimp only
  have yes : (("tuple" : String) == "tuple") = true := by decide
  simp only [yes, if_true, Bool.not_true, Bool.false_eq_true, if_false]
  try refine wpAny_bind (wpAny_pure ?_)
  try simp only [Bool.not_true, Bool.false_eq_true, if_false]
  show wpAny _ _ (seqItems? (.ref b) >>= _) _ _ s
  refine wpAny_bind (wpAny_seqItems hob dat ?_)
  dsimp only
  refine wpAny_bind ?_
  show wpAny _ _ (forIn its _ _) _ _ s
  rw [← Array.forIn_toList]
  refine wpAny_forIn_list _ (fun left acc st => acc.1 = none ∧ st = s ∧ ∀ u ∈ left, ∃ y : Key, keyIs y u = true) _ ?_ ?_ _ _ ⟨rfl, rfl, told_items itk⟩
  · rintro u left acc st ⟨na, rfl, every⟩
    obtain ⟨y, e⟩ := every u List.mem_cons_self
    rw [no_class _ e]
    refine wpAny_bind (wpAny_pure ?_)
    simp only [Bool.false_eq_true, if_false]
    exact wpAny_pure ⟨rfl, rfl, fun z m => every z (List.mem_cons_of_mem _ m)⟩
  · rintro ⟨c1, c2⟩ st ⟨na, rfl, _⟩
    simp only at na
    subst na
    exact wpAny_pure q
theorem hash_of {k : List Key} {b : Addr} {Q : Bool → Shared → Prop} (T : IsK P w s.heap k b) (q : ∀ r, Q r s) : wpAny (model P w) A (hashByValue 8 (.ref b)) Q E s := by
  have ty := T.typeIs
  obtain ⟨ob, its, cnt, hob, _, dat, itk⟩ := T
  unfold hashByValue
  refine wpAny_bind (wpAny_specialOf ty F.slot_tuple_hash.lookup ?_)
  show wpAny _ _ (seqItems? (.ref b) >>= _) _ _ s
  refine wpAny_bind (wpAny_seqItems hob dat ?_)
  refine wpAny_bind ?_
  show wpAny _ _ (forIn its _ _) _ _ s
  rw [← Array.forIn_toList]
  refine wpAny_forIn_list _ (fun left acc st => acc.1 = none ∧ st = s ∧ ∀ u ∈ left, ∃ y : Key, keyIs y u = true) _ ?_ ?_ _ _ ⟨rfl, rfl, told_items itk⟩
  · rintro u left acc st ⟨na, rfl, every⟩
    obtain ⟨y, e⟩ := every u List.mem_cons_self
    obtain ⟨r, er⟩ := some_hash 7 e
    rw [er]
    refine wpAny_bind (wpAny_pure ?_)
    cases r with
    | true =>
      simp only [Bool.not_true, Bool.false_eq_true, if_false]
      exact wpAny_pure ⟨rfl, rfl, fun z m => every z (List.mem_cons_of_mem _ m)⟩
    | false =>
      simp only [Bool.not_false, if_true]
      exact wpAny_pure (wpAny_pure (q false))
  · rintro ⟨c1, c2⟩ st ⟨na, rfl, _⟩
    simp only at na
    subst na
    exact wpAny_pure (q true)
/-- a search among such tuples cannot be seen -/
theorem seen_of {k : List Key} {b : Addr} {Q : Bool → Shared → Prop} (T : IsK P w s.heap k b) {us : List Value} (hu : ∀ u ∈ us, ∃ j c, u = Value.ref c ∧ IsK P w s.heap j c) (q : Q false s) :
    wpAny (model P w) A (searchCouldBeSeen (.ref b) us) Q E s := by
  unfold searchCouldBeSeen
  refine wpAny_bind ?_
  refine wpAny_forIn_list _ (fun left acc st => acc.1 = none ∧ st = s ∧ ∀ u ∈ left, ∃ j c, u = Value.ref c ∧ IsK P w s.heap j c) _ ?_ ?_ _ _ ⟨rfl, rfl, hu⟩
  · rintro u left acc st ⟨na, rfl, every⟩
    obtain ⟨j, c, rfl, Tc⟩ := every u List.mem_cons_self
    have after : ∀ u ∈ left, ∃ j c, u = Value.ref c ∧ IsK P w st.heap j c := fun z m => every z (List.mem_cons_of_mem _ m)
    dsimp only
    by_cases very : (b == c || (carriedByValue (.ref b) && carriedByValue (.ref c))) = true
    · exact wp_if_pos very (wpAny_pure ⟨rfl, rfl, after⟩)
    · refine wp_if_neg very (wpAny_bind (wpAny_eqIsQuiet_tuple T ?_))
      simp only [Bool.not_true, Bool.false_eq_true, if_false]
      refine wpAny_bind (wpAny_eqIsQuiet_tuple Tc ?_)
      simp only [Bool.not_true, Bool.false_eq_true, if_false]
      refine wpAny_bind (class_of T ?_)
      simp only [Bool.false_eq_true, if_false]
      refine wpAny_bind (class_of Tc ?_)
      simp only [Bool.false_eq_true, if_false]
      exact wpAny_pure ⟨rfl, rfl, after⟩
  · rintro ⟨c1, c2⟩ st ⟨na, rfl, _⟩
    simp only at na
    subst na
    exact wpAny_pure q
/-! ### the table of such a set -/
def MaskIn (m : Nat) : Prop := m = 7 ∨ m = 31 ∨ m = 127 ∨ m = 511 ∨ m = 2047 ∨ m = 8191
theorem MaskIn.pow {m : Nat} (h : MaskIn m) : Pow2 m := by
  rcases h with rfl | rfl | rfl | rfl | rfl | rfl
  · exact ⟨3, rfl⟩
  · exact ⟨5, rfl⟩
  · exact ⟨7, rfl⟩
  · exact ⟨9, rfl⟩
  · exact ⟨11, rfl⟩
  · exact ⟨13, rfl⟩
theorem MaskIn.odd {m : Nat} (h : MaskIn m) : m % 2 = 1 := by
  rcases h with rfl | rfl | rfl | rfl | rfl | rfl <;> rfl
theorem MaskIn.le {m : Nat} (h : MaskIn m) : m ≤ 8191 := by
  rcases h with rfl | rfl | rfl | rfl | rfl | rfl <;> decide
def rowsK (P : Program) (w : World) (L : List (Addr × List Key)) : List (Int × Value) := L.map fun e => (kh P w e.2, Value.ref e.1)
theorem rowsK_len (L : List (Addr × List Key)) : (rowsK P w L).length = L.length := List.length_map ..
structure KSet (P : Program) (w : World) (h : Heap) (a : Addr) (L : List (Addr × List Key)) (es : Array (Int × Value)) (ep : Nat) (t : SetTable) : Prop where
  here : ∃ o, h.get? a = some o ∧ o.ExactSet ∧ o.data = .set es ep t
  rows : es.toList = rowsK P w L
  tab : Tab t (L.map fun e => kh P w e.2)
  nd : (L.map (·.2)).Nodup
  tups : ∀ e ∈ L, IsK P w h e.2 e.1
  mask : MaskIn t.mask
  room : L.length * 5 < t.mask * 3
variable {a : Addr} {L : List (Addr × List Key)} {es : Array (Int × Value)} {ep : Nat} {t : SetTable}
theorem KSet.size (R : KSet P w s.heap a L es ep t) : es.size = L.length := by
  rw [← Array.length_toList, R.rows, rowsK_len]
theorem KSet.places (R : KSet P w s.heap a L es ep t) : t.place.toList.length = L.length := by
  rw [Array.length_toList, R.tab.many, List.length_map]
theorem KSet.fits (R : KSet P w s.heap a L es ep t) : t.fits es.size = true := by
  have p := R.places
  have z := R.size
  have r := R.room
  rw [Array.length_toList] at p
  unfold SetTable.fits SetTable.fill
  rw [R.tab.clean]
  simp
  omega
theorem KSet.entry (R : KSet P w s.heap a L es ep t) {i : Nat} {e : Addr × List Key} (h : L[i]? = some e) : es[i]? = some (kh P w e.2, Value.ref e.1) := by
  rw [← Array.getElem?_toList, R.rows]
  show (L.map _)[i]? = _
  rw [List.getElem?_map, h]
  rfl
theorem KSet.hashAt (R : KSet P w s.heap a L es ep t) {i : Nat} {e : Addr × List Key} (h : L[i]? = some e) : (es[i]?.map (·.1)).getD 0 = kh P w e.2 := by
  rw [R.entry h]
  rfl
theorem KSet.whole (R : KSet P w s.heap a L es ep t) : ¬ t.gaveWay = true := by
  unfold SetTable.gaveWay
  rw [R.mask.odd]
  decide
/-- where the walk stands behind c steps -/
abbrev stand (m : Nat) (h : Int) (c : Nat) : SetTable.Probe := nth m (runAt m (SetTable.bits h % (m + 1)) (SetTable.bits h)) c
theorem stand_dummy (m : Nat) (h : Int) : ∀ c, (stand m h c).dummy = none
  | 0 => rfl
  | c + 1 => by
    show (nth m _ (c + 1)).dummy = none
    rw [nth_succ]
    have ih := stand_dummy m h c
    unfold adv
    split <;> exact ih
theorem stand_on (m : Nat) (h : Int) (c q : Nat) : nth m (stand m h c) q = stand m h (c + q) := (nth_add m c _ q).symm
end
end Nm
set_option maxRecDepth 100000
set_option maxHeartbeats 4000000
/-! the search for a tuple in a set of tuples of keys, to add it or to ask for it -/
namespace Nm
open PySem PySem.Spec PyProof.Rows L2
section
variable {P : Program} {w : World} {A : Around} {E : Value → Shared → Prop} {s : Shared}
variable {a : Addr} {L : List (Addr × List Key)} {es : Array (Int × Value)} {ep : Nat} {t : SetTable}
theorem look_from (R : KSet P w s.heap a L es ep t) {x : Addr} {k : List Key} (T : IsK P w s.heap k x) (hu : A.units < cLine) (ad : Bool) {N : Nat} (lim : N < 10 * SetTable.turns t.mask)
    (out : way t.mask (kh P w k) N ∉ t.place.toList) (bef : ∀ c < N, way t.mask (kh P w k) c ∈ t.place.toList) {Q : SetFound → Shared → Prop}
    (qin : k ∈ L.map (·.2) → ∀ r : Option Nat, (ad = false → r.isSome = true) → Q (.there r) s) (qout : k ∉ L.map (·.2) → Q (.free (way t.mask (kh P w k) N) false) s) :
    ∀ (f c : Nat) (fr : Option SetTable.Probe), fr.getD (t.probeStart (kh P w k)) = stand t.mask (kh P w k) c → c ≤ N → N - c < f →
      (∀ (i : Nat) e, L[i]? = some e → e.2 = k → ∃ d, c ≤ d ∧ d < N ∧ t.place.toList[i]? = some (way t.mask (kh P w k) d)) →
      wpAny (model P w) A (setSearchFrom a (.ref x) (kh P w k) ad f fr) Q E s
  | 0, c, fr, _, _, few, _ => absurd few (Nat.not_lt_zero _)
  | f + 1, c, fr, at_, le, few, ahead => by
    obtain ⟨o, ho, ex, dat⟩ := R.here
    rw [setSearchFrom_succ]
    refine wpAny_bind (wpAny_setState_of ho dat R.fits ?_)
    dsimp only
    refine wp_if_neg R.whole ?_
    try refine wpAny_bind (wpAny_pure ?_)
    have wj : ∀ q, (nth t.mask (stand t.mask (kh P w k) c) q).j = way t.mask (kh P w k) (c + q) := fun q => congrArg SetTable.Probe.j (stand_on t.mask (kh P w k) c q)
    have told := go_spec t R.tab.up R.tab.clean (fun i => (es[i]?.map (·.1)).getD 0) (kh P w k) (10 * SetTable.turns t.mask) (N - c) (stand t.mask (kh P w k) c) (stand_dummy t.mask (kh P w k) c) (by omega)
      (fun q hq => by rw [wj]; exact bef (c + q) (by omega)) (by rw [wj, show c + (N - c) = N by omega]; exact out)
    rcases told with ⟨q, i, hq, hi, hh, first, pr⟩ | ⟨none_, pr⟩
    · -- one of the same hash
      have pr2 : t.probe (fun i => (es[i]?.map (·.1)).getD 0) (kh P w k) (fr.getD (t.probeStart (kh P w k))) = some (.candidate (way t.mask (kh P w k) (c + q)) i (stand t.mask (kh P w k) (c + (q + 1)))) := by
        rw [at_, ← wj, ← stand_on]
        exact pr
      rw [pr2]
      dsimp only
      rw [wj] at hi
      have lt : i < L.length := by
        rw [← R.places]
        exact (List.getElem?_eq_some_iff.mp hi).1
      obtain ⟨e, he⟩ : ∃ e, L[i]? = some e := ⟨_, List.getElem?_eq_getElem lt⟩
      have hm : e ∈ L := List.mem_of_getElem? he
      have Te := R.tups e hm
      have go_on : wpAny (model P w) A (searchRest a (.ref x) (kh P w k) ad f es t (way t.mask (kh P w k) (c + q)) i (stand t.mask (kh P w k) (c + (q + 1)))) Q E s := by
        unfold searchRest
        rw [R.entry he]
        dsimp only
        refine wpAny_bind (wpAny_holding (wpAny_eqBool_tuple hu Te T ?_))
        refine wpAny_bind (wpAny_setState_of ho dat R.fits ?_)
        dsimp only
        have sl : t.slot (way t.mask (kh P w k) (c + q)) = .live i := slot_live R.tab.up hi
        by_cases same : e.2 = k
        · have inn : k ∈ L.map (·.2) := List.mem_map.mpr ⟨e, hm, same⟩
          cases ad with
          | true =>
            refine wp_if_pos (by simp [same]) ?_
            exact wpAny_pure (qin inn none fun z => nomatch z)
          | false =>
            refine wp_if_neg (by simp) ?_
            try refine wpAny_bind (wpAny_pure ?_)
            rw [sameMem]
            dsimp only
            simp only [if_true, sl, R.entry he]
            refine wpAny_bind (wpAny_isSame_ref_self (wpAny_bind (wpAny_pure ?_)))
            simp only [if_true]
            refine wp_if_pos (by simp [same]) ?_
            exact wpAny_pure (qin inn (some i) fun _ => rfl)
        · refine wp_if_neg (by simp [same]) ?_
          try refine wpAny_bind (wpAny_pure ?_)
          rw [sameMem]
          dsimp only
          simp only [if_true, sl, R.entry he]
          refine wpAny_bind (wpAny_isSame_ref_self (wpAny_bind (wpAny_pure ?_)))
          simp only [if_true]
          refine wp_if_neg (by simp [same]) ?_
          refine look_from R T hu ad lim out bef qin qout f (c + (q + 1)) _ rfl (by omega) (by omega) fun i0 e0 h0 k0 => ?_
          obtain ⟨d, d1, d2, d3⟩ := ahead i0 e0 h0 k0
          refine ⟨d, ?_, d2, d3⟩
          rcases Nat.lt_or_ge (c + q) d with gt | le'
          · omega
          exfalso
          rcases Nat.lt_or_eq_of_le le' with lt' | eq'
          · refine first (d - c) i0 (by omega) (by rw [wj, show c + (d - c) = d by omega]; exact d3) ?_
            exact (R.hashAt h0).trans (congrArg (kh P w) k0)
          · rw [eq'] at d3
            have s0 := slot_live R.tab.up d3
            rw [sl] at s0
            injection s0 with s0
            subst s0
            rw [he] at h0
            cases h0
            exact same k0
      by_cases led : t.led = true
      · refine wp_if_neg (by simp [led]) ?_
        try refine wpAny_bind (wpAny_pure ?_)
        exact go_on
      · refine wp_if_pos (by simp [led]) ?_
        refine wpAny_bind (seen_of T (fun u m => ?_) ?_)
        · obtain ⟨r, hr, er⟩ := List.mem_map.mp m
          have m2 : r ∈ es.toList := by
            have := (show r ∈ es ∧ r.1 = kh P w k by simpa using hr).1
            simpa using this
          rw [R.rows] at m2
          obtain ⟨e2, hm2, ee⟩ := List.mem_map.mp m2
          exact ⟨e2.2, e2.1, by rw [← er, ← ee], R.tups e2 hm2⟩
        · refine wp_if_neg (by decide) ?_
          try refine wpAny_bind (wpAny_pure ?_)
          exact go_on
    · -- the free slot
      have pr2 : t.probe (fun i => (es[i]?.map (·.1)).getD 0) (kh P w k) (fr.getD (t.probeStart (kh P w k))) = some (.empty (way t.mask (kh P w k) N) none) := by
        have ew : way t.mask (kh P w k) N = (nth t.mask (stand t.mask (kh P w k) c) (N - c)).j := by rw [wj, show c + (N - c) = N by omega]
        rw [at_, ew]
        exact pr
      rw [pr2]
      dsimp only
      refine wpAny_pure (qout fun m => ?_)
      obtain ⟨e0, m0, k0⟩ := List.mem_map.mp m
      obtain ⟨i0, h0⟩ := List.getElem?_of_mem m0
      obtain ⟨d, d1, d2, d3⟩ := ahead i0 e0 h0 k0
      refine none_ (d - c) i0 (by omega) (by rw [wj, show c + (d - c) = d by omega]; exact d3) ?_
      exact (R.hashAt h0).trans (congrArg (kh P w) k0)
/-- the search from its beginning -/
theorem look (R : KSet P w s.heap a L es ep t) {x : Addr} {k : List Key} (T : IsK P w s.heap k x) (hu : A.units < cLine) (ad : Bool) {Q : SetFound → Shared → Prop}
    (qin : k ∈ L.map (·.2) → ∀ r : Option Nat, (ad = false → r.isSome = true) → Q (.there r) s)
    (qout : ∀ N, k ∉ L.map (·.2) → way t.mask (kh P w k) N ∉ t.place.toList → (∀ c < N, way t.mask (kh P w k) c ∈ t.place.toList) → Q (.free (way t.mask (kh P w k) N) false) s) :
    wpAny (model P w) A (setSearch a (.ref x) (kh P w k) ad) Q E s := by
  have room := R.room
  obtain ⟨N, lim, out, bef⟩ := R.tab.free (by rw [List.length_map]; omega) (kh P w k)
  have big : N < 100000 := by
    have := R.mask.le
    unfold SetTable.turns at lim
    omega
  unfold setSearch
  refine look_from R T hu ad lim out bef qin (fun n => qout N n out bef) 100000 0 none rfl (Nat.zero_le _) (by omega) fun i e he ek => ?_
  have lt : i < t.place.toList.length := by
    rw [R.places]
    exact (List.getElem?_eq_some_iff.mp he).1
  have hj := List.getElem?_eq_getElem lt
  obtain ⟨d, d1, d2⟩ := R.tab.ahead out (i := i) (by rw [List.getElem?_map, he, ← ek]; rfl) hj
  exact ⟨d, Nat.zero_le _, d1, by rw [hj, d2]⟩
/-- x in such a set -/
theorem find_in (R : KSet P w s.heap a L es ep t) {x : Addr} {k : List Key} (T : IsK P w s.heap k x) (hu : A.units < cLine) {Q : Option Nat → Shared → Prop}
    (q : ∀ r : Option Nat, (r.isSome = true ↔ k ∈ L.map (·.2)) → Q r s) : wpAny (model P w) A (setFind a (.ref x) (kh P w k)) Q E s := by
  obtain ⟨o, ho, ex, dat⟩ := R.here
  unfold setFind setFindIn
  refine wpAny_bind (wpAny_setState_of ho dat R.fits ?_)
  dsimp only
  refine wp_if_neg (by simp [byScan, Value.scannable]) ?_
  try refine wpAny_bind (wpAny_pure ?_)
  refine wpAny_bind (look R T hu false (fun inn r hr => ?_) fun N n _ _ => ?_)
  · dsimp only
    exact wpAny_pure (q r ⟨fun _ => inn, fun _ => hr rfl⟩)
  · dsimp only
    exact wpAny_pure (q none ⟨fun z => (nomatch z), fun z => absurd z n⟩)
end
end Nm
set_option maxRecDepth 100000
set_option maxHeartbeats 4000000
/-! a tuple put into a set of tuples of keys -/
namespace Nm
open PySem PySem.Spec PyProof.Rows L2
theorem new_mask : SetTable.sizeAbove (SetTable.grown 5) = 32 ∧ SetTable.sizeAbove (SetTable.grown 19) = 128 ∧ SetTable.sizeAbove (SetTable.grown 77) = 512 ∧ SetTable.sizeAbove (SetTable.grown 307) = 2048 ∧ SetTable.sizeAbove (SetTable.grown 1229) = 8192 := by decide +kernel
/-- how a table grows -/
theorem grows {m n : Nat} (h : MaskIn m) (few : n * 5 < m * 3) (full : (n + 1) * 5 ≥ m * 3) (le : n + 1 ≤ 4900) :
    ∃ M, SetTable.sizeAbove (SetTable.grown (n + 1)) - 1 = M ∧ MaskIn M ∧ SetTable.sizeAbove (SetTable.grown (n + 1)) ≤ 8192 ∧ (n + 1) * 5 < M * 3 := by
  obtain ⟨a1, a2, a3, a4, a5⟩ := new_mask
  rcases h with rfl | rfl | rfl | rfl | rfl | rfl
  · obtain rfl : n = 4 := by omega
    exact ⟨31, by rw [a1], .inr (.inl rfl), by rw [a1]; decide, by decide⟩
  · obtain rfl : n = 18 := by omega
    exact ⟨127, by rw [a2], .inr (.inr (.inl rfl)), by rw [a2]; decide, by decide⟩
  · obtain rfl : n = 76 := by omega
    exact ⟨511, by rw [a3], .inr (.inr (.inr (.inl rfl))), by rw [a3]; decide, by decide⟩
  · obtain rfl : n = 306 := by omega
    exact ⟨2047, by rw [a4], .inr (.inr (.inr (.inr (.inl rfl)))), by rw [a4]; decide, by decide⟩
  · obtain rfl : n = 1228 := by omega
    exact ⟨8191, by rw [a5], .inr (.inr (.inr (.inr (.inr rfl)))), by rw [a5]; decide, by decide⟩
  · omega
section
variable {P : Program} {w : World} {A : Around} {E : Value → Shared → Prop} {s : Shared}
theorem isK_but {h h' : Heap} {k : List Key} {a b : Addr} {o : Obj} {es : Array (Int × Value)} {ep : Nat} {t : SetTable} (T : IsK P w h k b) (ho : h.get? a = some o) (dat : o.data = .set es ep t) (sb : Heap.SameBut a h h') : IsK P w h' k b := by
  obtain ⟨u, its, cnt, hu, cl, ud, itk⟩ := T
  refine ⟨u, its, cnt, (sb.2 b fun e => ?_).trans hu, cl, ud, itk⟩
  subst e
  rw [ho] at hu
  cases hu
  rw [dat] at ud
  cases ud
theorem rowsK_put (L : List (Addr × List Key)) (i : Nat) (x : Addr) (k : List Key) : rowsK P w (L.take i ++ (x, k) :: L.drop i) = (rowsK P w L).take i ++ (kh P w k, Value.ref x) :: (rowsK P w L).drop i := by
  unfold rowsK
  rw [List.map_append, List.map_cons, List.map_take, List.map_drop]
/-- the rows in another order -/
theorem rowsK_order {L : List (Addr × List Key)} {es : Array (Int × Value)} {ord : Array Nat} (hr : es.toList = rowsK P w L) (pm : ord.toList.Perm (List.range L.length)) :
    ∃ L', (ord.filterMap (es[·]?)).toList = rowsK P w L' ∧ L'.Perm L ∧ (L'.map fun e => kh P w e.2) = ord.toList.map fun i => (es.map (·.1)).getD i 0 := by
  have sz : es.size = L.length := by rw [← Array.length_toList, hr, rowsK_len]
  have row : ∀ (i : Nat) e, L[i]? = some e → es[i]? = some (kh P w e.2, Value.ref e.1) := fun i e h => by
    rw [← Array.getElem?_toList, hr]
    show (L.map _)[i]? = _
    rw [List.getElem?_map, h]
    rfl
  have walk : ∀ js : List Nat, (∀ j ∈ js, j < L.length) → ∃ L', js.filterMap (fun i => es[i]?) = rowsK P w L' ∧ js.filterMap (fun i => L[i]?) = L' ∧ (L'.map fun e => kh P w e.2) = js.map fun i => (es.map (·.1)).getD i 0 := by
    intro js
    induction js with
    | nil => exact fun _ => ⟨[], rfl, rfl, rfl⟩
    | cons j js ih =>
      intro below
      obtain ⟨L', b1, b2, b3⟩ := ih fun i m => below i (List.mem_cons_of_mem _ m)
      obtain ⟨e, he⟩ : ∃ e, L[j]? = some e := ⟨_, List.getElem?_eq_getElem (below j List.mem_cons_self)⟩
      refine ⟨e :: L', by rw [List.filterMap_cons_some (row j e he), b1]; rfl, by rw [List.filterMap_cons_some he, b2], ?_⟩
      rw [List.map_cons, List.map_cons, b3]
      congr 1
      rw [Array.getD_eq_getD_getElem?, Array.getElem?_map, row j e he]
      rfl
  obtain ⟨L', b1, b2, b3⟩ := walk ord.toList fun j m => List.mem_range.mp (pm.mem_iff.mp m)
  refine ⟨L', by simpa using b1, ?_, b3⟩
  have all : ∀ n, n ≤ L.length → (List.range n).filterMap (fun i => L[i]?) = L.take n := by
    intro n
    induction n with
    | zero => exact fun _ => rfl
    | succ n ih =>
      intro le
      rw [List.range_succ, List.filterMap_append, ih (by omega), List.take_add_one, List.filterMap_cons_some (List.getElem?_eq_getElem le), List.getElem?_eq_getElem le]
      rfl
  rw [← b2]
  refine (pm.filterMap _).trans ?_
  rw [all _ (Nat.le_refl _), List.take_length]
variable {a : Addr} {L : List (Addr × List Key)} {es : Array (Int × Value)} {ep : Nat} {t : SetTable}
/-- the table laid anew -/
theorem laid_new {o : Obj} (ho : s.heap.get? a = some o) (ex : o.ExactSet) (dat : o.data = .set es ep t) (rows : es.toList = rowsK P w L) (tab : Tab t (L.map fun e => kh P w e.2)) (le : L.length ≤ t.mask) (nd : (L.map (·.2)).Nodup)
    (tups : ∀ e ∈ L, IsK P w s.heap e.2 e.1) {want M : Nat} (hM : SetTable.sizeAbove want - 1 = M) (mk : MaskIn M) (lim : SetTable.sizeAbove want ≤ 8192) (room : L.length * 5 < M * 3) {Q : Unit → Shared → Prop}
    (q : ∀ h' L' es' ep' t', Heap.SameBut a s.heap h' → KSet P w h' a L' es' ep' t' → L'.Perm L → Q () { s with heap := h' }) : wpAny (model P w) A (setRelay a want) Q E s := by
  have sz : es.size = L.length := by rw [← Array.length_toList, rows, rowsK_len]
  have pl := tab.many
  rw [List.length_map] at pl
  have fits : t.fits es.size = true := by
    unfold SetTable.fits SetTable.fill
    rw [tab.clean]
    simp
    omega
  obtain ⟨t', ord, e, pm, T, em, _, _⟩ := lay_new t (hs := es.map (·.1)) (want := want) hM mk.pow (by rw [Array.size_map, sz]; omega)
  rw [Array.size_map, sz] at pm
  obtain ⟨L', r1, r2, r3⟩ := rowsK_order (P := P) (w := w) rows pm
  rw [← r3] at T
  have sz' : (ord.filterMap (es[·]?)).size = es.size := by rw [← Array.length_toList, r1, rowsK_len, r2.length_eq, sz]
  rw [setRelay_eq]
  refine wpAny_bind (wpAny_setState_of ho dat fits ?_)
  dsimp only
  refine wp_if_neg (by rw [sizeLine_eq]; omega) ?_
  try refine wpAny_bind (wpAny_pure ?_)
  rw [e]
  dsimp only
  refine wpAny_bind ?_
  refine wp_if_neg (by rw [sz']; simp) ?_
  try refine wpAny_bind (wpAny_pure ?_)
  refine wpAny_pure ?_
  dsimp only
  have few : L.length < 4920 := by
    have := mk.le
    omega
  refine wpAny_storeSet_of ho dat ?_ (by rw [sz', sz, sizeLine_eq]; omega)
  have sb : Heap.SameBut a s.heap (s.heap.update a (Obj.putSet (ord.filterMap (es[·]?)) t')) := Heap.SameBut.update ..
  refine q _ L' (ord.filterMap (es[·]?)) (ep + 1) t' sb ⟨⟨_, store_at ho dat, ⟨ex.1, ex.2.1, ex.2.2⟩, rfl⟩, r1, T, (r2.map (·.2)).nodup_iff.mpr nd, fun u m => isK_but (tups u (r2.mem_iff.mp m)) ho dat sb, by rw [em]; exact mk, by rw [r2.length_eq, em]; exact room⟩ r2
/-- adding -/
theorem put_in (R : KSet P w s.heap a L es ep t) {x : Addr} {k : List Key} (T : IsK P w s.heap k x) (hu : A.units < cLine) (few : L.length + 1 ≤ 4900) {Q : Bool → Shared → Prop}
    (q : ∀ b h' L' es' ep' t', Heap.SameBut a s.heap h' → KSet P w h' a L' es' ep' t' → (k ∈ L.map (·.2) → L' = L) → (k ∉ L.map (·.2) → L'.Perm ((x, k) :: L)) → Q b { s with heap := h' }) :
    wpAny (model P w) A (setAddHashed a (.ref x) (kh P w k)) Q E s := by
  obtain ⟨o, ho, ex, dat⟩ := R.here
  have sz := R.size
  have room := R.room
  unfold setAddHashed
  refine wpAny_holding ?_
  rw [show (100000 : Nat) = 99999 + 1 from rfl, setAddHashedIn_succ]
  refine wpAny_bind (wpAny_setState_of ho dat R.fits ?_)
  dsimp only
  refine wp_if_neg (by simp [byScan, Value.scannable]) ?_
  try refine wpAny_bind (wpAny_pure ?_)
  refine wpAny_bind (look R T hu true (fun inn r _ => ?_) fun N nin out bef => ?_)
  · dsimp only
    exact wpAny_pure (q false s.heap L es ep t (Heap.SameBut.refl a s.heap) R (fun _ => rfl) fun z => absurd inn z)
  · dsimp only
    refine wpAny_bind (wpAny_setState_of ho dat R.fits ?_)
    dsimp only
    obtain ⟨c1, c2, c3⟩ := R.tab.more out bef
    have em : (t.put (way t.mask (kh P w k) N)).1.mask = t.mask := rfl
    generalize hpt : t.put (way t.mask (kh P w k) N) = pt at c2 c3 em ⊢
    have ep2 : pt.2 = SetTable.below t.place (way t.mask (kh P w k) N) := by rw [← hpt]; rfl
    obtain ⟨t1, pos⟩ := pt
    dsimp only at c2 c3 em ep2 ⊢
    subst ep2
    generalize hpos : SetTable.below t.place (way t.mask (kh P w k) N) = pos at *
    have rows1 : (SetTable.insertAt es pos (kh P w k, Value.ref x)).toList = rowsK P w (L.take pos ++ (x, k) :: L.drop pos) := by
      rw [SetTable.toList_insertAt, rowsK_put, R.rows]
    have pm : (L.take pos ++ (x, k) :: L.drop pos).Perm ((x, k) :: L) := by
      have z := List.perm_middle (a := (x, k)) (l₁ := L.take pos) (l₂ := L.drop pos)
      rw [List.take_append_drop] at z
      exact z
    have len : (L.take pos ++ (x, k) :: L.drop pos).length = L.length + 1 := pm.length_eq
    have hs : (L.take pos ++ (x, k) :: L.drop pos).map (fun e => kh P w e.2) = (L.map fun e => kh P w e.2).take pos ++ kh P w k :: (L.map fun e => kh P w e.2).drop pos := by
      rw [List.map_append, List.map_cons, List.map_take, List.map_drop]
    rw [← hs] at c2
    have nd1 : ((L.take pos ++ (x, k) :: L.drop pos).map (·.2)).Nodup := (pm.map (·.2)).nodup_iff.mpr (List.nodup_cons.mpr ⟨nin, R.nd⟩)
    have sz1 : (SetTable.insertAt es pos (kh P w k, Value.ref x)).size = L.length + 1 := by rw [← Array.length_toList, rows1, rowsK_len, len]
    generalize SetTable.insertAt es pos (kh P w k, Value.ref x) = es1 at rows1 sz1 ⊢
    generalize L.take pos ++ (x, k) :: L.drop pos = L1 at pm len c2 nd1 rows1
    -- the rest, however the field stands
    have rest : ∀ t2 : SetTable, Tab t2 (L1.map fun e => kh P w e.2) → t2.mask = t.mask → t2.fill = L.length + 1 →
        wpAny (model P w) A (do
            storeSet a es1 t2
            if !false && t2.tooFull then setRelay a (SetTable.grown (es.size + 1))
            return true) Q E s := fun t2 T2 m2 f2 => by
      refine wpAny_bind (wpAny_storeSet_of ho dat ?_ (by rw [sz1, sizeLine_eq]; omega))
      have sb : Heap.SameBut a s.heap (s.heap.update a (Obj.putSet es1 t2)) := Heap.SameBut.update ..
      have ho1 := store_at (es' := es1) (t' := t2) ho dat
      generalize s.heap.update a (Obj.putSet es1 t2) = h1 at sb ho1 ⊢
      have tups1 : ∀ e ∈ L1, IsK P w h1 e.2 e.1 := fun e m => by
        rcases List.mem_cons.mp (pm.mem_iff.mp m) with rfl | m
        · exact isK_but T ho dat sb
        · exact isK_but (R.tups e m) ho dat sb
      by_cases full : t2.tooFull = true
      · have hf := full
        unfold SetTable.tooFull at hf
        rw [decide_eq_true_eq, f2, m2] at hf
        obtain ⟨M, g1, g2, g3, g4⟩ := grows R.mask room hf few
        first
          | (refine wpAny_bind ?_; refine wp_if_pos (by simp [full]) ?_)
          | (refine wp_if_pos (by simp [full]) ?_; refine wpAny_bind ?_)
        rw [sz]
        refine laid_new (s := { s with heap := h1 }) ho1 ⟨ex.1, ex.2.1, ex.2.2⟩ rfl rows1 T2 (by rw [len, m2]; have := R.mask.le; rcases R.mask with e | e | e | e | e | e <;> omega) nd1 tups1 g1 g2 g3 (by rw [len]; exact g4) ?_
        intro h2 L2 es2 ep2 t3 sb2 R2 pm2
        exact wpAny_pure (q true h2 L2 es2 ep2 t3 (sb.trans sb2) R2 (fun z => absurd z nin) fun _ => pm2.trans pm)
      · first
          | refine wp_if_neg (by simp [full]) ?_
          | (refine wpAny_bind ?_; refine wp_if_neg (by simp [full]) ?_; refine wpAny_pure ?_)
        have hf := full
        unfold SetTable.tooFull at hf
        rw [decide_eq_true_eq, f2, m2] at hf
        exact wpAny_pure (q true h1 L1 es1 (ep + 1) t2 sb ⟨⟨_, ho1, ⟨ex.1, ex.2.1, ex.2.2⟩, rfl⟩, rows1, T2, nd1, tups1, by rw [m2]; exact R.mask, by rw [len, m2]; omega⟩ (fun z => absurd z nin) fun _ => pm)
    by_cases pl : t1.plain = true
    · first
        | (refine wpAny_bind ?_; refine wp_if_pos pl ?_)
        | (refine wp_if_pos pl ?_; refine wpAny_bind ?_)
      refine hash_of T fun r => ?_
      cases r with
      | true =>
        simp only [if_true]
        exact rest t1 c2 em (by rw [c3, List.length_map])
      | false =>
        simp only [Bool.false_eq_true, if_false]
        exact rest { t1 with plain := false } ⟨c2.up, c2.clean, c2.many, c2.pow, c2.low, c2.led⟩ em (by show t1.fill = _; rw [c3, List.length_map])
    · first
        | (refine wpAny_bind ?_; refine wp_if_neg pl ?_; refine wpAny_pure ?_)
        | (refine wp_if_neg pl ?_; refine wpAny_bind (wpAny_pure ?_))
        | (refine wp_if_neg pl ?_)
      simp only [if_true]
      exact rest t1 c2 em (by rw [c3, List.length_map])
end
end Nm
set_option maxRecDepth 100000
set_option maxHeartbeats 4000000
/-! sets of tuples of keys as objects: set(), x in them, .add(x) -/
namespace Nm
open PySem PySem.Spec PyProof.Rows L2
/-- such a set, the tuples left out -/
structure KBare (P : Program) (w : World) (h : Heap) (a : Addr) (L : List (Addr × List Key)) : Prop where
  ex : ∃ (es : Array (Int × Value)) (ep : Nat) (t : SetTable), (∃ o, h.get? a = some o ∧ o.ExactSet ∧ o.data = .set es ep t) ∧ es.toList = rowsK P w L ∧ Tab t (L.map fun e => kh P w e.2) ∧ (L.map (·.2)).Nodup ∧ MaskIn t.mask ∧ L.length * 5 < t.mask * 3
theorem KSet.bare {P : Program} {w : World} {h : Heap} {a : Addr} {L : List (Addr × List Key)} {es : Array (Int × Value)} {ep : Nat} {t : SetTable} (R : KSet P w h a L es ep t) : KBare P w h a L := ⟨es, ep, t, R.here, R.rows, R.tab, R.nd, R.mask, R.room⟩
theorem KBare.set {P : Program} {w : World} {h : Heap} {a : Addr} {L : List (Addr × List Key)} (R : KBare P w h a L) (T : ∀ e ∈ L, IsK P w h e.2 e.1) : ∃ es ep t, KSet P w h a L es ep t := by
  obtain ⟨es, ep, t, c1, c2, c3, c4, c5, c6⟩ := R
  exact ⟨es, ep, t, c1, c2, c3, c4, T, c5, c6⟩
def KSetO (P : Program) (w : World) (a : Addr) (L : List (Addr × List Key)) : HO := .ext fun h => KBare P w h a L
theorem kset_obj {P : Program} {w : World} {H : Hp} {h : Heap} {a : Addr} {L : List (Addr × List Key)} (R : KBare P w h a L) : ObjOk P w H h a (KSetO P w a L) := by
  refine ⟨R, ?_, fun h1 h2 p k => ?_⟩
  · obtain ⟨_, _, _, ⟨o, ho, _⟩, _⟩ := R
    exact ⟨o, ho⟩
  · obtain ⟨es, ep, t, ⟨o, ho, r⟩, q⟩ := (show KBare P w h1 a L from p)
    exact ⟨es, ep, t, ⟨o, k o ho, r⟩, q⟩
theorem kbare_typeIs {P : Program} {w : World} {s : Shared} {a : Addr} {L : List (Addr × List Key)} (R : KBare P w s.heap a L) : s.TypeIs (.ref a) "set" := by
  obtain ⟨_, _, _, ⟨o, ho, ex, _⟩, _⟩ := R
  exact ⟨o, ho, ex.1⟩
theorem kbare_noDict {P : Program} {w : World} {h : Heap} {a : Addr} {L : List (Addr × List Key)} (R : KBare P w h a L) : ∀ b, Value.ref a = .ref b → ∃ u, h.get? b = some u ∧ u.dict = none := by
  obtain ⟨_, _, _, ⟨o, ho, ex, _⟩, _⟩ := R
  intro b e
  cases e
  exact ⟨o, ho, ex.2.1⟩
/-- the tuples of such a set stand -/
def KIn (H : Hp) (L : List (Addr × List Key)) : Prop := ∀ e ∈ L, H e.1 = some (.tup (e.2.map kV))
section
variable {X : Cx} {pins : List (Addr × Obj)} {σ : L2.St} {H : Hp} {s : Shared}
theorem kset_get {a : Addr} {L : List (Addr × List Key)} (I : Inv X pins σ H s) (ha : H a = some (KSetO X.prog X.w a L)) : KBare X.prog X.w s.heap a L := (I.hok a _ ha).1
theorem key_is {u : Addr} {k : List Key} (I : Inv X pins σ H s) (hu : H u = some (.tup (k.map kV))) : IsK X.prog X.w s.heap k u := key_of I.hok hu
/-- set() -/
def rSetKT (P : Program) (w : World) : List V → Hp → VK → Prop := fun xs H Q => xs = [] ∧ ∀ p, H p = none → Q (.ref p) (upd H p (KSetO P w p []))
theorem cr_setKT : CallR X (.type "set") (rSetKT X.prog X.w) := by
  intro pins s σ H xs us Q I r h
  obtain ⟨rfl, q⟩ := h
  cases r
  refine setR_new fun _ => ?_
  refine ⟨.ref _, upd H s.heap.objs.size (KSetO X.prog X.w s.heap.objs.size []), I.laid (t' := s.toks) (fun b u e => Heap.get?_push_of_some _ e) (Nat.le_refl _) (kset_obj ?_), rfl, q _ (I.hok.fresh (Nat.le_refl _))⟩
  refine ⟨#[], 0, .fresh 0 0 (!X.w.params.followText "set-order"), ⟨_, Heap.get?_push_size _ rfl, ⟨rfl, rfl, rfl⟩, rfl⟩, rfl, ⟨List.Pairwise.nil, rfl, rfl, ⟨3, rfl⟩, fun x m => ?_, fun i h j e => ?_⟩, List.nodup_nil, .inl rfl, by show 0 * 5 < 7 * 3; decide⟩
  · cases m
  · simp at e
/-- u in a -/
def rInKT (P : Program) (w : World) : V → V → Hp → VK → Prop := fun x y H Q => ∃ (u a : Addr) (k : List Key) (L : List (Addr × List Key)), x = .ref u ∧ y = .ref a ∧ H u = some (.tup (k.map kV)) ∧ H a = some (KSetO P w a L) ∧ KIn H L ∧ ∀ b : Bool, (b = true ↔ k ∈ L.map (·.2)) → Q (.bl b) H
theorem or_inKT (room : X.A.units + 1 < cLine) : OpR X (compareOp .In) (rInKT X.prog X.w) := by
  intro pins s σ H x y v u' Q I rx ry h
  obtain ⟨u, a, k, L, rfl, rfl, hu, ha, kin, q⟩ := h
  cases rx
  cases ry
  have R0 := kset_get I ha
  have ty := kbare_typeIs R0
  obtain ⟨es, ep, t, R⟩ := R0.set fun e m => key_is I (kin e m)
  have T := key_is I hu
  show wpAny _ _ (do return Value.bool (← contains (.ref a) (.ref u))) _ _ s
  refine wpAny_bind ?_
  unfold contains
  try with_reducible refine wpAny_holding ?_
  refine wpAny_bind (wpAny_specialOf ty F.slot_set_contains.lookup ?_)
  refine wp_if_neg (by rw [beq_builtin_none]; exact Bool.false_ne_true) ?_
  refine wpAny_bind (wpAny_callSpecialUnlessNone?_slot (name := Str.ofString "__contains__") ty F.slot_set_contains (wpAny_call_entry F.slot_set_contains ty entry_set_contains ?_ (F.args_set_contains_2 _ _)))
  unfold Builtin.«frozenset.__contains__» Builtin.Frozenset.oneOther
  simp only [List.isEmpty_nil, bind_assoc]
  unfold Builtin.Frozenset.addrOf Builtin.Frozenset.withSetAsKey setContains
  refine wpAny_bind (wpAny_pure ?_)
  try dsimp only
  refine wpAny_bind (wpAny_pure ?_)
  try dsimp only
  refine wpAny_bind (wpAny_tryCatch (wpAny_holding (wpAny_bind (wpAny_pyHash_tuple room T ?_))))
  refine wpAny_bind (find_in (s := { s with toks := s.toks + (k.length + 1) }) R T room fun r hr => wpAny_pure ?_)
  show wpAny _ _ (ret (Value.bool r.isSome)) _ _ _
  exact wpAny_pure ⟨_, rfl, wpAny_truthy_bool (wpAny_pure ⟨.bl r.isSome, H, I.tok _, rfl, q _ hr⟩)⟩
/-- a.add(u), u not in a -/
def rAddKT (P : Program) (w : World) : V → List V → Hp → VK → Prop := fun x xs H Q => ∃ (a u : Addr) (k : List Key) (L : List (Addr × List Key)), x = .ref a ∧ xs = [.ref u] ∧ H u = some (.tup (k.map kV)) ∧ H a = some (KSetO P w a L) ∧ KIn H L ∧ k ∉ L.map (·.2) ∧ L.length + 1 ≤ 4900 ∧
  ∀ L', L'.Perm ((u, k) :: L) → Q .non (upd H a (KSetO P w a L'))
theorem mt_addKT (room : X.A.units + 1 < cLine) : MtR X "set.add" (rAddKT X.prog X.w) := by
  intro pins s σ H x xs v us Q I rx rxs h
  obtain ⟨a, u, k, L, rfl, rfl, hu, ha, kin, nin, few, q⟩ := h
  cases rx
  rw [Vals.ref1 rxs]
  have R0 := kset_get I ha
  obtain ⟨es, ep, t, R⟩ := R0.set fun e m => key_is I (kin e m)
  have T := key_is I hu
  refine wpAny_call_entry F.slot_set_add (kbare_typeIs R0) F.entry_set_add ?_ (F.args_set_add_2 _ _)
  unfold Builtin.«set.add» Builtin.Frozenset.oneOther
  simp only [List.isEmpty_nil, bind_assoc]
  unfold Builtin.Frozenset.addrOf setAdd
  refine wpAny_bind (wpAny_pure ?_)
  try dsimp only
  refine wpAny_bind (wpAny_pure ?_)
  try dsimp only
  refine wpAny_bind (wpAny_holding (wpAny_bind (wpAny_pyHash_tuple room T ?_)))
  refine put_in (s := { s with toks := s.toks + (k.length + 1) }) R T room few fun b h' L' es' ep' t' sb R' _ out => ?_
  show wpAny _ _ (ret Value.none) _ _ _
  refine wpAny_pure ⟨_, rfl, .non, upd H a (KSetO X.prog X.w a L'), I.write (e := a) (t' := s.toks + (k.length + 1)) (by rw [ha]; trivial) (.inl rfl) (fun b u hb hu => (sb.2 b hb).trans hu) ?_ (kset_obj R'.bare), rfl, q L' (out nin)⟩
  obtain ⟨o, ho, _⟩ := R'.here
  exact ⟨o, ho⟩
def tAddKT (P : Program) (w : World) (to : TE) (t : TA) : TE := fun σ H Q => to σ H fun x H1 => (∃ a L, x = V.ref a ∧ H1 a = some (KSetO P w a L)) ∧ t σ H1 fun xs H2 => rAddKT P w x xs H2 Q
variable {o e : Expr} {es : List Expr} {to : TE} {t : TA} {apos cpos : Pos}
theorem pe_addKT (room : X.A.units + 1 < cLine) (ho : PE X o to) (ha : PA X (e :: es) t)
    (b1 : attributeBase o "add" X.env (eval o X.env) = eval o X.env := by rfl)
    (b2 : ((backTo cpos (starEach (e :: es) X.env)).all (fun x => !x.1) && (backToKw cpos (keywordEach [] X.env)).all (fun x => x.1.isSome) && decide ((e :: es).length + ([] : List Keyword).length + (if ([] : List Keyword).isEmpty then 0 else 1) < 30)) = true := by rfl)
    (b3 : (apos.endLine == cpos.line) = true := by rfl) (b4 : starEach (e :: es) X.env = (false, eval e X.env) :: starEach es X.env := by rfl) (b5 : (backTo cpos (starEach es X.env)).any (·.1) = false := by rfl) :
    PE X (.Call (.Attribute o "add" apos) (e :: es) [] cpos) (tAddKT X.prog X.w to t) := by
  refine ⟨fun pins s σ H Q I h => wpAny_Call_method_late b1 b2 b3 rfl (thn (ho.run pins s σ H _ I h) fun v s1 ⟨x, H1, I1, r1, ty, q1⟩ => ?_)⟩
  obtain ⟨a, L, rfl, hka⟩ := ty
  have R := kset_get I1 hka
  cases r1
  refine ⟨"set", "set.add", F.plainAttrs_set, F.slot_set_add, F.type_set_add, kbare_typeIs R, kbare_noDict R, ?_⟩
  have run := ha.run cpos pins s1 σ H1 _ I1 q1
  rw [b4] at run ⊢
  refine Calls.callWith_builtin (by show (false || (backTo cpos (starEach es X.env)).any (·.1)) = false; rw [b5] <;> rfl) (Calls.evalArgs_plain (thn run fun us s2 ⟨vs, H2, I2, r2, q2⟩ => ?_))
  exact mt_addKT room pins s2 σ H2 (.ref a) vs (.ref a) us Q I2 rfl r2 q2
end
end Nm
set_option maxRecDepth 100000
set_option maxHeartbeats 4000000
namespace Nm
open PySem L2
theorem KIn.same {H H' : Hp} {L : List (Addr × List Key)} (h : KIn H L) (s : Same H H') : KIn H' L := fun e m => s _ _ (h e m)
section
variable {P : Program} {w : World} {K : PySem.W.Frag} {mg : Str → Option Value} {base : Heap}
/-! ### need_ties -/
abbrev nNT : List Str := ["ties", "names", "spots", "at", "tie", "spot"]
theorem scNT : FnScope nNT ["ties", "names"] (defScope sNeedTies) := ⟨rfl, rfl, rfl, by decide +kernel, rfl, by decide +kernel, by decide +kernel⟩
theorem ok_needT {f : Addr} {fd : FuncData} (F : Fun K "need_ties" "need_ties" sNeedTies f fd) (T : TxtH mg) (Gs : Def P w K mg base "tie_spot" ["tie", "names"] 3 spSpot) : FnOk P w K mg base CX0 4 f fd ["ties", "names"] spNeedT := by
  obtain ⟨fs, fds, Gs, ms, ks, bs⟩ := Gs.ex
  refine F.ok scNT (fun vs H Q E h => ?_) (fun cdv A outer s H vs Q E hr h => ?_)
  · obtain ⟨_, _, _, _, _, rfl, _⟩ := h
    rfl
  · obtain ⟨p, d, tl, nm, kvs, rfl, ⟨ts, hp, pr⟩, hd, hk, hok, hnd, htl, k⟩ := h
    have hu := hu_of hr
    refine ⟨_, pss_cons (ps_set (i := 2) scNT.nd rfl (Or.inl rfl) (pe_callTy0 cr_setKT (by rfl) T.set (by decide +kernel)))
      (pss_one (ps_for PassesOwn.never rfl (pi_enum (by rfl) T.enumerate (pa_cons (pv 0) pa_nil)) (pg_tup rfl (pgs_cons (pg_name (i := 3) scNT.nd rfl (.inl rfl)) (pgs_cons (pg_name (i := 4) scNT.nd rfl (.inl rfl)) pgs_nil)))
        (pss_cons (ps_set (i := 5) scNT.nd rfl (Or.inl rfl) (pe_call Gs hr (by rfl) ms ks bs .nil pass0 (pa_cons (pv 4) (pa_cons (pv 1) pa_nil))))
        (pss_cons (ps_if (PW.pt (pw_or (pt_cmp (pc_isN (pv 5))) (pw_or1 (pt_cmpR (or_inKT hu) (pv 5) (pv 2) (by rfl))))) (pss_one ps_never) pss_nil)
        (pss_one (ps_expr (pe_addKT hu (pv 2) (pa_cons (pv 5) pa_nil)))))))), ?_⟩
    refine ⟨rfl, fun sp hsp => ?_⟩
    have s1 := same_new (o := KSetO P w sp []) hsp
    have hsp1 : (upd H sp (KSetO P w sp [])) sp = some (KSetO P w sp []) := upd_same
    refine ⟨_, rfl, p, _, rfl, SqL.of (s1 _ _ hp), ?_⟩
    refine for_it (walk_enum (xs := ts.map V.ref)) (fun i σ H2 => ∃ v3 v4 v5 L, σ = [some (.ref p), some (.ref d), some (.ref sp), v3, v4, v5] ∧ H2 sp = some (KSetO P w sp L) ∧ KIn H2 L ∧ (∀ e ∈ L, e.2 ∈ (tl.map TieV.spot).take i) ∧ L.length = i ∧ Same H H2)
      ⟨none, none, none, [], rfl, hsp1, (fun e m => (List.not_mem_nil m).elim), (fun e m => (List.not_mem_nil m).elim), rfl, s1⟩ (fun i σ H2 _ ⟨_, _, _, _, _, _, _, _, _, h⟩ => SqL.of (h _ _ hp)) ?_ ?_
    · rintro i x σ H2 H3 hi ⟨v3, v4, v5, L, rfl, hsp2, kin, hL, hlen, s2⟩ ⟨tp, x1, y1, rfl, htp, rfl, e1, e2⟩
      rw [List.length_map] at hi
      have e2 : (ts.map V.ref)[i]? = some y1 := e2
      rw [List.getElem?_map] at e2
      obtain ⟨t, ht, rfl⟩ := Option.map_eq_some_iff.mp e2
      cases e1
      obtain ⟨tv, htv, htt⟩ := paired_get pr ht
      have s3 : Same H2 (upd H2 tp (.tup [V.int (i : Nat), V.ref t])) := same_new htp
      have htp3 : (upd H2 tp (.tup [V.int (i : Nat), V.ref t])) tp = some (.tup [V.int (i : Nat), V.ref t]) := upd_same
      generalize upd H2 tp (.tup [V.int (i : Nat), V.ref t]) = H3 at *
      refine ⟨tp, _, rfl, SqT.of htp3, rfl, _, _, rfl, _, _, rfl, rfl, ?_⟩
      refine ⟨_, rfl, _, rfl, t, d, tv, nm, kvs, rfl, s3 _ _ (s2 _ _ htt), s3 _ _ (s2 _ _ hd), hk, hok tv (List.mem_of_getElem? htv), fun r H4 hr0 hr4 s4 => ?_⟩
      have s34 := s3.trans s4
      have hsp4 := s34 _ _ hsp2
      have kin4 := kin.same s34
      have nin : tv.spot ∉ L.map (·.2) := fun m => by
        obtain ⟨e, he, ee⟩ := List.mem_map.mp m
        have h1 := hL e he
        rw [ee] at h1
        obtain ⟨j, hj⟩ := List.getElem?_of_mem h1
        rw [List.getElem?_take] at hj
        split at hj
        · rename_i lt
          have h2 : (tl.map TieV.spot)[i]? = some tv.spot := by rw [List.getElem?_map, htv]; rfl
          have := (List.getElem?_inj (List.getElem?_eq_some_iff.mp hj).1 hnd).mp (hj.trans h2.symm)
          omega
        · cases hj
      have hn : decide (V.ref r = V.non) = false := decide_eq_false (fun z => by cases z)
      refine ⟨_, rfl, _, rfl, ?_⟩
      rw [hn]
      refine iteF ?_
      refine ⟨_, rfl, _, rfl, r, sp, tv.spot, L, rfl, rfl, hr4, hsp4, kin4, fun b hb => ⟨_, rfl, ?_⟩⟩
      have hb0 : b = false := by
        cases b with
        | false => rfl
        | true => exact absurd (hb.mp rfl) nin
      subst hb0
      refine iteF ?_
      have hil : i < tl.length := (List.getElem?_eq_some_iff.mp htv).1
      refine ⟨_, rfl, ⟨sp, L, rfl, hsp4⟩, _, rfl, sp, r, tv.spot, L, rfl, rfl, hr4, hsp4, kin4, nin, by omega, fun L' pm => ?_⟩
      have nsp : H sp = none := hsp
      refine ⟨_, _, _, L', rfl, upd_same, fun e m => ?_, fun e m => ?_, by rw [pm.length_eq, List.length_cons, hlen], fun b o e => ?_⟩
      · have he : H4 e.1 = some (.tup (e.2.map kV)) := by
          rcases List.mem_cons.mp (pm.mem_iff.mp m) with rfl | m
          · exact hr4
          · exact kin4 e m
        rw [upd_ne (ne_of he hsp4 (by intro z; cases z))]
        exact he
      · rw [List.take_add_one, show (tl.map TieV.spot)[i]? = some tv.spot by rw [List.getElem?_map, htv]; rfl]
        rcases List.mem_cons.mp (pm.mem_iff.mp m) with rfl | m
        · exact List.mem_append_right _ (by simp)
        · exact List.mem_append_left _ (hL e m)
      · rw [upd_ne (ne_of_none e hsp)]
        exact s34 _ _ (s2 b o e)
    · rintro σ H2 ⟨v3, v4, v5, L, rfl, hsp2, kin, hL, hlen, s2⟩
      exact k H2 s2
end
end Nm
set_option maxRecDepth 100000
set_option maxHeartbeats 4000000
/-! what the law reckons, and what the program tells: one and the same -/
namespace Nm
open PySem L2
/-- the name with a number -/
def nmA (nm : List Str) (w : Nat) : Str := (nm[w]?).getD ""
theorem nmA_at {nm : List Str} {w : Nat} {x : Str} (h : nm[w]? = some x) : nmA nm w = x := by
  unfold nmA
  rw [h]
  rfl
/-- where a dict leads a name -/
def leadG (fkv : List (Key × V)) (x : Str) : Str := match valV fkv (Sum.inr x) with
  | some (.str z) => z
  | _ => ""
theorem lead_at {nm' nm : List Str} {led : List Nat} {i w : Nat} {x y : Str} (hx : nm'[i]? = some x) (hw : led[i]? = some w) (hy : nm[w]? = some y) : (Sum.inr x, V.str y) ∈ leadKV nm' nm led := by
  unfold leadKV
  refine List.mem_map.mpr ⟨(x, w), List.mem_of_getElem? (i := i) ?_, by simp [hy]⟩
  rw [List.getElem?_zip_eq_some]
  exact ⟨hx, hw⟩
/-- what of a folding's dict is known -/
structure Lead (nm' nm : List Str) (led : List Nat) (fkv : List (Key × V)) : Prop where
  pm : fkv.Perm (leadKV nm' nm led)
  nd' : nm'.Nodup
  nd : nm.Nodup
  len : led.length = nm'.length
  lt : ∀ x ∈ led, x < nm.length
section
variable {nm' nm : List Str} {led : List Nat} {fkv : List (Key × V)}
theorem Lead.keys (L : Lead nm' nm led fkv) : (fkv.map (·.1)).Nodup := (L.pm.map (·.1)).nodup_iff.mpr (lead_nd L.len L.nd')
theorem Lead.val (L : Lead nm' nm led fkv) {i w : Nat} {x y : Str} (hx : nm'[i]? = some x) (hw : led[i]? = some w) (hy : nm[w]? = some y) : valV fkv (Sum.inr x) = some (V.str y) := val_of_mem L.keys (L.pm.mem_iff.mpr (lead_at hx hw hy))
theorem Lead.g (L : Lead nm' nm led fkv) {i w : Nat} {x y : Str} (hx : nm'[i]? = some x) (hw : led[i]? = some w) (hy : nm[w]? = some y) : leadG fkv x = y := by
  unfold leadG
  rw [L.val hx hw hy]
theorem Lead.there (L : Lead nm' nm led fkv) {i : Nat} {x : Str} (hx : nm'[i]? = some x) : ∃ w y, led[i]? = some w ∧ nm[w]? = some y := by
  have hi := (List.getElem?_eq_some_iff.mp hx).1
  obtain ⟨w, hw⟩ : ∃ w, led[i]? = some w := ⟨_, List.getElem?_eq_getElem (by rw [L.len]; exact hi)⟩
  exact ⟨w, _, hw, List.getElem?_eq_getElem (L.lt w (List.mem_of_getElem? hw))⟩
/-- as the judging functions ask for it -/
theorem Lead.ok (L : Lead nm' nm led fkv) : ∀ x ∈ nm', valV fkv (Sum.inr x) = some (V.str (leadG fkv x)) ∧ leadG fkv x ∈ nm := fun x hx => by
  obtain ⟨i, hi⟩ := List.getElem?_of_mem hx
  obtain ⟨w, y, hw, hy⟩ := L.there hi
  rw [L.g hi hw hy]
  exact ⟨L.val hi hw hy, List.mem_of_getElem? hy⟩
/-- the names over y, by numbers -/
theorem Lead.over_take (L : Lead nm' nm led fkv) {q : Nat} {y : Str} (hq : nm[q]? = some y) : ∀ i, i ≤ nm'.length → overL (nm'.take i) (leadG fkv) y = (posU led i q).map (nmA nm')
  | 0, _ => rfl
  | i + 1, le => by
    obtain ⟨x, hx⟩ : ∃ x, nm'[i]? = some x := ⟨_, List.getElem?_eq_getElem le⟩
    obtain ⟨w, z, hw, hz⟩ := L.there hx
    have ih := L.over_take hq i (by omega)
    have g := L.g hx hw hz
    by_cases e : w = q
    · subst e
      have : z = y := Option.some.inj (hz.symm.trans hq)
      subst this
      rw [overL_yes hx g, posU_yes hw, ih, List.map_append, List.map_singleton, nmA_at hx]
    · have ne : ¬ leadG fkv x = y := fun z' => by
        rw [g] at z'
        subst z'
        exact e ((List.getElem?_inj (List.getElem?_eq_some_iff.mp hz).1 L.nd).mp (hz.trans hq.symm))
      rw [overL_no hx ne, posU_no hw (fun z' => e z'.symm), ih]
theorem Lead.over (L : Lead nm' nm led fkv) {q : Nat} {y : Str} (hq : nm[q]? = some y) : overL nm' (leadG fkv) y = (posU led led.length q).map (nmA nm') := by
  have := L.over_take hq nm'.length (Nat.le_refl _)
  rw [List.take_of_length_le (Nat.le_refl _), ← L.len] at this
  exact this
/-- the counts -/
def cnts (led : List Nat) (n : Nat) : List Nat := (List.range n).map fun q => (posU led led.length q).length
theorem Lead.counts (L : Lead nm' nm led fkv) : (nm.map fun y => (overL nm' (leadG fkv) y).length) = cnts led nm.length := by
  refine List.ext_getElem? fun q => ?_
  unfold cnts
  rw [List.getElem?_map, List.getElem?_map]
  by_cases c : q < nm.length
  · have hq := List.getElem?_eq_getElem c
    rw [hq, List.getElem?_range c, Option.map_some, Option.map_some, L.over hq, List.length_map]
  · rw [List.getElem?_eq_none (by omega), List.getElem?_eq_none (by rw [List.length_range]; omega)]
    rfl
/-- two such dicts are equal -/
theorem Lead.eqs {fkv2 : List (Key × V)} (L : Lead nm' nm led fkv) (L2 : Lead nm' nm led fkv2) : fkv.length = fkv2.length ∧ ∀ p ∈ fkv, valV fkv2 p.1 = some p.2 ∧ flatB p.2 = true := by
  refine ⟨(L.pm.trans L2.pm.symm).length_eq, fun p m => ?_⟩
  have m1 := L.pm.mem_iff.mp m
  refine ⟨val_of_mem L2.keys (L2.pm.mem_iff.mpr m1), ?_⟩
  unfold leadKV at m1
  obtain ⟨z, _, rfl⟩ := List.mem_map.mp m1
  rfl
end
/-- by least and greatest: is there one over each? -/
theorem all_pos {ks : List Nat} {m : Int} (hm : m ∈ ks.map fun (k : Nat) => (k : Int)) (le : ∀ j ∈ ks.map fun (k : Nat) => (k : Int), m ≤ j) : (ks.all fun n => decide (0 < n)) = decide (0 < m) := by
  by_cases c : 0 < m
  · rw [decide_eq_true c]
    refine List.all_eq_true.mpr fun k hk => decide_eq_true ?_
    have := le (k : Int) (List.mem_map.mpr ⟨k, hk, rfl⟩)
    omega
  · rw [decide_eq_false c]
    obtain ⟨k, hk, rfl⟩ := List.mem_map.mp hm
    refine List.all_eq_false.mpr ⟨k, hk, ?_⟩
    simp
    omega
theorem all_same {ks : List Nat} {k0 : Nat} {m M : Int} (h0 : ks[0]? = some k0) (hm : m ∈ ks.map fun (k : Nat) => (k : Int)) (le : ∀ j ∈ ks.map fun (k : Nat) => (k : Int), m ≤ j) (hM : M ∈ ks.map fun (k : Nat) => (k : Int)) (ge : ∀ j ∈ ks.map fun (k : Nat) => (k : Int), j ≤ M) :
    (decide (0 < k0) && ks.all fun n => decide (n = k0)) = (decide (0 < m) && decide (m = M)) := by
  have m0 : k0 ∈ ks := List.mem_of_getElem? h0
  by_cases c : m = M
  · subst c
    have same : ∀ k ∈ ks, (k : Int) = m := fun k hk => Int.le_antisymm (ge _ (List.mem_map.mpr ⟨k, hk, rfl⟩)) (le _ (List.mem_map.mpr ⟨k, hk, rfl⟩))
    have e0 := same k0 m0
    have a1 : (ks.all fun n => decide (n = k0)) = true := List.all_eq_true.mpr fun k hk => decide_eq_true (by have := same k hk; omega)
    rw [a1, Bool.and_true, decide_eq_true (rfl : m = m), Bool.and_true]
    by_cases p : 0 < k0
    · rw [decide_eq_true p, decide_eq_true (by omega)]
    · rw [decide_eq_false p, decide_eq_false (by omega)]
  · rw [decide_eq_false c, Bool.and_false]
    obtain ⟨a, ha, ea⟩ := List.mem_map.mp hm
    obtain ⟨b, hb, eb⟩ := List.mem_map.mp hM
    have a1 : (ks.all fun n => decide (n = k0)) = false := by
      refine List.all_eq_false.mpr ?_
      by_cases p : a = k0
      · exact ⟨b, hb, by simp; omega⟩
      · exact ⟨a, ha, by simp [p]⟩
    rw [a1, Bool.and_false]
theorem none_same {ks : List Nat} {k0 : Nat} {m : Int} (hm : m ∈ ks.map fun (k : Nat) => (k : Int)) (c : ¬ 0 < m) : (decide (0 < k0) && ks.all fun n => decide (n = k0)) = false := by
  obtain ⟨a, ha, ea⟩ := List.mem_map.mp hm
  by_cases p : 0 < k0
  · have a1 : (ks.all fun n => decide (n = k0)) = false := List.all_eq_false.mpr ⟨a, ha, by simp; omega⟩
    rw [a1, Bool.and_false]
  · rw [decide_eq_false p, Bool.false_and]
/-- a web over itself -/
def selfKV (nm : List Str) : List (Key × V) := nm.map fun x => (Sum.inr x, V.str x)
theorem self_keys (nm : List Str) : (selfKV nm).map (·.1) = nm.map Sum.inr := by
  unfold selfKV
  rw [List.map_map]
  rfl
theorem self_nd {nm : List Str} (nd : nm.Nodup) : ((selfKV nm).map (·.1)).Nodup := by
  rw [self_keys]
  exact List.Pairwise.map _ (fun a b hab e => hab (Sum.inr.inj e)) nd
theorem self_ok {nm : List Str} (nd : nm.Nodup) : ∀ x ∈ nm, valV (selfKV nm) (Sum.inr x) = some (V.str (id x)) ∧ id x ∈ nm := fun x hx => ⟨val_of_mem (self_nd nd) (List.mem_map.mpr ⟨x, hx, rfl⟩), hx⟩
theorem self_over {nm : List Str} (nd : nm.Nodup) : ∀ y ∈ nm, (overL nm id y).length = 1 := by
  intro y hy
  have e : overL nm id y = nm.filter (· == y) := by
    unfold overL
    congr 1
  have h1 : nm.count y ≤ 1 := List.nodup_iff_count.mp nd y
  have h2 : 0 < nm.count y := List.count_pos_iff.mpr hy
  rw [e, ← List.count_eq_length_filter]
  omega
theorem self_onto {nm : List Str} (nd : nm.Nodup) : ((nm.map fun y => (overL nm id y).length).all fun n => decide (0 < n)) = true := by
  rw [List.all_map]
  refine List.all_eq_true.mpr fun y hy => ?_
  show decide (0 < (overL nm id y).length) = true
  rw [self_over nd y hy]
  rfl
theorem self_spread {nm : List Str} (nd : nm.Nodup) {y0 : Str} (h : nm[0]? = some y0) : (decide (0 < (overL nm id y0).length) && (nm.map fun y => (overL nm id y).length).all fun n => decide (n = (overL nm id y0).length)) = true := by
  rw [self_over nd y0 (List.mem_of_getElem? h), List.all_map]
  refine Bool.and_eq_true_iff.mpr ⟨rfl, List.all_eq_true.mpr fun y hy => ?_⟩
  show decide ((overL nm id y).length = 1) = true
  rw [self_over nd y hy]
  rfl
end Nm
set_option maxRecDepth 100000
set_option maxHeartbeats 4000000
/-! != of two dicts of lists of texts, the same ones; repr of a bool -/
namespace Nm
open PySem PySem.Spec PyProof.Rows L2
section
variable {X : Cx} {pins : List (Addr × Obj)} {σ : L2.St} {H : Hp} {s : Shared}
theorem strs_hit {A : Around} : ∀ {zs : List Str} {us ws : List Value}, Vals (zs.map V.str) us → Vals (zs.map V.str) ws → us.length = ws.length ∧ ∀ j (h1 : j < us.length) (h2 : j < ws.length), SeqAt.EqAt A s us[j] ws[j] true
  | [], _, _, .nil, .nil => ⟨rfl, fun j h1 => absurd h1 (Nat.not_lt_zero j)⟩
  | z :: zs, _, _, .cons r t, .cons r' t' => by
    obtain ⟨e, k⟩ := strs_hit t t'
    refine ⟨by simp [e], fun j h1 h2 => ?_⟩
    cases j with
    | zero => exact eqAt_same r r' rfl
    | succ j => exact k j (Nat.lt_of_succ_lt_succ h1) (Nat.lt_of_succ_lt_succ h2)
/-- two lists of the same texts -/
theorem lists_hit (I : Inv X pins σ H s) {A : Around} (hu : A.units < cLine) {u v : Addr} {zs : List Str} (hu' : H u = some (.lst (zs.map V.str))) (hv : H v = some (.lst (zs.map V.str))) : SeqAt.EqAt A s (.ref u) (.ref v) true := by
  by_cases e : u = v
  · subst e
    exact SeqAt.EqAt.same _
  obtain ⟨us, r1, p1, _⟩ := I.list (SqL.of hu')
  obtain ⟨ws, r2, p2, _⟩ := I.list (SqL.of hv)
  obtain ⟨sz, items⟩ := strs_hit (s := s) (A := A.in1) r1 r2
  have z := SeqAt.RcAt.lists (A := A) (e := fun _ => true) p1.isList p2.isList (by simpa using sz) hu fun j h1 h2 => by simpa using items j (by simpa using h1) (by simpa using h2)
  rw [show ((List.range us.toArray.size).all fun _ => true) = true from List.all_eq_true.mpr fun _ _ => rfl] at z
  exact SeqAt.EqAt.of_refs e z
/-- each key leads to a list of the same texts -/
def SameLists (H : Hp) (ks ls : List (Key × V)) : Prop := ks.length = ls.length ∧ ∀ p ∈ ks, ∃ (u v : Addr) (zs : List Str), p.2 = V.ref u ∧ valV ls p.1 = some (V.ref v) ∧ H u = some (.lst (zs.map V.str)) ∧ H v = some (.lst (zs.map V.str))
theorem dict_hits (I : Inv X pins σ H s) {A : Around} (hu : A.units < cLine) {ls : List (Key × V)} {vb : List (Key × Value)} (rb : KV ls vb) : ∀ {ks : List (Key × V)} {va : List (Key × Value)}, KV ks va →
    (∀ p ∈ ks, ∃ (u v : Addr) (zs : List Str), p.2 = V.ref u ∧ valV ls p.1 = some (V.ref v) ∧ H u = some (.lst (zs.map V.str)) ∧ H v = some (.lst (zs.map V.str))) → PySem.W.KeqHits A s vb va true := by
  intro ks va ra
  unfold KV at ra
  induction ra with
  | nil => exact fun _ => .nil
  | @cons p q ps qs h t ih =>
    intro hp
    obtain ⟨e1, e2⟩ := h
    obtain ⟨u, v, zs, ep, ev, hu1, hv1⟩ := hp p List.mem_cons_self
    have there : RelO (some (V.ref v)) (valueAt vb p.1) := by rw [← ev]; exact rb.val p.1
    obtain ⟨y, hy, ry⟩ := there.some_of
    obtain ⟨key, z⟩ := q
    obtain rfl : p.1 = key := e1
    rw [ep] at e2
    cases (show z = Value.ref u from e2)
    cases (show y = Value.ref v from ry)
    exact PySem.W.KeqHits.hit (b := true) (e := true) hy (lists_hit I hu hu1 hv1) (ih fun p' m => hp p' (List.mem_cons_of_mem _ m))
def rNeL : R2 := fun x y H Q => ∃ a b ks ls, x = V.ref a ∧ y = V.ref b ∧ H a = some (.dK ks) ∧ H b = some (.dK ls) ∧ SameLists H ks ls ∧ Q (.bl false) H
theorem op_neL (hu : X.A.units + 1 < cLine) : OpR X (compareOp .NotEq) rNeL := by
  intro pins s σ H x y v u Q I rx ry h
  obtain ⟨a, b, ks, ls, rfl, rfl, ha, hb, ⟨len, each⟩, q⟩ := h
  cases (show v = Value.ref a from rx)
  cases (show u = Value.ref b from ry)
  obtain ⟨_, ya, va, ra, da⟩ := (show ObjOk X.prog X.w H s.heap a (.dK ks) from I.hok a _ ha)
  obtain ⟨_, yb, vb, rb, db⟩ := (show ObjOk X.prog X.w H s.heap b (.dK ls) from I.hok b _ hb)
  have same : va.length = vb.length := by rw [← ra.length, ← rb.length]; exact len
  refine PySem.W.keq_ne (knd := mixKind X.prog X.w) (r := true) ya yb da db (by omega) (fun _ => dict_hits I (A := X.A.in1) (show X.A.units + 1 < cLine from hu) rb ra each) ?_
  rw [same]
  exact ⟨.bl false, H, I, by show Value.bool (!(vb.length == vb.length && true)) = Value.bool false; simp, q⟩
/-- repr of a bool -/
theorem call_reprB : CallR X (.builtin "repr") (fun xs H Q => ∃ b : Bool, xs = [.bl b] ∧ Q (.str (if b then "True" else "False")) H) := by
  intro pins s σ H xs us Q I r h
  obtain ⟨b, rfl, q⟩ := h
  cases r with
  | cons r t =>
    cases t
    cases (show _ = Value.bool b from r)
    exact PySem.P.repr_of_bool ⟨.str (if b then "True" else "False"), H, I.tok _, ⟨_, rfl⟩, q⟩
end
end Nm
set_option maxRecDepth 100000
set_option maxHeartbeats 4000000
/-! != of two lists of the same texts -/
namespace Nm
open PySem PySem.Spec PyProof.Rows L2
section
variable {X : Cx}
def rNeS (K : PySem.W.Frag) : R2 := fun x y H Q => ∃ (a b : Addr) (zs : List Str), x = V.ref a ∧ y = V.ref b ∧ SqL K H a (zs.map V.str) ∧ SqL K H b (zs.map V.str) ∧ Q (.bl false) H
theorem op_neS (hu : X.A.units + 1 < cLine) : OpR X (compareOp .NotEq) (rNeS X.K) := by
  intro pins s σ H x y v u Q I rx ry h
  obtain ⟨a, b, zs, rfl, rfl, ha, hb, q⟩ := h
  cases (show v = Value.ref a from rx)
  cases (show u = Value.ref b from ry)
  obtain ⟨us, r1, p1, _⟩ := I.list ha
  obtain ⟨ws, r2, p2, _⟩ := I.list hb
  obtain ⟨sz, items⟩ := strs_hit (s := s) (A := X.A.in1) r1 r2
  have z := SeqAt.RcNeAt.lists (A := X.A) (e := fun _ => true) p1.isList p2.isList (by simpa using sz) (by omega) fun j h1 h2 => by simpa using items j (by simpa using h1) (by simpa using h2)
  rw [show ((List.range us.toArray.size).all fun _ => true) = true from List.all_eq_true.mpr fun _ _ => rfl] at z
  exact z X.prog X.w X.xe (EP X pins σ Q) ⟨.bl false, H, I, rfl, q⟩
end
end Nm
set_option maxRecDepth 100000
set_option maxHeartbeats 8000000
/-! the law itself -/
namespace Nm
open PySem L2
theorem WebAt.kp {C s c : Addr} {H H' : Hp} {p q : Addr} {nm : List Str} (h : WebAt C H p q nm) (k : Kp s c H H') (n1 : p ≠ s ∧ p ≠ c) (n2 : q ≠ s ∧ q ≠ c) : WebAt C H' p q nm := by
  obtain ⟨dx, fs, h1, h2, h3, h4⟩ := h
  exact ⟨dx, fs, k _ _ h1 n1.1 n1.2, h2, h3, k _ _ h4 n2.1 n2.2⟩
/-- what a turn of the law has made -/
structure Made (C : Addr) (H : Hp) (s c wd a b t wd' a' b' t' ld : Addr) (nm cl nm' cl' : List Str) (kvs kvs' : List (List Key × V)) (led : List Nat) (one qo oth qw ri : Addr) (fkv : List (Key × V)) : Prop where
  S : Src H s c
  W : WorldOk H s c wd a b t nm cl kvs
  W' : WorldOk H s c wd' a' b' t' nm' cl' kvs'
  hld : H ld = some (.lst (natV led))
  nld : ld ≠ s ∧ ld ≠ c
  h1 : WebAt C H one qo nm'
  n1 : (one ≠ s ∧ one ≠ c) ∧ qo ≠ s ∧ qo ≠ c
  h2 : WebAt C H oth qw nm
  n2 : (oth ≠ s ∧ oth ≠ c) ∧ qw ≠ s ∧ qw ≠ c
  hri : H ri = some (.dK fkv)
  nri : ri ≠ s ∧ ri ≠ c
  L : Lead nm' nm led fkv
  n5 : nm.length ≤ 5
  n100 : nm'.length ≤ 100
theorem Made.kp {C : Addr} {H H' : Hp} {s c wd a b t wd' a' b' t' ld : Addr} {nm cl nm' cl' : List Str} {kvs kvs' : List (List Key × V)} {led : List Nat} {one qo oth qw ri : Addr} {fkv : List (Key × V)} (M : Made C H s c wd a b t wd' a' b' t' ld nm cl nm' cl' kvs kvs' led one qo oth qw ri fkv)
    (k : Kp s c H H') (S : Src H' s c) : Made C H' s c wd a b t wd' a' b' t' ld nm cl nm' cl' kvs kvs' led one qo oth qw ri fkv :=
  ⟨S, M.W.kp k, M.W'.kp k, k _ _ M.hld M.nld.1 M.nld.2, M.nld, M.h1.kp k M.n1.1 M.n1.2, M.n1, M.h2.kp k M.n2.1 M.n2.2, M.n2, k _ _ M.hri M.nri.1 M.nri.2, M.nri, M.L, M.n5, M.n100⟩
theorem Made.same {C : Addr} {H H' : Hp} {s c wd a b t wd' a' b' t' ld : Addr} {nm cl nm' cl' : List Str} {kvs kvs' : List (List Key × V)} {led : List Nat} {one qo oth qw ri : Addr} {fkv : List (Key × V)} (M : Made C H s c wd a b t wd' a' b' t' ld nm cl nm' cl' kvs kvs' led one qo oth qw ri fkv)
    (k : Same H H') : Made C H' s c wd a b t wd' a' b' t' ld nm cl nm' cl' kvs kvs' led one qo oth qw ri fkv := M.kp (Kp.same k) (M.S.same k)
structure TxtL (K : PySem.W.Frag) (mg : Str → Option Value) (C f : Addr) : Prop extends TxtM K mg C f where
  repr : mg "repr" = none
section
variable {P : Program} {w : World} {K : PySem.W.Frag} {mg : Str → Option Value} {base : Heap}
def spLaw (K : PySem.W.Frag) : Sp := fun vs H Q _ => ∃ (a : Addr) (ns : List Int), vs = [.ref a] ∧ SqL K H a (ns.map V.int) ∧ ns.length ≤ 63 ∧ ∀ H', Q (.bl true) H'
abbrev nLw : List Str := ["_law_script", "_law_source", "_law_time", "_law_web", "_law_over_here", "_law_led", "_law_one", "_law_other", "_law_right", "_law_above_here", "_law_due", "_law_told", "_law_counts", "_law_spread", "_law_itself", "_law_place", "_law_own", "_law_w", "_law_name"]
/-- the scope of the comprehension that holds another one -/
abbrev inScope : Scope := { kind := .function, names := [(".0", .local), ("_law_place", .local), ("_law_own", .local), ("_law_over_here", .cell)], isGenerator := false, isCoroutine := false }
theorem scLw : FnScope nLw ["_law_script"] (defScope sLaw) := ⟨rfl, rfl, rfl, by decide +kernel, rfl, by decide +kernel, by decide +kernel⟩
theorem ok_law {f C fi : Addr} {fd : FuncData} (F : Fun K "law" "law" sLaw f fd) (T : TxtL K mg C fi)
    (Gs : Def P w K mg base "_law_open_cells" ["_law_script"] 1 (spOpen K)) (Gl : Def P w K mg base "_law_loose_world" ["_law_source"] 4 spLoose) (Gc : Def P w K mg base "_law_copied_over" ["_law_source", "_law_world"] 5 spCopied)
    (Gm : Def P w K mg base "_law_made" ["_law_source", "_law_world"] 7 (spMade C)) (Gd : Def P w K mg base "_law_dict" ["_law_source", "_law_over_here", "_law_web", "_law_led"] 4 spDict) (Ga : Def P w K mg base "_law_above" ["_law_led", "_law_many"] 1 spAbove)
    (Gp : Def P w K mg base "places_over" ["over", "web", "folding"] 2 (spPO C)) (Go : Def P w K mg base "is_onto" ["over", "web", "folding"] 3 (spOnto C)) (Gr : Def P w K mg base "is_spread" ["over", "web", "folding"] 3 (spSpread C)) : FnOk P w K mg base CX0 8 f fd ["_law_script"] (spLaw K) := by
  obtain ⟨fs, fds, Gs, ms, ks, bs⟩ := Gs.ex
  obtain ⟨fl, fdl, Gl, ml, kl, bl⟩ := Gl.ex
  obtain ⟨fc, fdc, Gc, mc, kc, bc⟩ := Gc.ex
  obtain ⟨fm, fdm, Gm, mm, km, bm⟩ := Gm.ex
  obtain ⟨fdd, fddd, Gd, md, kd, bd⟩ := Gd.ex
  obtain ⟨fa, fda, Ga, ma, ka, ba⟩ := Ga.ex
  obtain ⟨fp, fdp, Gp, mp, kp, bp⟩ := Gp.ex
  obtain ⟨fo, fdo, Go, mo, ko, bo⟩ := Go.ex
  obtain ⟨fr, fdr, Gr, mr, kr, br⟩ := Gr.ex
  refine F.ok scLw (fun vs H Q E h => ?_) (fun cdv A outer s H vs Q E hr h => ?_)
  · obtain ⟨_, _, rfl, _⟩ := h
    rfl
  · obtain ⟨sa, ns, rfl, hs, hn, k⟩ := h
    have hu := hu_of hr
    have hu64 := hr.units
    have hr1 := hr.mono (by decide : 1 ≤ 7)
    have hr2 := hr.mono (by decide : 2 ≤ 7)
    have hr3 := hr.mono (by decide : 3 ≤ 7)
    have hr4 := hr.mono (by decide : 4 ≤ 7)
    have hr5 := hr.mono (by decide : 5 ≤ 7)
    refine ⟨_, pss_cons (ps_set (i := 1) scLw.nd rfl (Or.inl rfl) (pe_call Gs hr1 (by rfl) ms ks bs .nil pass0 (pa_cons (pv 0) pa_nil)))
      (pss_cons (ps_for PassesOwn.never rfl (pi_range1 (by rfl) T.range (pa_cons pe_int pa_nil)) (pg_name (i := 2) scLw.nd rfl (Or.inl rfl))
        (pss_cons (ps_set (i := 3) scLw.nd rfl (Or.inl rfl) (pe_call Gl hr4 (by rfl) ml kl bl .nil pass0 (pa_cons (pv 1) pa_nil)))
        (pss_cons (ps_asg (pe_call Gc hr5 (by rfl) mc kc bc .nil pass0 (pa_cons (pv 1) (pa_cons (pv 3) pa_nil))) (pg_tup rfl (pgs_cons (pg_name (i := 4) scLw.nd rfl (.inr rfl)) (pgs_cons (pg_name (i := 5) scLw.nd rfl (.inl rfl)) pgs_nil))))
        (Evl.pss_cut (ps_par3 (i := 6) (j := 7) (l := 8) (by rfl) scLw.nd rfl rfl rfl (by decide) (by decide) (by decide) rfl rfl rfl (pa_cons (pe_call Gm hr (by rfl) mm km bm .nil pass0 (pa_cons (pv 1) (pa_cons (pv 4) pa_nil))) (pa_cons (pe_call Gm hr (by rfl) mm km bm .nil pass0 (pa_cons (pv 1) (pa_cons (pv 3) pa_nil))) (pa_cons (pe_call Gd hr4 (by rfl) md kd bd .nil pass0 (pa_cons (pv 1) (pa_cons (pv 4) (pa_cons (pv 3) (pa_cons (pv 5) pa_nil))))) pa_nil))) (by rfl))
        (pss_cons (ps_set (i := 9) scLw.nd rfl (Or.inl rfl) (pe_call Ga hr1 (by rfl) ma ka ba .nil pass0 (pa_cons (pv 5) (pa_cons (pe_callB call_len_seq (by rfl) T.len PySem.boot_len (pa_cons (pe_dget hu (pv 3) pe_str (fun _ _ => rfl)) pa_nil)) pa_nil))))
        (Evl.pss_cut (ps_set (i := 10) scLw.nd rfl (Or.inl rfl) (pe_callTy (call_dictP rfl) (by rfl) T.dict (by decide +kernel) (pa_cons (pe_lc (own := [("_law_place", 15), ("_law_own", 16)]) (g := gTup K 2 (gCons (gName 15) (gCons (gName 16) gNil))) (tt := tYes)
            (te := tTup (tCons (tVar 15) (tCons (tLc (iList K (tVar 16)) (gName 17) tYes (tOp (rIxL K) (tDGet (tVar 4) (tC (.str "names"))) (tVar 17)) [17]) tNil))) rfl scLw.nd (pi_zip (by rfl) T.zip (pa_cons (pe_dget hu (pv 3) pe_str (fun _ _ => rfl)) (pa_cons (pv 9) pa_nil)))
            (blkOk_by (N := nLw) (sc := defScope sLaw) (by decide +kernel)) (fun _ _ _ _ _ => pg_tup rfl (pgs_cons (pg_name (i := 15) scLw.nd rfl (Or.inl rfl)) (pgs_cons (pg_name (i := 16) scLw.nd rfl (Or.inl rfl)) pgs_nil))) (fun _ _ _ _ _ => pts_nil)
            (fun _ _ _ _ _ => by exact pe_tup (pa_cons (pv 15) (pa_cons (pe_lc (own := [("_law_w", 17)]) (g := gName 17) (tt := tYes) (te := tOp (rIxL K) (tDGet (tVar 4) (tC (.str "names"))) (tVar 17)) rfl scLw.nd (pi_list (pv 16)) (blkOk_by (N := nLw) (sc := inScope) (by decide +kernel)) (fun _ _ _ _ _ => pg_name (i := 17) scLw.nd rfl (Or.inl rfl)) (fun _ _ _ _ _ => pts_nil)
              (fun _ _ _ _ _ => by exact pe_ix ix_list (pe_dget hu (pv 4) pe_str (fun _ _ => rfl)) (pv 17) (fun _ _ => rfl))) pa_nil)))) pa_nil)))
        (pss_cons (ps_set (i := 11) scLw.nd rfl (Or.inl rfl) (pe_call Gp hr2 (by rfl) mp kp bp .nil pass0 (pa_cons (pv 6) (pa_cons (pv 7) (pa_cons (pv 8) pa_nil)))))
        (pss_cons (ps_if (PW.pt (pw_or (pt_not (pt_val (pe_callB call_isi (by rfl) T.isinstance (by decide +kernel) (pa_cons (pv 11) (pa_cons (pe_bltn (v := .ty "dict") (by rfl) T.dict (by decide +kernel) rfl) pa_nil))))) (pw_or (pt_cmpR (op_neL hu) (pv 11) (pv 10) (nomark _)) (pw_or1 (pt_cmpR (op_neS hu) (pe_callTy (call_list_dK rfl) (by rfl) T.list (by decide +kernel) (pa_cons (pv 11) pa_nil)) (pe_dget hu (pv 3) pe_str (fun _ _ => rfl)) (nomark _)))))) (pss_one (ps_ret pe_bl)) pss_nil)
        (Evl.pss_cut (ps_setLc (i := 12) (own := [("_law_own", 16)]) (g := gName 16) (tt := tYes) (te := tCB (Evl.rLenS K) (tCons (tVar 16) tNil)) rfl scLw.nd rfl rfl (sw_true rfl rfl rfl (by decide +kernel)) (pi_list (pv 9))
            (blkOk_by (N := nLw) (sc := defScope sLaw) (by decide +kernel)) (fun _ _ _ _ _ => pg_name (i := 16) scLw.nd rfl (Or.inl rfl)) (fun _ _ _ _ _ => pts_nil) (fun _ _ _ _ _ => by exact pe_callB call_len_seq (by rfl) T.len PySem.boot_len (pa_cons (pv 16) pa_nil)))
        (pss_cons (ps_if (pt_cmpR op_ne (pe_callB call_reprB (by rfl) T.repr (by decide +kernel) (pa_cons (pe_call Go hr3 (by rfl) mo ko bo .nil pass0 (pa_cons (pv 6) (pa_cons (pv 7) (pa_cons (pv 8) pa_nil)))) pa_nil)) (pe_callB call_reprB (by rfl) T.repr (by decide +kernel) (pa_cons (pe_cmpR op_gt (pe_callB (cr_min rfl) (by rfl) T.min (by decide +kernel) (pa_cons (pv 12) pa_nil)) pe_int (nomark _)) pa_nil)) (nomark _)) (pss_one (ps_ret pe_bl)) pss_nil)
        (Evl.pss_cut (ps_set (i := 13) scLw.nd rfl (Or.inl rfl) (pe_and (pe_cmpR op_gt (pe_callB (cr_min rfl) (by rfl) T.min (by decide +kernel) (pa_cons (pv 12) pa_nil)) pe_int (nomark _)) (pe_one (pe_cmpR op_eq (pe_callB (cr_min rfl) (by rfl) T.min (by decide +kernel) (pa_cons (pv 12) pa_nil)) (pe_callB (cr_max rfl) (by rfl) T.max (by decide +kernel) (pa_cons (pv 12) pa_nil)) (nomark _)))))
        (pss_cons (ps_if (pt_cmpR op_ne (pe_callB call_reprB (by rfl) T.repr (by decide +kernel) (pa_cons (pe_call Gr hr3 (by rfl) mr kr br .nil pass0 (pa_cons (pv 6) (pa_cons (pv 7) (pa_cons (pv 8) pa_nil)))) pa_nil)) (pe_callB call_reprB (by rfl) T.repr (by decide +kernel) (pa_cons (pv 13) pa_nil)) (nomark _)) (pss_one (ps_ret pe_bl)) pss_nil)
        (pss_cons (ps_expr (pe_bm PySem.F.plainAttrs_list PySem.F.slot_list_append PySem.F.type_list_append mt_append (pe_dget hu (pv 11) (pe_ix ix_list (pe_dget hu (pv 3) pe_str (fun _ _ => rfl)) pe_int (fun _ _ => rfl)) (fun _ _ => rfl)) (pa_cons pe_str pa_nil)))
        (pss_cons (ps_if (PW.pt (pw_or (pt_cmpR (op_neL hu) (pe_call Gp hr2 (by rfl) mp kp bp .nil pass0 (pa_cons (pv 6) (pa_cons (pv 7) (pa_cons (pv 8) pa_nil)))) (pv 10) (nomark _)) (pw_or1 (pt_cmpR (op_ne_dictA (Nat.lt_of_succ_lt hu)) (pv 8) (pe_call Gd hr4 (by rfl) md kd bd .nil pass0 (pa_cons (pv 1) (pa_cons (pv 4) (pa_cons (pv 3) (pa_cons (pv 5) pa_nil))))) (nomark _))))) (pss_one (ps_ret pe_bl)) pss_nil)
        (Evl.pss_cut (ps_set (i := 14) scLw.nd rfl (Or.inl rfl) (pe_callTy (call_dictP rfl) (by rfl) T.dict (by decide +kernel) (pa_cons (pe_lc (own := [("_law_name", 18)]) (g := gName 18) (tt := tYes) (te := tTup (tCons (tVar 18) (tCons (tVar 18) tNil))) rfl scLw.nd (pi_list (pe_dget hu (pv 3) pe_str (fun _ _ => rfl)))
            (blkOk_by (N := nLw) (sc := defScope sLaw) (by decide +kernel)) (fun _ _ _ _ _ => pg_name (i := 18) scLw.nd rfl (Or.inl rfl)) (fun _ _ _ _ _ => pts_nil) (fun _ _ _ _ _ => by exact pe_tup (pa_cons (pv 18) (pa_cons (pv 18) pa_nil)))) pa_nil)))
        (pss_one (ps_if (PW.pt (pw_or (pt_cmpR op_isnot_bl (pe_call Gr hr3 (by rfl) mr kr br .nil pass0 (pa_cons (pv 7) (pa_cons (pv 7) (pa_cons (pv 14) pa_nil)))) pe_bl (nomark _)) (pw_or1 (pt_cmpR op_isnot_bl (pe_call Go hr3 (by rfl) mo ko bo .nil pass0 (pa_cons (pv 7) (pa_cons (pv 7) (pa_cons (pv 14) pa_nil)))) pe_bl (nomark _))))) (pss_one (ps_ret pe_bl)) pss_nil)))))))))))))))))
      (pss_one (ps_ret pe_bl))), ?_⟩
    refine ⟨_, rfl, sa, ns, rfl, hs, hn, fun s0 c0 H1 _ _ S1 s1 => ?_⟩
    refine ⟨_, rfl, by decide, by decide, ?_⟩
    refine for_range (lo := 0) (n := 5) (fun i σ H2 => Src H2 s0 c0 ∧ ∃ v2 v3 v4 v5 v6 v7 v8 v9 v10 v11 v12 v13 v14, σ = [some (.ref sa), some (.ref s0), v2, v3, v4, v5, v6, v7, v8, v9, v10, v11, v12, v13, v14, none, none, none, none]) ⟨S1, none, none, none, none, none, none, none, none, none, none, none, none, none, rfl⟩ ?_ ?_
    · rintro i σ H2 hi ⟨S2, v2, v3, v4, v5, v6, v7, v8, v9, v10, v11, v12, v13, v14, rfl⟩
      -- the web
      refine ⟨_, rfl, s0, c0, rfl, S2, fun wd a b t nm cl kvs H3 _ _ _ _ W3 n5 ti3 kl3 S3 kp3 => ?_⟩
      -- the web over it
      refine ⟨_, rfl, _, rfl, s0, c0, wd, a, b, t, nm, cl, kvs, rfl, S3, W3, ti3, kl3, n5, fun r wd' a' b' t' ld nm' cl' kvs' led H4 _ _ _ _ hld0 hr4 W4' n100 ti4 kl4 hld4 len4 lt4 S4 kp4 => ?_⟩
      have W4 := W3.kp kp4
      refine ⟨r, _, rfl, SqT.of hr4, rfl, _, _, rfl, _, _, rfl, rfl, ?_⟩
      -- both made, and the dict
      refine ⟨fun σ H5 => ∃ one qo oth qw ri fkv, σ = [some (.ref sa), some (.ref s0), some (.int (0 + (i : Int))), some (.ref wd), some (.ref wd'), some (.ref ld), some (.ref one), some (.ref oth), some (.ref ri), v9, v10, v11, v12, v13, v14, none, none, none, none] ∧ Made C H5 s0 c0 wd a b t wd' a' b' t' ld nm cl nm' cl' kvs kvs' led one qo oth qw ri fkv, ?_, ?_⟩
      · refine ⟨_, rfl, _, rfl, s0, c0, wd', a', b', t', nm', cl', kvs', 4000, rfl, S4, W4', ti4, kl4, by omega, fun one qo H5 hone hqo web1 S5 kp5 => ?_⟩
        refine ⟨_, rfl, _, rfl, s0, c0, wd, a, b, t, nm, cl, kvs, 2, rfl, S5, W4.kp kp5, ti3, by omega, by omega, fun oth qw H6 hoth hqw web2 S6 kp6 => ?_⟩
        have nld := S3.ne hld0
        have kp56 := kp5.trans kp6
        have W6 := W4.kp kp56
        have W6' := W4'.kp kp56
        refine ⟨_, rfl, _, rfl, _, rfl, _, rfl, s0, c0, wd', a', b', t', wd, a, b, t, ld, nm', nm, led, rfl, S6, W6'.d, W6'.hn, W6.d, W6.hn, kp56 _ _ hld4 nld.1 nld.2, len4, lt4, W6'.nn, n100, fun ri fkv H7 hri0 pm hri S7 kp7 => ?_⟩
        have n1 : (one ≠ s0 ∧ one ≠ c0) ∧ qo ≠ s0 ∧ qo ≠ c0 := ⟨S4.ne hone, S4.ne hqo⟩
        have n2 : (oth ≠ s0 ∧ oth ≠ c0) ∧ qw ≠ s0 ∧ qw ≠ c0 := ⟨S5.ne hoth, S5.ne hqw⟩
        refine ⟨_, _, _, rfl, one, qo, oth, qw, ri, fkv, rfl, ⟨S7, W6.kp kp7, W6'.kp kp7, (kp56.trans kp7) _ _ hld4 nld.1 nld.2, nld, web1.kp (kp6.trans kp7) n1.1 n1.2, n1, web2.kp kp7 n2.1 n2.2, n2, hri, S6.ne hri0, ⟨pm, W6'.nn, W6.nn, len4, lt4⟩, n5, n100⟩⟩
      rintro σ H5 ⟨one, qo, oth, qw, ri, fkv, rfl, M5⟩
      -- above
      refine ⟨_, rfl, _, rfl, wd, _, rfl, dg_names M5.W.d, a, _, rfl, .inl (SqL.of M5.W.hn), ld, led, (nm.map V.str).length, rfl, M5.hld, by rw [len4]; omega, by rw [List.length_map]; omega, fun x hx => by rw [List.length_map]; exact lt4 x hx, fun f as H6 hf0 hf hal has s6 => ?_⟩
      rw [List.length_map] at hal
      have M6 := M5.same s6
      -- due
      refine ⟨fun σ H7 => ∃ du bs, σ = [some (.ref sa), some (.ref s0), some (.int (0 + (i : Int))), some (.ref wd), some (.ref wd'), some (.ref ld), some (.ref one), some (.ref oth), some (.ref ri), some (.ref f), some (.ref du), v11, v12, v13, v14, none, none, none, none] ∧ H7 du = some (.dK (poKV nm bs)) ∧ bs.length = nm.length ∧ (∀ (q : Nat) b', bs[q]? = some b' → H7 b' = some (.lst (((posU led led.length q).map (nmA nm')).map V.str))) ∧ Same H6 H7, ?_, ?_⟩
      · refine ⟨_, rfl, wd, _, rfl, dg_names M6.W.d, _, rfl, a, f, _, _, rfl, SqL.of M6.W.hn, SqL.of hf, fun D hD => ?_⟩
        refine lc_it (walk_zip (xs := nm.map V.str) (ys := as.map V.ref) (n := nm.length) (by rw [List.length_map, List.length_map]; omega)) (fun i H7 => ∃ ps bs : List Addr, H7 D = some (.lst (ps.map V.ref)) ∧ ps.length = i ∧ bs.length = i ∧ Paired (fun p (kv : Key × V) => H7 p = some (.tup [kV kv.1, kv.2])) ps (poKV (nm.take i) bs) ∧ (∀ (q : Nat) b', bs[q]? = some b' → b' ≠ D ∧ H7 b' = some (.lst (((posU led led.length q).map (nmA nm')).map V.str))) ∧ Same H6 H7)
          ⟨[], [], upd_same, rfl, rfl, .nil, (fun q b' e => by simp at e), same_new hD⟩ (fun i H7 _ ⟨_, _, _, _, _, _, _, h⟩ => ⟨SqL.of (h _ _ M6.W.hn), SqL.of (h _ _ hf)⟩) ?_ ?_
        · rintro i x H7 H8 hi ⟨ps, bs, hD7, hpl, hbl, pr, hb, s7⟩ ⟨tp, x1, y1, rfl, htp, rfl, e1, e2⟩
          have e1 : (nm.map V.str)[i]? = some x1 := e1
          have e2 : (as.map V.ref)[i]? = some y1 := e2
          rw [List.getElem?_map] at e1 e2
          obtain ⟨x0, hx0, rfl⟩ := Option.map_eq_some_iff.mp e1
          obtain ⟨a0, ha0, rfl⟩ := Option.map_eq_some_iff.mp e2
          have s8 : Same H7 (upd H7 tp (.tup [V.str x0, V.ref a0])) := same_new htp
          have htp8 : (upd H7 tp (.tup [V.str x0, V.ref a0])) tp = some (.tup [V.str x0, V.ref a0]) := upd_same
          generalize upd H7 tp (.tup [V.str x0, V.ref a0]) = H8 at *
          have s68 := s7.trans s8
          refine ⟨tp, _, rfl, SqT.of htp8, rfl, _, _, rfl, _, _, rfl, rfl, rfl, tyes ?_⟩
          refine ⟨_, rfl, _, rfl, a0, rfl, ⟨_, SqL.of (s68 _ _ (has i a0 ha0).2)⟩, fun D2 hD2 => ?_⟩
          have len : (posU led led.length i).length ≤ 100 := Nat.le_trans (posU_len _ _ _) (by rw [len4]; omega)
          refine lc_list (xs := natV (posU led led.length i)) (fun j H9 => H9 D2 = some (.lst ((((posU led led.length i).take j).map (nmA nm')).map V.str)) ∧ Same H8 H9) ⟨upd_same, same_new hD2⟩ (fun j H9 _ h => SqL.of (h.2 _ _ (s68 _ _ (has i a0 ha0).2))) ?_ ?_
          · rintro j x H9 hj ⟨hD9, s9⟩
            rw [List.getElem?_map] at hj
            obtain ⟨w0, hw0, rfl⟩ := Option.map_eq_some_iff.mp hj
            have hjl := (List.getElem?_eq_some_iff.mp hw0).1
            have hwl : w0 < nm'.length := by rw [← len4]; exact posU_lt (List.mem_of_getElem? hw0)
            have hz := List.getElem?_eq_getElem hwl
            refine ⟨rfl, tyes ?_⟩
            refine ⟨_, rfl, wd', _, rfl, dg_names (s9 _ _ (s68 _ _ M6.W'.d)), _, rfl, a', _, _, V.str (nmA nm' w0), rfl, rfl, SqL.of (s9 _ _ (s68 _ _ M6.W'.hn)), atI_nat (by rw [List.getElem?_map, hz, nmA_at hz]; rfl), _, hD9, Evl.sz_lt (by rw [List.length_map, List.length_map, List.length_take]; omega), ?_, fun b o e => ?_⟩
            · rw [upd_same, List.take_add_one, hw0]
              simp
            · rw [upd_ne (ne_of_none e hD2)]
              exact s9 b o e
          · rintro H9 ⟨hD9, s9⟩
            rw [natV, List.length_map, List.take_of_length_le (Nat.le_refl _)] at hD9
            have s79 := s8.trans s9
            refine ⟨(by show 2 ≤ sizeLine; decide), fun u hu' => ?_⟩
            have su := same_new (o := .tup [V.str x0, V.ref D2]) hu'
            have hD10 := su _ _ (s79 _ _ hD7)
            have nuD : u ≠ D := fun e => by subst e; rw [s79 _ _ hD7] at hu'; cases hu'
            have n2D : D2 ≠ D := fun e => by subst e; rw [s8 _ _ hD7] at hD2; cases hD2
            refine ⟨_, hD10, Evl.sz_lt (by rw [List.length_map]; omega), ps ++ [u], bs ++ [D2], by rw [upd_same, List.map_append]; rfl, by simp [hpl], by simp [hbl], ?_, fun q b' e => ?_, fun b o e => ?_⟩
            · have ek : poKV (nm.take (i + 1)) (bs ++ [D2]) = poKV (nm.take i) bs ++ [(Sum.inr x0, V.ref D2)] := by
                unfold poKV
                rw [List.take_add_one, hx0, Option.toList_some, List.zip_append (by rw [List.length_take, hbl]; omega), List.map_append]
                rfl
              rw [ek]
              refine paired_snoc (Paired.mapP pr fun p kv h => ?_) ?_
              · rw [upd_ne (ne_of h hD7 (by intro z; cases z))]
                exact su _ _ (s79 _ _ h)
              · rw [upd_ne nuD]
                exact upd_same
            · by_cases c : q < bs.length
              · rw [List.getElem?_append_left c] at e
                obtain ⟨nb, h⟩ := hb q b' e
                rw [upd_ne nb]
                exact ⟨nb, su _ _ (s79 _ _ h)⟩
              · have eq : q = i := by
                  have := (List.getElem?_eq_some_iff.mp e).1
                  rw [List.length_append, List.length_singleton] at this
                  omega
                subst eq
                rw [List.getElem?_append_right (by omega), hbl, Nat.sub_self] at e
                cases e
                rw [upd_ne n2D]
                exact ⟨n2D, su _ _ hD9⟩
            · rw [upd_ne (ne_of_none e hD)]
              exact su _ _ (s79 _ _ (s7 b o e))
        · rintro H7 ⟨ps, bs, hD7, hpl, hbl, pr, hb, s7⟩
          rw [List.take_of_length_le (Nat.le_refl _)] at pr
          refine ⟨D, ps, poKV nm bs, rfl, SqL.of hD7, Paired.mapP pr fun p kv h => SqT.of h, fun r hr => ?_⟩
          have nd := po_nd (as := bs) hbl M6.W.nn
          rw [merge_nd (acc := []) (by simpa using nd), List.nil_append]
          have sr := same_new (o := .dK (poKV nm bs)) hr
          exact ⟨r, bs, rfl, upd_same, hbl, fun q b' e => sr _ _ (hb q b' e).2, s7.trans sr⟩
      rintro σ H7 ⟨du, bs, rfl, hdu, hbl, hbs, s7⟩
      have M7 := M6.same s7
      have hf7 := s7 _ _ hf
      have has7 : ∀ (q : Nat) a', as[q]? = some a' → H7 a' = some (.lst (natV (posU led led.length q))) := fun q a' e => s7 _ _ (has q a' e).2
      clear has hf s7 s6
      -- told
      refine ⟨_, rfl, _, rfl, _, rfl, one, qo, oth, qw, ri, nm', nm, fkv, leadG fkv, rfl, M7.h1, M7.h2, M7.hri, by omega, by omega, M7.W.nn, M7.L.ok, fun to ts H8 hto0 hto8 htl hts s8 => ?_⟩
      have M8 := M7.same s8
      have same1 : ∀ {H9 : Hp} {ts' : List Addr}, ts'.length = nm.length → (∀ (q : Nat) a' y, ts'[q]? = some a' → nm[q]? = some y → H9 a' = some (.lst ((overL nm' (leadG fkv) y).map V.str))) → (∀ (q : Nat) b', bs[q]? = some b' → H9 b' = some (.lst (((posU led led.length q).map (nmA nm')).map V.str))) → SameLists H9 (poKV nm ts') (poKV nm bs) := fun {H9 ts'} l1 h1 h2 => by
        refine ⟨by rw [po_len l1, po_len hbl], fun p hp => ?_⟩
        obtain ⟨q, hq⟩ := List.getElem?_of_mem hp
        unfold poKV at hq
        rw [List.getElem?_map] at hq
        obtain ⟨⟨y, a'⟩, e1, rfl⟩ := Option.map_eq_some_iff.mp hq
        rw [List.getElem?_zip_eq_some] at e1
        have ql := (List.getElem?_eq_some_iff.mp e1.1).1
        obtain ⟨b', hb'⟩ : ∃ b', bs[q]? = some b' := ⟨_, List.getElem?_eq_getElem (by rw [hbl]; exact ql)⟩
        refine ⟨a', b', (posU led led.length q).map (nmA nm'), rfl, po_at hbl M8.W.nn e1.1 hb', ?_, h2 q b' hb'⟩
        rw [← M8.L.over e1.1]
        exact h1 q a' y e1.2 e1.1
      have hbs8 : ∀ (q : Nat) b', bs[q]? = some b' → H8 b' = some (.lst (((posU led led.length q).map (nmA nm')).map V.str)) := fun q b' e => s8 _ _ (hbs q b' e)
      have hdu8 := s8 _ _ hdu
      -- it is a dict, as due, its keys in order
      refine ⟨_, rfl, _, _, _, _, true, rfl, ClsV.ty "dict", TyX.base (TyOf.dK hto8), kit_ty (by decide +kernel), _, rfl, iteF ?_⟩
      refine ⟨_, rfl, _, rfl, to, du, _, _, rfl, rfl, hto8, hdu8, same1 htl (fun q a' y e1 e2 => (hts q a' y e1 e2).2) hbs8, _, rfl, iteF ?_⟩
      refine ⟨_, rfl, to, _, rfl, hto8, fun l hl => ?_⟩
      have ek : ((poKV nm ts).map fun kv => kV kv.1) = nm.map V.str := by
        have := congrArg (List.map kV) (po_keys htl)
        rw [List.map_map, List.map_map] at this
        exact this
      rw [ek]
      have s9 : Same H8 (upd H8 l (.lst (nm.map V.str))) := same_new hl
      have hl9 : (upd H8 l (.lst (nm.map V.str))) l = some (.lst (nm.map V.str)) := upd_same
      generalize upd H8 l (.lst (nm.map V.str)) = H9 at *
      have M9 := M8.same s9
      have s79 := s8.trans s9
      refine ⟨_, rfl, wd, _, rfl, dg_names M9.W.d, l, a, nm, rfl, rfl, SqL.of hl9, SqL.of M9.W.hn, _, rfl, iteF ?_⟩
      -- counts
      refine ⟨fun σ H10 => ∃ cu, σ = [some (.ref sa), some (.ref s0), some (.int (0 + (i : Int))), some (.ref wd), some (.ref wd'), some (.ref ld), some (.ref one), some (.ref oth), some (.ref ri), some (.ref f), some (.ref du), some (.ref to), some (.ref cu), v13, v14, none, none, none, none] ∧ H10 cu = some (.lst (natV (cnts led nm.length))) ∧ Same H9 H10, ?_, ?_⟩
      · refine ⟨_, rfl, f, rfl, ⟨_, SqL.of (s79 _ _ hf7)⟩, fun D hD => ?_⟩
        refine lc_list (xs := as.map V.ref) (fun j H10 => H10 D = some (.lst (natV ((cnts led nm.length).take j))) ∧ Same H9 H10) ⟨upd_same, same_new hD⟩ (fun j H10 _ h => SqL.of (h.2 _ _ (s79 _ _ hf7))) ?_ ?_
        · rintro j x H10 hj ⟨hD10, s10⟩
          rw [List.getElem?_map] at hj
          obtain ⟨a0, ha0, rfl⟩ := Option.map_eq_some_iff.mp hj
          have hjl := (List.getElem?_eq_some_iff.mp ha0).1
          refine ⟨rfl, tyes ?_⟩
          have lc : (cnts led nm.length).length = nm.length := by unfold cnts; rw [List.length_map, List.length_range]
          refine ⟨_, rfl, a0, _, rfl, .inl (SqL.of (s10 _ _ (s79 _ _ (has7 j a0 ha0)))), _, hD10, Evl.sz_lt (by rw [natV, List.length_map, List.length_take, lc]; omega), ?_, fun b o e => ?_⟩
          · have ec : (cnts led nm.length)[j]? = some (posU led led.length j).length := by
              unfold cnts
              rw [List.getElem?_map, List.getElem?_range (by omega)]
              rfl
            rw [upd_same, List.take_add_one, ec]
            simp [natV]
          · rw [upd_ne (ne_of_none e hD)]
            exact s10 b o e
        · rintro H10 ⟨hD10, s10⟩
          have lc : (cnts led nm.length).length = nm.length := by unfold cnts; rw [List.length_map, List.length_range]
          rw [List.length_map, hal, List.take_of_length_le (by omega)] at hD10
          exact ⟨D, rfl, hD10, s10⟩
      rintro σ H10 ⟨cu, rfl, hcu, s10⟩
      have M10 := M9.same s10
      have s710 := s79.trans s10
      have hto10 := s10 _ _ (s9 _ _ hto8)
      rw [natV_int] at hcu
      have cpos : 0 < ((cnts led nm.length).map fun (k : Nat) => (k : Int)).length := by
        unfold cnts
        rw [List.length_map, List.length_map, List.length_range]
        exact M10.W.n1
      -- is_onto
      refine ⟨_, rfl, _, rfl, _, rfl, one, qo, oth, qw, ri, nm', nm, fkv, leadG fkv, rfl, M10.h1, M10.h2, M10.hri, by omega, by omega, M10.W.nn, M10.L.ok, fun H11 s11 => ?_⟩
      refine ⟨_, rfl, _, rfl, cu, _, rfl, SqL.of (s11 _ _ hcu), cpos, fun m hm le => ⟨_, _, rfl, rfl, _, rfl, ?_⟩⟩
      rw [M10.L.counts, all_pos hm le]
      refine ⟨rfl, _, rfl, ?_⟩
      rw [decide_eq_true (rfl : V.str (if decide (0 < m) = true then "True" else "False") = V.str (if decide (0 < m) = true then "True" else "False"))]
      refine iteF ?_
      have M11 := M10.same s11
      have s711 := s710.trans s11
      have hto11 := s11 _ _ hto10
      have hcu11 := s11 _ _ hcu
      obtain ⟨y0, hy0⟩ : ∃ y0, nm[0]? = some y0 := ⟨_, List.getElem?_eq_getElem M10.W.n1⟩
      -- spread
      refine ⟨fun σ H12 => σ = [some (.ref sa), some (.ref s0), some (.int (0 + (i : Int))), some (.ref wd), some (.ref wd'), some (.ref ld), some (.ref one), some (.ref oth), some (.ref ri), some (.ref f), some (.ref du), some (.ref to), some (.ref cu), some (.bl (decide (0 < (overL nm' (leadG fkv) y0).length) && (nm.map fun y => (overL nm' (leadG fkv) y).length).all fun n => decide (n = (overL nm' (leadG fkv) y0).length))), v14, none, none, none, none] ∧ H12 = H11, ?_, ?_⟩
      · refine ⟨_, rfl, cu, _, rfl, SqL.of hcu11, cpos, fun m1 hm1 le1 => ⟨_, _, rfl, rfl, _, rfl, ?_⟩⟩
        have h0 : (cnts led nm.length)[0]? = some (overL nm' (leadG fkv) y0).length := by rw [← M10.L.counts, List.getElem?_map, hy0]; rfl
        by_cases c : 0 < m1
        · show (if decide (0 < m1) = true then _ else _)
          rw [if_pos (decide_eq_true c)]
          refine ⟨_, rfl, cu, _, rfl, SqL.of hcu11, cpos, fun m2 hm2 le2 => ?_⟩
          refine ⟨_, rfl, cu, _, rfl, SqL.of hcu11, cpos, fun m3 hm3 ge3 => ⟨rfl, ?_⟩⟩
          have e12 : m1 = m2 := Int.le_antisymm (le1 _ hm2) (le2 _ hm1)
          subst e12
          have e := all_same h0 hm1 le1 hm3 ge3
          rw [decide_eq_true c, Bool.true_and] at e
          rw [M10.L.counts, e]
          refine ⟨?_, rfl⟩
          by_cases d : m1 = m3
          · subst d
            rw [decide_eq_true (rfl : m1 = m1), decide_eq_true (rfl : V.int m1 = V.int m1)]
            rfl
          · rw [decide_eq_false d, decide_eq_false (fun z : V.int m1 = V.int m3 => d (by injection z))]
            rfl
        · show (if decide (0 < m1) = true then _ else _)
          rw [if_neg (by rw [decide_eq_false c]; decide)]
          rw [M10.L.counts, none_same hm1 c]
          exact ⟨rfl, rfl⟩
      rintro σ H12 ⟨rfl, rfl⟩
      -- is_spread
      refine ⟨_, rfl, _, rfl, _, rfl, one, qo, oth, qw, ri, nm', nm, fkv, leadG fkv, y0, rfl, M11.h1, M11.h2, M11.hri, by omega, by omega, M11.W.nn, M11.L.ok, hy0, fun H12 s12 => ?_⟩
      refine ⟨_, rfl, _, rfl, _, rfl, rfl, _, rfl, ?_⟩
      generalize (decide (0 < (overL nm' (leadG fkv) y0).length) && (nm.map fun y => (overL nm' (leadG fkv) y).length).all fun n => decide (n = (overL nm' (leadG fkv) y0).length)) = spr
      rw [decide_eq_true (rfl : V.str (if spr = true then "True" else "False") = V.str (if spr = true then "True" else "False"))]
      refine iteF ?_
      have M12 := M11.same s12
      have s712 := s711.trans s12
      have hto12 := s12 _ _ hto11
      -- told changed
      have tl0 : ts.length = nm.length := htl
      obtain ⟨t0, ht0⟩ : ∃ t0, ts[0]? = some t0 := ⟨_, List.getElem?_eq_getElem (by rw [tl0]; exact M12.W.n1)⟩
      obtain ⟨hn0, hc0⟩ := hts 0 t0 y0 ht0 hy0
      have hc12 := s12 _ _ (s11 _ _ (s10 _ _ (s9 _ _ hc0)))
      have ovl : (overL nm' (leadG fkv) y0).length ≤ 100 := Nat.le_trans (overL_len _ _ _) M12.n100
      refine ⟨_, rfl, _, rfl, wd, _, rfl, dg_names M12.W.d, a, _, _, V.str y0, rfl, rfl, SqL.of M12.W.hn, atI_nat (j := 0) (by rw [List.getElem?_map, hy0]; rfl), to, V.ref t0, rfl, (by rw [← po_at htl M12.W.nn hy0 ht0]; exact DGet.k (k := Sum.inr y0) hto12), .inl ⟨rfl, _, SqL.of hc12⟩, t0, _, _, rfl, rfl, hc12, Evl.sz_lt (by rw [List.length_map]; omega), ?_⟩
      have s13 : Same H7 (upd H12 t0 (.lst ((overL nm' (leadG fkv) y0).map V.str ++ [V.str "zz"]))) := fun b' o e => by
        rw [upd_ne (ne_of_none e hn0)]
        exact s712 b' o e
      generalize upd H12 t0 (.lst ((overL nm' (leadG fkv) y0).map V.str ++ [V.str "zz"])) = H13 at *
      have M13 := M7.same s13
      -- told again
      refine ⟨_, rfl, _, rfl, _, rfl, one, qo, oth, qw, ri, nm', nm, fkv, leadG fkv, rfl, M13.h1, M13.h2, M13.hri, by omega, by omega, M13.W.nn, M13.L.ok, fun to2 ts2 H14 hto2 hto14 htl2 hts2 s14 => ?_⟩
      have M14 := M13.same s14
      have s714 := s13.trans s14
      refine ⟨_, rfl, to2, du, _, _, rfl, rfl, hto14, s714 _ _ hdu, same1 htl2 (fun q a' y e1 e2 => (hts2 q a' y e1 e2).2) (fun q b' e => s714 _ _ (hbs q b' e)), _, rfl, iteF ?_⟩
      -- the dict again
      refine ⟨_, rfl, _, rfl, _, rfl, _, rfl, _, rfl, s0, c0, wd', a', b', t', wd, a, b, t, ld, nm', nm, led, rfl, M14.S, M14.W'.d, M14.W'.hn, M14.W.d, M14.W.hn, M14.hld, len4, lt4, M14.W'.nn, n100, fun r2 fkv2 H15 hr20 pm2 hr2 S15 kp15 => ?_⟩
      have M15 := M14.kp kp15 S15
      have eqs := M15.L.eqs (fkv2 := fkv2) ⟨pm2, M15.W'.nn, M15.W.nn, len4, lt4⟩
      refine ⟨ri, r2, fkv, fkv2, rfl, rfl, M15.hri, hr2, eqs.1, eqs.2, _, rfl, iteF ?_⟩
      -- the web over itself
      refine ⟨fun σ H16 => ∃ se, σ = [some (.ref sa), some (.ref s0), some (.int (0 + (i : Int))), some (.ref wd), some (.ref wd'), some (.ref ld), some (.ref one), some (.ref oth), some (.ref ri), some (.ref f), some (.ref du), some (.ref to), some (.ref cu), some (.bl spr), some (.ref se), none, none, none, none] ∧ H16 se = some (.dK (selfKV nm)) ∧ Same H15 H16, ?_, ?_⟩
      · refine ⟨_, rfl, wd, _, rfl, dg_names M15.W.d, a, rfl, ⟨_, SqL.of M15.W.hn⟩, fun D hD => ?_⟩
        refine lc_list (xs := nm.map V.str) (fun j H16 => ∃ ps : List Addr, H16 D = some (.lst (ps.map V.ref)) ∧ ps.length = j ∧ Paired (fun p (kv : Key × V) => H16 p = some (.tup [kV kv.1, kv.2])) ps ((selfKV nm).take j) ∧ Same H15 H16) ⟨[], upd_same, rfl, .nil, same_new hD⟩ (fun j H16 _ ⟨_, _, _, _, h⟩ => SqL.of (h _ _ M15.W.hn)) ?_ ?_
        · rintro j x H16 hj ⟨ps, hD16, hpl, pr, s16⟩
          have hjl := (List.getElem?_eq_some_iff.mp hj).1
          rw [List.length_map] at hjl
          rw [List.getElem?_map] at hj
          obtain ⟨x0, hx0, rfl⟩ := Option.map_eq_some_iff.mp hj
          refine ⟨rfl, tyes ?_⟩
          refine ⟨_, rfl, _, rfl, (by show 2 ≤ sizeLine; decide), fun u hu' => ?_⟩
          have su := same_new (o := .tup [V.str x0, V.str x0]) hu'
          have nuD : u ≠ D := fun e => by subst e; rw [hD16] at hu'; cases hu'
          refine ⟨_, su _ _ hD16, Evl.sz_lt (by rw [List.length_map]; omega), ps ++ [u], by rw [upd_same, List.map_append]; rfl, by simp [hpl], ?_, fun b o e => ?_⟩
          · have e : (selfKV nm)[j]? = some (Sum.inr x0, V.str x0) := by
              unfold selfKV
              rw [List.getElem?_map, hx0]
              rfl
            rw [List.take_add_one, e]
            refine paired_snoc (Paired.mapP pr fun p kv h => ?_) ?_
            · rw [upd_ne (ne_of h hD16 (by intro z; cases z))]
              exact su _ _ h
            · rw [upd_ne nuD]
              exact upd_same
          · rw [upd_ne (ne_of_none e hD)]
            exact su _ _ (s16 b o e)
        · rintro H16 ⟨ps, hD16, hpl, pr, s16⟩
          have lk : (selfKV nm).length = nm.length := by unfold selfKV; rw [List.length_map]
          rw [List.length_map, List.take_of_length_le (by omega)] at pr
          refine ⟨D, ps, selfKV nm, rfl, SqL.of hD16, Paired.mapP pr fun p kv h => SqT.of h, fun r hr => ?_⟩
          have nd := self_nd M15.W.nn
          rw [merge_nd (acc := []) (by simpa using nd), List.nil_append]
          exact ⟨r, rfl, upd_same, s16.trans (same_new hr)⟩
      rintro σ H16 ⟨se, rfl, hse, s16⟩
      have M16 := M15.same s16
      refine ⟨_, rfl, _, rfl, _, rfl, oth, qw, oth, qw, se, nm, nm, selfKV nm, id, y0, rfl, M16.h2, M16.h2, hse, by omega, by omega, M16.W.nn, self_ok M16.W.nn, hy0, fun H17 s17 => ⟨_, _, rfl, rfl, ?_⟩⟩
      rw [self_spread M16.W.nn hy0]
      refine ⟨_, rfl, iteF ?_⟩
      have M17 := M16.same s17
      refine ⟨_, rfl, _, rfl, _, rfl, oth, qw, oth, qw, se, nm, nm, selfKV nm, id, rfl, M17.h2, M17.h2, s17 _ _ hse, by omega, by omega, M17.W.nn, self_ok M17.W.nn, fun H18 s18 => ⟨_, _, rfl, rfl, ?_⟩⟩
      rw [self_onto M17.W.nn]
      refine ⟨_, rfl, iteF ?_⟩
      exact ⟨M17.S.same s18, _, _, _, _, _, _, _, _, _, _, _, _, _, rfl⟩
    · rintro σ H2 ⟨S2, v2, v3, v4, v5, v6, v7, v8, v9, v10, v11, v12, v13, v14, rfl⟩
      exact k H2
end
end Nm
set_option maxRecDepth 100000
set_option maxHeartbeats 8000000
/-! what the top has written, and the law -/
namespace Nm
open PySem PySem.Spec PyProof.Rows L2
/-- a def as it stands in the written part -/
structure DefAt (K : PySem.W.Frag) (x qual : Str) (st : Stmt) (f : Addr) (kV dc pm cd ct : Value) (an : Option Addr) (oc : Value) (od : Option Addr) (sl : Array (Option Value)) : Prop where
  l : K.lookup f = some ⟨oc, od, .func (PySem.W.fnOf x qual (defArgs st) (defBody st) (defScope st) .none kV dc pm an cd ct), sl⟩
  c : PySem.W.codeIn K cd qual = true
  k : PySem.W.keepIn K (.ref f) = true
section
variable {P : Program} {w : World} {K : PySem.W.Frag} {mg : Str → Option Value} {base : Heap}
theorem def_mk {x : Str} {ps : List Str} {k : Nat} {sp : Sp} {f : Addr} {fd : FuncData} (G : FnOk P w K mg base CX0 k f fd ps sp) (a : mg x = some (.ref f)) (kp : PySem.W.keepIn K (.ref f) = true) (b : Binds K fd ps []) : Def P w K mg base x ps k sp := ⟨f, fd, G, a, kp, b⟩
end
theorem all_mk {l : PySem.W.OpenLaw} {w : World} {K : PySem.W.Frag} {h : Heap} {mg : Str → Option Value} {fa C : Addr} (X : K.In h) (G : h.Ns mainGlobals mg) (hfa : mg "law" = some (.ref fa))
    {f_isw : Addr} {kV_isw dc_isw pm_isw cd_isw ct_isw : Value} {an_isw : Option Addr} {oc_isw : Value} {od_isw : Option Addr} {sl_isw : Array (Option Value)} (a_isw : PySem.W.nsIn K mainGlobals "is_word" = some (some (.ref f_isw))) (l_isw : K.lookup f_isw = some ⟨oc_isw, od_isw, .func (PySem.W.fnOf "is_word" "is_word" (defArgs sIsWord) (defBody sIsWord) (defScope sIsWord) .none kV_isw dc_isw pm_isw an_isw cd_isw ct_isw), sl_isw⟩) (c_isw : PySem.W.codeIn K cd_isw "is_word" = true) (k_isw : PySem.W.keepIn K (.ref f_isw) = true)
    {f_isi : Addr} {kV_isi dc_isi pm_isi cd_isi ct_isi : Value} {an_isi : Option Addr} {oc_isi : Value} {od_isi : Option Addr} {sl_isi : Array (Option Value)} (a_isi : PySem.W.nsIn K mainGlobals "is_integer" = some (some (.ref f_isi))) (l_isi : K.lookup f_isi = some ⟨oc_isi, od_isi, .func (PySem.W.fnOf "is_integer" "is_integer" (defArgs sIsInteger) (defBody sIsInteger) (defScope sIsInteger) .none kV_isi dc_isi pm_isi an_isi cd_isi ct_isi), sl_isi⟩) (c_isi : PySem.W.codeIn K cd_isi "is_integer" = true) (k_isi : PySem.W.keepIn K (.ref f_isi) = true)
    {f_isn : Addr} {kV_isn dc_isn pm_isn cd_isn ct_isn : Value} {an_isn : Option Addr} {oc_isn : Value} {od_isn : Option Addr} {sl_isn : Array (Option Value)} (a_isn : PySem.W.nsIn K mainGlobals "is_number" = some (some (.ref f_isn))) (l_isn : K.lookup f_isn = some ⟨oc_isn, od_isn, .func (PySem.W.fnOf "is_number" "is_number" (defArgs sIsNumber) (defBody sIsNumber) (defScope sIsNumber) .none kV_isn dc_isn pm_isn an_isn cd_isn ct_isn), sl_isn⟩) (c_isn : PySem.W.codeIn K cd_isn "is_number" = true) (k_isn : PySem.W.keepIn K (.ref f_isn) = true)
    {f_po : Addr} {kV_po dc_po pm_po cd_po ct_po : Value} {an_po : Option Addr} {oc_po : Value} {od_po : Option Addr} {sl_po : Array (Option Value)} (a_po : PySem.W.nsIn K mainGlobals "places_over" = some (some (.ref f_po))) (l_po : K.lookup f_po = some ⟨oc_po, od_po, .func (PySem.W.fnOf "places_over" "places_over" (defArgs sPlacesOver) (defBody sPlacesOver) (defScope sPlacesOver) .none kV_po dc_po pm_po an_po cd_po ct_po), sl_po⟩) (c_po : PySem.W.codeIn K cd_po "places_over" = true) (k_po : PySem.W.keepIn K (.ref f_po) = true)
    {f_on : Addr} {kV_on dc_on pm_on cd_on ct_on : Value} {an_on : Option Addr} {oc_on : Value} {od_on : Option Addr} {sl_on : Array (Option Value)} (a_on : PySem.W.nsIn K mainGlobals "is_onto" = some (some (.ref f_on))) (l_on : K.lookup f_on = some ⟨oc_on, od_on, .func (PySem.W.fnOf "is_onto" "is_onto" (defArgs sIsOnto) (defBody sIsOnto) (defScope sIsOnto) .none kV_on dc_on pm_on an_on cd_on ct_on), sl_on⟩) (c_on : PySem.W.codeIn K cd_on "is_onto" = true) (k_on : PySem.W.keepIn K (.ref f_on) = true)
    {f_sp : Addr} {kV_sp dc_sp pm_sp cd_sp ct_sp : Value} {an_sp : Option Addr} {oc_sp : Value} {od_sp : Option Addr} {sl_sp : Array (Option Value)} (a_sp : PySem.W.nsIn K mainGlobals "is_spread" = some (some (.ref f_sp))) (l_sp : K.lookup f_sp = some ⟨oc_sp, od_sp, .func (PySem.W.fnOf "is_spread" "is_spread" (defArgs sIsSpread) (defBody sIsSpread) (defScope sIsSpread) .none kV_sp dc_sp pm_sp an_sp cd_sp ct_sp), sl_sp⟩) (c_sp : PySem.W.codeIn K cd_sp "is_spread" = true) (k_sp : PySem.W.keepIn K (.ref f_sp) = true)
    {f_nw : Addr} {kV_nw dc_nw pm_nw cd_nw ct_nw : Value} {an_nw : Option Addr} {oc_nw : Value} {od_nw : Option Addr} {sl_nw : Array (Option Value)} (a_nw : PySem.W.nsIn K mainGlobals "need_word" = some (some (.ref f_nw))) (l_nw : K.lookup f_nw = some ⟨oc_nw, od_nw, .func (PySem.W.fnOf "need_word" "need_word" (defArgs sNeedWord) (defBody sNeedWord) (defScope sNeedWord) .none kV_nw dc_nw pm_nw an_nw cd_nw ct_nw), sl_nw⟩) (c_nw : PySem.W.codeIn K cd_nw "need_word" = true) (k_nw : PySem.W.keepIn K (.ref f_nw) = true)
    {f_no : Addr} {kV_no dc_no pm_no cd_no ct_no : Value} {an_no : Option Addr} {oc_no : Value} {od_no : Option Addr} {sl_no : Array (Option Value)} (a_no : PySem.W.nsIn K mainGlobals "need_once" = some (some (.ref f_no))) (l_no : K.lookup f_no = some ⟨oc_no, od_no, .func (PySem.W.fnOf "need_once" "need_once" (defArgs sNeedOnce) (defBody sNeedOnce) (defScope sNeedOnce) .none kV_no dc_no pm_no an_no cd_no ct_no), sl_no⟩) (c_no : PySem.W.codeIn K cd_no "need_once" = true) (k_no : PySem.W.keepIn K (.ref f_no) = true)
    {f_np : Addr} {kV_np dc_np pm_np cd_np ct_np : Value} {an_np : Option Addr} {oc_np : Value} {od_np : Option Addr} {sl_np : Array (Option Value)} (a_np : PySem.W.nsIn K mainGlobals "need_places" = some (some (.ref f_np))) (l_np : K.lookup f_np = some ⟨oc_np, od_np, .func (PySem.W.fnOf "need_places" "need_places" (defArgs sNeedPlaces) (defBody sNeedPlaces) (defScope sNeedPlaces) .none kV_np dc_np pm_np an_np cd_np ct_np), sl_np⟩) (c_np : PySem.W.codeIn K cd_np "need_places" = true) (k_np : PySem.W.keepIn K (.ref f_np) = true)
    {f_ts : Addr} {kV_ts dc_ts pm_ts cd_ts ct_ts : Value} {an_ts : Option Addr} {oc_ts : Value} {od_ts : Option Addr} {sl_ts : Array (Option Value)} (a_ts : PySem.W.nsIn K mainGlobals "tie_spot" = some (some (.ref f_ts))) (l_ts : K.lookup f_ts = some ⟨oc_ts, od_ts, .func (PySem.W.fnOf "tie_spot" "tie_spot" (defArgs sTieSpot) (defBody sTieSpot) (defScope sTieSpot) .none kV_ts dc_ts pm_ts an_ts cd_ts ct_ts), sl_ts⟩) (c_ts : PySem.W.codeIn K cd_ts "tie_spot" = true) (k_ts : PySem.W.keepIn K (.ref f_ts) = true)
    {f_nt : Addr} {kV_nt dc_nt pm_nt cd_nt ct_nt : Value} {an_nt : Option Addr} {oc_nt : Value} {od_nt : Option Addr} {sl_nt : Array (Option Value)} (a_nt : PySem.W.nsIn K mainGlobals "need_ties" = some (some (.ref f_nt))) (l_nt : K.lookup f_nt = some ⟨oc_nt, od_nt, .func (PySem.W.fnOf "need_ties" "need_ties" (defArgs sNeedTies) (defBody sNeedTies) (defScope sNeedTies) .none kV_nt dc_nt pm_nt an_nt cd_nt ct_nt), sl_nt⟩) (c_nt : PySem.W.codeIn K cd_nt "need_ties" = true) (k_nt : PySem.W.keepIn K (.ref f_nt) = true)
    {f_ot : Addr} {kV_ot dc_ot pm_ot cd_ot ct_ot : Value} {an_ot : Option Addr} {oc_ot : Value} {od_ot : Option Addr} {sl_ot : Array (Option Value)} (a_ot : PySem.W.nsIn K mainGlobals "ordered_ties" = some (some (.ref f_ot))) (l_ot : K.lookup f_ot = some ⟨oc_ot, od_ot, .func (PySem.W.fnOf "ordered_ties" "ordered_ties" (defArgs sOrderedTies) (defBody sOrderedTies) (defScope sOrderedTies) .none kV_ot dc_ot pm_ot an_ot cd_ot ct_ot), sl_ot⟩) (c_ot : PySem.W.codeIn K cd_ot "ordered_ties" = true) (k_ot : PySem.W.keepIn K (.ref f_ot) = true)
    {f_oc : Addr} {kV_oc dc_oc pm_oc cd_oc ct_oc : Value} {an_oc : Option Addr} {oc_oc : Value} {od_oc : Option Addr} {sl_oc : Array (Option Value)} (a_oc : PySem.W.nsIn K mainGlobals "_law_open_cells" = some (some (.ref f_oc))) (l_oc : K.lookup f_oc = some ⟨oc_oc, od_oc, .func (PySem.W.fnOf "_law_open_cells" "_law_open_cells" (defArgs sOpenCells) (defBody sOpenCells) (defScope sOpenCells) .none kV_oc dc_oc pm_oc an_oc cd_oc ct_oc), sl_oc⟩) (c_oc : PySem.W.codeIn K cd_oc "_law_open_cells" = true) (k_oc : PySem.W.keepIn K (.ref f_oc) = true)
    {f_pk : Addr} {kV_pk dc_pk pm_pk cd_pk ct_pk : Value} {an_pk : Option Addr} {oc_pk : Value} {od_pk : Option Addr} {sl_pk : Array (Option Value)} (a_pk : PySem.W.nsIn K mainGlobals "_law_pick" = some (some (.ref f_pk))) (l_pk : K.lookup f_pk = some ⟨oc_pk, od_pk, .func (PySem.W.fnOf "_law_pick" "_law_pick" (defArgs sPick) (defBody sPick) (defScope sPick) .none kV_pk dc_pk pm_pk an_pk cd_pk ct_pk), sl_pk⟩) (c_pk : PySem.W.codeIn K cd_pk "_law_pick" = true) (k_pk : PySem.W.keepIn K (.ref f_pk) = true)
    {f_ao : Addr} {kV_ao dc_ao pm_ao cd_ao ct_ao : Value} {an_ao : Option Addr} {oc_ao : Value} {od_ao : Option Addr} {sl_ao : Array (Option Value)} (a_ao : PySem.W.nsIn K mainGlobals "_law_any_order" = some (some (.ref f_ao))) (l_ao : K.lookup f_ao = some ⟨oc_ao, od_ao, .func (PySem.W.fnOf "_law_any_order" "_law_any_order" (defArgs sAnyOrder) (defBody sAnyOrder) (defScope sAnyOrder) .none kV_ao dc_ao pm_ao an_ao cd_ao ct_ao), sl_ao⟩) (c_ao : PySem.W.codeIn K cd_ao "_law_any_order" = true) (k_ao : PySem.W.keepIn K (.ref f_ao) = true)
    {f_ch : Addr} {kV_ch dc_ch pm_ch cd_ch ct_ch : Value} {an_ch : Option Addr} {oc_ch : Value} {od_ch : Option Addr} {sl_ch : Array (Option Value)} (a_ch : PySem.W.nsIn K mainGlobals "_law_choice_of" = some (some (.ref f_ch))) (l_ch : K.lookup f_ch = some ⟨oc_ch, od_ch, .func (PySem.W.fnOf "_law_choice_of" "_law_choice_of" (defArgs sChoiceOf) (defBody sChoiceOf) (defScope sChoiceOf) .none kV_ch dc_ch pm_ch an_ch cd_ch ct_ch), sl_ch⟩) (c_ch : PySem.W.codeIn K cd_ch "_law_choice_of" = true) (k_ch : PySem.W.keepIn K (.ref f_ch) = true)
    {f_sh : Addr} {kV_sh dc_sh pm_sh cd_sh ct_sh : Value} {an_sh : Option Addr} {oc_sh : Value} {od_sh : Option Addr} {sl_sh : Array (Option Value)} (a_sh : PySem.W.nsIn K mainGlobals "_law_shape_pairs" = some (some (.ref f_sh))) (l_sh : K.lookup f_sh = some ⟨oc_sh, od_sh, .func (PySem.W.fnOf "_law_shape_pairs" "_law_shape_pairs" (defArgs sShapePairs) (defBody sShapePairs) (defScope sShapePairs) .none kV_sh dc_sh pm_sh an_sh cd_sh ct_sh), sl_sh⟩) (c_sh : PySem.W.codeIn K cd_sh "_law_shape_pairs" = true) (k_sh : PySem.W.keepIn K (.ref f_sh) = true)
    {f_dw : Addr} {kV_dw dc_dw pm_dw cd_dw ct_dw : Value} {an_dw : Option Addr} {oc_dw : Value} {od_dw : Option Addr} {sl_dw : Array (Option Value)} (a_dw : PySem.W.nsIn K mainGlobals "_law_draw_world" = some (some (.ref f_dw))) (l_dw : K.lookup f_dw = some ⟨oc_dw, od_dw, .func (PySem.W.fnOf "_law_draw_world" "_law_draw_world" (defArgs sDrawWorld) (defBody sDrawWorld) (defScope sDrawWorld) .none kV_dw dc_dw pm_dw an_dw cd_dw ct_dw), sl_dw⟩) (c_dw : PySem.W.codeIn K cd_dw "_law_draw_world" = true) (k_dw : PySem.W.keepIn K (.ref f_dw) = true)
    {f_ma : Addr} {kV_ma dc_ma pm_ma cd_ma ct_ma : Value} {an_ma : Option Addr} {oc_ma : Value} {od_ma : Option Addr} {sl_ma : Array (Option Value)} (a_ma : PySem.W.nsIn K mainGlobals "_law_made" = some (some (.ref f_ma))) (l_ma : K.lookup f_ma = some ⟨oc_ma, od_ma, .func (PySem.W.fnOf "_law_made" "_law_made" (defArgs sMade) (defBody sMade) (defScope sMade) .none kV_ma dc_ma pm_ma an_ma cd_ma ct_ma), sl_ma⟩) (c_ma : PySem.W.codeIn K cd_ma "_law_made" = true) (k_ma : PySem.W.keepIn K (.ref f_ma) = true)
    {f_pa : Addr} {kV_pa dc_pa pm_pa cd_pa ct_pa : Value} {an_pa : Option Addr} {oc_pa : Value} {od_pa : Option Addr} {sl_pa : Array (Option Value)} (a_pa : PySem.W.nsIn K mainGlobals "_law_parts" = some (some (.ref f_pa))) (l_pa : K.lookup f_pa = some ⟨oc_pa, od_pa, .func (PySem.W.fnOf "_law_parts" "_law_parts" (defArgs sParts) (defBody sParts) (defScope sParts) .none kV_pa dc_pa pm_pa an_pa cd_pa ct_pa), sl_pa⟩) (c_pa : PySem.W.codeIn K cd_pa "_law_parts" = true) (k_pa : PySem.W.keepIn K (.ref f_pa) = true)
    {f_se : Addr} {kV_se dc_se pm_se cd_se ct_se : Value} {an_se : Option Addr} {oc_se : Value} {od_se : Option Addr} {sl_se : Array (Option Value)} (a_se : PySem.W.nsIn K mainGlobals "_law_seated" = some (some (.ref f_se))) (l_se : K.lookup f_se = some ⟨oc_se, od_se, .func (PySem.W.fnOf "_law_seated" "_law_seated" (defArgs sSeated) (defBody sSeated) (defScope sSeated) .none kV_se dc_se pm_se an_se cd_se ct_se), sl_se⟩) (c_se : PySem.W.codeIn K cd_se "_law_seated" = true) (k_se : PySem.W.keepIn K (.ref f_se) = true)
    {f_ov : Addr} {kV_ov dc_ov pm_ov cd_ov ct_ov : Value} {an_ov : Option Addr} {oc_ov : Value} {od_ov : Option Addr} {sl_ov : Array (Option Value)} (a_ov : PySem.W.nsIn K mainGlobals "_law_over" = some (some (.ref f_ov))) (l_ov : K.lookup f_ov = some ⟨oc_ov, od_ov, .func (PySem.W.fnOf "_law_over" "_law_over" (defArgs sOver) (defBody sOver) (defScope sOver) .none kV_ov dc_ov pm_ov an_ov cd_ov ct_ov), sl_ov⟩) (c_ov : PySem.W.codeIn K cd_ov "_law_over" = true) (k_ov : PySem.W.keepIn K (.ref f_ov) = true)
    {f_co : Addr} {kV_co dc_co pm_co cd_co ct_co : Value} {an_co : Option Addr} {oc_co : Value} {od_co : Option Addr} {sl_co : Array (Option Value)} (a_co : PySem.W.nsIn K mainGlobals "_law_copied_over" = some (some (.ref f_co))) (l_co : K.lookup f_co = some ⟨oc_co, od_co, .func (PySem.W.fnOf "_law_copied_over" "_law_copied_over" (defArgs sCopiedOver) (defBody sCopiedOver) (defScope sCopiedOver) .none kV_co dc_co pm_co an_co cd_co ct_co), sl_co⟩) (c_co : PySem.W.codeIn K cd_co "_law_copied_over" = true) (k_co : PySem.W.keepIn K (.ref f_co) = true)
    {f_di : Addr} {kV_di dc_di pm_di cd_di ct_di : Value} {an_di : Option Addr} {oc_di : Value} {od_di : Option Addr} {sl_di : Array (Option Value)} (a_di : PySem.W.nsIn K mainGlobals "_law_dict" = some (some (.ref f_di))) (l_di : K.lookup f_di = some ⟨oc_di, od_di, .func (PySem.W.fnOf "_law_dict" "_law_dict" (defArgs sDict) (defBody sDict) (defScope sDict) .none kV_di dc_di pm_di an_di cd_di ct_di), sl_di⟩) (c_di : PySem.W.codeIn K cd_di "_law_dict" = true) (k_di : PySem.W.keepIn K (.ref f_di) = true)
    {f_ab : Addr} {kV_ab dc_ab pm_ab cd_ab ct_ab : Value} {an_ab : Option Addr} {oc_ab : Value} {od_ab : Option Addr} {sl_ab : Array (Option Value)} (a_ab : PySem.W.nsIn K mainGlobals "_law_above" = some (some (.ref f_ab))) (l_ab : K.lookup f_ab = some ⟨oc_ab, od_ab, .func (PySem.W.fnOf "_law_above" "_law_above" (defArgs sAbove) (defBody sAbove) (defScope sAbove) .none kV_ab dc_ab pm_ab an_ab cd_ab ct_ab), sl_ab⟩) (c_ab : PySem.W.codeIn K cd_ab "_law_above" = true) (k_ab : PySem.W.keepIn K (.ref f_ab) = true)
    {f_lo : Addr} {kV_lo dc_lo pm_lo cd_lo ct_lo : Value} {an_lo : Option Addr} {oc_lo : Value} {od_lo : Option Addr} {sl_lo : Array (Option Value)} (a_lo : PySem.W.nsIn K mainGlobals "_law_loose_world" = some (some (.ref f_lo))) (l_lo : K.lookup f_lo = some ⟨oc_lo, od_lo, .func (PySem.W.fnOf "_law_loose_world" "_law_loose_world" (defArgs sLooseWorld) (defBody sLooseWorld) (defScope sLooseWorld) .none kV_lo dc_lo pm_lo an_lo cd_lo ct_lo), sl_lo⟩) (c_lo : PySem.W.codeIn K cd_lo "_law_loose_world" = true) (k_lo : PySem.W.keepIn K (.ref f_lo) = true)
    {f_ad : Addr} {kV_ad dc_ad pm_ad cd_ad ct_ad : Value} {an_ad : Option Addr} {oc_ad : Value} {od_ad : Option Addr} {sl_ad : Array (Option Value)} (a_ad : PySem.W.nsIn K mainGlobals "_law_any_dict" = some (some (.ref f_ad))) (l_ad : K.lookup f_ad = some ⟨oc_ad, od_ad, .func (PySem.W.fnOf "_law_any_dict" "_law_any_dict" (defArgs sAnyDict) (defBody sAnyDict) (defScope sAnyDict) .none kV_ad dc_ad pm_ad an_ad cd_ad ct_ad), sl_ad⟩) (c_ad : PySem.W.codeIn K cd_ad "_law_any_dict" = true) (k_ad : PySem.W.keepIn K (.ref f_ad) = true)
    {f_la : Addr} {kV_la dc_la pm_la cd_la ct_la : Value} {an_la : Option Addr} {oc_la : Value} {od_la : Option Addr} {sl_la : Array (Option Value)} (a_la : PySem.W.nsIn K mainGlobals "law" = some (some (.ref f_la))) (l_la : K.lookup f_la = some ⟨oc_la, od_la, .func (PySem.W.fnOf "law" "law" (defArgs sLaw) (defBody sLaw) (defScope sLaw) .none kV_la dc_la pm_la an_la cd_la ct_la), sl_la⟩) (c_la : PySem.W.codeIn K cd_la "law" = true) (k_la : PySem.W.keepIn K (.ref f_la) = true)
    {f_mi : Addr} {kV_mi dc_mi pm_mi cd_mi ct_mi : Value} {an_mi : Option Addr} {oc_mi : Value} {od_mi : Option Addr} {sl_mi : Array (Option Value)} (a_mi : PySem.W.findIn K (.ref C) "__init__" = some (some (.ref f_mi))) (i_mi : PySem.W.isFn K (.ref f_mi) = true) (l_mi : K.lookup f_mi = some ⟨oc_mi, od_mi, .func (PySem.W.fnOf "__init__" "Web.__init__" (defArgs sWebInit) (defBody sWebInit) (defScope sWebInit) .none kV_mi dc_mi pm_mi an_mi cd_mi ct_mi), sl_mi⟩) (c_mi : PySem.W.codeIn K cd_mi "Web.__init__" = true) (k_mi : PySem.W.keepIn K (.ref f_mi) = true)
    {f_mp : Addr} {kV_mp dc_mp pm_mp cd_mp ct_mp : Value} {an_mp : Option Addr} {oc_mp : Value} {od_mp : Option Addr} {sl_mp : Array (Option Value)} (a_mp : PySem.W.findIn K (.ref C) "places" = some (some (.ref f_mp))) (i_mp : PySem.W.isFn K (.ref f_mp) = true) (l_mp : K.lookup f_mp = some ⟨oc_mp, od_mp, .func (PySem.W.fnOf "places" "Web.places" (defArgs sWebPlaces) (defBody sWebPlaces) (defScope sWebPlaces) .none kV_mp dc_mp pm_mp an_mp cd_mp ct_mp), sl_mp⟩) (c_mp : PySem.W.codeIn K cd_mp "Web.places" = true) (k_mp : PySem.W.keepIn K (.ref f_mp) = true)
    (z_len : PySem.W.nsIn K mainGlobals "len" = some none)
    (z_int : PySem.W.nsIn K mainGlobals "int" = some none)
    (z_list : PySem.W.nsIn K mainGlobals "list" = some none)
    (z_range : PySem.W.nsIn K mainGlobals "range" = some none)
    (z_abs : PySem.W.nsIn K mainGlobals "abs" = some none)
    (z_sorted : PySem.W.nsIn K mainGlobals "sorted" = some none)
    (z_dict : PySem.W.nsIn K mainGlobals "dict" = some none)
    (z_enumerate : PySem.W.nsIn K mainGlobals "enumerate" = some none)
    (z_str : PySem.W.nsIn K mainGlobals "str" = some none)
    (z_max : PySem.W.nsIn K mainGlobals "max" = some none)
    (z_min : PySem.W.nsIn K mainGlobals "min" = some none)
    (z_set : PySem.W.nsIn K mainGlobals "set" = some none)
    (z_sum : PySem.W.nsIn K mainGlobals "sum" = some none)
    (z_zip : PySem.W.nsIn K mainGlobals "zip" = some none)
    (z_isinstance : PySem.W.nsIn K mainGlobals "isinstance" = some none)
    (z_all : PySem.W.nsIn K mainGlobals "all" = some none)
    (z_bool : PySem.W.nsIn K mainGlobals "bool" = some none)
    (z_tuple : PySem.W.nsIn K mainGlobals "tuple" = some none)
    (z_repr : PySem.W.nsIn K mainGlobals "repr" = some none)
    {tl td : Tok} (z_letters : PySem.W.nsIn K mainGlobals "LETTERS" = some (some (.str "abcdefghijklmnopqrstuvwxyz" tl))) (z_digits : PySem.W.nsIn K mainGlobals "DIGITS" = some (some (.str "0123456789" td)))
    (z_C : PySem.W.nsIn K mainGlobals "Web" = some (some (.ref C))) (pg : PySem.W.plainGet K C Str.empty = true) (hd : PySem.W.hasDictIn K C = true) (po : PySem.W.plainOver K C = true) (sa : PySem.W.findIn K (.ref C) "__setattr__" = some (some (.builtin "object.__setattr__"))) (mk : PySem.W.makesIn K C = true) (kc : PySem.W.keepIn K (.ref C) = true)
    (nCo : PySem.W.findIn K (.ref C) "_colour_of" = some none) (nNa : PySem.W.findIn K (.ref C) "_names" = some none) (nTi : PySem.W.findIn K (.ref C) "_ties" = some none) (nWi : PySem.W.findIn K (.ref C) "_width_of" = some none) :
    ∃ fd : FuncData, (∀ (s : Shared) (v : Value), BindsTo s fd ⟨[v], []⟩ [("_law_script", v)]) ∧ ∀ base : Heap, K.In base → base.Ns mainGlobals mg → FnOk l.prog w K mg base CX0 8 fa fd ["_law_script"] (spLaw K) := by
  have e := hfa.symm.trans (PySem.W.mg_of X G a_la)
  cases e
  have none_ := fun {x : Str} (z : PySem.W.nsIn K mainGlobals x = some none) => PySem.W.mg_none_of X G z
  have TA : TxtA mg := ⟨none_ z_len, none_ z_int⟩
  have TB : TxtB mg := ⟨TA, none_ z_list, none_ z_range, none_ z_abs⟩
  have TC : TxtC mg := ⟨TB, none_ z_sorted⟩
  have TD : TxtD mg := ⟨TC, none_ z_dict, none_ z_enumerate, none_ z_str⟩
  have TE : TxtE mg := ⟨TD, none_ z_max, none_ z_min, none_ z_set, none_ z_sum⟩
  have TF : TxtF mg := ⟨TE, none_ z_zip⟩
  have TG : TxtG mg := ⟨TF, none_ z_isinstance, none_ z_all, none_ z_bool, ⟨tl, PySem.W.mg_of X G z_letters⟩, ⟨td, PySem.W.mg_of X G z_digits⟩⟩
  have TH : TxtH mg := ⟨TG, none_ z_tuple⟩
  have TW : TxtW K mg C := ⟨TH, ⟨pg, hd, po, sa⟩, nCo, nNa, nTi, nWi⟩
  have TM : TxtM K mg C f_mi := ⟨TW, PySem.W.mg_of X G z_C, ⟨mk, a_mi, i_mi, kc⟩⟩
  have TL : TxtL K mg C f_mi := ⟨TM, none_ z_repr⟩
  have F_isw := fun_mk (st := sIsWord) l_isw c_isw k_isw
  have b_isw := F_isw.binds (ps := ["value"]) fun _ _ _ _ _ _ us hl => match us, hl with | [_], _ => rfl
  have m_isw := PySem.W.mg_of X G a_isw
  have F_isi := fun_mk (st := sIsInteger) l_isi c_isi k_isi
  have b_isi := F_isi.binds (ps := ["value"]) fun _ _ _ _ _ _ us hl => match us, hl with | [_], _ => rfl
  have m_isi := PySem.W.mg_of X G a_isi
  have F_isn := fun_mk (st := sIsNumber) l_isn c_isn k_isn
  have b_isn := F_isn.binds (ps := ["value", "least"]) fun _ _ _ _ _ _ us hl => match us, hl with | [_, _], _ => rfl
  have m_isn := PySem.W.mg_of X G a_isn
  have F_po := fun_mk (st := sPlacesOver) l_po c_po k_po
  have b_po := F_po.binds (ps := ["over", "web", "folding"]) fun _ _ _ _ _ _ us hl => match us, hl with | [_, _, _], _ => rfl
  have m_po := PySem.W.mg_of X G a_po
  have F_on := fun_mk (st := sIsOnto) l_on c_on k_on
  have b_on := F_on.binds (ps := ["over", "web", "folding"]) fun _ _ _ _ _ _ us hl => match us, hl with | [_, _, _], _ => rfl
  have m_on := PySem.W.mg_of X G a_on
  have F_sp := fun_mk (st := sIsSpread) l_sp c_sp k_sp
  have b_sp := F_sp.binds (ps := ["over", "web", "folding"]) fun _ _ _ _ _ _ us hl => match us, hl with | [_, _, _], _ => rfl
  have m_sp := PySem.W.mg_of X G a_sp
  have F_nw := fun_mk (st := sNeedWord) l_nw c_nw k_nw
  have b_nw := F_nw.binds (ps := ["value"]) fun _ _ _ _ _ _ us hl => match us, hl with | [_], _ => rfl
  have m_nw := PySem.W.mg_of X G a_nw
  have F_no := fun_mk (st := sNeedOnce) l_no c_no k_no
  have b_no := F_no.binds (ps := ["names"]) fun _ _ _ _ _ _ us hl => match us, hl with | [_], _ => rfl
  have m_no := PySem.W.mg_of X G a_no
  have F_np := fun_mk (st := sNeedPlaces) l_np c_np k_np
  have b_np := F_np.binds (ps := ["places"]) fun _ _ _ _ _ _ us hl => match us, hl with | [_], _ => rfl
  have m_np := PySem.W.mg_of X G a_np
  have F_ts := fun_mk (st := sTieSpot) l_ts c_ts k_ts
  have b_ts := F_ts.binds (ps := ["tie", "names"]) fun _ _ _ _ _ _ us hl => match us, hl with | [_, _], _ => rfl
  have m_ts := PySem.W.mg_of X G a_ts
  have F_nt := fun_mk (st := sNeedTies) l_nt c_nt k_nt
  have b_nt := F_nt.binds (ps := ["ties", "names"]) fun _ _ _ _ _ _ us hl => match us, hl with | [_, _], _ => rfl
  have m_nt := PySem.W.mg_of X G a_nt
  have F_ot := fun_mk (st := sOrderedTies) l_ot c_ot k_ot
  have b_ot := F_ot.binds (ps := ["ties", "names"]) fun _ _ _ _ _ _ us hl => match us, hl with | [_, _], _ => rfl
  have m_ot := PySem.W.mg_of X G a_ot
  have F_oc := fun_mk (st := sOpenCells) l_oc c_oc k_oc
  have b_oc := F_oc.binds (ps := ["_law_script"]) fun _ _ _ _ _ _ us hl => match us, hl with | [_], _ => rfl
  have m_oc := PySem.W.mg_of X G a_oc
  have F_pk := fun_mk (st := sPick) l_pk c_pk k_pk
  have b_pk := F_pk.binds (ps := ["_law_source", "_law_many"]) fun _ _ _ _ _ _ us hl => match us, hl with | [_, _], _ => rfl
  have m_pk := PySem.W.mg_of X G a_pk
  have F_ao := fun_mk (st := sAnyOrder) l_ao c_ao k_ao
  have b_ao := F_ao.binds (ps := ["_law_source", "_law_items"]) fun _ _ _ _ _ _ us hl => match us, hl with | [_, _], _ => rfl
  have m_ao := PySem.W.mg_of X G a_ao
  have F_ch := fun_mk (st := sChoiceOf) l_ch c_ch k_ch
  have b_ch := F_ch.binds (ps := ["_law_source", "_law_items"]) fun _ _ _ _ _ _ us hl => match us, hl with | [_, _], _ => rfl
  have m_ch := PySem.W.mg_of X G a_ch
  have F_sh := fun_mk (st := sShapePairs) l_sh c_sh k_sh
  have b_sh := F_sh.binds (ps := ["_law_source", "_law_count"]) fun _ _ _ _ _ _ us hl => match us, hl with | [_, _], _ => rfl
  have m_sh := PySem.W.mg_of X G a_sh
  have F_dw := fun_mk (st := sDrawWorld) l_dw c_dw k_dw
  have b_dw := F_dw.binds (ps := ["_law_source", "_law_most"]) fun _ _ _ _ _ _ us hl => match us, hl with | [_, _], _ => rfl
  have m_dw := PySem.W.mg_of X G a_dw
  have F_ma := fun_mk (st := sMade) l_ma c_ma k_ma
  have b_ma := F_ma.binds (ps := ["_law_source", "_law_world"]) fun _ _ _ _ _ _ us hl => match us, hl with | [_, _], _ => rfl
  have m_ma := PySem.W.mg_of X G a_ma
  have F_pa := fun_mk (st := sParts) l_pa c_pa k_pa
  have b_pa := F_pa.binds (ps := ["_law_world"]) fun _ _ _ _ _ _ us hl => match us, hl with | [_], _ => rfl
  have m_pa := PySem.W.mg_of X G a_pa
  have F_se := fun_mk (st := sSeated) l_se c_se k_se
  have b_se := F_se.binds (ps := ["_law_source", "_law_world", "_law_led"]) fun _ _ _ _ _ _ us hl => match us, hl with | [_, _, _], _ => rfl
  have m_se := PySem.W.mg_of X G a_se
  have F_ov := fun_mk (st := sOver) l_ov c_ov k_ov
  have b_ov := F_ov.binds (ps := ["_law_source", "_law_world", "_law_numbers"]) fun _ _ _ _ _ _ us hl => match us, hl with | [_, _, _], _ => rfl
  have m_ov := PySem.W.mg_of X G a_ov
  have F_co := fun_mk (st := sCopiedOver) l_co c_co k_co
  have b_co := F_co.binds (ps := ["_law_source", "_law_world"]) fun _ _ _ _ _ _ us hl => match us, hl with | [_, _], _ => rfl
  have m_co := PySem.W.mg_of X G a_co
  have F_di := fun_mk (st := sDict) l_di c_di k_di
  have b_di := F_di.binds (ps := ["_law_source", "_law_over_here", "_law_web", "_law_led"]) fun _ _ _ _ _ _ us hl => match us, hl with | [_, _, _, _], _ => rfl
  have m_di := PySem.W.mg_of X G a_di
  have F_ab := fun_mk (st := sAbove) l_ab c_ab k_ab
  have b_ab := F_ab.binds (ps := ["_law_led", "_law_many"]) fun _ _ _ _ _ _ us hl => match us, hl with | [_, _], _ => rfl
  have m_ab := PySem.W.mg_of X G a_ab
  have F_lo := fun_mk (st := sLooseWorld) l_lo c_lo k_lo
  have b_lo := F_lo.binds (ps := ["_law_source"]) fun _ _ _ _ _ _ us hl => match us, hl with | [_], _ => rfl
  have m_lo := PySem.W.mg_of X G a_lo
  have F_ad := fun_mk (st := sAnyDict) l_ad c_ad k_ad
  have b_ad := F_ad.binds (ps := ["_law_source", "_law_told"]) fun _ _ _ _ _ _ us hl => match us, hl with | [_, _], _ => rfl
  have m_ad := PySem.W.mg_of X G a_ad
  have F_la := fun_mk (st := sLaw) l_la c_la k_la
  have b_la := F_la.binds (ps := ["_law_script"]) fun _ _ _ _ _ _ us hl => match us, hl with | [_], _ => rfl
  have m_la := PySem.W.mg_of X G a_la
  have F_mi := fun_mk (st := sWebInit) l_mi c_mi k_mi
  have b_mi := F_mi.binds (ps := ["self", "places", "ties"]) fun _ _ _ _ _ _ us hl => match us, hl with | [_, _, _], _ => rfl
  have F_mp := fun_mk (st := sWebPlaces) l_mp c_mp k_mp
  have b_mp := F_mp.binds (ps := ["self"]) fun _ _ _ _ _ _ us hl => match us, hl with | [_], _ => rfl
  refine ⟨PySem.W.fnOf "law" "law" (defArgs sLaw) (defBody sLaw) (defScope sLaw) .none kV_la dc_la pm_la an_la cd_la ct_la, fun s v => .of_eq rfl, fun base _ _ => ?_⟩
  have G_pk := def_mk (ok_pick (P := l.prog) (w := w) (base := base) F_pk TA) m_pk k_pk b_pk
  have G_pz := def_mk (ok_pickZ (P := l.prog) (w := w) (base := base) F_pk TA) m_pk k_pk b_pk
  have G_ao := def_mk (ok_any F_ao TB G_pk) m_ao k_ao b_ao
  have G_ch := def_mk (ok_choice F_ch TB G_pk) m_ch k_ch b_ch
  have G_oc := def_mk (ok_open (P := l.prog) (w := w) (base := base) F_oc TB) m_oc k_oc b_oc
  have G_sh := def_mk (ok_shape F_sh TB G_pk) m_sh k_sh b_sh
  have G_dw := def_mk (ok_draw F_dw TB G_pk G_ao G_sh G_ch) m_dw k_dw b_dw
  have G_lo := def_mk (ok_loose F_lo TB G_pk G_dw) m_lo k_lo b_lo
  have G_pa := def_mk (ok_parts (P := l.prog) (w := w) (base := base) F_pa TC) m_pa k_pa b_pa
  have G_se := def_mk (ok_seat F_se TD G_ao) m_se k_se b_se
  have G_ov := def_mk (ok_over F_ov TD G_pz G_pa G_se) m_ov k_ov b_ov
  have G_co := def_mk (ok_copied F_co TE G_pk G_pa G_ov) m_co k_co b_co
  have G_ad := def_mk (ok_anyDict F_ad TF G_ao) m_ad k_ad b_ad
  have G_di := def_mk (ok_dict F_di TF G_ad) m_di k_di b_di
  have G_ab := def_mk (ok_above (P := l.prog) (w := w) (base := base) F_ab TF) m_ab k_ab b_ab
  have G_isw := def_mk (ok_word (P := l.prog) (w := w) (base := base) F_isw TG) m_isw k_isw b_isw
  have G_isi := def_mk (ok_integer (P := l.prog) (w := w) (base := base) F_isi TG) m_isi k_isi b_isi
  have G_isn := def_mk (ok_number F_isn G_isi) m_isn k_isn b_isn
  have G_nw := def_mk (ok_needW F_nw TG G_isw) m_nw k_nw b_nw
  have G_no := def_mk (ok_once (P := l.prog) (w := w) (base := base) F_no TG) m_no k_no b_no
  have G_np := def_mk (ok_needP F_np TG G_nw G_no) m_np k_np b_np
  have G_ts := def_mk (ok_spot F_ts TH G_isw G_isn) m_ts k_ts b_ts
  have G_nt := def_mk (ok_needT F_nt TH G_ts) m_nt k_nt b_nt
  have G_ot := def_mk (ok_ord (P := l.prog) (w := w) (base := base) F_ot TH) m_ot k_ot b_ot
  have O_mi := ok_webI F_mi TW G_np G_nt G_ot
  have Q_mp : MethD l.prog w K mg base C "places" ["self"] 1 (spPlaces C) := ⟨f_mp, _, ok_places F_mp TW, ⟨a_mp, i_mp, k_mp⟩, b_mp⟩
  have G_po := def_mk (ok_placesOver F_po TW Q_mp) m_po k_po b_po
  have G_on := def_mk (ok_onto F_on TW G_po) m_on k_on b_on
  have G_sp := def_mk (ok_spread F_sp TW G_po) m_sp k_sp b_sp
  have G_ma := def_mk (ok_made F_ma TM G_pk G_ao O_mi b_mi) m_ma k_ma b_ma
  exact ok_law F_la TL G_oc G_lo G_co G_ma G_di G_ab G_po G_on G_sp
theorem walk {l : PySem.W.OpenLaw} {q : Program} {loose : List Str} {XP : (Str → Option Value) → Heap → Prop} {YP : World → Heap → Prop} {d : DefRec} {K : Params → PySem.W.Frag} (hn : l.most = some 63) (hdf : d.params.defaults = []) (hY : ∀ (w : World) (h : Heap), YP w h → (K w.params).In h)
    (F : ∀ (w : World) (mg : Str → Option Value) (fa : Addr) (h : Heap), (K w.params).In h → h.Ns mainGlobals mg → mg d.name = some (.ref fa) → ∃ fd : FuncData, (∀ (s : Shared) (u : Value), BindsTo s fd ⟨[u], []⟩ [("_law_script", u)]) ∧ ∀ base : Heap, (K w.params).In base → base.Ns mainGlobals mg → FnOk l.prog w (K w.params) mg base CX0 8 fa fd ["_law_script"] (spLaw (K w.params))) :
    PySem.W.WalkO q loose XP YP l.row.toRowW d [] (fun f vs => PySem.call f vs) :=
  L2.walk_of (n := 63) (k := 8) (x := "_law_script") (CX := fun _ => CX0) (sp := fun w => spLaw (K w.params)) hn (by decide) hdf ⟨rfl, by decide, by decide⟩ hY F (fun _ _ a ns hl _ hS => ⟨a, ns, rfl, hS, hl, fun _ => rfl⟩) fun _ _ _ _ _ z => z
end Nm
open PySem PySem.W PyProof.Rows in
set_option maxRecDepth 100000 in
set_option maxHeartbeats 0 in
theorem PySem.Challenge.cw_namelessly_k22_places_over_holds : PySem.Challenge.rw_namelessly_k22_places_over.Holds := by
  w_on; o_law; k_head; (case hw => w_witness2)
  k_fill
  refine Nm.walk (l := PySem.Challenge.rw_namelessly_k22_places_over) rfl rfl (fun w h Y => PySem.W.kIn_of Y) ?F
  case F =>
    intro w mg fa h KX G hmg
    refine' Nm.all_mk KX G hmg ?a_isw ?l_isw ?c_isw ?k_isw ?a_isi ?l_isi ?c_isi ?k_isi ?a_isn ?l_isn ?c_isn ?k_isn ?a_po ?l_po ?c_po ?k_po ?a_on ?l_on ?c_on ?k_on ?a_sp ?l_sp ?c_sp ?k_sp ?a_nw ?l_nw ?c_nw ?k_nw ?a_no ?l_no ?c_no ?k_no ?a_np ?l_np ?c_np ?k_np ?a_ts ?l_ts ?c_ts ?k_ts ?a_nt ?l_nt ?c_nt ?k_nt ?a_ot ?l_ot ?c_ot ?k_ot ?a_oc ?l_oc ?c_oc ?k_oc ?a_pk ?l_pk ?c_pk ?k_pk ?a_ao ?l_ao ?c_ao ?k_ao ?a_ch ?l_ch ?c_ch ?k_ch ?a_sh ?l_sh ?c_sh ?k_sh ?a_dw ?l_dw ?c_dw ?k_dw ?a_ma ?l_ma ?c_ma ?k_ma ?a_pa ?l_pa ?c_pa ?k_pa ?a_se ?l_se ?c_se ?k_se ?a_ov ?l_ov ?c_ov ?k_ov ?a_co ?l_co ?c_co ?k_co ?a_di ?l_di ?c_di ?k_di ?a_ab ?l_ab ?c_ab ?k_ab ?a_lo ?l_lo ?c_lo ?k_lo ?a_ad ?l_ad ?c_ad ?k_ad ?a_la ?l_la ?c_la ?k_la ?a_mi ?i_mi ?l_mi ?c_mi ?k_mi ?a_mp ?i_mp ?l_mp ?c_mp ?k_mp ?z_len ?z_int ?z_list ?z_range ?z_abs ?z_sorted ?z_dict ?z_enumerate ?z_str ?z_max ?z_min ?z_set ?z_sum ?z_zip ?z_isinstance ?z_all ?z_bool ?z_tuple ?z_repr ?z_letters ?z_digits ?z_C ?pg ?hd ?po ?sa ?mk ?kc ?nCo ?nNa ?nTi ?nWi
    (case z_C => k_is)
    (case a_isw => k_is)
    (case l_isw => k_is)
    (case c_isw => k_is)
    (case k_isw => k_is)
    (case a_isi => k_is)
    (case l_isi => k_is)
    (case c_isi => k_is)
    (case k_isi => k_is)
    (case a_isn => k_is)
    (case l_isn => k_is)
    (case c_isn => k_is)
    (case k_isn => k_is)
    (case a_po => k_is)
    (case l_po => k_is)
    (case c_po => k_is)
    (case k_po => k_is)
    (case a_on => k_is)
    (case l_on => k_is)
    (case c_on => k_is)
    (case k_on => k_is)
    (case a_sp => k_is)
    (case l_sp => k_is)
    (case c_sp => k_is)
    (case k_sp => k_is)
    (case a_nw => k_is)
    (case l_nw => k_is)
    (case c_nw => k_is)
    (case k_nw => k_is)
    (case a_no => k_is)
    (case l_no => k_is)
    (case c_no => k_is)
    (case k_no => k_is)
    (case a_np => k_is)
    (case l_np => k_is)
    (case c_np => k_is)
    (case k_np => k_is)
    (case a_ts => k_is)
    (case l_ts => k_is)
    (case c_ts => k_is)
    (case k_ts => k_is)
    (case a_nt => k_is)
    (case l_nt => k_is)
    (case c_nt => k_is)
    (case k_nt => k_is)
    (case a_ot => k_is)
    (case l_ot => k_is)
    (case c_ot => k_is)
    (case k_ot => k_is)
    (case a_oc => k_is)
    (case l_oc => k_is)
    (case c_oc => k_is)
    (case k_oc => k_is)
    (case a_pk => k_is)
    (case l_pk => k_is)
    (case c_pk => k_is)
    (case k_pk => k_is)
    (case a_ao => k_is)
    (case l_ao => k_is)
    (case c_ao => k_is)
    (case k_ao => k_is)
    (case a_ch => k_is)
    (case l_ch => k_is)
    (case c_ch => k_is)
    (case k_ch => k_is)
    (case a_sh => k_is)
    (case l_sh => k_is)
    (case c_sh => k_is)
    (case k_sh => k_is)
    (case a_dw => k_is)
    (case l_dw => k_is)
    (case c_dw => k_is)
    (case k_dw => k_is)
    (case a_ma => k_is)
    (case l_ma => k_is)
    (case c_ma => k_is)
    (case k_ma => k_is)
    (case a_pa => k_is)
    (case l_pa => k_is)
    (case c_pa => k_is)
    (case k_pa => k_is)
    (case a_se => k_is)
    (case l_se => k_is)
    (case c_se => k_is)
    (case k_se => k_is)
    (case a_ov => k_is)
    (case l_ov => k_is)
    (case c_ov => k_is)
    (case k_ov => k_is)
    (case a_co => k_is)
    (case l_co => k_is)
    (case c_co => k_is)
    (case k_co => k_is)
    (case a_di => k_is)
    (case l_di => k_is)
    (case c_di => k_is)
    (case k_di => k_is)
    (case a_ab => k_is)
    (case l_ab => k_is)
    (case c_ab => k_is)
    (case k_ab => k_is)
    (case a_lo => k_is)
    (case l_lo => k_is)
    (case c_lo => k_is)
    (case k_lo => k_is)
    (case a_ad => k_is)
    (case l_ad => k_is)
    (case c_ad => k_is)
    (case k_ad => k_is)
    (case a_la => k_is)
    (case l_la => k_is)
    (case c_la => k_is)
    (case k_la => k_is)
    (case a_mi => k_is)
    (case i_mi => k_is)
    (case l_mi => k_is)
    (case c_mi => k_is)
    (case k_mi => k_is)
    (case a_mp => k_is)
    (case i_mp => k_is)
    (case l_mp => k_is)
    (case c_mp => k_is)
    (case k_mp => k_is)
    (case z_len => k_is)
    (case z_int => k_is)
    (case z_list => k_is)
    (case z_range => k_is)
    (case z_abs => k_is)
    (case z_sorted => k_is)
    (case z_dict => k_is)
    (case z_enumerate => k_is)
    (case z_str => k_is)
    (case z_max => k_is)
    (case z_min => k_is)
    (case z_set => k_is)
    (case z_sum => k_is)
    (case z_zip => k_is)
    (case z_isinstance => k_is)
    (case z_all => k_is)
    (case z_bool => k_is)
    (case z_tuple => k_is)
    (case z_repr => k_is)
    (case z_letters => k_is)
    (case z_digits => k_is)
    (case pg => k_is)
    (case hd => k_is)
    (case po => k_is)
    (case sa => k_is)
    (case mk => k_is)
    (case kc => k_is)
    (case nCo => k_is)
    (case nNa => k_is)
    (case nTi => k_is)
    (case nWi => k_is)
