import PyProof.Rows.All
import Wide.All
import OpenK.AllK
import Wide.FinOn
import HandS.ForMost
import PySem.Challenge.RW_namelessly_k43_colours_of_tables
import HandS.Evl
import HandS.Style
import HandS.StrMore
import HandS.Sort
import HandS.SortRule
import HandS.Walk
import HandS.Conv
import HandS.Zip
import HandS.Star
import KE.KDictZip
import PyProof.ListNew
import PyProof.TupleCall
import PyProof.TupleOfSeq
import HandS.Zip0
import HandS.TupMul
import HandS.Dict
import HandS.EndTab
import HandS.EndOwn
import HandS.DeepEq
import HandS.DictComp
import KE.KEqDict
import PyProof.CallFns
import PyProof.NeKinds
set_option Elab.async false
set_option maxRecDepth 100000
set_option maxHeartbeats 4000000
/-! The text by places -/
namespace Nm
open PySem L2
def top (i : Nat) : Stmt := PySem.Challenge.pw_namelessly_k43_colours_of_tables.main.body.getD i (.Pass ⟨0, 0, 0, 0⟩)
abbrev sReached : Stmt := top 1
abbrev sTurned : Stmt := top 3
abbrev sColours : Stmt := top 4
abbrev sOpenCells : Stmt := top 6
abbrev sPick : Stmt := top 7
abbrev sAnyOrder : Stmt := top 8
abbrev sChoiceOf : Stmt := top 9
abbrev sShapePairs : Stmt := top 10
abbrev sDrawWorld : Stmt := top 11
abbrev sParts : Stmt := top 12
abbrev sSeated : Stmt := top 13
abbrev sOver : Stmt := top 14
abbrev sTimes : Stmt := top 15
abbrev sBehind : Stmt := top 16
abbrev sBoundOver : Stmt := top 17
abbrev sBase : Stmt := top 18
abbrev sByBase : Stmt := top 19
abbrev sPieces : Stmt := top 20
abbrev sRing : Stmt := top 21
abbrev sBlocks : Stmt := top 22
abbrev sLaw : Stmt := top 23
end Nm
set_option maxRecDepth 100000
set_option maxHeartbeats 4000000
namespace Nm
open PySem L2
/-! ### the source of draws -/
def srcD (c : Addr) (left mixed turn : Int) : List (Key × V) :=
  [(Sum.inr "cells", V.ref c), (Sum.inr "left", V.int left), (Sum.inr "mixed", V.int mixed), (Sum.inr "turn", V.int turn)]
structure SrcOk (H : Hp) (s c : Addr) (cs : List Int) (left mixed turn : Int) : Prop where
  ds : H s = some (.dK (srcD c left mixed turn))
  dc : H c = some (.lst (cs.map V.int))
  nn : ∀ x ∈ cs, 0 ≤ x
  len : cs.length ≤ 63
  l0 : 0 ≤ left
  m0 : 0 ≤ mixed
  m1 : mixed < 2147483629
  t0 : 0 ≤ turn
def Src (H : Hp) (s c : Addr) : Prop := ∃ cs left mixed turn, SrcOk H s c cs left mixed turn
/-- all but the source stays -/
def Kp (s c : Addr) (H H' : Hp) : Prop := ∀ b o, H b = some o → b ≠ s → b ≠ c → H' b = some o
theorem Kp.refl {s c : Addr} (H : Hp) : Kp s c H H := fun _ _ h _ _ => h
theorem Kp.trans {s c : Addr} {H H1 H2 : Hp} (a : Kp s c H H1) (b : Kp s c H1 H2) : Kp s c H H2 := fun x o h h1 h2 => b x o (a x o h h1 h2) h1 h2
theorem Kp.same {s c : Addr} {H H1 : Hp} (a : Same H H1) : Kp s c H H1 := fun x o h _ _ => a x o h
theorem Kp.new {s c : Addr} {H H1 : Hp} (a : Kp s c H H1) {p : Addr} {o : HO} (h : H1 p = none) : Kp s c H (upd H1 p o) := fun x u e h1 h2 => by
  have := a x u e h1 h2
  rw [upd_ne (ne_of_none this h)]
  exact this
theorem Src.upd {H : Hp} {s c p : Addr} {o : HO} (S : Src H s c) (h1 : p ≠ s) (h2 : p ≠ c) : Src (upd H p o) s c := by
  obtain ⟨cs, l, m, t, S⟩ := S
  exact ⟨cs, l, m, t, ⟨by rw [upd_ne h1.symm]; exact S.ds, by rw [upd_ne h2.symm]; exact S.dc, S.nn, S.len, S.l0, S.m0, S.m1, S.t0⟩⟩
theorem Src.same {H H' : Hp} {s c : Addr} (S : Src H s c) (e : Same H H') : Src H' s c := by
  obtain ⟨cs, l, m, t, S⟩ := S
  exact ⟨cs, l, m, t, ⟨e _ _ S.ds, e _ _ S.dc, S.nn, S.len, S.l0, S.m0, S.m1, S.t0⟩⟩
theorem Src.ne {H : Hp} {s c p : Addr} (S : Src H s c) (h : H p = none) : p ≠ s ∧ p ≠ c := by
  obtain ⟨cs, l, m, t, S⟩ := S
  exact ⟨(ne_of_none S.ds h).symm, (ne_of_none S.dc h).symm⟩
theorem Src.new {H : Hp} {s c p : Addr} {o : HO} (S : Src H s c) (h : H p = none) : Src (L2.upd H p o) s c := S.upd (S.ne h).1 (S.ne h).2
theorem tyes {σ : St} {H : Hp} {A B : Hp → Prop} (h : A H) : tYes σ H (fun b H3 => if b = true then A H3 else B H3) := by
  show (if true = true then A H else B H)
  rw [if_pos rfl]
  exact h
/-- what is new since H, and stays where only the source changes -/
theorem Kp.off {H H1 : Hp} {s c p : Addr} {o : HO} (a : Kp s c H H1) (h : H p = none) : Kp s c H (L2.upd H1 p o) := fun b u e h1 h2 => by
  rw [upd_ne (ne_of_none e h)]
  exact a b u e h1 h2
theorem Kp.free {H H1 : Hp} {s c p : Addr} (a : Kp s c H H1) (S : Src H1 s c) (h : H1 p = none) : H p = none := by
  cases q : H p with
  | none => rfl
  | some o =>
    obtain ⟨n1, n2⟩ := S.ne h
    rw [a p o q n1 n2] at h
    cases h
theorem same_new {H : Hp} {p : Addr} {o : HO} (h : H p = none) : Same H (upd H p o) := fun x u e => by
  rw [upd_ne (ne_of_none e h)]
  exact e
theorem k1 : ¬ (("cells" : Str) = "left") := by decide +kernel
theorem k2 : ¬ (("cells" : Str) = "mixed") := by decide +kernel
theorem k3 : ¬ (("cells" : Str) = "turn") := by decide +kernel
theorem k4 : ¬ (("left" : Str) = "mixed") := by decide +kernel
theorem k5 : ¬ (("left" : Str) = "turn") := by decide +kernel
theorem k6 : ¬ (("mixed" : Str) = "turn") := by decide +kernel
theorem k4' : ¬ (("mixed" : Str) = "left") := by decide +kernel
theorem k5' : ¬ (("turn" : Str) = "left") := by decide +kernel
section
variable {c : Addr} {l m t : Int}
theorem src_cells : valV (srcD c l m t) (Sum.inr "cells" : Key) = some (.ref c) := valV_pos rfl
theorem inr_ne {x y : Str} (h : ¬ x = y) : ¬ (Sum.inr x : Key) = Sum.inr y := fun e => h (Sum.inr.inj e)
theorem src_left : valV (srcD c l m t) (Sum.inr "left" : Key) = some (.int l) := by
  unfold srcD
  rw [valV_neg (inr_ne k1)]
  exact valV_pos rfl
theorem src_mixed : valV (srcD c l m t) (Sum.inr "mixed" : Key) = some (.int m) := by
  unfold srcD
  rw [valV_neg (inr_ne k2), valV_neg (inr_ne k4)]
  exact valV_pos rfl
theorem src_turn : valV (srcD c l m t) (Sum.inr "turn" : Key) = some (.int t) := by
  unfold srcD
  rw [valV_neg (inr_ne k3), valV_neg (inr_ne k5), valV_neg (inr_ne k6)]
  exact valV_pos rfl
theorem put_left {z : Int} : putK (srcD c l m t) (Sum.inr "left" : Key) (.int z) = srcD c z m t := by
  unfold putK srcD
  simp [k1, k4', k5']
theorem put_turn {z : Int} : putK (srcD c l m t) (Sum.inr "turn" : Key) (.int z) = srcD c l m z := by
  unfold putK srcD
  simp [k3, k5, k6]
theorem src_len : (srcD c l m t).length < sizeLine := by show 4 < sizeLine; decide
end
/-! ### _law_pick -/
def spPick : Sp := fun vs H Q _ => ∃ (s c : Addr) (n : Int), vs = [.ref s, .int n] ∧ Src H s c ∧ 1 ≤ n ∧ n < 1073741824 ∧
  ∀ (k : Int) (H' : Hp), 0 ≤ k → k < n → Src H' s c → Kp s c H H' → Q (.int k) H'
theorem scPick : FnScope ["_law_source", "_law_many", "_law_cells", "_law_left", "_law_turn", "_law_mixed"] ["_law_source", "_law_many"] (defScope sPick) := ⟨rfl, rfl, rfl, by decide +kernel, rfl, by decide +kernel, by decide +kernel⟩
structure TxtA (mg : Str → Option Value) : Prop where
  len : mg "len" = none
  int : mg "int" = none
section
variable {P : Program} {w : World} {K : PySem.W.Frag} {mg : Str → Option Value} {base : Heap}
theorem ok_pick {f : Addr} {fd : FuncData} (F : Fun K "_law_pick" "_law_pick" sPick f fd) (T : TxtA mg) : FnOk P w K mg base CX0 1 f fd ["_law_source", "_law_many"] spPick := by
  refine F.ok scPick (fun vs H Q E h => ?_) (fun cdv A outer s H vs Q E hr h => ?_)
  · obtain ⟨p, dx, n, rfl, _⟩ := h
    rfl
  · obtain ⟨sa, ca, n, rfl, ⟨cs, l, m, t, S⟩, n1, n2, k⟩ := h
    have hu := hu_of hr
    refine ⟨_, pss_cons (ps_if (pt_cmpR op_lt (pv 1) pe_int (nomark _)) (pss_one (ps_ret pe_int)) pss_nil)
      (pss_cons (ps_set (i := 2) scPick.nd rfl (Or.inl rfl) (pe_dget hu (pv 0) pe_str (fun _ _ => rfl)))
      (Evl.pss_cut (ps_while PassesOwn.never (PW.pt (pw_and (pt_cmpR op_lt (pe_dget hu (pv 0) pe_str (fun _ _ => rfl)) pe_int (nomark _)) (pw_and1 (pt_cmpR op_gt (pe_callB call_len_seq (by rfl) T.len PySem.boot_len (pa_cons (pv 2) pa_nil)) pe_int (nomark _)))))
        (pss_one (ps_dput hu (pv 0) pe_str (pe_bm0 PySem.F.plainAttrs_list PySem.F.slot_list_pop PySem.F.type_list_pop mt_pop (pv 2)) rfl)))
      (pss_cons (ps_set (i := 3) scPick.nd rfl (Or.inl rfl) (pe_dget hu (pv 0) pe_str (fun _ _ => rfl)))
      (pss_cons (ps_if (pt_cmpR op_gt (pv 3) pe_int (nomark _))
        (pss_cons (ps_dput hu (pv 0) pe_str (pe_op op_fdiv (pv 3) (pv 1)) rfl) (pss_one (ps_ret (pe_op op_mod (pe_callTy call_int1 (by rfl) T.int (by decide +kernel) (pa_cons (pv 3) pa_nil)) (pv 1))))) pss_nil)
      (pss_cons (ps_dput hu (pv 0) pe_str (pe_op op_add (pe_dget hu (pv 0) pe_str (fun _ _ => rfl)) pe_int) rfl)
      (pss_cons (ps_set (i := 4) scPick.nd rfl (Or.inl rfl) (pe_dget hu (pv 0) pe_str (fun _ _ => rfl)))
      (pss_cons (ps_set (i := 5) scPick.nd rfl (Or.inl rfl) (pe_op op_mod (pe_callTy call_int1 (by rfl) T.int (by decide +kernel) (pa_cons (pe_op op_add (pe_dget hu (pv 0) pe_str (fun _ _ => rfl)) (pe_op op_mul (pv 4) pe_int)) pa_nil)) pe_int))
      (pss_cons (ps_set (i := 5) scPick.nd rfl (Or.inl rfl) (pe_op op_mod (pe_callTy call_int1 (by rfl) T.int (by decide +kernel) (pa_cons (pe_op op_add (pe_op op_mul (pv 5) (pv 5)) (pe_op op_mul (pv 4) pe_int)) pa_nil)) pe_int))
      (pss_one (ps_ret (pe_op op_mod (pe_callTy call_int1 (by rfl) T.int (by decide +kernel) (pa_cons (pe_op op_fdiv (pv 5) pe_int) pa_nil)) (pv 1)))))))))))), ?_⟩
    -- if many < 2: return 0
    refine ⟨_, rfl, _, _, rfl, rfl, _, rfl, ?_⟩
    refine ite2 (fun h1 => k 0 H (by omega) (by omega) ⟨cs, l, m, t, S⟩ (Kp.refl H)) (fun h1 => ?_)
    have hn2 : 2 ≤ n := by
      have := of_decide_eq_false (Bool.eq_false_iff.mpr h1)
      omega
    have hsc : sa ≠ ca := ne_of S.ds S.dc (by intro z; cases z)
    -- cells
    refine ⟨_, rfl, sa, _, rfl, (by rw [← src_cells (l := l) (m := m) (t := t)]; exact DGet.k (k := Sum.inr "cells") S.ds), ?_⟩
    -- while
    refine ⟨fun σ H' => ∃ cs' l', σ = [some (.ref sa), some (.int n), some (.ref ca), none, none, none] ∧ SrcOk H' sa ca cs' l' m t ∧ Kp sa ca H H', ?_, ?_⟩
    · refine ⟨fun mm σ H' => ∃ cs' l', mm = cs'.length ∧ σ = [some (.ref sa), some (.int n), some (.ref ca), none, none, none] ∧ SrcOk H' sa ca cs' l' m t ∧ Kp sa ca H H', ⟨_, cs, l, rfl, rfl, S, Kp.refl H⟩, ?_⟩
      rintro mm σ H1 ⟨cs', l', rfl, rfl, S1, kp⟩
      have dl : DGet H1 sa (V.str "left") (some (.int l')) := by rw [← src_left (c := ca) (m := m) (t := t)]; exact DGet.k (k := Sum.inr "left") S1.ds
      refine ⟨_, rfl, sa, _, rfl, dl, _, _, rfl, rfl, _, rfl, ?_⟩
      refine ite2 (fun hl => ?_) (fun hl => iteF ⟨cs', l', rfl, S1, kp⟩)
      refine ⟨_, rfl, ca, _, rfl, .inl (SqL.of S1.dc), _, _, rfl, rfl, _, rfl, ?_⟩
      refine ite2 (fun hc => ?_) (fun hc => ⟨cs', l', rfl, S1, kp⟩)
      have hc' : 0 < cs'.length := by
        have := of_decide_eq_true hc
        rw [List.length_map] at this
        omega
      obtain ⟨y, hy⟩ : ∃ y, cs'[cs'.length - 1]? = some y := ⟨_, List.getElem?_eq_getElem (by omega)⟩
      have hym : y ∈ cs' := List.mem_of_getElem? hy
      refine ⟨fun σ H' => ∃ cs2 l2, cs2.length < cs'.length ∧ σ = [some (.ref sa), some (.int n), some (.ref ca), none, none, none] ∧ SrcOk H' sa ca cs2 l2 m t ∧ Kp sa ca H H', fun σ' H' ⟨cs2, l2, a1, a2, a3, a4⟩ => ⟨_, a1, cs2, l2, rfl, a2, a3, a4⟩, ?_⟩
      refine ⟨_, rfl, .inl ⟨rfl, _, SqL.of S1.dc⟩, ca, _, .int y, rfl, rfl, S1.dc, (by rw [List.length_map, List.getElem?_map, hy]; rfl), ?_⟩
      have ds2 : (upd H1 ca (.lst (cs'.map V.int).dropLast)) sa = some (.dK (srcD ca l' m t)) := by rw [upd_ne hsc]; exact S1.ds
      refine ⟨_, rfl, sa, _, rfl, DPut.k (k := Sum.inr "left") ds2 src_len, ?_⟩
      refine ⟨cs'.dropLast, y, (by rw [List.length_dropLast]; omega), rfl, ⟨by rw [upd_same, put_left], by rw [upd_ne hsc.symm, upd_same, List.map_dropLast], fun x hx => S1.nn x ((List.dropLast_sublist cs').subset hx), (by rw [List.length_dropLast]; have := S1.len; omega), S1.nn y hym, S1.m0, S1.m1, S1.t0⟩, fun b o e h1 h2 => ?_⟩
      rw [upd_ne h1, upd_ne h2]
      exact kp b o e h1 h2
    rintro σ H1 ⟨cs', l', rfl, S1, kp⟩
    have dl : DGet H1 sa (V.str "left") (some (.int l')) := by rw [← src_left (c := ca) (m := m) (t := t)]; exact DGet.k (k := Sum.inr "left") S1.ds
    refine ⟨_, rfl, sa, _, rfl, dl, ?_⟩
    refine ⟨_, rfl, _, _, rfl, rfl, _, rfl, ?_⟩
    refine ite2 (fun h2 => ?_) (fun h2 => ?_)
    · -- left // many
      have hl2 : 1 < l' := of_decide_eq_true h2
      refine ⟨_, rfl, _, rfl, _, _, rfl, rfl, ⟨by omega, by omega⟩, _, rfl, sa, _, rfl, DPut.k (k := Sum.inr "left") S1.ds src_len, ?_⟩
      refine ⟨_, rfl, .inl ⟨_, rfl, _, rfl, _, _, rfl, rfl, by omega, ?_⟩⟩
      refine k _ _ (Int.emod_nonneg _ (by omega)) (Int.emod_lt_of_pos _ (by omega)) ⟨cs', l' / n, m, t, ⟨by rw [upd_same, put_left], by rw [upd_ne hsc.symm]; exact S1.dc, S1.nn, S1.len, Int.ediv_nonneg (by omega) (by omega), S1.m0, S1.m1, S1.t0⟩⟩ fun b o e h1 h2 => ?_
      rw [upd_ne h1]
      exact kp b o e h1 h2
    · have dt : DGet H1 sa (V.str "turn") (some (.int t)) := by rw [← src_turn (c := ca) (m := m) (l := l')]; exact DGet.k (k := Sum.inr "turn") S1.ds
      refine ⟨_, rfl, sa, _, rfl, dt, _, _, rfl, rfl, _, rfl, sa, _, rfl, DPut.k (k := Sum.inr "turn") S1.ds src_len, ?_⟩
      rw [put_turn]
      have S2 : SrcOk (upd H1 sa (.dK (srcD ca l' m (t + 1)))) sa ca cs' l' m (t + 1) := ⟨upd_same, by rw [upd_ne hsc.symm]; exact S1.dc, S1.nn, S1.len, S1.l0, S1.m0, S1.m1, by have := S1.t0; omega⟩
      have dt2 : DGet (upd H1 sa (.dK (srcD ca l' m (t + 1)))) sa (V.str "turn") (some (.int (t + 1))) := by rw [← src_turn (c := ca) (m := m) (l := l')]; exact DGet.k (k := Sum.inr "turn") S2.ds
      have dm2 : DGet (upd H1 sa (.dK (srcD ca l' m (t + 1)))) sa (V.str "mixed") (some (.int m)) := by rw [← src_mixed (c := ca) (t := t + 1) (l := l')]; exact DGet.k (k := Sum.inr "mixed") S2.ds
      refine ⟨_, rfl, sa, _, rfl, dt2, ?_⟩
      have hm2 : 0 ≤ (m + (t + 1) * 104729) % 998244353 := Int.emod_nonneg _ (by decide)
      have hm3 : (m + (t + 1) * 104729) % 998244353 < 998244353 := Int.emod_lt_of_pos _ (by decide)
      refine ⟨_, rfl, sa, _, rfl, dm2, _, rfl, _, _, rfl, rfl, .inr ⟨by decide, by decide⟩, _, _, rfl, rfl, .inl ⟨_, rfl, _, _, rfl, rfl, (by show (0 : Int) < 998244353; decide), ?_⟩⟩
      refine ⟨_, rfl, _, rfl, _, _, rfl, rfl, .inl ⟨by show -(2 ^ 64 : Int) < _; omega, by show _ < (2 ^ 64 : Int); omega⟩, _, rfl, _, _, rfl, rfl, .inr ⟨by decide, by decide⟩, _, _, rfl, rfl, .inl ⟨_, rfl, _, _, rfl, rfl, (by show (0 : Int) < 2147483647; decide), ?_⟩⟩
      refine ⟨_, rfl, _, _, rfl, rfl, ⟨by decide, by decide⟩, .inl ⟨_, rfl, _, rfl, _, _, rfl, rfl, by show 0 < n; omega, ?_⟩⟩
      refine k _ _ (Int.emod_nonneg _ (by omega)) (Int.emod_lt_of_pos _ (by omega)) ⟨cs', l', m, t + 1, S2⟩ fun b o e h1 h2 => ?_
      rw [upd_ne h1]
      exact kp b o e h1 h2
end
end Nm
set_option maxRecDepth 100000
set_option maxHeartbeats 4000000
namespace Nm
open PySem L2
structure TxtB (mg : Str → Option Value) : Prop extends TxtA mg where
  list : mg "list" = none
  range : mg "range" = none
  abs : mg "abs" = none
/-- a def that stands under a name of the module, with its promise -/
structure Def (P : Program) (w : World) (K : PySem.W.Frag) (mg : Str → Option Value) (base : Heap) (x : Str) (ps : List Str) (k : Nat) (sp : Sp) : Prop where
  ex : ∃ f fd, FnOk P w K mg base CX0 k f fd ps sp ∧ mg x = some (.ref f) ∧ PySem.W.keepIn K (.ref f) = true ∧ Binds K fd ps []
section
variable {P : Program} {w : World} {K : PySem.W.Frag} {mg : Str → Option Value} {base : Heap}
theorem erase_perm {α : Type} {y : α} : ∀ {zs : List α} {i : Nat}, zs[i]? = some y → ([y] ++ zs.eraseIdx i).Perm zs
  | z :: zs, 0, h => by
    simp at h
    subst h
    exact List.Perm.refl _
  | z :: zs, i + 1, h => by
    simp at h
    have := erase_perm (zs := zs) (i := i) h
    show (y :: z :: zs.eraseIdx i).Perm (z :: zs)
    exact (List.Perm.swap z y _).trans (this.cons z)
/-! ### _law_any_order -/
def spAny (K : PySem.W.Frag) : Sp := fun vs H Q _ => ∃ (s c a : Addr) (xs : List V), vs = [.ref s, .ref a] ∧ Src H s c ∧ SqL K H a xs ∧ xs.length ≤ 10000 ∧
  ∀ (p : Addr) (ys : List V) (H' : Hp), H p = none → ys.Perm xs → H' p = some (.lst ys) → Src H' s c → Kp s c H H' → Q (.ref p) H'
theorem scAny : FnScope ["_law_source", "_law_items", "_law_rest", "_law_lap"] ["_law_source", "_law_items"] (defScope sAnyOrder) := ⟨rfl, rfl, rfl, by decide +kernel, rfl, by decide +kernel, by decide +kernel⟩
theorem ok_any {f : Addr} {fd : FuncData} (F : Fun K "_law_any_order" "_law_any_order" sAnyOrder f fd) (T : TxtB mg) (Gp : Def P w K mg base "_law_pick" ["_law_source", "_law_many"] 1 spPick) : FnOk P w K mg base CX0 2 f fd ["_law_source", "_law_items"] (spAny K) := by
  obtain ⟨fp, fdp, Gp, mp, kp, bp⟩ := Gp.ex
  refine F.ok scAny (fun vs H Q E h => ?_) (fun cdv A outer s H vs Q E hr h => ?_)
  · obtain ⟨p, dx, n, xs, rfl, _⟩ := h
    rfl
  · obtain ⟨sa, ca, ia, xs, rfl, S, hx, hl, k⟩ := h
    have hu := hu_of hr
    refine ⟨_, pss_cons (ps_set (i := 2) scAny.nd rfl (Or.inr rfl) (pe_callTy call_list_of (by rfl) T.list (by decide +kernel) (pa_cons (pv 1) pa_nil)))
      (pss_one (ps_ret (pe_lc (own := [("_law_lap", 3)]) (g := gName 3) (tt := tYes) (te := tBM K "list" rPopAt (tVar 2) (tCons (tCall spPick [] E0 (tCons (tVar 0) (tCons (tCB (Evl.rLenS K) (tCons (tVar 2) tNil)) tNil))) tNil)) rfl scAny.nd (pi_range1 (by rfl) T.range (pa_cons (pe_callB call_len_seq (by rfl) T.len PySem.boot_len (pa_cons (pv 2) pa_nil)) pa_nil))
        (blkOk_by (N := ["_law_source", "_law_items", "_law_rest", "_law_lap"]) (sc := defScope sAnyOrder) (by decide +kernel)) (fun _ _ _ _ _ => pg_name (i := 3) scAny.nd rfl (Or.inl rfl)) (fun _ _ _ _ _ => pts_nil)
        (fun _ _ _ _ _ => by exact pe_bm PySem.F.plainAttrs_list PySem.F.slot_list_pop PySem.F.type_list_pop mt_popAt (pv 2) (pa_cons (pe_call Gp hr (by rfl) mp kp bp .nil pass0 (pa_cons (pv 0) (pa_cons (pe_callB call_len_seq (by rfl) T.len PySem.boot_len (pa_cons (pv 2) pa_nil)) pa_nil))) pa_nil))))), ?_⟩
    refine ⟨_, rfl, ia, _, rfl, .inl hx, fun r hr0 => ?_⟩
    refine ⟨_, rfl, r, _, rfl, .inl (SqL.of upd_same), _, rfl, by omega, by omega, fun D hD => ?_⟩
    have hDr : D ≠ r := fun e => by subst e; rw [upd_same] at hD; cases hD
    have hD0 : H D = none := by rw [upd_ne hDr] at hD; exact hD
    obtain ⟨nrs, nrc⟩ := S.ne hr0
    obtain ⟨nDs, nDc⟩ := S.ne hD0
    refine lc_range (lo := 0) (n := xs.length) (fun i H' => ∃ ys zs, (ys ++ zs).Perm xs ∧ ys.length = i ∧ H' D = some (.lst ys) ∧ H' r = some (.lst zs) ∧ Src H' sa ca ∧ Kp sa ca H H') ?_ ?_ ?_
    · exact ⟨[], xs, List.Perm.refl _, rfl, upd_same, by rw [upd_ne hDr.symm, upd_same], (S.new hr0).upd nDs nDc, ((Kp.refl H).off hr0).off hD0⟩
    · rintro i H1 hi ⟨ys, zs, pm, hyl, hy, hz, S1, kp1⟩
      have hlen : ys.length + zs.length = xs.length := by rw [← List.length_append]; exact pm.length_eq
      refine ⟨rfl, tyes ?_⟩
      refine ⟨_, rfl, .inl ⟨rfl, _, SqL.of hz⟩, _, rfl, _, rfl, r, _, rfl, .inl (SqL.of hz), sa, ca, _, rfl, S1, by omega, by omega, fun kk H2 k0 k1 S2 kp2 => ?_⟩
      have hz2 := kp2 _ _ hz nrs nrc
      have hy2 := kp2 _ _ hy nDs nDc
      obtain ⟨y, hyy⟩ : ∃ y, zs[kk.toNat]? = some y := ⟨_, List.getElem?_eq_getElem (by omega)⟩
      refine ⟨r, zs, kk, kk.toNat, y, rfl, rfl, hz2, by omega, by omega, ?_, hyy, ?_⟩
      · exact seqIndex_of k0 k1
      · refine ⟨ys, by rw [upd_ne hDr]; exact hy2, Evl.sz_lt (by omega), ys ++ [y], zs.eraseIdx kk.toNat, ?_, by simp; omega, upd_same, by rw [upd_ne hDr.symm, upd_same], ?_, ?_⟩
        · refine List.Perm.trans ?_ pm
          rw [List.append_assoc]
          refine List.Perm.append_left ys ?_
          exact erase_perm hyy
        · exact (S2.upd nrs nrc).upd nDs nDc
        · exact ((kp1.trans kp2).off hr0).off hD0
    · rintro H1 ⟨ys, zs, pm, hyl, hy, hz, S1, kp1⟩
      have hlen : ys.length + zs.length = xs.length := by rw [← List.length_append]; exact pm.length_eq
      have hz0 : zs = [] := List.length_eq_zero_iff.mp (by omega)
      subst hz0
      rw [List.append_nil] at pm
      exact k D ys H1 hD0 pm hy S1 kp1
end
end Nm
set_option maxRecDepth 100000
set_option maxHeartbeats 4000000
/-! Rules that the layer lacks -/
namespace Nm
open PySem PySem.Spec PyProof.Rows L2
/-- the places that xs[::st] takes -/
def stepIx (st : Int) (n : Nat) : List Nat := sliceRange (sliceBounds none none (some st) n).1 (sliceBounds none none (some st) n).2.1 (sliceBounds none none (some st) n).2.2
def stepV (xs : List V) (st : Int) : List V := (stepIx st xs.length).filterMap (xs[·]?)
theorem stepV_mem {xs : List V} {st : Int} {v : V} (h : v ∈ stepV xs st) : v ∈ xs := by
  obtain ⟨i, _, e⟩ := List.mem_filterMap.mp h
  exact List.mem_of_getElem? e
theorem vals_filter : ∀ (is : List Nat) {xs : List V} {us : List Value}, Vals xs us → Vals (is.filterMap (xs[·]?)) (is.filterMap (us[·]?))
  | [], _, _, _ => .nil
  | i :: is, xs, us, r => by
    rw [List.filterMap_cons, List.filterMap_cons]
    cases e : xs[i]? with
    | none =>
      rw [r.none_of e]
      exact vals_filter is r
    | some x =>
      obtain ⟨u, e2, r2⟩ := r.get e
      rw [e2]
      exact .cons r2 (vals_filter is r)
theorem fm_len {α β : Type} : ∀ (is : List Nat) {xs : List α} {us : List β}, xs.length = us.length → (is.filterMap (xs[·]?)).length = (is.filterMap (us[·]?)).length
  | [], _, _, _ => rfl
  | i :: is, xs, us, h => by
    rw [List.filterMap_cons, List.filterMap_cons]
    have ih := fm_len is h
    by_cases hi : i < xs.length
    · rw [List.getElem?_eq_getElem hi, List.getElem?_eq_getElem (by omega)]
      simp only [List.length_cons]
      omega
    · rw [List.getElem?_eq_none (by omega), List.getElem?_eq_none (by omega)]
      exact ih
theorem stepV_len (xs : List V) (st : Int) : (stepV xs st).length ≤ xs.length := by
  have h := slicePick_size_le (List.replicate xs.length Value.none).toArray none none (some st)
  unfold slicePick at h
  rw [List.size_toArray, List.size_toArray, List.length_replicate] at h
  have e := fm_len (stepIx st xs.length) (xs := xs) (us := List.replicate xs.length Value.none) (by simp)
  unfold stepV
  rw [e]
  have e2 : (stepIx st xs.length).filterMap ((List.replicate xs.length Value.none)[·]?) = (stepIx st xs.length).filterMap ((List.replicate xs.length Value.none).toArray[·]?) := by simp only [List.getElem?_toArray]
  rw [e2]
  exact h
def tStepL (K : PySem.W.Frag) (te ts : TE) : TE := fun σ H Q => te σ H fun x H1 => ts σ H1 fun y H2 => ∃ st, y = .int st ∧ ∃ a xs, x = .ref a ∧ (some st).getD 1 ≠ 0 ∧ (some st).isSome = true ∧ SqL K H2 a xs ∧ ∀ p, H2 p = none → Q (.ref p) (upd H2 p (.lst (stepV xs ((some st).getD 1))))
section
variable {X : Cx}
theorem pe_stepL {e es : PySem.Expr} {te ts : TE} {p3 pos : Pos} (he : PE X e te) (hs : PE X es ts) : PE X (.Subscript e (.Slice none none (some es) p3) pos) (tStepL X.K te ts) := by
  refine ⟨fun pins s σ H Q I h => ?_⟩
  refine Subscript_ (thn (he.run pins s σ H _ I h) fun v s1 ⟨x, H1, I1, r1, q1⟩ => ?_)
  refine wpAny_Slice (thn (po_none.run pins s1 σ H1 (fun o H2 => o = none ∧ H2 = H1) I1 ⟨rfl, rfl⟩) fun vl s2 ⟨l, H2, I2, pl, el, e2⟩ => ?_)
  subst el e2
  refine thn (po_none.run pins s2 σ H2 (fun o H3 => o = none ∧ H3 = H2) I2 ⟨rfl, rfl⟩) fun vu s3 ⟨u, H3, I3, pu, eu, e3⟩ => ?_
  subst eu e3
  refine thn ((po_some hs).run pins s3 σ H3 (fun o H4 => ∃ a xs, x = .ref a ∧ o.getD 1 ≠ 0 ∧ o.isSome = true ∧ SqL X.K H4 a xs ∧ ∀ p, H4 p = none → Q (.ref p) (upd H4 p (.lst (stepV xs (o.getD 1))))) I3 ?_) fun vs s4 ⟨o, H4, I4, ps, a, xs, ex, hst, ho, hx, q⟩ => ?_
  · exact q1
  obtain ⟨st, rfl⟩ := Option.isSome_iff_exists.mp ho
  subst ex
  cases r1
  have I5 : Inv X pins σ H4 { s4 with heap := s4.heap.push { cls := .type "slice", data := .fields #[vl, vu, vs] } } := I4.kept (t' := s4.toks) fun b ob q => Heap.get?_push_of_some _ q
  obtain ⟨its, r, ht, hz⟩ := I5.list hx
  have hlen := r.length
  show wpAny (model X.prog X.w) X.A (subscriptTail e (.Slice none none (some es) p3) (.ref a) (.ref s4.heap.objs.size)) (EP X pins σ Q) X.xe { s4 with heap := s4.heap.push { cls := .type "slice", data := .fields #[vl, vu, vs] } }
  refine tail_any (ops := [.ref a, .ref s4.heap.objs.size]) ht.isList.typeIs (PySem.slot_list_getitem.lookup) ?_ (by with_unfolding_all rfl)
  refine wpAny_getItem_list_slice ht.isList (Heap.IsSliceOf.new _ vl vu vs) pl pu ps (fun z => hst (Option.some.inj z)) ?_ (by rw [List.size_toArray]; omega)
  refine ⟨.ref _, _, I5.laid (t' := s4.toks) (o := .lst (stepV xs st)) (fun b ob q => Heap.get?_push_of_some _ q) (Nat.le_refl _) ?_, rfl, q _ (I5.hok.fresh (Nat.le_refl _))⟩
  have r2 : Vals (stepV xs st) ((stepIx st xs.length).filterMap (its[·]?)) := vals_filter _ r
  refine ⟨?_, _, 0, r2, ?_⟩
  · have h1 := r2.length
    have h2 := slicePick_size_le its.toArray none none (some st)
    have h3 : slicePick its.toArray none none (some st) = ((stepIx st its.length).filterMap (its[·]?)).toArray := by
      unfold slicePick stepIx
      rw [List.size_toArray]
      simp
    rw [h3, List.size_toArray, List.size_toArray] at h2
    rw [hlen] at h1
    show (stepV xs st).length ≤ sizeLine
    omega
  · rw [Heap.get?_push_size _ rfl]
    have h3 : slicePick its.toArray none none (some st) = ((stepIx st its.length).filterMap (its[·]?)).toArray := by
      unfold slicePick stepIx
      rw [List.size_toArray]
      simp
    rw [h3, hlen]
end
end Nm
set_option maxRecDepth 100000
set_option maxHeartbeats 4000000
namespace Nm
open PySem L2
theorem Kp.seq {K : PySem.W.Frag} {s c a : Addr} {H H' : Hp} {xs : List V} (e : Kp s c H H') (h1 : a ≠ s) (h2 : a ≠ c) (h : SqL K H a xs) : SqL K H' a xs := by
  rcases h with (h | ⟨o, h⟩) | h
  · exact .inl (.inl (e _ _ h h1 h2))
  · exact .inl (.inr ⟨o, e _ _ h h1 h2⟩)
  · exact .inr h
theorem merge_src {c : Addr} {l m t : Int} : mergeK [] (srcD c l m t) = srcD c l m t := by
  unfold mergeK srcD
  simp [putK, k1, k2, k3, k4, k5, k6]
section
variable {P : Program} {w : World} {K : PySem.W.Frag} {mg : Str → Option Value} {base : Heap}
/-! ### _law_choice_of -/
def spChoice (K : PySem.W.Frag) : Sp := fun vs H Q _ => ∃ (s c a : Addr) (xs : List V), vs = [.ref s, .ref a] ∧ Src H s c ∧ a ≠ s ∧ a ≠ c ∧ SqL K H a xs ∧ 1 ≤ xs.length ∧ xs.length ≤ 1000 ∧
  ∀ (v : V) (H' : Hp), v ∈ xs → Src H' s c → Kp s c H H' → Q v H'
theorem scChoice : FnScope ["_law_source", "_law_items"] ["_law_source", "_law_items"] (defScope sChoiceOf) := ⟨rfl, rfl, rfl, by decide +kernel, rfl, by decide +kernel, by decide +kernel⟩
theorem ok_choice {f : Addr} {fd : FuncData} (F : Fun K "_law_choice_of" "_law_choice_of" sChoiceOf f fd) (T : TxtB mg) (Gp : Def P w K mg base "_law_pick" ["_law_source", "_law_many"] 1 spPick) : FnOk P w K mg base CX0 2 f fd ["_law_source", "_law_items"] (spChoice K) := by
  obtain ⟨fp, fdp, Gp, mp, kp, bp⟩ := Gp.ex
  refine F.ok scChoice (fun vs H Q E h => ?_) (fun cdv A outer s H vs Q E hr h => ?_)
  · obtain ⟨p, dx, n, xs, rfl, _⟩ := h
    rfl
  · obtain ⟨sa, ca, ia, xs, rfl, S, n1, n2, hx, hl1, hl, k⟩ := h
    refine ⟨_, pss_one (ps_ret (pe_ix ix_list (pv 1) (pe_call Gp hr (by rfl) mp kp bp .nil pass0 (pa_cons (pv 0) (pa_cons (pe_callB call_len_seq (by rfl) T.len PySem.boot_len (pa_cons (pv 1) pa_nil)) pa_nil))) (fun _ _ => rfl))), ?_⟩
    refine ⟨_, rfl, _, rfl, _, rfl, ia, _, rfl, .inl hx, sa, ca, _, rfl, S, by omega, by omega, fun kk H2 k0 k1 S2 kp2 => ?_⟩
    obtain ⟨v, hv⟩ : ∃ v, xs[kk.toNat]? = some v := ⟨_, List.getElem?_eq_getElem (by omega)⟩
    refine ⟨ia, xs, kk, v, rfl, rfl, kp2.seq n1 n2 hx, ?_, k v H2 (List.mem_of_getElem? hv) S2 kp2⟩
    have := atI_nat hv
    rw [Int.toNat_of_nonneg k0] at this
    exact this
/-! ### _law_open_cells -/
def spOpen (K : PySem.W.Frag) : Sp := fun vs H Q _ => ∃ (a : Addr) (ns : List Int), vs = [.ref a] ∧ SqL K H a (ns.map V.int) ∧ ns.length ≤ 63 ∧
  ∀ (s c : Addr) (H' : Hp), H s = none → H c = none → Src H' s c → Same H H' → Q (.ref s) H'
theorem scOpen : FnScope ["_law_script", "_law_mixed", "_law_cell", "_law_cells"] ["_law_script"] (defScope sOpenCells) := ⟨rfl, rfl, rfl, by decide +kernel, rfl, by decide +kernel, by decide +kernel⟩
theorem ok_open {f : Addr} {fd : FuncData} (F : Fun K "_law_open_cells" "_law_open_cells" sOpenCells f fd) (T : TxtB mg) : FnOk P w K mg base CX0 1 f fd ["_law_script"] (spOpen K) := by
  refine F.ok scOpen (fun vs H Q E h => ?_) (fun cdv A outer s H vs Q E hr h => ?_)
  · obtain ⟨p, dx, rfl, _⟩ := h
    rfl
  · obtain ⟨sa, ns, rfl, hx, hl, k⟩ := h
    refine ⟨_, pss_cons (ps_set (i := 1) scOpen.nd rfl (Or.inl rfl) pe_int)
      (pss_cons (ps_for PassesOwn.never rfl (pi_list (pv 0)) (pg_name (i := 2) scOpen.nd rfl (Or.inl rfl))
        (pss_one (ps_set (i := 1) scOpen.nd rfl (Or.inl rfl) (pe_op op_mod (pe_callTy call_int1 (by rfl) T.int (by decide +kernel) (pa_cons (pe_op op_add (pe_op op_add (pe_op op_mul (pv 1) pe_int) (pe_op op_mul (pv 2) pe_int)) pe_int) pa_nil)) pe_int))))
      (pss_cons (ps_setLc (i := 3) (own := [("_law_cell", 2)]) (g := gName 2) (tt := tYes) rfl scOpen.nd rfl rfl (sw_true rfl rfl rfl (by decide +kernel)) (pi_list (pv 0))
        (blkOk_by (N := ["_law_script", "_law_mixed", "_law_cell", "_law_cells"]) (sc := defScope sOpenCells) (by decide +kernel)) (fun _ _ _ _ _ => pg_name (i := 2) scOpen.nd rfl (Or.inl rfl)) (fun _ _ _ _ _ => pts_nil)
        (fun _ _ _ _ _ => pe_callB call_abs (by rfl) T.abs (by decide +kernel) (pa_cons (pv 2) pa_nil)))
      (pss_one (ps_ret (pe_disp (pps_cons pe_str (pe_revL (pv 3)) (pps_cons pe_str pe_int (pps_cons pe_str (pv 1) (pps_cons pe_str pe_int pps_nil)))) (by rfl) (by rfl) (fun z => by cases z) (by decide)))))), ?_⟩
    refine ⟨_, rfl, sa, rfl, ⟨_, hx⟩, ?_⟩
    refine for_list (xs := ns.map V.int) (fun i σ H' => H' = H ∧ ∃ (m : Int) (v : Option V), 0 ≤ m ∧ m < 2147483629 ∧ σ = [some (.ref sa), some (.int m), v, none]) ⟨rfl, 11, none, by decide, by decide, rfl⟩ (fun i σ H' _ h => by rw [h.1]; exact hx) ?_ ?_
    · rintro i x σ H' hi ⟨rfl, m, v, m0, m1, rfl⟩
      rw [List.getElem?_map] at hi
      obtain ⟨y, _, rfl⟩ := Option.map_eq_some_iff.mp hi
      refine ⟨_, rfl, _, _, rfl, rfl, .inr ⟨by decide, by decide⟩, _, rfl, _, _, rfl, rfl, .inr ⟨by decide, by decide⟩, _, _, rfl, rfl, _, _, rfl, rfl, .inl ⟨_, rfl, _, _, rfl, rfl, (by show (0 : Int) < 2147483629; decide), ?_⟩⟩
      exact ⟨rfl, _, some (.int y), Int.emod_nonneg _ (by decide), Int.emod_lt_of_pos _ (by decide), rfl⟩
    · rintro σ H' ⟨rfl, m, v, m0, m1, rfl⟩
      refine ⟨_, rfl, sa, rfl, ⟨_, hx⟩, fun D hD => ?_⟩
      refine lc_list (xs := ns.map V.int) (fun i H1 => Same H' H1 ∧ ∃ cs : List Int, cs.length = i ∧ (∀ x ∈ cs, 0 ≤ x) ∧ H1 D = some (.lst (cs.map V.int))) ⟨same_new hD, [], rfl, by simp, upd_same⟩ (fun i H1 _ h => h.1.seq hx) ?_ ?_
      · rintro i x H1 hi ⟨sm, cs, hcl, hc0, hcD⟩
        have hil := (List.getElem?_eq_some_iff.mp hi).1
        rw [List.length_map] at hil
        rw [List.getElem?_map] at hi
        obtain ⟨y, _, rfl⟩ := Option.map_eq_some_iff.mp hi
        refine ⟨rfl, tyes ?_⟩
        refine ⟨_, rfl, y, rfl, _, hcD, Evl.sz_lt (by rw [List.length_map]; omega), ?_, cs ++ [if y < 0 then -y else y], by simp [hcl], ?_, by rw [upd_same, List.map_append]; rfl⟩
        · intro b o e
          rw [upd_ne (ne_of_none e hD)]
          exact sm b o e
        · intro x hx
          rcases List.mem_append.mp hx with h | h
          · exact hc0 x h
          · rw [List.mem_singleton] at h
            subst h
            split <;> omega
      · rintro H1 ⟨sm, cs, hcl, hc0, hcD⟩
        rw [List.length_map] at hcl
        intro p hp
        have hp0 : H' p = none := sm.free hp
        refine ⟨_, rfl, D, _, rfl, SqL.of (by rw [upd_ne (ne_of_none hcD hp)]; exact hcD), fun q hq => ?_⟩
        have hqp : q ≠ p := fun e => by subst e; rw [upd_same] at hq; cases hq
        have hq1 : H1 q = none := by rw [upd_ne hqp] at hq; exact hq
        have hq0 : H' q = none := sm.free hq1
        refine ⟨_, rfl, by rw [upd_ne hqp.symm, upd_same], srcD q 1 m 0, rfl, (by show 4 ≤ 15; decide), ?_⟩
        rw [merge_src]
        refine k p q _ hp0 hq0 ⟨cs.reverse, 1, m, 0, ⟨upd_same, by rw [upd_ne hqp, upd_same, List.map_reverse], fun x hx => hc0 x (List.mem_reverse.mp hx), by rw [List.length_reverse]; omega, by decide, m0, m1, by decide⟩⟩ fun b o e => ?_
        rw [upd_ne (ne_of_none e hp0), upd_ne (ne_of_none e hq0), upd_ne (ne_of_none e hp0)]
        exact sm b o e
end
end Nm
set_option maxRecDepth 100000
set_option maxHeartbeats 4000000
namespace Nm
open PySem L2
/-- each of xs is a pair of numbers i < j below n -/
def PairsAt (n : Int) (H : Hp) (xs : List V) : Prop := ∀ v ∈ xs, ∃ t i j, v = V.ref t ∧ H t = some (.tup [.int i, .int j]) ∧ 0 ≤ i ∧ i < j ∧ j < n
theorem PairsAt.same {n : Int} {H H' : Hp} {xs : List V} (h : PairsAt n H xs) (e : Same H H') : PairsAt n H' xs := fun v hv => by
  obtain ⟨t, i, j, a, b, c⟩ := h v hv
  exact ⟨t, i, j, a, e _ _ b, c⟩
theorem PairsAt.kp {n : Int} {H H' : Hp} {xs : List V} {s c : Addr} (h : PairsAt n H xs) (S : Src H s c) (e : Kp s c H H') : PairsAt n H' xs := fun v hv => by
  obtain ⟨t, i, j, a, b, r⟩ := h v hv
  obtain ⟨cs, l, m, tt, S⟩ := S
  exact ⟨t, i, j, a, e _ _ b (ne_of b S.ds (by intro z; cases z)) (ne_of b S.dc (by intro z; cases z)), r⟩
theorem PairsAt.snoc {n : Int} {H : Hp} {xs : List V} {t : Addr} {i j : Int} (h : PairsAt n H xs) (e : H t = some (.tup [.int i, .int j])) (h0 : 0 ≤ i) (h1 : i < j) (h2 : j < n) : PairsAt n H (xs ++ [.ref t]) := fun v hv => by
  rcases List.mem_append.mp hv with q | q
  · exact h v q
  · rw [List.mem_singleton] at q
    exact ⟨t, i, j, q, e, h0, h1, h2⟩
theorem PairsAt.sub {n : Int} {H : Hp} {xs ys : List V} (h : PairsAt n H xs) (e : ∀ v ∈ ys, v ∈ xs) : PairsAt n H ys := fun v hv => h v (e v hv)
theorem sq_le {n : Int} (h1 : 1 ≤ n) (h2 : n ≤ 7) : 1 ≤ n * n ∧ n * n ≤ 49 := by
  have h : n = 1 ∨ n = 2 ∨ n = 3 ∨ n = 4 ∨ n = 5 ∨ n = 6 ∨ n = 7 := by omega
  rcases h with rfl | rfl | rfl | rfl | rfl | rfl | rfl <;> decide
section
variable {P : Program} {w : World} {K : PySem.W.Frag} {mg : Str → Option Value} {base : Heap}
/-! ### _law_shape_pairs -/
def spShape : Sp := fun vs H Q _ => ∃ (s c : Addr) (n : Int), vs = [.ref s, .int n] ∧ Src H s c ∧ 1 ≤ n ∧ n ≤ 7 ∧
  ∀ (p : Addr) (xs : List V) (H' : Hp), H p = none → H' p = some (.lst xs) → PairsAt n H' xs → xs.length ≤ 100 → Src H' s c → Kp s c H H' → Q (.ref p) H'
abbrev nShape : List Str := ["_law_source", "_law_count", "_law_every", "_law_road", "_law_rows", "_law_n", "_law_pair", "_law_k"]
theorem scShape : FnScope nShape ["_law_source", "_law_count"] (defScope sShapePairs) := ⟨rfl, rfl, rfl, by decide +kernel, rfl, by decide +kernel, by decide +kernel⟩
theorem ok_shape {f : Addr} {fd : FuncData} (F : Fun K "_law_shape_pairs" "_law_shape_pairs" sShapePairs f fd) (T : TxtB mg) (Gp : Def P w K mg base "_law_pick" ["_law_source", "_law_many"] 1 spPick) : FnOk P w K mg base CX0 2 f fd ["_law_source", "_law_count"] spShape := by
  obtain ⟨fp, fdp, Gp, mp, kp, bp⟩ := Gp.ex
  refine F.ok scShape (fun vs H Q E h => ?_) (fun cdv A outer s H vs Q E hr h => ?_)
  · obtain ⟨p, dx, n, rfl, _⟩ := h
    rfl
  · obtain ⟨sa, ca, n, rfl, S, n1, n2, k⟩ := h
    refine ⟨_, pss_cons (ps_setLc (i := 2) (own := [("_law_n", 5)]) (g := gName 5) rfl scShape.nd rfl rfl (sw_true rfl rfl rfl (by decide +kernel)) (pi_range1 (by rfl) T.range (pa_cons (pe_op op_mul (pv 1) (pv 1)) pa_nil))
        (blkOk_by (N := nShape) (sc := defScope sShapePairs) (by decide +kernel)) (fun _ _ _ _ _ => pg_name (i := 5) scShape.nd rfl (Or.inl rfl))
        (fun _ _ _ _ _ => pts_one (pt_cmpR op_lt (pe_callTy call_int1 (by rfl) T.int (by decide +kernel) (pa_cons (pe_op op_fdiv (pv 5) (pv 1)) pa_nil)) (pe_op op_mod (pe_callTy call_int1 (by rfl) T.int (by decide +kernel) (pa_cons (pv 5) pa_nil)) (pv 1)) (nomark _)))
        (fun _ _ _ _ _ => pe_tup (pa_cons (pe_callTy call_int1 (by rfl) T.int (by decide +kernel) (pa_cons (pe_op op_fdiv (pv 5) (pv 1)) pa_nil)) (pa_cons (pe_op op_mod (pe_callTy call_int1 (by rfl) T.int (by decide +kernel) (pa_cons (pv 5) pa_nil)) (pv 1)) pa_nil))))
      (pss_cons (ps_set (i := 3) scShape.nd rfl (Or.inl rfl) (pe_call Gp hr (by rfl) mp kp bp .nil pass0 (pa_cons (pv 0) (pa_cons pe_int pa_nil))))
      (pss_cons (ps_if (pt_cmpR op_eq (pv 3) pe_int (nomark _)) (pss_one (ps_ret (pe_lc (own := [("_law_pair", 6)]) (g := gName 6) rfl scShape.nd (pi_list (pv 2))
          (blkOk_by (N := nShape) (sc := defScope sShapePairs) (by decide +kernel)) (fun _ _ _ _ _ => pg_name (i := 6) scShape.nd rfl (Or.inl rfl))
          (fun _ _ _ _ _ => pts_one (by exact pt_cmpR op_eq (pe_call Gp hr (by rfl) mp kp bp .nil pass0 (pa_cons (pv 0) (pa_cons pe_int pa_nil))) pe_int (nomark _))) (fun _ _ _ _ _ => pv 6)))) pss_nil)
      (pss_cons (ps_if (pt_cmpR op_eq (pv 3) pe_int (nomark _)) (pss_one (ps_ret (pe_lc (own := [("_law_pair", 6)]) (g := gName 6) rfl scShape.nd (pi_list (pv 2))
          (blkOk_by (N := nShape) (sc := defScope sShapePairs) (by decide +kernel)) (fun _ _ _ _ _ => pg_name (i := 6) scShape.nd rfl (Or.inl rfl))
          (fun _ _ _ _ _ => pts_one (by exact pt_cmpR op_gt (pe_call Gp hr (by rfl) mp kp bp .nil pass0 (pa_cons (pv 0) (pa_cons pe_int pa_nil))) pe_int (nomark _))) (fun _ _ _ _ _ => pv 6)))) pss_nil)
      (pss_cons (ps_if (pt_cmpR op_eq (pv 3) pe_int (nomark _)) (pss_one (ps_ret (pv 2))) pss_nil)
      (pss_cons (ps_setLc (i := 4) (own := [("_law_k", 7)]) (g := gName 7) (tt := tYes) rfl scShape.nd rfl rfl (sw_true rfl rfl rfl (by decide +kernel)) (pi_range1 (by rfl) T.range (pa_cons (pe_op op_sub (pv 1) pe_int) pa_nil))
        (blkOk_by (N := nShape) (sc := defScope sShapePairs) (by decide +kernel)) (fun _ _ _ _ _ => pg_name (i := 7) scShape.nd rfl (Or.inl rfl)) (fun _ _ _ _ _ => pts_nil)
        (fun _ _ _ _ _ => pe_tup (pa_cons (pv 7) (pa_cons (pe_op op_add (pv 7) pe_int) pa_nil))))
      (Evl.pss_cut (ps_if (PW.pt (pw_and (pt_cmpR op_eq (pv 3) pe_int (nomark _)) (pw_and1 (pt_cmpR op_gt (pv 1) pe_int (nomark _))))) (pss_one (ps_ret (pe_op op_cat (pv 4) (pe_lst (pa_cons (pe_tup (pa_cons pe_int (pa_cons (pe_op op_sub (pv 1) pe_int) pa_nil))) pa_nil))))) pss_nil)
      (pss_cons (ps_if (pt_cmpR op_eq (pv 3) pe_int (nomark _)) (pss_one (ps_ret (pe_lc (own := [("_law_k", 7)]) (g := gName 7) (tt := tYes) rfl scShape.nd (pi_range2 (by rfl) T.range (pa_cons pe_int (pa_cons (pv 1) pa_nil)))
          (blkOk_by (N := nShape) (sc := defScope sShapePairs) (by decide +kernel)) (fun _ _ _ _ _ => pg_name (i := 7) scShape.nd rfl (Or.inl rfl)) (fun _ _ _ _ _ => pts_nil)
          (fun _ _ _ _ _ => pe_tup (pa_cons pe_int (pa_cons (pv 7) pa_nil)))))) pss_nil)
      (pss_one (ps_ret (pe_stepL (pv 4) (pe_op op_add pe_int (pe_callTy call_int1 (by rfl) T.int (by decide +kernel) (pa_cons (pe_cmpR op_eq (pv 3) pe_int (nomark _)) pa_nil))))))))))))), ?_⟩
    obtain ⟨q1, q2⟩ := sq_le n1 n2
    refine ⟨_, rfl, _, rfl, _, _, rfl, rfl, .inl ⟨by show -(2 ^ 64 : Int) < _; omega, by show _ < (2 ^ 64 : Int); omega⟩, _, rfl, by omega, by omega, fun D hD => ?_⟩
    refine lc_range (lo := 0) (n := (n * n).toNat) (fun i H' => ∃ xs, H' D = some (.lst xs) ∧ xs.length ≤ i ∧ PairsAt n H' xs ∧ Same H H') ⟨[], upd_same, Nat.le_refl _, (fun v hv => by cases hv), same_new hD⟩ ?_ ?_
    · rintro i H1 hi ⟨xs, hxD, hxl, hxp, sm⟩
      refine ⟨rfl, ?_⟩
      refine ⟨_, rfl, _, rfl, _, _, rfl, rfl, ⟨by omega, by omega⟩, .inl ⟨_, rfl, _, rfl, .inl ⟨_, rfl, _, rfl, _, _, rfl, rfl, by omega, _, _, rfl, rfl, _, rfl, ?_⟩⟩⟩
      refine ite2 (fun hlt => ?_) (fun hlt => ⟨xs, hxD, by omega, hxp, sm⟩)
      refine ⟨_, rfl, _, rfl, _, _, rfl, rfl, ⟨by omega, by omega⟩, .inl ⟨_, rfl, _, rfl, .inl ⟨_, rfl, _, rfl, _, _, rfl, rfl, by omega, (by show 2 ≤ sizeLine; decide), fun t ht => ?_⟩⟩⟩
      have hlt' := of_decide_eq_true hlt
      refine ⟨xs, by rw [upd_ne (ne_of_none hxD ht)]; exact hxD, Evl.sz_lt (by omega), xs ++ [.ref t], upd_same, by simp; omega, ?_, ?_⟩
      · have hDt : t ≠ D := fun e => by subst e; rw [ht] at hxD; cases hxD
        refine PairsAt.snoc (i := (0 + (i : Int)) / n) (j := (0 + (i : Int)) % n) ?_ (by rw [upd_ne hDt, upd_same]) (Int.ediv_nonneg (by omega) (by omega)) hlt' (Int.emod_lt_of_pos _ (by omega))
        refine fun v hv => ?_
        obtain ⟨u, i', j', a, b, r⟩ := hxp v hv
        refine ⟨u, i', j', a, ?_, r⟩
        rw [upd_ne (ne_of b hxD (by intro z; cases z)), upd_ne (ne_of_none b ht)]
        exact b
      · intro b o e
        have := sm b o e
        rw [upd_ne (ne_of_none e hD), upd_ne (ne_of_none this ht)]
        exact this
    rintro H1 ⟨xs, hxD, hxl, hxp, sm⟩
    have S1 := S.same sm
    have hxl' : xs.length ≤ 49 := by omega
    obtain ⟨nDs, nDc⟩ := S.ne hD
    -- road
    refine ⟨_, rfl, sa, ca, 7, rfl, S1, by decide, by decide, fun road H2 r0 r1 S2 kp2 => ?_⟩
    have hxD2 := kp2 _ _ hxD nDs nDc
    have hxp2 := hxp.kp S1 kp2
    have kp02 : Kp sa ca H H2 := (Kp.same sm).trans kp2
    -- a part of every, by draws
    refine ⟨_, rfl, rfl, _, rfl, ?_⟩
    refine ite2 (fun h0 => ?_) (fun h0 => ?_)
    · refine ⟨_, rfl, D, rfl, ⟨xs, SqL.of hxD2⟩, fun E hE => ?_⟩
      obtain ⟨nEs, nEc⟩ := S2.ne hE
      refine lc_list (xs := xs) (fun i H' => ∃ ys, H' E = some (.lst ys) ∧ ys.length ≤ i ∧ (∀ v ∈ ys, v ∈ xs) ∧ H' D = some (.lst xs) ∧ PairsAt n H' xs ∧ Src H' sa ca ∧ Kp sa ca H2 H') ⟨[], upd_same, Nat.le_refl _, (fun v hv => by cases hv), by rw [upd_ne (ne_of_none hxD2 hE)]; exact hxD2, hxp2.same (same_new hE), S2.new hE, (Kp.refl H2).off hE⟩ (fun i H' _ ⟨ys, _, _, _, h, _⟩ => SqL.of h) ?_ ?_
      · rintro i x H3 hi ⟨ys, hyE, hyl, hyx, hxD3, hxp3, S3, kp3⟩
        have hil := (List.getElem?_eq_some_iff.mp hi).1
        refine ⟨rfl, ?_⟩
        refine ⟨_, rfl, sa, ca, 3, rfl, S3, by decide, by decide, fun kk H4 k0 k1 S4 kp4 => ⟨rfl, _, rfl, ?_⟩⟩
        have hyE4 := kp4 _ _ hyE nEs nEc
        have hxD4 := kp4 _ _ hxD3 nDs nDc
        have hxp4 := hxp3.kp S3 kp4
        refine ite2 (fun _ => ?_) (fun _ => ⟨ys, hyE4, by omega, hyx, hxD4, hxp4, S4, kp3.trans kp4⟩)
        have hDE : D ≠ E := ne_of_none hxD2 hE
        refine ⟨_, rfl, ys, hyE4, Evl.sz_lt (by omega), ys ++ [x], upd_same, by simp; omega, ?_, by rw [upd_ne hDE]; exact hxD4, ?_, S4.upd nEs nEc, (kp3.trans kp4).off hE⟩
        · intro v hv
          rcases List.mem_append.mp hv with q | q
          · exact hyx v q
          · rw [List.mem_singleton] at q
            subst q
            exact List.mem_of_getElem? hi
        · refine fun v hv => ?_
          obtain ⟨u, i', j', a, b, r⟩ := hxp4 v hv
          refine ⟨u, i', j', a, ?_, r⟩
          rw [upd_ne (ne_of b hyE4 (by intro z; cases z))]
          exact b
      · rintro H3 ⟨ys, hyE, hyl, hyx, hxD3, hxp3, S3, kp3⟩
        exact k E ys H3 (kp02.free S2 hE) hyE (hxp3.sub hyx) (by omega) S3 (kp02.trans kp3)
    refine ⟨_, rfl, rfl, _, rfl, ?_⟩
    refine ite2 (fun h1 => ?_) (fun h1 => ?_)
    · refine ⟨_, rfl, D, rfl, ⟨xs, SqL.of hxD2⟩, fun E hE => ?_⟩
      obtain ⟨nEs, nEc⟩ := S2.ne hE
      refine lc_list (xs := xs) (fun i H' => ∃ ys, H' E = some (.lst ys) ∧ ys.length ≤ i ∧ (∀ v ∈ ys, v ∈ xs) ∧ H' D = some (.lst xs) ∧ PairsAt n H' xs ∧ Src H' sa ca ∧ Kp sa ca H2 H') ⟨[], upd_same, Nat.le_refl _, (fun v hv => by cases hv), by rw [upd_ne (ne_of_none hxD2 hE)]; exact hxD2, hxp2.same (same_new hE), S2.new hE, (Kp.refl H2).off hE⟩ (fun i H' _ ⟨ys, _, _, _, h, _⟩ => SqL.of h) ?_ ?_
      · rintro i x H3 hi ⟨ys, hyE, hyl, hyx, hxD3, hxp3, S3, kp3⟩
        have hil := (List.getElem?_eq_some_iff.mp hi).1
        refine ⟨rfl, ?_⟩
        refine ⟨_, rfl, sa, ca, 3, rfl, S3, by decide, by decide, fun kk H4 k0 k1 S4 kp4 => ⟨_, _, rfl, rfl, _, rfl, ?_⟩⟩
        have hyE4 := kp4 _ _ hyE nEs nEc
        have hxD4 := kp4 _ _ hxD3 nDs nDc
        have hxp4 := hxp3.kp S3 kp4
        refine ite2 (fun _ => ?_) (fun _ => ⟨ys, hyE4, by omega, hyx, hxD4, hxp4, S4, kp3.trans kp4⟩)
        have hDE : D ≠ E := ne_of_none hxD2 hE
        refine ⟨_, rfl, ys, hyE4, Evl.sz_lt (by omega), ys ++ [x], upd_same, by simp; omega, ?_, by rw [upd_ne hDE]; exact hxD4, ?_, S4.upd nEs nEc, (kp3.trans kp4).off hE⟩
        · intro v hv
          rcases List.mem_append.mp hv with q | q
          · exact hyx v q
          · rw [List.mem_singleton] at q
            subst q
            exact List.mem_of_getElem? hi
        · refine fun v hv => ?_
          obtain ⟨u, i', j', a, b, r⟩ := hxp4 v hv
          refine ⟨u, i', j', a, ?_, r⟩
          rw [upd_ne (ne_of b hyE4 (by intro z; cases z))]
          exact b
      · rintro H3 ⟨ys, hyE, hyl, hyx, hxD3, hxp3, S3, kp3⟩
        exact k E ys H3 (kp02.free S2 hE) hyE (hxp3.sub hyx) (by omega) S3 (kp02.trans kp3)
    refine ⟨_, rfl, rfl, _, rfl, ?_⟩
    refine ite2 (fun h2 => ?_) (fun h2 => ?_)
    · exact ⟨_, rfl, k D xs H2 hD hxD2 hxp2 (by omega) S2 kp02⟩
    -- rows
    refine ⟨_, rfl, _, _, rfl, rfl, _, rfl, by omega, by omega, fun R hR => ?_⟩
    refine lc_range (lo := 0) (n := (n - 1).toNat) (fun i H' => ∃ ys, H' R = some (.lst ys) ∧ ys.length ≤ i ∧ PairsAt n H' ys ∧ Same H2 H') ⟨[], upd_same, Nat.le_refl _, (fun v hv => by cases hv), same_new hR⟩ ?_ ?_
    · rintro i H3 hi ⟨ys, hyR, hyl, hyp, sm3⟩
      refine ⟨rfl, tyes ?_⟩
      refine ⟨_, rfl, _, rfl, _, _, rfl, rfl, (by show 2 ≤ sizeLine; decide), fun t ht => ?_⟩
      refine ⟨ys, by rw [upd_ne (ne_of_none hyR ht)]; exact hyR, Evl.sz_lt (by omega), ys ++ [.ref t], upd_same, by simp; omega, ?_, ?_⟩
      · have hDt : t ≠ R := fun e => by subst e; rw [ht] at hyR; cases hyR
        refine PairsAt.snoc (i := 0 + (i : Int)) (j := 0 + (i : Int) + 1) ?_ (by rw [upd_ne hDt, upd_same]) (by omega) (by omega) (by omega)
        refine fun v hv => ?_
        obtain ⟨u, i', j', a, b, r⟩ := hyp v hv
        refine ⟨u, i', j', a, ?_, r⟩
        rw [upd_ne (ne_of b hyR (by intro z; cases z)), upd_ne (ne_of_none b ht)]
        exact b
      · intro b o e
        have := sm3 b o e
        rw [upd_ne (ne_of_none e hR), upd_ne (ne_of_none this ht)]
        exact this
    rintro H3 ⟨ys, hyR, hyl, hyp, sm3⟩
    have hR0 : H R = none := kp02.free S2 hR
    have S3 := S2.same sm3
    have kp03 : Kp sa ca H H3 := kp02.trans (Kp.same sm3)
    refine ⟨fun σ H' => σ = [some (.ref sa), some (.int n), some (.ref D), some (.int road), some (.ref R), none, none, none] ∧ H' = H3, ?_, ?_⟩
    · refine ⟨_, rfl, rfl, _, rfl, ?_⟩
      refine ite2 (fun h3 => ?_) (fun h3 => iteF ⟨rfl, rfl⟩)
      refine ⟨_, rfl, _, _, rfl, rfl, _, rfl, ?_⟩
      refine ite2 (fun h4 => ?_) (fun h4 => ⟨rfl, rfl⟩)
      have hn2 := of_decide_eq_true h4
      refine ⟨_, rfl, _, rfl, _, _, rfl, rfl, (by show 2 ≤ sizeLine; decide), fun t ht => ?_⟩
      refine ⟨(by show 1 ≤ sizeLine; decide), fun l hl => ?_⟩
      have hlt : l ≠ t := fun e => by subst e; rw [upd_same] at hl; cases hl
      have hRt : R ≠ t := ne_of_none hyR ht
      have hl3 : H3 l = none := by rw [upd_ne hlt] at hl; exact hl
      have hRl : R ≠ l := ne_of_none hyR hl3
      refine ⟨R, l, _, _, rfl, rfl, (by rw [upd_ne hRl, upd_ne hRt]; exact hyR), upd_same, ?_, fun p hp => ?_⟩
      · show ys.length + 1 ≤ sizeLine
        exact Evl.sz_of (by omega)
      · have hpl : p ≠ l := fun e => by subst e; rw [upd_same] at hp; cases hp
        rw [upd_ne hpl] at hp
        have hpt : p ≠ t := fun e => by subst e; rw [upd_same] at hp; cases hp
        rw [upd_ne hpt] at hp
        have sm4 : Same H3 (upd (upd (upd H3 t (.tup [.int 0, .int (n - 1)])) l (.lst [.ref t])) p (.lst (ys ++ [.ref t]))) := fun b o e => by
          rw [upd_ne (ne_of_none e hp), upd_ne (ne_of_none e hl3), upd_ne (ne_of_none e ht)]
          exact e
        refine k p _ _ (kp03.free S3 hp) upd_same ?_ (by simp; omega) (S3.same sm4) (kp03.trans (Kp.same sm4))
        refine PairsAt.snoc (i := 0) (j := n - 1) (hyp.same sm4) (by rw [upd_ne hpt.symm, upd_ne hlt.symm, upd_same]) (by omega) (by omega) (by omega)
    rintro σ H' ⟨rfl, rfl⟩
    refine ⟨_, rfl, rfl, _, rfl, ?_⟩
    refine ite2 (fun h3 => ?_) (fun h3 => ?_)
    · refine ⟨_, rfl, _, _, rfl, by omega, fun E hE => ?_⟩
      refine lc_range (lo := 1) (n := (n - 1).toNat) (fun i H3 => ∃ zs, H3 E = some (.lst zs) ∧ zs.length ≤ i ∧ PairsAt n H3 zs ∧ Same H' H3) ⟨[], upd_same, Nat.le_refl _, (fun v hv => by cases hv), same_new hE⟩ ?_ ?_
      · rintro i H4 hi ⟨zs, hzE, hzl, hzp, sm4⟩
        refine ⟨rfl, tyes ?_⟩
        refine ⟨_, rfl, (by show 2 ≤ sizeLine; decide), fun t ht => ?_⟩
        refine ⟨zs, by rw [upd_ne (ne_of_none hzE ht)]; exact hzE, Evl.sz_lt (by omega), zs ++ [.ref t], upd_same, by simp; omega, ?_, ?_⟩
        · have hDt : t ≠ E := fun e => by subst e; rw [ht] at hzE; cases hzE
          refine PairsAt.snoc (i := 0) (j := 1 + (i : Int)) ?_ (by rw [upd_ne hDt, upd_same]) (by omega) (by omega) (by omega)
          refine fun v hv => ?_
          obtain ⟨u, i', j', a, b, r⟩ := hzp v hv
          refine ⟨u, i', j', a, ?_, r⟩
          rw [upd_ne (ne_of b hzE (by intro z; cases z)), upd_ne (ne_of_none b ht)]
          exact b
        · intro b o e
          have := sm4 b o e
          rw [upd_ne (ne_of_none e hE), upd_ne (ne_of_none this ht)]
          exact this
      · rintro H4 ⟨zs, hzE, hzl, hzp, sm4⟩
        exact k E zs H4 (kp03.free S3 hE) hzE hzp (by omega) (S3.same sm4) (kp03.trans (Kp.same sm4))
    · refine ⟨_, rfl, _, rfl, rfl, .inr ⟨_, rfl, _, _, rfl, rfl, _, rfl, R, ys, rfl, ?_, rfl, SqL.of hyR, fun p hp => ?_⟩⟩
      · show (1 + (if decide (V.int road = V.int 5) = true then (1 : Int) else 0)) ≠ 0
        split <;> decide
      · have sm4 := same_new (o := .lst (stepV ys ((some (1 + (if decide (V.int road = V.int 5) = true then (1 : Int) else 0))).getD 1))) hp
        refine k p _ _ (kp03.free S3 hp) upd_same ((hyp.same sm4).sub fun v hv => stepV_mem hv) ?_ (S3.same sm4) (kp03.trans (Kp.same sm4))
        exact Nat.le_trans (stepV_len _ _) (by omega)
end
end Nm
set_option maxRecDepth 100000
set_option maxHeartbeats 4000000
namespace Nm
open PySem L2
theorem nx {H : Hp} {p q : Addr} {o : HO} (h : upd H p o q = none) : q ≠ p ∧ H q = none := by
  by_cases e : q = p
  · subst e; rw [upd_same] at h; cases h
  · rw [upd_ne e] at h; exact ⟨e, h⟩
def strOf : V → Str
  | .str x => x
  | _ => ""
def intOf : V → Int
  | .int x => x
  | _ => 0
theorem perm_str {ys : List V} {xs : List Str} (h : ys.Perm (xs.map V.str)) : ∃ zs : List Str, ys = zs.map V.str ∧ zs.Perm xs := by
  refine ⟨ys.map strOf, ?_, ?_⟩
  · rw [List.map_map]
    conv => lhs; rw [← List.map_id ys]
    refine List.map_congr_left fun v hv => ?_
    obtain ⟨x, _, rfl⟩ := List.mem_map.mp (h.subset hv)
    rfl
  · have := h.map strOf
    rw [List.map_map] at this
    have e : xs.map (strOf ∘ V.str) = xs := by
      conv => rhs; rw [← List.map_id xs]
      rfl
    rw [e] at this
    exact this
theorem perm_int {ys : List V} {xs : List Int} (h : ys.Perm (xs.map V.int)) : ∃ zs : List Int, ys = zs.map V.int ∧ zs.Perm xs := by
  refine ⟨ys.map intOf, ?_, ?_⟩
  · rw [List.map_map]
    conv => lhs; rw [← List.map_id ys]
    refine List.map_congr_left fun v hv => ?_
    obtain ⟨x, _, rfl⟩ := List.mem_map.mp (h.subset hv)
    rfl
  · have := h.map intOf
    rw [List.map_map] at this
    have e : xs.map (intOf ∘ V.int) = xs := by
      conv => rhs; rw [← List.map_id xs]
      rfl
    rw [e] at this
    exact this
theorem cut_upto (xs : List V) (n : Nat) : cutV xs none (some (n : Int)) = xs.take n := by
  unfold cutV
  have e1 : HT.sIx xs.length 0 none = 0 := rfl
  have e2 : HT.sIx xs.length xs.length (some (n : Int)) = min n xs.length := by
    unfold HT.sIx
    simp
    try omega
  rw [e1, e2]
  simp
section
variable {κ : Type} [DecidableEq κ]
theorem keys_put (kvs : List (κ × V)) (k : κ) (v : V) : (putK kvs k v).map (·.1) = if k ∈ kvs.map (·.1) then kvs.map (·.1) else kvs.map (·.1) ++ [k] := by
  unfold putK
  by_cases h : (kvs.any fun kv => decide (kv.1 = k)) = true
  · have hm : k ∈ kvs.map (·.1) := by
      obtain ⟨kv, h1, h2⟩ := List.any_eq_true.mp h
      exact List.mem_map.mpr ⟨kv, h1, of_decide_eq_true h2⟩
    rw [if_pos h, if_pos hm, List.map_map]
    refine List.map_congr_left fun kv _ => ?_
    show (if kv.1 = k then (kv.1, v) else kv).1 = kv.1
    split <;> rfl
  · have hm : ¬ k ∈ kvs.map (·.1) := fun hm => by
      obtain ⟨kv, h1, h2⟩ := List.mem_map.mp hm
      exact h (List.any_eq_true.mpr ⟨kv, h1, decide_eq_true h2⟩)
    rw [if_neg h, if_neg hm, List.map_append]
    rfl
theorem val_of_mem : ∀ {kvs : List (κ × V)} {k : κ} {v : V}, (kvs.map (·.1)).Nodup → (k, v) ∈ kvs → valV kvs k = some v
  | kv :: r, k, v, nd, h => by
    rw [List.map_cons, List.nodup_cons] at nd
    rcases List.mem_cons.mp h with e | e
    · subst e
      exact valV_pos rfl
    · have hne : ¬ kv.1 = k := fun z => nd.1 (z ▸ List.mem_map.mpr ⟨(k, v), e, rfl⟩)
      rw [valV_neg hne]
      exact val_of_mem nd.2 e
theorem nodup_put {kvs : List (κ × V)} (k : κ) (v : V) (h : (kvs.map (·.1)).Nodup) : ((putK kvs k v).map (·.1)).Nodup := by
  rw [keys_put]
  split
  · exact h
  · rename_i hn
    rw [List.nodup_append]
    refine ⟨h, by simp, fun a ha b hb => ?_⟩
    rw [List.mem_singleton] at hb
    subst hb
    exact fun e => hn (e ▸ ha)
theorem mem_put {kvs : List (κ × V)} {k : κ} {v : V} {p : κ × V} (h : p ∈ putK kvs k v) : p = (k, v) ∨ (p ∈ kvs ∧ p.1 ≠ k) := by
  unfold putK at h
  by_cases h0 : (kvs.any fun kv => decide (kv.1 = k)) = true
  · rw [if_pos h0] at h
    obtain ⟨kv, h1, h2⟩ := List.mem_map.mp h
    by_cases e : kv.1 = k
    · rw [if_pos e] at h2
      left
      rw [← h2, e]
    · rw [if_neg e] at h2
      right
      subst h2
      exact ⟨h1, e⟩
  · rw [if_neg h0] at h
    rcases List.mem_append.mp h with q | q
    · right
      refine ⟨q, fun e => h0 (List.any_eq_true.mpr ⟨p, q, decide_eq_true e⟩)⟩
    · left
      exact List.mem_singleton.mp q
end
end Nm
set_option maxRecDepth 100000
set_option maxHeartbeats 4000000
namespace Nm
open PySem L2
/-! ### words, ties, worlds -/
def letB (z : Str) : Str := Txt.rstripChars z "0123456789"
def isWordB (z : Str) : Bool := decide (z.length ≤ 100) && decide (1 ≤ (letB z).length) && decide ((letB z).length ≤ 8) && decide (z.length ≤ (letB z).length + 4) && (letB z).cps.toList.all (fun c => decide (c ∈ ("abcdefghijklmnopqrstuvwxyz" : Str).cps.toList))
def TieK (n : Nat) (k : List Key) : Prop := ∃ (i j : Nat) (kd : Str), k = [Sum.inl (i : Int), Sum.inl (j : Int), Sum.inr kd] ∧ i < j ∧ j < n ∧ isWordB kd = true
structure Ties (n m : Nat) (kvs : List (List Key × V)) : Prop where
  key : ∀ kv ∈ kvs, TieK n kv.1
  val : ∀ kv ∈ kvs, ∃ x : Nat, kv.2 = V.int (x : Int) ∧ 1 ≤ x ∧ x ≤ m
  nd : (kvs.map (·.1)).Nodup
theorem Ties.nil (n m : Nat) : Ties n m [] := ⟨fun _ h => (List.not_mem_nil h).elim, fun _ h => (List.not_mem_nil h).elim, List.nodup_nil⟩
theorem Ties.put {n m : Nat} {kvs : List (List Key × V)} (h : Ties n m kvs) {k : List Key} {x : Nat} (hk : TieK n k) (h1 : 1 ≤ x) (h2 : x ≤ m) : Ties n m (putK kvs k (V.int (x : Int))) := by
  refine ⟨fun kv hm => ?_, fun kv hm => ?_, nodup_put _ _ h.nd⟩
  · rcases mem_put hm with e | e
    · rw [e]; exact hk
    · exact h.key kv e.1
  · rcases mem_put hm with e | e
    · rw [e]; exact ⟨x, rfl, h1, h2⟩
    · exact h.val kv e.1
/-- all but the source and one thing more stays -/
def Kp3 (s c t : Addr) (H H' : Hp) : Prop := ∀ b o, H b = some o → b ≠ s → b ≠ c → b ≠ t → H' b = some o
theorem Kp3.refl {s c t : Addr} (H : Hp) : Kp3 s c t H H := fun _ _ h _ _ _ => h
theorem Kp3.kp {s c t : Addr} {H H1 H2 : Hp} (a : Kp3 s c t H H1) (b : Kp s c H1 H2) : Kp3 s c t H H2 := fun x o h h1 h2 h3 => b x o (a x o h h1 h2 h3) h1 h2
theorem Kp3.off {s c t : Addr} {H H1 : Hp} {p : Addr} {o : HO} (a : Kp3 s c t H H1) (h : H1 p = none) : Kp3 s c t H (upd H1 p o) := fun x u e h1 h2 h3 => by
  have := a x u e h1 h2 h3
  rw [upd_ne (ne_of_none this h)]
  exact this
theorem Kp3.put {s c t : Addr} {H H1 : Hp} {o : HO} (a : Kp3 s c t H H1) : Kp3 s c t H (upd H1 t o) := fun x u e h1 h2 h3 => by
  rw [upd_ne h3]
  exact a x u e h1 h2 h3
theorem PairsAt.put {n : Int} {H : Hp} {xs : List V} {t : Addr} {o u : HO} (h : PairsAt n H xs) (e : H t = some u) (hu : ∀ ys, u ≠ .tup ys) : PairsAt n (upd H t o) xs := fun v hv => by
  obtain ⟨q, i, j, a, b, r⟩ := h v hv
  refine ⟨q, i, j, a, ?_, r⟩
  rw [upd_ne (ne_of b e (fun z => hu _ z.symm))]
  exact b
/-- a list of one to three words, new since H -/
def WordL (H0 H : Hp) (v : V) : Prop := ∃ e es, v = V.ref e ∧ H0 e = none ∧ H e = some (.lst (List.map V.str es)) ∧ 1 ≤ es.length ∧ es.length ≤ 3 ∧ ∀ x ∈ es, isWordB x = true
theorem WordL.kp {H0 H H' : Hp} {s c : Addr} {v : V} (S : Src H0 s c) (h : WordL H0 H v) (k : Kp s c H H') : WordL H0 H' v := by
  obtain ⟨e, es, a, b, d, r⟩ := h
  obtain ⟨n1, n2⟩ := S.ne b
  exact ⟨e, es, a, b, k _ _ d n1 n2, r⟩
theorem WordL.same {H0 H H' : Hp} {v : V} (h : WordL H0 H v) (k : Same H H') : WordL H0 H' v := by
  obtain ⟨e, es, a, b, d, r⟩ := h
  exact ⟨e, es, a, b, k _ _ d, r⟩
theorem WordL.mk {H0 H : Hp} {l : Addr} (es : List Str) (h0 : Same H0 H) (h : H l = none) (h1 : (decide (1 ≤ es.length) && decide (es.length ≤ 3) && es.all isWordB) = true) : WordL H0 (upd H l (.lst (es.map V.str))) (.ref l) := by
  simp only [Bool.and_eq_true, decide_eq_true_eq, List.all_eq_true] at h1
  exact ⟨l, es, rfl, h0.free h, upd_same, h1.1.1, h1.1.2, h1.2⟩
def seven : List Str := ["a", "b", "c", "d", "e", "p0", "north"]
theorem seven_nd : seven.Nodup := by decide +kernel
theorem seven_w : ∀ x ∈ seven, isWordB x = true := by decide +kernel
def worldD (a b t : Addr) : List (Key × V) := [(Sum.inr "names", V.ref a), (Sum.inr "colours", V.ref b), (Sum.inr "ties", V.ref t)]
structure WorldOk (H : Hp) (s c wd a b t : Addr) (nm cl : List Str) (kvs : List (List Key × V)) : Prop where
  d : H wd = some (.dK (worldD a b t))
  hn : H a = some (.lst (nm.map V.str))
  hc : H b = some (.lst (cl.map V.str))
  ht : H t = some (.dT kvs)
  ds : wd ≠ s ∧ wd ≠ c
  as : a ≠ s ∧ a ≠ c
  bs : b ≠ s ∧ b ≠ c
  ts : t ≠ s ∧ t ≠ c
  nn : nm.Nodup
  nw : ∀ x ∈ nm, isWordB x = true
  cw : ∀ x ∈ cl, isWordB x = true
  cn : cl.length = nm.length
  n1 : 1 ≤ nm.length
theorem WorldOk.kp {H H' : Hp} {s c wd a b t : Addr} {nm cl : List Str} {kvs : List (List Key × V)} (W : WorldOk H s c wd a b t nm cl kvs) (e : Kp s c H H') : WorldOk H' s c wd a b t nm cl kvs :=
  ⟨e _ _ W.d W.ds.1 W.ds.2, e _ _ W.hn W.as.1 W.as.2, e _ _ W.hc W.bs.1 W.bs.2, e _ _ W.ht W.ts.1 W.ts.2, W.ds, W.as, W.bs, W.ts, W.nn, W.nw, W.cw, W.cn, W.n1⟩
theorem WorldOk.same {H H' : Hp} {s c wd a b t : Addr} {nm cl : List Str} {kvs : List (List Key × V)} (W : WorldOk H s c wd a b t nm cl kvs) (e : Same H H') : WorldOk H' s c wd a b t nm cl kvs := W.kp (Kp.same e)
theorem w1 : ¬ (("names" : Str) = "colours") := by decide +kernel
theorem w2 : ¬ (("names" : Str) = "ties") := by decide +kernel
theorem w3 : ¬ (("colours" : Str) = "ties") := by decide +kernel
section
variable {a b t : Addr}
theorem wd_names : valV (worldD a b t) (Sum.inr "names" : Key) = some (.ref a) := valV_pos rfl
theorem wd_colours : valV (worldD a b t) (Sum.inr "colours" : Key) = some (.ref b) := by
  unfold worldD
  rw [valV_neg (inr_ne w1)]
  exact valV_pos rfl
theorem wd_ties : valV (worldD a b t) (Sum.inr "ties" : Key) = some (.ref t) := by
  unfold worldD
  rw [valV_neg (inr_ne w2), valV_neg (inr_ne w3)]
  exact valV_pos rfl
theorem merge_wd : mergeK [] (worldD a b t) = worldD a b t := by
  unfold mergeK worldD
  simp [putK, w1, w2, w3]
theorem dg_names {H : Hp} {wd : Addr} (h : H wd = some (.dK (worldD a b t))) : DGet H wd (V.str "names") (some (.ref a)) := by rw [← wd_names (a := a) (b := b) (t := t)]; exact DGet.k (k := Sum.inr "names") h
theorem dg_colours {H : Hp} {wd : Addr} (h : H wd = some (.dK (worldD a b t))) : DGet H wd (V.str "colours") (some (.ref b)) := by rw [← wd_colours (a := a) (b := b) (t := t)]; exact DGet.k (k := Sum.inr "colours") h
theorem dg_ties {H : Hp} {wd : Addr} (h : H wd = some (.dK (worldD a b t))) : DGet H wd (V.str "ties") (some (.ref t)) := by rw [← wd_ties (a := a) (b := b) (t := t)]; exact DGet.k (k := Sum.inr "ties") h
end
section
variable {P : Program} {w : World} {K : PySem.W.Frag} {mg : Str → Option Value} {base : Heap}
/-! ### _law_draw_world -/
def spDraw : Sp := fun vs H Q _ => ∃ (s c : Addr) (m : Int), vs = [.ref s, .int m] ∧ Src H s c ∧ 1 ≤ m ∧ m ≤ 7 ∧
  ∀ (wd a b t : Addr) (nm cl : List Str) (kvs : List (List Key × V)) (H' : Hp), H wd = none → H a = none → H b = none → H t = none → WorldOk H' s c wd a b t nm cl kvs → (nm.length : Int) ≤ m → Ties nm.length 2 kvs → kvs.length ≤ 300 → Src H' s c → Kp s c H H' → Q (.ref wd) H'
abbrev nDraw : List Str := ["_law_source", "_law_most", "_law_count", "_law_names", "_law_every", "_law_kinds", "_law_ties", "_law_wide", "_law_kind", "_law_one", "_law_other", "_law_name"]
theorem scDraw : FnScope nDraw ["_law_source", "_law_most"] (defScope sDrawWorld) := ⟨rfl, rfl, rfl, by decide +kernel, rfl, by decide +kernel, by decide +kernel⟩
theorem ok_draw {f : Addr} {fd : FuncData} (F : Fun K "_law_draw_world" "_law_draw_world" sDrawWorld f fd) (T : TxtB mg) (Gp : Def P w K mg base "_law_pick" ["_law_source", "_law_many"] 1 spPick)
    (Ga : Def P w K mg base "_law_any_order" ["_law_source", "_law_items"] 2 (spAny K)) (Gs : Def P w K mg base "_law_shape_pairs" ["_law_source", "_law_count"] 2 spShape) (Gc : Def P w K mg base "_law_choice_of" ["_law_source", "_law_items"] 2 (spChoice K)) :
    FnOk P w K mg base CX0 3 f fd ["_law_source", "_law_most"] spDraw := by
  obtain ⟨fp, fdp, Gp, mp, kp, bp⟩ := Gp.ex
  obtain ⟨fa, fda, Ga, ma, ka, ba⟩ := Ga.ex
  obtain ⟨fs, fds, Gs, ms, ks, bs⟩ := Gs.ex
  obtain ⟨fc, fdc, Gc, mc, kc, bc⟩ := Gc.ex
  refine F.ok scDraw (fun vs H Q E h => ?_) (fun cdv A outer s H vs Q E hr h => ?_)
  · obtain ⟨p, dx, n, rfl, _⟩ := h
    rfl
  · obtain ⟨sa, ca, m, rfl, S, n1, n2, k⟩ := h
    have hu := hu_of hr
    have hr1 := hr.mono (by decide : 1 ≤ 2)
    refine ⟨_, Evl.pss_cut (ps_set (i := 2) scDraw.nd rfl (Or.inl rfl) (pe_op op_add pe_int (pe_call Gp hr1 (by rfl) mp kp bp .nil pass0 (pa_cons (pv 0) (pa_cons (pv 1) pa_nil)))))
      (Evl.pss_cut (ps_set (i := 3) scDraw.nd rfl (Or.inl rfl) (pe_slice sl_list (pe_call Ga hr (by rfl) ma ka ba .nil pass0 (pa_cons (pv 0) (pa_cons (pe_lst (pa_cons pe_str (pa_cons pe_str (pa_cons pe_str (pa_cons pe_str (pa_cons pe_str (pa_cons pe_str (pa_cons pe_str pa_nil)))))))) pa_nil))) po_none (po_some (pv 2))))
      (Evl.pss_cut (ps_set (i := 4) scDraw.nd rfl (Or.inr rfl) (pe_ix ix_list (pe_lst (pa_cons (pe_lst (pa_cons pe_str pa_nil)) (pa_cons (pe_lst (pa_cons pe_str pa_nil)) (pa_cons (pe_lst (pa_cons pe_str (pa_cons pe_str pa_nil))) (pa_cons (pe_lst (pa_cons pe_str (pa_cons pe_str (pa_cons pe_str pa_nil)))) (pa_cons (pe_lst (pa_cons pe_str (pa_cons pe_str pa_nil))) pa_nil)))))) (pe_call Gp hr1 (by rfl) mp kp bp .nil pass0 (pa_cons (pv 0) (pa_cons pe_int pa_nil))) (fun _ _ => rfl)))
      (Evl.pss_cut (ps_set (i := 5) scDraw.nd rfl (Or.inl rfl) (pe_ix ix_list (pe_lst (pa_cons (pe_lst (pa_cons pe_str pa_nil)) (pa_cons (pe_lst (pa_cons pe_str pa_nil)) (pa_cons (pe_lst (pa_cons pe_str (pa_cons pe_str pa_nil))) (pa_cons (pe_lst (pa_cons pe_str (pa_cons pe_str pa_nil))) pa_nil))))) (pe_call Gp hr1 (by rfl) mp kp bp .nil pass0 (pa_cons (pv 0) (pa_cons pe_int pa_nil))) (fun _ _ => rfl)))
      (Evl.pss_cut (ps_par (i := 6) (j := 7) (by rfl) scDraw.nd rfl rfl (by decide) rfl rfl (pa_cons pe_dnewT (pa_cons (pe_call Gp hr1 (by rfl) mp kp bp .nil pass0 (pa_cons (pv 0) (pa_cons pe_int pa_nil))) pa_nil)) (by rfl))
      (Evl.pss_cut (ps_for PassesOwn.never rfl (pi_list (pv 5)) (pg_name (i := 8) scDraw.nd rfl (Or.inl rfl))
        (pss_one (ps_for PassesOwn.never rfl (pi_list (pe_call Gs hr (by rfl) ms ks bs .nil pass0 (pa_cons (pv 0) (pa_cons (pv 2) pa_nil)))) (pg_tup rfl (pgs_cons (pg_name (i := 9) scDraw.nd rfl (.inl rfl)) (pgs_cons (pg_name (i := 10) scDraw.nd rfl (.inl rfl)) pgs_nil)))
          (pss_one (ps_dput hu (pv 6) (pe_tup (pa_cons (pv 9) (pa_cons (pv 10) (pa_cons (pv 8) pa_nil)))) (pe_ix ix_list (pe_lst (pa_cons pe_int (pa_cons pe_int (pa_cons (pe_op op_add pe_int (pe_call Gp hr1 (by rfl) mp kp bp .nil pass0 (pa_cons (pv 0) (pa_cons pe_int pa_nil)))) pa_nil)))) (pv 7) (fun _ _ => rfl)) rfl)))))
      (pss_one (ps_ret (pe_disp (pps_cons pe_str (pv 3) (pps_cons pe_str (pe_lc (own := [("_law_name", 11)]) (g := gName 11) (tt := tYes) (te := tCall (spChoice K) [] E0 (tCons (tVar 0) (tCons (tVar 4) tNil))) rfl scDraw.nd (pi_list (pv 3))
          (blkOk_by (N := nDraw) (sc := defScope sDrawWorld) (by decide +kernel)) (fun _ _ _ _ _ => pg_name (i := 11) scDraw.nd rfl (Or.inl rfl)) (fun _ _ _ _ _ => pts_nil)
          (fun _ _ _ _ _ => by exact pe_call Gc hr (by rfl) mc kc bc .nil pass0 (pa_cons (pv 0) (pa_cons (pv 4) pa_nil))))
          (pps_cons pe_str (pv 6) pps_nil))) (by rfl) (by rfl) (fun z => by cases z) (by decide))))))))), ?_⟩
    -- count
    refine ⟨fun σ H1 => ∃ n : Nat, σ = [some (.ref sa), some (.int m), some (.int (n : Int)), none, none, none, none, none, none, none, none, none] ∧ 1 ≤ n ∧ (n : Int) ≤ m ∧ Src H1 sa ca ∧ Kp sa ca H H1, ?_, ?_⟩
    · refine ⟨_, rfl, _, rfl, sa, ca, m, rfl, S, n1, by omega, fun kk H1 k0 k1 S1 kp1 => ⟨_, _, rfl, rfl, ?_⟩⟩
      refine ⟨(1 + kk).toNat, ?_, by omega, by omega, S1, kp1⟩
      rw [Int.toNat_of_nonneg (by omega)]
      rfl
    rintro σ H1 ⟨n, rfl, hn1, hn7, S1, kp1⟩
    -- names
    refine ⟨fun σ H3 => ∃ q nm, σ = [some (.ref sa), some (.int m), some (.int (n : Int)), some (.ref q), none, none, none, none, none, none, none, none] ∧ H q = none ∧ H3 q = some (.lst (List.map V.str nm)) ∧ nm.length = n ∧ nm.Nodup ∧ (∀ x ∈ nm, isWordB x = true) ∧ Src H3 sa ca ∧ Kp sa ca H H3, ?_, ?_⟩
    · refine ⟨_, rfl, (by show 7 ≤ sizeLine; decide), fun l hl => ?_⟩
      refine ⟨sa, ca, l, _, rfl, S1.new hl, SqL.of upd_same, (by show 7 ≤ 10000; decide), fun p ys H2 hp pm hpl S2 kp2 => ?_⟩
      refine ⟨_, rfl, _, rfl, p, ys, rfl, SqL.of hpl, fun q hq => ?_⟩
      obtain ⟨zs, rfl, pz⟩ := perm_str (xs := seven) pm
      have hzl : zs.length = 7 := pz.length_eq
      have kp02 : Kp sa ca H H2 := kp1.trans ((Kp.same (same_new hl)).trans kp2)
      have hq0 : H q = none := kp02.free S2 hq
      refine ⟨q, zs.take n, rfl, hq0, by rw [upd_same, cut_upto, ← List.map_take], by rw [List.length_take]; omega, ((List.take_sublist n zs).nodup (pz.nodup_iff.mpr seven_nd)), fun x hx => seven_w x (pz.subset ((List.take_sublist n zs).subset hx)), S2.new hq, kp02.off hq0⟩
    rintro σ H3 ⟨q, nm, rfl, hq0, hq, hlen, hnd, hwd, S3, kp3⟩
    -- every
    refine ⟨fun σ H4 => ∃ v, σ = [some (.ref sa), some (.int m), some (.int (n : Int)), some (.ref q), some v, none, none, none, none, none, none, none] ∧ WordL H3 H4 v ∧ Src H4 sa ca ∧ Kp sa ca H3 H4, ?_, ?_⟩
    · refine ⟨(by show 1 ≤ sizeLine; decide), fun l1 h1 => ⟨(by show 1 ≤ sizeLine; decide), fun l2 h2 => ⟨(by show 2 ≤ sizeLine; decide), fun l3 h3 => ⟨(by show 3 ≤ sizeLine; decide), fun l4 h4 => ⟨(by show 2 ≤ sizeLine; decide), fun l5 h5 => ⟨(by show 5 ≤ sizeLine; decide), fun l6 h6 => ?_⟩⟩⟩⟩⟩⟩
      have s1 := same_new (o := .lst ((["o"] : List Str).map V.str)) h1
      have s2 := s1.trans (same_new (o := .lst ((["o"] : List Str).map V.str)) h2)
      have s3 := s2.trans (same_new (o := .lst ((["red", "blue"] : List Str).map V.str)) h3)
      have s4 := s3.trans (same_new (o := .lst ((["x", "y", "z"] : List Str).map V.str)) h4)
      have s5 := s4.trans (same_new (o := .lst ((["m10", "m2"] : List Str).map V.str)) h5)
      have s6 := same_new (o := .lst [.ref l1, .ref l2, .ref l3, .ref l4, .ref l5]) h6
      have a5 := (WordL.mk ["m10", "m2"] s4 h5 (by decide +kernel)).same s6
      have a4 := ((WordL.mk ["x", "y", "z"] s3 h4 (by decide +kernel)).same (same_new h5)).same s6
      have a3 := (((WordL.mk ["red", "blue"] s2 h3 (by decide +kernel)).same (same_new h4)).same (same_new h5)).same s6
      have a2 := ((((WordL.mk ["o"] s1 h2 (by decide +kernel)).same (same_new h3)).same (same_new h4)).same (same_new h5)).same s6
      have a1 := (((((WordL.mk ["o"] (Same.refl H3) h1 (by decide +kernel)).same (same_new h2)).same (same_new h3)).same (same_new h4)).same (same_new h5)).same s6
      have all : ∀ v ∈ [V.ref l1, V.ref l2, V.ref l3, V.ref l4, V.ref l5], WordL H3 _ v := fun v hv => by
        rcases List.mem_cons.mp hv with rfl | hv
        · exact a1
        rcases List.mem_cons.mp hv with rfl | hv
        · exact a2
        rcases List.mem_cons.mp hv with rfl | hv
        · exact a3
        rcases List.mem_cons.mp hv with rfl | hv
        · exact a4
        rcases List.mem_cons.mp hv with rfl | hv
        · exact a5
        cases hv
      have s06 := s5.trans s6
      refine ⟨_, rfl, sa, ca, 5, rfl, S3.same s06, by decide, by decide, fun kk H4 k0 k1 S4 kp4 => ?_⟩
      obtain ⟨n6s, n6c⟩ := S3.ne (s5.free h6)
      have hl6 := kp4 _ _ upd_same n6s n6c
      obtain ⟨v, hv⟩ : ∃ v, [V.ref l1, V.ref l2, V.ref l3, V.ref l4, V.ref l5][kk.toNat]? = some v := ⟨_, List.getElem?_eq_getElem (by show kk.toNat < 5; omega)⟩
      refine ⟨l6, _, kk, v, rfl, rfl, SqL.of hl6, ?_, v, rfl, (all v (List.mem_of_getElem? hv)).kp S3 kp4, S4, (Kp.same s06).trans kp4⟩
      have := atI_nat hv
      rw [Int.toNat_of_nonneg k0] at this
      exact this
    rintro σ H4 ⟨ev, rfl, hev, S4, kp4⟩
    -- kinds
    refine ⟨fun σ H5 => ∃ v, σ = [some (.ref sa), some (.int m), some (.int (n : Int)), some (.ref q), some ev, some v, none, none, none, none, none, none] ∧ WordL H4 H5 v ∧ Src H5 sa ca ∧ Kp sa ca H4 H5, ?_, ?_⟩
    · refine ⟨(by show 1 ≤ sizeLine; decide), fun l1 h1 => ⟨(by show 1 ≤ sizeLine; decide), fun l2 h2 => ⟨(by show 2 ≤ sizeLine; decide), fun l3 h3 => ⟨(by show 2 ≤ sizeLine; decide), fun l4 h4 => ⟨(by show 4 ≤ sizeLine; decide), fun l6 h6 => ?_⟩⟩⟩⟩⟩
      have s1 := same_new (o := .lst ((["c"] : List Str).map V.str)) h1
      have s2 := s1.trans (same_new (o := .lst ((["c"] : List Str).map V.str)) h2)
      have s3 := s2.trans (same_new (o := .lst ((["k", "c"] : List Str).map V.str)) h3)
      have s4 := s3.trans (same_new (o := .lst ((["k2", "k10"] : List Str).map V.str)) h4)
      have s6 := same_new (o := .lst [.ref l1, .ref l2, .ref l3, .ref l4]) h6
      have a4 := (WordL.mk ["k2", "k10"] s3 h4 (by decide +kernel)).same s6
      have a3 := ((WordL.mk ["k", "c"] s2 h3 (by decide +kernel)).same (same_new h4)).same s6
      have a2 := (((WordL.mk ["c"] s1 h2 (by decide +kernel)).same (same_new h3)).same (same_new h4)).same s6
      have a1 := ((((WordL.mk ["c"] (Same.refl H4) h1 (by decide +kernel)).same (same_new h2)).same (same_new h3)).same (same_new h4)).same s6
      have all : ∀ v ∈ [V.ref l1, V.ref l2, V.ref l3, V.ref l4], WordL H4 _ v := fun v hv => by
        rcases List.mem_cons.mp hv with rfl | hv
        · exact a1
        rcases List.mem_cons.mp hv with rfl | hv
        · exact a2
        rcases List.mem_cons.mp hv with rfl | hv
        · exact a3
        rcases List.mem_cons.mp hv with rfl | hv
        · exact a4
        cases hv
      have s06 := s4.trans s6
      refine ⟨_, rfl, sa, ca, 4, rfl, S4.same s06, by decide, by decide, fun kk H5 k0 k1 S5 kp5 => ?_⟩
      obtain ⟨n6s, n6c⟩ := S4.ne (s4.free h6)
      have hl6 := kp5 _ _ upd_same n6s n6c
      obtain ⟨v, hv⟩ : ∃ v, [V.ref l1, V.ref l2, V.ref l3, V.ref l4][kk.toNat]? = some v := ⟨_, List.getElem?_eq_getElem (by show kk.toNat < 4; omega)⟩
      refine ⟨l6, _, kk, v, rfl, rfl, SqL.of hl6, ?_, v, rfl, (all v (List.mem_of_getElem? hv)).kp S4 kp5, S5, (Kp.same s06).trans kp5⟩
      have := atI_nat hv
      rw [Int.toNat_of_nonneg k0] at this
      exact this
    rintro σ H5 ⟨kv, rfl, hkv, S5, kp5⟩
    have hev5 := hev.kp S3 kp5
    obtain ⟨ea, es, rfl, ea0, hea, e1, e2, ew⟩ := hev5
    obtain ⟨ka', ks', rfl, ka0, hka, kk1, kk2, kw⟩ := hkv
    have kp05 : Kp sa ca H H5 := (kp3.trans kp4).trans kp5
    obtain ⟨nqs, nqc⟩ := S.ne hq0
    have hq5 : H5 q = some (.lst (List.map V.str nm)) := kp5 _ _ (kp4 _ _ hq nqs nqc) nqs nqc
    obtain ⟨nes, nec⟩ := S3.ne ea0
    obtain ⟨nks, nkc⟩ := S4.ne ka0
    -- ties, wide
    refine ⟨fun σ H6 => ∃ t wi, σ = [some (.ref sa), some (.int m), some (.int (n : Int)), some (.ref q), some (.ref ea), some (.ref ka'), some (.ref t), some (.int wi), none, none, none, none] ∧ H5 t = none ∧ 0 ≤ wi ∧ wi < 3 ∧ H6 t = some (.dT []) ∧ Src H6 sa ca ∧ Kp sa ca H5 H6, ?_, ?_⟩
    · intro t ht
      obtain ⟨nts, ntc⟩ := S5.ne ht
      refine ⟨_, rfl, sa, ca, 3, rfl, S5.new ht, by decide, by decide, fun kk H6 k0 k1 S6 kp6 => ?_⟩
      exact ⟨_, _, rfl, t, kk, rfl, ht, k0, k1, kp6 _ _ upd_same nts ntc, S6, (Kp.same (same_new ht)).trans kp6⟩
    rintro σ H6 ⟨t, wi, rfl, ht0, wi0, wi1, ht, S6, kp6⟩
    obtain ⟨nts, ntc⟩ := S5.ne ht0
    have nkt : ka' ≠ t := ne_of_none hka ht0
    have net : ea ≠ t := ne_of_none hea ht0
    have nqt : q ≠ t := ne_of_none hq5 ht0
    refine ⟨fun σ H7 => ∃ vk v9 v10 kvs, σ = [some (.ref sa), some (.int m), some (.int (n : Int)), some (.ref q), some (.ref ea), some (.ref ka'), some (.ref t), some (.int wi), vk, v9, v10, none] ∧ H7 t = some (.dT kvs) ∧ Ties n 2 kvs ∧ kvs.length ≤ 300 ∧ Src H7 sa ca ∧ Kp3 sa ca t H6 H7, ?_, ?_⟩
    · refine ⟨_, rfl, ka', rfl, ⟨_, SqL.of (kp6 _ _ hka nks nkc)⟩, ?_⟩
      refine for_list (xs := ks'.map V.str) (fun i σ H7 => ∃ vk v9 v10 kvs, σ = [some (.ref sa), some (.int m), some (.int (n : Int)), some (.ref q), some (.ref ea), some (.ref ka'), some (.ref t), some (.int wi), vk, v9, v10, none] ∧ H7 t = some (.dT kvs) ∧ Ties n 2 kvs ∧ kvs.length ≤ 100 * i ∧ Src H7 sa ca ∧ Kp3 sa ca t H6 H7)
        ⟨none, none, none, [], rfl, ht, Ties.nil n 2, by simp, S6, Kp3.refl H6⟩ (fun i σ H7 _ ⟨_, _, _, _, _, _, _, _, _, kp7⟩ => SqL.of (kp7 _ _ (kp6 _ _ hka nks nkc) nks nkc nkt)) ?_ ?_
      · rintro i x σ H7 hi ⟨vk, v9, v10, kvs, rfl, ht7, ti7, hl7, S7, kp7⟩
        have hil := (List.getElem?_eq_some_iff.mp hi).1
        rw [List.length_map] at hil
        rw [List.getElem?_map] at hi
        obtain ⟨kd, hkd, rfl⟩ := Option.map_eq_some_iff.mp hi
        have kdw := kw kd (List.mem_of_getElem? hkd)
        refine ⟨_, rfl, _, rfl, sa, ca, n, rfl, S7, by omega, by omega, fun p xs H8 hp hpl hpr hxl S8 kp8 => ?_⟩
        have ht8 := kp8 _ _ ht7 nts ntc
        have npt : p ≠ t := fun e => by subst e; rw [hp] at ht7; cases ht7
        obtain ⟨nps, npc⟩ := S7.ne hp
        refine ⟨p, rfl, ⟨_, SqL.of hpl⟩, ?_⟩
        refine for_list (xs := xs) (fun j σ H9 => ∃ v9 v10 kvs', σ = [some (.ref sa), some (.int m), some (.int (n : Int)), some (.ref q), some (.ref ea), some (.ref ka'), some (.ref t), some (.int wi), some (.str kd), v9, v10, none] ∧ H9 t = some (.dT kvs') ∧ Ties n 2 kvs' ∧ kvs'.length ≤ kvs.length + j ∧ H9 p = some (.lst xs) ∧ PairsAt n H9 xs ∧ Src H9 sa ca ∧ Kp3 sa ca t H6 H9)
          ⟨v9, v10, kvs, rfl, ht8, ti7, by omega, hpl, hpr, S8, kp7.kp kp8⟩ (fun j σ H9 _ ⟨_, _, _, _, _, _, _, h, _⟩ => SqL.of h) ?_ ?_
        · rintro j x σ H9 hj ⟨v9, v10, kvs', rfl, ht9, ti9, hl9, hp9, hpr9, S9, kp9⟩
          have hjl := (List.getElem?_eq_some_iff.mp hj).1
          obtain ⟨tt, i1, j1, rfl, htt, hi0, hij, hjn⟩ := hpr9 x (List.mem_of_getElem? hj)
          refine ⟨tt, _, rfl, SqT.of htt, rfl, _, _, rfl, _, _, rfl, rfl, ?_⟩
          refine ⟨_, rfl, sa, ca, 2, rfl, S9, by decide, by decide, fun kk H10 k0 k1 S10 kp10 => ⟨_, _, rfl, rfl, (by show 3 ≤ sizeLine; decide), fun l hl => ?_⟩⟩
          have ht10 := kp10 _ _ ht9 nts ntc
          have hp10 := kp10 _ _ hp9 nps npc
          have hpr10 := hpr9.kp S9 kp10
          obtain ⟨x, hx, hx1, hx2⟩ : ∃ x : Nat, atI [V.int 1, V.int 2, V.int (1 + kk)] wi = some (V.int (x : Int)) ∧ 1 ≤ x ∧ x ≤ 2 := by
            have hw : wi = 0 ∨ wi = 1 ∨ wi = 2 := by omega
            rcases hw with rfl | rfl | rfl
            · exact ⟨1, atI_nat (j := 0) rfl, by decide, by decide⟩
            · exact ⟨2, atI_nat (j := 1) rfl, by decide, by decide⟩
            · refine ⟨(1 + kk).toNat, ?_, by omega, by omega⟩
              rw [Int.toNat_of_nonneg (by omega)]
              exact atI_nat (j := 2) rfl
          refine ⟨_, rfl, l, _, wi, _, rfl, rfl, SqL.of upd_same, hx, ?_⟩
          have ht11 : (upd H10 l (.lst [V.int 1, V.int 2, V.int (1 + kk)])) t = some (.dT kvs') := by rw [upd_ne (ne_of_none ht10 hl)]; exact ht10
          refine ⟨_, rfl, _, rfl, _, rfl, _, rfl, (by show 3 ≤ sizeLine; decide), fun u hu => ?_⟩
          have ht12 : (upd (upd H10 l (.lst [V.int 1, V.int 2, V.int (1 + kk)])) u (.tup [.int i1, .int j1, .str kd])) t = some (.dT kvs') := by rw [upd_ne (ne_of_none ht11 hu)]; exact ht11
          have sm12 : Same H10 (upd (upd H10 l (.lst [V.int 1, V.int 2, V.int (1 + kk)])) u (.tup [.int i1, .int j1, .str kd])) := (same_new hl).trans (same_new hu)
          refine ⟨t, _, rfl, DPut.t (k := [Sum.inl i1, Sum.inl j1, Sum.inr kd]) ht12 upd_same (Evl.sz_lt (by omega)), ?_⟩
          refine ⟨some (.int i1), some (.int j1), _, rfl, upd_same, ti9.put ⟨i1.toNat, j1.toNat, kd, by rw [Int.toNat_of_nonneg hi0, Int.toNat_of_nonneg (by omega)], by omega, by omega, kdw⟩ hx1 hx2, by have := length_putK kvs' [Sum.inl i1, Sum.inl j1, Sum.inr kd] (V.int (x : Int)); omega, ?_, ?_, (S10.same sm12).upd nts.symm.symm ntc, ((kp9.kp kp10).kp (Kp.same sm12)).put⟩
          · rw [upd_ne npt]
            exact sm12 _ _ hp10
          · exact (hpr10.same sm12).put ht12 (by intro ys z; cases z)
        · rintro σ H9 ⟨v9, v10, kvs', rfl, ht9, ti9, hl9, hp9, hpr9, S9, kp9⟩
          exact ⟨some (.str kd), v9, v10, kvs', rfl, ht9, ti9, by omega, S9, kp9⟩
      · rintro σ H7 ⟨vk, v9, v10, kvs, rfl, ht7, ti7, hl7, S7, kp7⟩
        rw [List.length_map] at hl7
        exact ⟨vk, v9, v10, kvs, rfl, ht7, ti7, by omega, S7, kp7⟩
    rintro σ H7 ⟨vk, v9, v10, kvs, rfl, ht7, ti7, hl7, S7, kp7⟩
    have hq7 := kp7 _ _ (kp6 _ _ hq5 nqs nqc) nqs nqc nqt
    have hea7 := kp7 _ _ (kp6 _ _ hea nes nec) nes nec net
    have kp07 : Kp sa ca H H7 := fun b o e h1 h2 => kp7 b o (kp6 b o (kp05 b o e h1 h2) h1 h2) h1 h2 (ne_of_none (kp05 b o e h1 h2) ht0)
    have ht00 : H t = none := kp05.free S5 ht0
    intro p hp
    have hp0 : H p = none := kp07.free S7 hp
    obtain ⟨nps, npc⟩ := S7.ne hp
    have npq : p ≠ q := fun e => by subst e; rw [hq7] at hp; cases hp
    have npe : p ≠ ea := fun e => by subst e; rw [hea7] at hp; cases hp
    have npt : p ≠ t := fun e => by subst e; rw [ht7] at hp; cases hp
    have sp := same_new (o := .dK []) hp
    refine ⟨_, rfl, _, rfl, q, rfl, ⟨_, SqL.of (sp _ _ hq7)⟩, fun D hD => ?_⟩
    obtain ⟨nDp, hD7⟩ := nx hD
    have hD0 : H D = none := kp07.free S7 hD7
    obtain ⟨nDs, nDc⟩ := S7.ne hD7
    have sD := same_new (o := .lst []) hD
    have sDp := sp.trans sD
    refine lc_list (xs := nm.map V.str) (fun i H8 => ∃ cl, H8 D = some (.lst (List.map V.str cl)) ∧ cl.length = i ∧ (∀ x ∈ cl, isWordB x = true) ∧ H8 p = some (.dK []) ∧ Src H8 sa ca ∧ Kp sa ca H7 H8)
      ⟨[], upd_same, rfl, (fun x hx => (List.not_mem_nil hx).elim), sD _ _ upd_same, S7.same sDp, Kp.same sDp⟩ (fun i H8 _ ⟨_, _, _, _, _, _, k8⟩ => SqL.of (k8 _ _ hq7 nqs nqc)) ?_ ?_
    · rintro i x H8 hi ⟨cl, hcD, hcl, hcw, hp8, S8, kp8⟩
      have hil := (List.getElem?_eq_some_iff.mp hi).1
      rw [List.length_map] at hil
      refine ⟨rfl, tyes ?_⟩
      refine ⟨_, rfl, _, rfl, sa, ca, ea, _, rfl, S8, nes, nec, SqL.of (kp8 _ _ hea7 nes nec), by rw [List.length_map]; exact e1, by rw [List.length_map]; omega, fun v H9 hv S9 kp9 => ?_⟩
      obtain ⟨x, hx, rfl⟩ := List.mem_map.mp hv
      refine ⟨_, kp9 _ _ hcD nDs nDc, Evl.sz_lt (by rw [List.length_map]; omega), cl ++ [x], by rw [upd_same, List.map_append]; rfl, by simp [hcl], ?_, ?_, S9.upd nDs nDc, ?_⟩
      · intro y hy
        rcases List.mem_append.mp hy with z | z
        · exact hcw y z
        · rw [List.mem_singleton] at z
          subst z
          exact ew y hx
      · rw [upd_ne nDp.symm]
        exact kp9 _ _ hp8 nps npc
      · exact (kp8.trans kp9).off hD7
    · rintro H8 ⟨cl, hcD, hcl, hcw, hp8, S8, kp8⟩
      rw [List.length_map] at hcl
      refine ⟨_, rfl, hp8, worldD q D t, rfl, (by show 3 ≤ 15; decide), ?_⟩
      rw [merge_wd]
      have nDt : D ≠ t := fun e => by subst e; rw [ht7] at hD7; cases hD7
      refine k p q D t nm cl kvs _ hp0 hq0 hD0 ht00 ⟨upd_same, ?_, ?_, ?_, ⟨nps, npc⟩, ⟨nqs, nqc⟩, ⟨nDs, nDc⟩, ⟨nts, ntc⟩, hnd, hwd, hcw, hcl, by omega⟩ (by omega) (by rw [hlen]; exact ti7) hl7 (S8.upd nps npc) ((kp07.trans kp8).off hp0)
      · rw [upd_ne npq.symm]; exact kp8 _ _ hq7 nqs nqc
      · rw [upd_ne nDp]; exact hcD
      · rw [upd_ne npt.symm]; exact kp8 _ _ ht7 nts ntc
end
end Nm
set_option maxRecDepth 100000
set_option maxHeartbeats 4000000
/-! sorted of a list of tuples of ints and texts, the first of each an int: a rearrangement -/
namespace Nm
open PySem PySem.Spec PyProof.Rows L2
/-- two rows of keys that are of one kind place by place -/
inductive SameK : List Key → List Key → Prop
  | nil : SameK [] []
  | int {i j : Int} {r q : List Key} : SameK r q → SameK (Sum.inl i :: r) (Sum.inl j :: q)
  | str {x y : Str} {r q : List Key} : SameK r q → SameK (Sum.inr x :: r) (Sum.inr y :: q)
def IsRow (h : Heap) (v : Value) (ks : List Key) : Prop := ∃ a o its n, v = .ref a ∧ h.get? a = some o ∧ o.cls = .type "tuple" ∧ o.data = .seq (List.toArray its) n ∧ Vals (ks.map kV) its
theorem IsRow.keeps {h h' : Heap} {v : Value} {ks : List Key} (p : IsRow h v ks) (k : ∀ b o, h.get? b = some o → o.cls = .type "tuple" → h'.get? b = some o) : IsRow h' v ks := by
  obtain ⟨a, o, its, n, e, ho, hc, hd⟩ := p
  exact ⟨a, o, its, n, e, k _ _ ho hc, hc, hd⟩
section
variable {prog : Program} {w : World} {A : Around} {E : Value → Shared → Prop} {s : Shared}
theorem lex_tot {fin : Bool} : ∀ {ks qs : List Key} {its jts : List Value} (i : Nat), SameK ks qs → Vals (ks.map kV) its → Vals (qs.map kV) jts → 0 < i → ∃ b : Bool, PySem.W.KatLex prog w A true fin (fun r s' => s' = s ∧ r = b) (its.zip jts) i s
  | _, _, _, _, i, .nil, .nil, .nil, _ => ⟨fin, PySem.W.kat_nil ⟨rfl, rfl⟩⟩
  | _, _, _, _, i, .int (i := x) (j := y) sk, .cons (a := _) r1 t1, .cons r2 t2, hi => by
    obtain ⟨t, rfl⟩ := r1
    obtain ⟨u, rfl⟩ := r2
    obtain ⟨b, hb⟩ := lex_tot (i + 1) sk t1 t2 (Nat.succ_pos _)
    by_cases e : x = y
    · refine ⟨b, PySem.W.kat_cons (SeqAt.EqAt.int_int x t y u prog w _ _ ?_)⟩
      refine PySem.W.kat_go (fun _ => PySem.W.kat_yes hb) (fun e1 => absurd e (by simpa using e1))
    · refine ⟨decide (x < y), PySem.W.kat_cons (SeqAt.EqAt.int_int x t y u prog w _ _ ?_)⟩
      refine PySem.W.kat_go (fun e1 => absurd (by simpa using e1) e) (fun _ => PySem.W.kat_no (TS.oneLt_ints _ ⟨rfl, rfl⟩))
  | _, _, _, _, i, .str (x := x) (y := y) sk, .cons r1 t1, .cons r2 t2, hi => by
    obtain ⟨t, rfl⟩ := r1
    obtain ⟨u, rfl⟩ := r2
    obtain ⟨b, hb⟩ := lex_tot (i + 1) sk t1 t2 (Nat.succ_pos _)
    by_cases e : x = y
    · refine ⟨b, PySem.W.kat_cons (SeqAt.EqAt.str_str x t y u prog w _ _ ?_)⟩
      refine PySem.W.kat_go (fun _ => PySem.W.kat_yes hb) (fun e1 => absurd e (by simpa using e1))
    · refine ⟨decide (x.cps.toList < y.cps.toList), PySem.W.kat_cons (SeqAt.EqAt.str_str x t y u prog w _ _ ?_)⟩
      refine PySem.W.kat_go (fun e1 => absurd (by simpa using e1) e) (fun _ => PySem.W.kat_no ?_)
      have hi0 : (true && i == 0) = false := by simp; omega
      rw [hi0]
      exact PySem.W.kat_one _ _ (PyProof.Rows.lt_str (Q := PySem.W.BoolBack (fun r s' => s' = s ∧ r = decide (x.cps.toList < y.cps.toList))) (show s = s ∧ decide (x.cps.toList < y.cps.toList) = decide (x.cps.toList < y.cps.toList) from ⟨rfl, rfl⟩))
theorem row_tot {vs : List Value} {k : Value → Int × List Key} (hp : ∀ v ∈ vs, IsRow s.heap v (Sum.inl (k v).1 :: (k v).2)) (hs : ∀ v ∈ vs, ∀ u ∈ vs, SameK (k v).2 (k u).2) : Srt.Tot prog w A s (tuples' true) (fun p => p.1 ∈ vs) := by
  intro p q hm hm'
  obtain ⟨a, o, its, n, e, ho, hc, hd, hv⟩ := hp _ hm
  obtain ⟨a', o', jts, n', e', ho', hc', hd', hv'⟩ := hp _ hm'
  have sk := hs _ hm _ hm'
  rw [e, e']
  generalize k p.1 = kp at *
  generalize k q.1 = kq at *
  obtain ⟨x, ks⟩ := kp
  obtain ⟨y, qs⟩ := kq
  cases hv with
  | cons r1 t1 =>
    cases hv' with
    | cons r2 t2 =>
      obtain ⟨t, rfl⟩ := r1
      obtain ⟨u, rfl⟩ := r2
      rename_i it jt
      obtain ⟨b, hb⟩ := lex_tot (prog := prog) (w := w) (A := A) (s := s) (fin := decide ((List.toArray (Value.int x t :: it)).size < (List.toArray (Value.int y u :: jt)).size)) 1 sk t1 t2 (by decide)
      by_cases e : x = y
      · refine ⟨b, PySem.W.kat_lt ho hd ho' hd' (PySem.W.kat_cons (SeqAt.EqAt.int_int x t y u prog w _ _ ?_))⟩
        refine PySem.W.kat_go (fun _ => PySem.W.kat_yes hb) (fun e1 => absurd e (by simpa using e1))
      · refine ⟨decide (x < y), PySem.W.kat_lt ho hd ho' hd' (PySem.W.kat_cons (SeqAt.EqAt.int_int x t y u prog w _ _ ?_))⟩
        refine PySem.W.kat_go (fun e1 => absurd (by simpa using e1) e) (fun _ => PySem.W.kat_no (TS.oneLt_ints _ ⟨rfl, rfl⟩))
theorem firsts_row {h : Heap} {k : Value → Int × List Key} : ∀ {vs : List Value}, (∀ v ∈ vs, IsRow h v (Sum.inl (k v).1 :: (k v).2)) → ∃ fs : List Value, PySem.W.KatTups h vs fs ∧ fs.length = vs.length ∧ ∀ f ∈ fs, ∃ x t, f = Value.int x t
  | [], _ => ⟨[], PySem.W.KatTups.nil, rfl, fun _ hm => by simp at hm⟩
  | v :: vs, hp => by
    obtain ⟨fs, h1, h2, h3⟩ := firsts_row (vs := vs) fun v' hm => hp v' (List.mem_cons_of_mem _ hm)
    obtain ⟨a, o, its, n, e, ho, hc, hd, hv⟩ := hp v (List.mem_cons_self ..)
    subst e
    cases hv with
    | cons r1 t1 =>
      obtain ⟨t, rfl⟩ := r1
      refine ⟨.int (k (.ref a)).1 t :: fs, PySem.W.KatTups.cons ho hc hd rfl h1, by rw [List.length_cons, List.length_cons, h2], fun f hm => ?_⟩
      rcases List.mem_cons.mp hm with rfl | hm
      · exact ⟨_, t, rfl⟩
      · exact h3 f hm
theorem rows_sortable {a : Addr} {vs : List Value} {k : Value → Int × List Key} (h0 : 0 < vs.length) (hp : ∀ v ∈ vs, IsRow s.heap v (Sum.inl (k v).1 :: (k v).2)) (hs : ∀ v ∈ vs, ∀ u ∈ vs, SameK (k v).2 (k u).2) (ha : ∀ o, s.heap.get? a = some o → o.cls ≠ .type "tuple") : Srt.Sortable prog w A s a vs := by
  intro h' keep
  have hp' : ∀ v ∈ vs, IsRow h' v (Sum.inl (k v).1 :: (k v).2) := fun v hm => (hp v hm).keeps fun b o e c => keep b o (fun z => by subst z; exact ha o e c) e
  obtain ⟨fs, h1, h2, h3⟩ := firsts_row hp'
  refine ⟨tuples' true, fun Q E hq => ?_, row_tot (s := { s with heap := h' }) hp' hs⟩
  refine PySem.W.kat_kind (T := .type "int") h1 (by omega) (fun f hm => ?_) (by rfl) ?_
  · obtain ⟨x, t, rfl⟩ := h3 f hm
    exact PySem.W.Looks.now
  · have e : (Value.type "int" != Value.type "tuple") = true := by decide +kernel
    rw [e]
    exact hq
theorem sorted_rows {l : Addr} {vs : List Value} {k : Value → Int × List Key} {Q : Value → Shared → Prop} (hl : s.heap.IsList l vs.toArray) (hz : vs.length ≤ sizeLine) (hp : ∀ v ∈ vs, IsRow s.heap v (Sum.inl (k v).1 :: (k v).2)) (hs : ∀ v ∈ vs, ∀ u ∈ vs, SameK (k v).2 (k u).2)
    (h : ∀ (h' : Heap) (d : Addr) (out : List Value), out.Perm vs → (∀ b o, s.heap.get? b = some o → h'.get? b = some o) → s.heap.objs.size ≤ d → (∃ n, h'.get? d = some (seqObj "list" out.toArray n)) → Q (.ref d) { s with heap := h' }) :
    wpAny (model prog w) A (call (.builtin "sorted") [.ref l]) Q E s := by
  refine Srt.sorted_any hl hz (fun h2 h₁ a ha kk => ?_) fun out ho => ?_
  · refine rows_sortable (s := { s with heap := h₁ }) (by omega) (fun v hm => (hp v hm).keeps fun b o e _ => (kk b o e).2) hs fun o e => ?_
    have e' : some o = some (seqObj "list" vs.toArray 0) := e.symm.trans ha
    cases e'
    intro c
    exact absurd (Value.type.inj c) (by decide)
  · exact h _ _ out ho (fun b o e => sortedAll_old e) (Nat.le_succ _) (sortedAll_at s.heap vs out.toArray)
end
/-- sorted(xs): a new list of the same tuples, in some order -/
def rSortedR (K : PySem.W.Frag) : List V → Hp → VK → Prop := fun vs H Q => ∃ a xs, ∃ k : V → Int × List Key, vs = [V.ref a] ∧ SqL K H a xs ∧ (∀ x ∈ xs, ∃ t, x = V.ref t ∧ H t = some (.tup (V.int (k x).1 :: (k x).2.map kV))) ∧ (∀ x ∈ xs, ∀ y ∈ xs, SameK (k x).2 (k y).2) ∧
  ∀ ys p, ys.Perm xs → H p = none → Q (.ref p) (upd H p (.lst ys))
section
variable {X : Cx}
theorem cr_sortedR : CallR X (.builtin "sorted") (rSortedR X.K) := by
  intro pins s σ H vs us Q I r h
  obtain ⟨a, xs, k, rfl, hs, hx, hk, q⟩ := h
  obtain ⟨its, rv, hl, hz⟩ := I.list hs
  obtain ⟨u, rfl, ru⟩ := vals1 r
  obtain rfl : u = Value.ref a := ru
  obtain ⟨e1, e2⟩ := refs_back rv fun x m => by
    obtain ⟨t, e, _⟩ := hx x m
    exact ⟨t, e⟩
  have inx : ∀ v ∈ its, backV v ∈ xs := fun v hv => by rw [e1]; exact List.mem_map.mpr ⟨_, hv, rfl⟩
  refine sorted_rows (k := fun u => k (backV u)) hl.isList (by rw [← rv.length]; exact hz) (fun v hv => ?_) (fun v hv u hu => hk _ (inx v hv) _ (inx u hu)) fun h' d out hp k' hd hn => ?_
  · obtain ⟨t, rfl⟩ := e2 v hv
    obtain ⟨t', e, ht⟩ := hx _ (inx _ hv)
    cases e
    obtain ⟨_, its2, r2, o, ho, hc, n, hd⟩ := I.hok _ _ ht
    exact ⟨t, o, its2, n, rfl, ho, hc, hd, r2⟩
  · have h3 : ∀ u ∈ out, ∃ a, u = Value.ref a := fun u hu => e2 u (hp.mem_iff.mp hu)
    obtain ⟨n, hn⟩ := hn
    refine ⟨.ref d, upd H d (.lst (out.map backV)), I.laid (t' := s.toks) k' hd ⟨?_, out, n, vals_back h3, hn⟩, rfl, q _ d ?_ (I.hok.fresh hd)⟩
    · rw [List.length_map, hp.length_eq, ← rv.length]; exact hz
    · rw [e1]; exact hp.map backV
end
end Nm
set_option maxRecDepth 100000
set_option maxHeartbeats 4000000
/-! sorted of a list of tuples of ints and texts, the first of each an int: in order -/
namespace Nm
open PySem PySem.Spec PyProof.Rows L2
def keyLt : Key → Key → Bool
  | .inl a, .inl b => decide (a < b)
  | .inr x, .inr y => decide (x.cps.toList < y.cps.toList)
  | .inl _, .inr _ => true
  | .inr _, .inl _ => false
def lexK : List Key → List Key → Bool
  | [], [] => false
  | [], _ :: _ => true
  | _ :: _, [] => false
  | a :: r, b :: q => if a = b then lexK r q else keyLt a b
theorem lexK_eq {a b : Key} {r q : List Key} (h : a = b) : lexK (a :: r) (b :: q) = lexK r q := by
  rw [lexK, if_pos h]
theorem lexK_ne {a b : Key} {r q : List Key} (h : ¬ a = b) : lexK (a :: r) (b :: q) = keyLt a b := by
  rw [lexK, if_neg h]
theorem str_eq {x y : Str} (h : x.cps.toList = y.cps.toList) : x = y := by
  cases x
  cases y
  simp at h
  simp [h]
theorem keyLt_anti : ∀ {a b : Key}, keyLt a b = false → keyLt b a = false → a = b
  | .inl a, .inl b, h1, h2 => by
    have h1 := of_decide_eq_false h1
    have h2 := of_decide_eq_false h2
    congr 1
    omega
  | .inr x, .inr y, h1, h2 => by
    have h1 := of_decide_eq_false h1
    have h2 := of_decide_eq_false h2
    rw [List.not_lt] at h1 h2
    rw [str_eq (List.le_antisymm h2 h1)]
  | .inl _, .inr _, h1, _ => by cases h1
  | .inr _, .inl _, _, h2 => by cases h2
theorem keyLt_asym : ∀ {a b : Key}, keyLt a b = true → keyLt b a = false
  | .inl a, .inl b, h => by
    have h := of_decide_eq_true h
    exact decide_eq_false (by omega)
  | .inr x, .inr y, h => by
    have h := of_decide_eq_true h
    exact decide_eq_false (List.lt_asymm h)
  | .inl _, .inr _, _ => rfl
  | .inr _, .inl _, h => by cases h
theorem keyLt_tr : ∀ {a b c : Key}, keyLt b a = false → keyLt c b = false → keyLt c a = false
  | .inl a, .inl b, .inl c, h1, h2 => by
    have h1 := of_decide_eq_false h1
    have h2 := of_decide_eq_false h2
    exact decide_eq_false (by omega)
  | .inr x, .inr y, .inr z, h1, h2 => by
    have h1 := of_decide_eq_false h1
    have h2 := of_decide_eq_false h2
    refine decide_eq_false ?_
    rw [List.not_lt] at *
    exact List.le_trans h1 h2
  | .inl _, .inl _, .inr _, _, _ => rfl
  | .inl _, .inr _, .inr _, _, _ => rfl
  | .inl _, .inr _, .inl _, _, h2 => by cases h2
  | .inr _, .inl _, _, h1, _ => by cases h1
  | .inr _, .inr _, .inl _, _, h2 => by cases h2
theorem lexK_asym : ∀ {x y : List Key}, lexK x y = true → lexK y x = false
  | [], [], h => by cases h
  | [], _ :: _, _ => rfl
  | _ :: _, [], h => by cases h
  | a :: r, b :: q, h => by
    unfold lexK at h ⊢
    by_cases e : a = b
    · rw [if_pos e] at h
      rw [if_pos e.symm]
      exact lexK_asym h
    · rw [if_neg e] at h
      rw [if_neg (fun z => e z.symm)]
      exact keyLt_asym h
theorem lexK_anti : ∀ {x y : List Key}, lexK x y = false → lexK y x = false → x = y
  | [], [], _, _ => rfl
  | [], _ :: _, h, _ => by cases h
  | _ :: _, [], _, h => by cases h
  | a :: r, b :: q, h1, h2 => by
    unfold lexK at h1 h2
    by_cases e : a = b
    · rw [if_pos e] at h1
      rw [if_pos e.symm] at h2
      rw [e, lexK_anti h1 h2]
    · rw [if_neg e] at h1
      rw [if_neg (fun z => e z.symm)] at h2
      exact absurd (keyLt_anti h1 h2) e
theorem lexK_tr : ∀ {x y z : List Key}, lexK y x = false → lexK z y = false → lexK z x = false
  | [], _, [], _, _ => rfl
  | [], _, _ :: _, _, _ => rfl
  | _ :: _, [], _, h, _ => by cases h
  | _ :: _, _ :: _, [], _, h => by cases h
  | a :: r, b :: q, c :: p, h1, h2 => by
    unfold lexK at h1 h2 ⊢
    by_cases e1 : b = a
    · subst e1
      rw [if_pos rfl] at h1
      by_cases e2 : c = b
      · rw [if_pos e2] at h2 ⊢
        exact lexK_tr h1 h2
      · rw [if_neg e2] at h2 ⊢
        exact h2
    · rw [if_neg e1] at h1
      by_cases e2 : c = b
      · subst e2
        rw [if_neg e1]
        exact h1
      · rw [if_neg e2] at h2
        by_cases e3 : c = a
        · subst e3
          exact absurd (keyLt_anti h1 h2) e1
        · rw [if_neg e3]
          exact keyLt_tr h1 h2
theorem swo_lexK {α : Type} (k : α → List Key) : SrtO.Swo fun v u => lexK (k v) (k u) := ⟨fun _ _ h => lexK_asym h, fun _ _ _ h1 h2 => lexK_tr h1 h2⟩
/-- two sorted lists of the same keys are one -/
theorem sorted_one : ∀ {l m : List (List Key)}, l.Pairwise (fun x y => lexK y x = false) → m.Pairwise (fun x y => lexK y x = false) → l.Perm m → l = m
  | [], m, _, _, h => (List.Perm.eq_nil h.symm).symm
  | x :: l, [], _, _, h => absurd h.length_eq (by simp)
  | x :: l, y :: m, hl, hm, h => by
    have h1 : lexK x y = false := by
      rcases List.mem_cons.mp (h.mem_iff.mp (List.mem_cons_self (a := x) (l := l))) with e | hx
      · rw [e]; exact (swo_lexK (fun z => z)).refl y
      · exact (List.pairwise_cons.mp hm).1 x hx
    have h2 : lexK y x = false := by
      rcases List.mem_cons.mp (h.mem_iff.mpr (List.mem_cons_self (a := y) (l := m))) with e | hy
      · rw [e]; exact (swo_lexK (fun z => z)).refl x
      · exact (List.pairwise_cons.mp hl).1 y hy
    have e := lexK_anti h1 h2
    subst e
    rw [sorted_one (List.pairwise_cons.mp hl).2 (List.pairwise_cons.mp hm).2 h.cons_inv]
section
variable {prog : Program} {w : World} {A : Around} {E : Value → Shared → Prop} {s : Shared}
theorem lex_cmp : ∀ {ks qs : List Key} {its jts : List Value} (i : Nat), SameK ks qs → Vals (ks.map kV) its → Vals (qs.map kV) jts → 0 < i → PySem.W.KatLex prog w A true false (fun r s' => s' = s ∧ r = lexK ks qs) (its.zip jts) i s
  | _, _, _, _, i, .nil, .nil, .nil, _ => PySem.W.kat_nil ⟨rfl, rfl⟩
  | _, _, _, _, i, .int (i := x) (j := y) (r := r) (q := q) sk, .cons r1 t1, .cons r2 t2, hi => by
    obtain ⟨t, rfl⟩ := r1
    obtain ⟨u, rfl⟩ := r2
    have ih := lex_cmp (i + 1) sk t1 t2 (Nat.succ_pos _)
    by_cases e : x = y
    · have el : lexK (Sum.inl x :: r) (Sum.inl y :: q) = lexK r q := lexK_eq (by rw [e])
      rw [el]
      refine PySem.W.kat_cons (SeqAt.EqAt.int_int x t y u prog w _ _ ?_)
      exact PySem.W.kat_go (fun _ => PySem.W.kat_yes ih) (fun e1 => absurd e (by simpa using e1))
    · have el : lexK (Sum.inl x :: r) (Sum.inl y :: q) = decide (x < y) := lexK_ne (fun z => e (Sum.inl.inj z))
      rw [el]
      refine PySem.W.kat_cons (SeqAt.EqAt.int_int x t y u prog w _ _ ?_)
      exact PySem.W.kat_go (fun e1 => absurd (by simpa using e1) e) (fun _ => PySem.W.kat_no (TS.oneLt_ints _ ⟨rfl, rfl⟩))
  | _, _, _, _, i, .str (x := x) (y := y) (r := r) (q := q) sk, .cons r1 t1, .cons r2 t2, hi => by
    obtain ⟨t, rfl⟩ := r1
    obtain ⟨u, rfl⟩ := r2
    have ih := lex_cmp (i + 1) sk t1 t2 (Nat.succ_pos _)
    by_cases e : x = y
    · have el : lexK (Sum.inr x :: r) (Sum.inr y :: q) = lexK r q := lexK_eq (by rw [e])
      rw [el]
      refine PySem.W.kat_cons (SeqAt.EqAt.str_str x t y u prog w _ _ ?_)
      exact PySem.W.kat_go (fun _ => PySem.W.kat_yes ih) (fun e1 => absurd e (by simpa using e1))
    · have el : lexK (Sum.inr x :: r) (Sum.inr y :: q) = decide (x.cps.toList < y.cps.toList) := lexK_ne (fun z => e (Sum.inr.inj z))
      rw [el]
      refine PySem.W.kat_cons (SeqAt.EqAt.str_str x t y u prog w _ _ ?_)
      refine PySem.W.kat_go (fun e1 => absurd (by simpa using e1) e) (fun _ => PySem.W.kat_no ?_)
      have hi0 : (true && i == 0) = false := by simp; omega
      rw [hi0]
      exact PySem.W.kat_one _ _ (PyProof.Rows.lt_str (Q := PySem.W.BoolBack (fun r s' => s' = s ∧ r = decide (x.cps.toList < y.cps.toList))) (show s = s ∧ decide (x.cps.toList < y.cps.toList) = decide (x.cps.toList < y.cps.toList) from ⟨rfl, rfl⟩))
theorem same_len : ∀ {ks qs : List Key}, SameK ks qs → ks.length = qs.length
  | _, _, .nil => rfl
  | _, _, .int h => by simp [same_len h]
  | _, _, .str h => by simp [same_len h]
/-- the whole row -/
def rowK (k : Int × List Key) : List Key := Sum.inl k.1 :: k.2
theorem row_cmp {vs : List Value} {k : Value → Int × List Key} (hp : ∀ v ∈ vs, IsRow s.heap v (rowK (k v))) (hs : ∀ v ∈ vs, ∀ u ∈ vs, SameK (k v).2 (k u).2) : SrtO.Cmp prog w A s (tuples' true) (fun p => p.1 ∈ vs) (SrtO.lt2 fun v u => lexK (rowK (k v)) (rowK (k u))) := by
  intro p q hm hm'
  obtain ⟨a, o, its, n, e, ho, hc, hd, hv⟩ := hp _ hm
  obtain ⟨a', o', jts, n', e', ho', hc', hd', hv'⟩ := hp _ hm'
  have sk := hs _ hm _ hm'
  show wpAny (model prog w) A (keyLt' (tuples' true) p.1 q.1) (fun r s' => s' = s ∧ r = lexK (rowK (k p.1)) (rowK (k q.1))) (fun _ _ => False) s
  generalize hkp : k p.1 = kp at *
  generalize hkq : k q.1 = kq at *
  rw [e, e']
  obtain ⟨x, ks⟩ := kp
  obtain ⟨y, qs⟩ := kq
  have hlen : its.length = jts.length := by
    rw [← hv.length, ← hv'.length]
    have := same_len sk
    simp [rowK, this]
  refine PySem.W.kat_lt ho hd ho' hd' ?_
  have hf : decide ((List.toArray its).size < (List.toArray jts).size) = false := by simp [hlen]
  rw [hf]
  cases hv with
  | cons r1 t1 =>
    cases hv' with
    | cons r2 t2 =>
      obtain ⟨t, rfl⟩ := r1
      obtain ⟨u, rfl⟩ := r2
      have ih := lex_cmp (prog := prog) (w := w) (A := A) (s := s) 1 sk t1 t2 (by decide)
      by_cases e : x = y
      · have el : lexK (rowK (x, ks)) (rowK (y, qs)) = lexK ks qs := lexK_eq (by rw [e])
        rw [el]
        refine PySem.W.kat_cons (SeqAt.EqAt.int_int x t y u prog w _ _ ?_)
        exact PySem.W.kat_go (fun _ => PySem.W.kat_yes ih) (fun e1 => absurd e (by simpa using e1))
      · have el : lexK (rowK (x, ks)) (rowK (y, qs)) = decide (x < y) := lexK_ne (fun z => e (Sum.inl.inj z))
        rw [el]
        refine PySem.W.kat_cons (SeqAt.EqAt.int_int x t y u prog w _ _ ?_)
        exact PySem.W.kat_go (fun e1 => absurd (by simpa using e1) e) (fun _ => PySem.W.kat_no (TS.oneLt_ints _ ⟨rfl, rfl⟩))
theorem rows_sortableO {a : Addr} {vs : List Value} {k : Value → Int × List Key} (h0 : 0 < vs.length) (hp : ∀ v ∈ vs, IsRow s.heap v (rowK (k v))) (hs : ∀ v ∈ vs, ∀ u ∈ vs, SameK (k v).2 (k u).2) (ha : ∀ o, s.heap.get? a = some o → o.cls ≠ .type "tuple") : SrtO.SortableO prog w A s a vs fun v u => lexK (rowK (k v)) (rowK (k u)) := by
  intro h' keep
  have hp' : ∀ v ∈ vs, IsRow h' v (rowK (k v)) := fun v hm => (hp v hm).keeps fun b o e c => keep b o (fun z => by subst z; exact ha o e c) e
  obtain ⟨fs, h1, h2, h3⟩ := firsts_row hp'
  refine ⟨tuples' true, fun Q E hq => ?_, row_cmp (s := { s with heap := h' }) hp' hs⟩
  refine PySem.W.kat_kind (T := .type "int") h1 (by omega) (fun f hm => ?_) (by rfl) ?_
  · obtain ⟨x, t, rfl⟩ := h3 f hm
    exact PySem.W.Looks.now
  · have e : (Value.type "int" != Value.type "tuple") = true := by decide +kernel
    rw [e]
    exact hq
theorem sorted_rowsO {l : Addr} {vs : List Value} {k : Value → Int × List Key} {Q : Value → Shared → Prop} (hl : s.heap.IsList l vs.toArray) (hz : vs.length ≤ sizeLine) (hp : ∀ v ∈ vs, IsRow s.heap v (rowK (k v))) (hs : ∀ v ∈ vs, ∀ u ∈ vs, SameK (k v).2 (k u).2)
    (h : ∀ (h' : Heap) (d : Addr) (out : List Value), SrtO.Srtd (fun v u => lexK (rowK (k v)) (rowK (k u))) out → out.Perm vs → (∀ b o, s.heap.get? b = some o → h'.get? b = some o) → s.heap.objs.size ≤ d → (∃ n, h'.get? d = some (seqObj "list" out.toArray n)) → Q (.ref d) { s with heap := h' }) :
    wpAny (model prog w) A (call (.builtin "sorted") [.ref l]) Q E s := by
  refine SrtO.sorted_ord (swo_lexK fun v => rowK (k v)) hl hz (fun h2 h₁ a ha kk => ?_) fun out hs' hb => ?_
  · refine rows_sortableO (s := { s with heap := h₁ }) (by omega) (fun v hm => (hp v hm).keeps fun b o e _ => (kk b o e).2) hs fun o e => ?_
    have e' : some o = some (seqObj "list" vs.toArray 0) := e.symm.trans ha
    cases e'
    intro c
    exact absurd (Value.type.inj c) (by decide)
  · exact h _ _ out hs' hb.perm (fun b o e => sortedAll_old e) (Nat.le_succ _) (sortedAll_at s.heap vs out.toArray)
end
/-- sorted(xs): a new list of the same tuples, in order -/
def rSortedO (K : PySem.W.Frag) : List V → Hp → VK → Prop := fun vs H Q => ∃ a xs, ∃ k : V → Int × List Key, vs = [V.ref a] ∧ SqL K H a xs ∧ (∀ x ∈ xs, ∃ t, x = V.ref t ∧ H t = some (.tup ((rowK (k x)).map kV))) ∧ (∀ x ∈ xs, ∀ y ∈ xs, SameK (k x).2 (k y).2) ∧
  ∀ ys p, ys.Pairwise (fun x y => lexK (rowK (k y)) (rowK (k x)) = false) → ys.Perm xs → H p = none → Q (.ref p) (upd H p (.lst ys))
section
variable {X : Cx}
theorem cr_sortedO : CallR X (.builtin "sorted") (rSortedO X.K) := by
  intro pins s σ H vs us Q I r h
  obtain ⟨a, xs, k, rfl, hs, hx, hk, q⟩ := h
  obtain ⟨its, rv, hl, hz⟩ := I.list hs
  obtain ⟨u, rfl, ru⟩ := vals1 r
  obtain rfl : u = Value.ref a := ru
  obtain ⟨e1, e2⟩ := refs_back rv fun x m => by
    obtain ⟨t, e, _⟩ := hx x m
    exact ⟨t, e⟩
  have inx : ∀ v ∈ its, backV v ∈ xs := fun v hv => by rw [e1]; exact List.mem_map.mpr ⟨_, hv, rfl⟩
  refine sorted_rowsO (k := fun u => k (backV u)) hl.isList (by rw [← rv.length]; exact hz) (fun v hv => ?_) (fun v hv u hu => hk _ (inx v hv) _ (inx u hu)) fun h' d out hsr hp k' hd hn => ?_
  · obtain ⟨t, rfl⟩ := e2 v hv
    obtain ⟨t', e, ht⟩ := hx _ (inx _ hv)
    cases e
    obtain ⟨_, its2, r2, o, ho, hc, n, hd⟩ := I.hok _ _ ht
    exact ⟨t, o, its2, n, rfl, ho, hc, hd, r2⟩
  · have h3 : ∀ u ∈ out, ∃ a, u = Value.ref a := fun u hu => e2 u (hp.mem_iff.mp hu)
    obtain ⟨n, hn⟩ := hn
    refine ⟨.ref d, upd H d (.lst (out.map backV)), I.laid (t' := s.toks) k' hd ⟨?_, out, n, vals_back h3, hn⟩, rfl, q _ d ?_ ?_ (I.hok.fresh hd)⟩
    · rw [List.length_map, hp.length_eq, ← rv.length]; exact hz
    · exact List.pairwise_map.mpr hsr
    · rw [e1]; exact hp.map backV
end
end Nm
set_option maxRecDepth 100000
set_option maxHeartbeats 4000000
namespace Nm
open PySem L2
/-- ints that are places -/
abbrev natV (l : List Nat) : List V := l.map fun (i : Nat) => V.int (i : Int)
/-- the keys of a dict of ties, each by its own tuple -/
def KeyL (H : Hp) (kvs : List (List Key × V)) (ys : List V) : Prop := ∀ y ∈ ys, ∃ b k v, y = V.ref b ∧ H b = some (.tup (List.map kV k)) ∧ (k, v) ∈ kvs
theorem KeyL.same {H H' : Hp} {kvs : List (List Key × V)} {ys : List V} (h : KeyL H kvs ys) (e : Same H H') : KeyL H' kvs ys := fun y hy => by
  obtain ⟨b, k, v, a1, a2, a3⟩ := h y hy
  exact ⟨b, k, v, a1, e _ _ a2, a3⟩
theorem KeyL.kp {H H' : Hp} {kvs : List (List Key × V)} {ys : List V} {s c : Addr} (h : KeyL H kvs ys) (S : Src H s c) (e : Kp s c H H') : KeyL H' kvs ys := fun y hy => by
  obtain ⟨b, k, v, a1, a2, a3⟩ := h y hy
  obtain ⟨cs, l, m, tt, S⟩ := S
  exact ⟨b, k, v, a1, e _ _ a2 (ne_of a2 S.ds (by intro z; cases z)) (ne_of a2 S.dc (by intro z; cases z)), a3⟩
theorem KeyL.put {H : Hp} {kvs : List (List Key × V)} {ys : List V} {t : Addr} {o u : HO} (h : KeyL H kvs ys) (e : H t = some u) (hu : ∀ zs, u ≠ .tup zs) : KeyL (upd H t o) kvs ys := fun y hy => by
  obtain ⟨b, k, v, a1, a2, a3⟩ := h y hy
  refine ⟨b, k, v, a1, ?_, a3⟩
  rw [upd_ne (ne_of a2 e (fun z => hu _ z.symm))]
  exact a2
theorem keyL_of {H : Hp} : ∀ {kvs : List (List Key × V)} {bs : List Addr}, IsKeys H kvs bs → KeyL H kvs (bs.map V.ref) ∧ bs.length = kvs.length
  | _, _, .nil => ⟨fun y hy => (List.not_mem_nil hy).elim, rfl⟩
  | _, _, .cons (a := kv) (b := b) h t => by
    obtain ⟨i1, i2⟩ := keyL_of t
    refine ⟨fun y hy => ?_, by simp [i2]⟩
    rcases List.mem_cons.mp hy with e | e
    · exact ⟨b, kv.1, kv.2, e, h, List.mem_cons_self⟩
    · obtain ⟨b', k, v, a1, a2, a3⟩ := i1 y e
      exact ⟨b', k, v, a1, a2, List.mem_cons_of_mem _ a3⟩
theorem keyL_all {H : Hp} : ∀ {kvs : List (List Key × V)} {bs : List Addr}, IsKeys H kvs bs → ∀ kv ∈ kvs, ∃ b ∈ bs, H b = some (.tup (List.map kV kv.1))
  | _, _, .nil => fun kv h => (List.not_mem_nil h).elim
  | _, _, .cons (b := b) h t => fun kv hm => by
    rcases List.mem_cons.mp hm with e | e
    · subst e
      exact ⟨b, List.mem_cons_self, h⟩
    · obtain ⟨b', h1, h2⟩ := keyL_all t kv e
      exact ⟨b', List.mem_cons_of_mem _ h1, h2⟩
/-- what the tuple at a reference holds, as a row -/
def rowAt (H : Hp) : V → Int × List Key
  | .ref b => (match H b with
    | some (.tup [.int i, .int j, .str kd]) => (i, [Sum.inl j, Sum.inr kd])
    | _ => (0, []))
  | _ => (0, [])
theorem rowAt_of {H : Hp} {b : Addr} {i j : Int} {kd : Str} (h : H b = some (.tup [.int i, .int j, .str kd])) : rowAt H (.ref b) = (i, [Sum.inl j, Sum.inr kd]) := by
  show (match H b with
    | some (.tup [.int i, .int j, .str kd]) => (i, [Sum.inl j, Sum.inr kd])
    | _ => (0, [])) = _
  rw [h]
theorem KeyL.tie {H : Hp} {n m : Nat} {kvs : List (List Key × V)} {ys : List V} (h : KeyL H kvs ys) (T : Ties n m kvs) {y : V} (hy : y ∈ ys) : ∃ (b : Addr) (i j x : Nat) (kd : Str), y = V.ref b ∧ H b = some (.tup [.int (i : Int), .int (j : Int), .str kd]) ∧ ([Sum.inl (i : Int), Sum.inl (j : Int), Sum.inr kd], V.int (x : Int)) ∈ kvs ∧ i < j ∧ j < n ∧ isWordB kd = true ∧ 1 ≤ x ∧ x ≤ m := by
  obtain ⟨b, k, v, a1, a2, a3⟩ := h y hy
  obtain ⟨i, j, kd, e, h1, h2, h3⟩ := T.key _ a3
  obtain ⟨x, e2, h4, h5⟩ := T.val _ a3
  have e' : k = [Sum.inl (i : Int), Sum.inl (j : Int), Sum.inr kd] := e
  have e2' : v = V.int (x : Int) := e2
  subst e' e2'
  exact ⟨b, i, j, x, kd, a1, a2, a3, h1, h2, h3, h4, h5⟩
theorem sort_ties {H : Hp} {n m : Nat} {kvs : List (List Key × V)} {ys : List V} (h : KeyL H kvs ys) (T : Ties n m kvs) : (∀ x ∈ ys, ∃ t, x = V.ref t ∧ H t = some (.tup (V.int (rowAt H x).1 :: (rowAt H x).2.map kV))) ∧ (∀ x ∈ ys, ∀ y ∈ ys, SameK (rowAt H x).2 (rowAt H y).2) := by
  constructor
  · intro y hy
    obtain ⟨b, i, j, x, kd, e, hb, _⟩ := h.tie T hy
    subst e
    refine ⟨b, rfl, ?_⟩
    rw [rowAt_of hb]
    exact hb
  · intro y hy z hz
    obtain ⟨b, i, j, x, kd, e, hb, _⟩ := h.tie T hy
    obtain ⟨b', i', j', x', kd', e', hb', _⟩ := h.tie T hz
    subst e e'
    rw [rowAt_of hb, rowAt_of hb']
    exact .int (.str .nil)
theorem row_key {H : Hp} {n m : Nat} : ∀ {kvs : List (List Key × V)} {bs : List Addr}, IsKeys H kvs bs → (∀ kv ∈ kvs, TieK n kv.1) → (bs.map V.ref).map (fun y => rowK (rowAt H y)) = kvs.map (·.1)
  | _, _, .nil, _ => rfl
  | _, _, .cons (a := kv) (b := b) h t, hk => by
    rw [List.map_cons, List.map_cons, List.map_cons, row_key (n := n) (m := m) t fun kv hm => hk kv (List.mem_cons_of_mem _ hm)]
    obtain ⟨i, j, kd, e, _⟩ := hk kv List.mem_cons_self
    rw [e] at h
    congr 1
    rw [rowAt_of h, e]
    rfl
theorem isKeys_same {H H' : Hp} {kvs : List (List Key × V)} {bs : List Addr} (h : IsKeys H kvs bs) (e : Same H H') : IsKeys H' kvs bs := Paired.mapP h fun _ _ z => e _ _ z
/-- one tie of the parts: what has the number of its far end gets that of its near end -/
def stepP (ps : List Nat) (k : List Key) : List Nat := match k with
  | [Sum.inl i, Sum.inl j, Sum.inr _] => ps.map fun z => if z = (ps[j.toNat]?).getD 0 then (ps[i.toNat]?).getD 0 else z
  | _ => ps
def PartsRel (n : Nat) (kvs : List (List Key × V)) (ps : List Nat) : Prop := ∃ ks : List (List Key), ks.Pairwise (fun x y => lexK y x = false) ∧ ks.Perm (kvs.map (·.1)) ∧ ps = ks.foldl stepP (List.range n)
theorem PartsRel.one {n : Nat} {kvs : List (List Key × V)} {ps qs : List Nat} (h1 : PartsRel n kvs ps) (h2 : PartsRel n kvs qs) : ps = qs := by
  obtain ⟨ks, a1, a2, a3⟩ := h1
  obtain ⟨ks', b1, b2, b3⟩ := h2
  rw [a3, b3, sorted_one a1 b1 (a2.trans b2.symm)]
theorem rgV_nat (n : Nat) : rgV 0 (n : Int) = natV (List.range n) := by
  unfold rgV natV
  have e : ((n : Int) - 0).toNat = n := by omega
  rw [e]
  refine List.map_congr_left fun i _ => ?_
  rw [Int.zero_add]
structure TxtC (mg : Str → Option Value) : Prop extends TxtB mg where
  sorted : mg "sorted" = none
section
variable {P : Program} {w : World} {K : PySem.W.Frag} {mg : Str → Option Value} {base : Heap}
/-! ### _law_parts -/
def spParts : Sp := fun vs H Q _ => ∃ (wd a b t : Addr) (xs : List V) (m : Nat) (kvs : List (List Key × V)), vs = [.ref wd] ∧ H wd = some (.dK (worldD a b t)) ∧ H a = some (.lst xs) ∧ H t = some (.dT kvs) ∧ xs.length ≤ 1000 ∧ kvs.length ≤ 10000 ∧ Ties xs.length m kvs ∧
  ∀ (p : Addr) (ps : List Nat) (H' : Hp), H p = none → H' p = some (.lst (natV ps)) → ps.length = xs.length → (∀ x ∈ ps, x < xs.length) → (∀ (i j : Nat) (kd : Str) (v : V), ([Sum.inl (i : Int), Sum.inl (j : Int), Sum.inr kd], v) ∈ kvs → ps[i]? = ps[j]?) → PartsRel xs.length kvs ps → Same H H' → Q (.ref p) H'
abbrev nParts : List Str := ["_law_world", "_law_found", "_law_one", "_law_other", "_law_kind", "_law_kept", "_law_gone", "_law_number"]
theorem scParts : FnScope nParts ["_law_world"] (defScope sParts) := ⟨rfl, rfl, rfl, by decide +kernel, rfl, by decide +kernel, by decide +kernel⟩
theorem ok_parts {f : Addr} {fd : FuncData} (F : Fun K "_law_parts" "_law_parts" sParts f fd) (T : TxtC mg) : FnOk P w K mg base CX0 1 f fd ["_law_world"] spParts := by
  refine F.ok scParts (fun vs H Q E h => ?_) (fun cdv A outer s H vs Q E hr h => ?_)
  · obtain ⟨wd, a, b, t, xs, m, kvs, rfl, _⟩ := h
    rfl
  · obtain ⟨wd, a, b, t, xs, m, kvs, rfl, hwd, ha, ht, hxl, hkl, ti, k⟩ := h
    have hu := hu_of hr
    refine ⟨_, Evl.pss_cut (ps_set (i := 1) scParts.nd rfl (Or.inl rfl) (pe_listRg rfl (by rfl) T.list (prg_1 (by rfl) T.range (pe_callB call_len_seq (by rfl) T.len PySem.boot_len (pa_cons (pe_dget hu (pv 0) pe_str (fun _ _ => rfl)) pa_nil)))))
      (pss_cons (ps_for PassesOwn.never rfl (pi_list (pe_callB cr_sortedO (by rfl) T.sorted (by decide +kernel) (pa_cons (pe_callTy (call_list_dT rfl) (by rfl) T.list (by decide +kernel) (pa_cons (pe_dget hu (pv 0) pe_str (fun _ _ => rfl)) pa_nil)) pa_nil)))
          (pg_tup rfl (pgs_cons (pg_name (i := 2) scParts.nd rfl (.inl rfl)) (pgs_cons (pg_name (i := 3) scParts.nd rfl (.inl rfl)) (pgs_cons (pg_name (i := 4) scParts.nd rfl (.inl rfl)) pgs_nil))))
        (pss_cons (ps_asg (pe_tup (pa_cons (pe_ix ix_list (pv 1) (pv 2) (fun _ _ => rfl)) (pa_cons (pe_ix ix_list (pv 1) (pv 3) (fun _ _ => rfl)) pa_nil))) (pg_tup rfl (pgs_cons (pg_name (i := 5) scParts.nd rfl (.inr rfl)) (pgs_cons (pg_name (i := 6) scParts.nd rfl (.inr rfl)) pgs_nil))))
        (pss_one (ps_setLc (i := 1) (own := [("_law_number", 7)]) (g := gName 7) (tt := tYes) rfl scParts.nd rfl rfl (sw_true rfl rfl rfl (by decide +kernel)) (pi_list (pv 1))
          (blkOk_by (N := nParts) (sc := defScope sParts) (by decide +kernel)) (fun _ _ _ _ _ => pg_name (i := 7) scParts.nd rfl (Or.inl rfl)) (fun _ _ _ _ _ => pts_nil)
          (fun _ _ _ _ _ => pe_ifExp (pt_cmpR op_eq (pv 7) (pv 6) (nomark _)) (pv 5) (pv 7))))))
      (pss_one (ps_ret (pv 1)))), ?_⟩
    refine ⟨fun σ H1 => ∃ q, σ = [some (.ref wd), some (.ref q), none, none, none, none, none, none] ∧ H q = none ∧ H1 q = some (.lst (natV (List.range xs.length))) ∧ Same H H1, ?_, ?_⟩
    · refine ⟨_, rfl, wd, _, rfl, dg_names hwd, a, _, rfl, .inl (SqL.of ha), _, rfl, ?_⟩
      refine ⟨RgOk.of_le (by omega) (by omega) (by omega) (by omega), fun q hq => ⟨q, rfl, hq, by rw [upd_same, rgV_nat], same_new hq⟩⟩
    rintro σ H1 ⟨q, rfl, hq0, hq, s1⟩
    refine ⟨_, rfl, wd, _, rfl, dg_ties (s1 _ _ hwd), t, kvs, rfl, .inl (s1 _ _ ht), fun l bs hl hk => ?_⟩
    obtain ⟨kl, hbl⟩ := keyL_of hk
    have kl2 := kl.same (same_new (o := .lst (bs.map V.ref)) hl)
    obtain ⟨so1, so2⟩ := sort_ties kl2 ti
    refine ⟨l, _, _, rfl, SqL.of upd_same, so1, so2, fun ys p srt pm hp => ?_⟩
    have pk : (ys.map fun y => rowK (rowAt (upd H1 l (.lst (bs.map V.ref))) y)).Perm (kvs.map (·.1)) := by
      rw [← row_key (m := m) (isKeys_same hk (same_new (o := .lst (bs.map V.ref)) hl)) ti.key]
      exact pm.map _
    have sk : (ys.map fun y => rowK (rowAt (upd H1 l (.lst (bs.map V.ref))) y)).Pairwise (fun x y => lexK y x = false) := List.pairwise_map.mpr srt
    have rows : ∀ (b : Addr) (i j : Nat) (kd : Str), (upd H1 l (.lst (bs.map V.ref))) b = some (.tup [.int (i : Int), .int (j : Int), .str kd]) → rowK (rowAt (upd H1 l (.lst (bs.map V.ref))) (.ref b)) = [Sum.inl (i : Int), Sum.inl (j : Int), Sum.inr kd] := fun b i j kd h => by
      rw [rowAt_of h]
      rfl
    have rows2 : ∀ y ∈ ys, ∃ (b : Addr) (i j x : Nat) (kd : Str), y = V.ref b ∧ (upd H1 l (.lst (bs.map V.ref))) b = some (.tup [.int (i : Int), .int (j : Int), .str kd]) ∧ ([Sum.inl (i : Int), Sum.inl (j : Int), Sum.inr kd], V.int (x : Int)) ∈ kvs ∧ i < j ∧ j < xs.length := fun y hy => by
      obtain ⟨b, i, j, x, kd, e, hb, hm, h1, h2, _⟩ := kl2.tie ti (pm.subset hy)
      exact ⟨b, i, j, x, kd, e, hb, hm, h1, h2⟩
    generalize hks : (ys.map fun y => rowK (rowAt (upd H1 l (.lst (bs.map V.ref))) y)) = ks at *
    have hkat : ∀ (i : Nat) (b : Addr) (i1 j1 : Nat) (kd : Str), ys[i]? = some (.ref b) → (upd H1 l (.lst (bs.map V.ref))) b = some (.tup [.int (i1 : Int), .int (j1 : Int), .str kd]) → ks[i]? = some [Sum.inl (i1 : Int), Sum.inl (j1 : Int), Sum.inr kd] := fun i b i1 j1 kd h1 h2 => by
      rw [← hks, List.getElem?_map, h1]
      exact congrArg some (rows b i1 j1 kd h2)
    have hkl2 : ks.length = ys.length := by rw [← hks, List.length_map]
    have sHs := same_new (o := .lst ys) hp
    have s2 := (same_new (o := .lst (bs.map V.ref)) hl).trans (same_new (o := .lst ys) hp)
    have kly : KeyL (upd (upd H1 l (.lst (bs.map V.ref))) p (.lst ys)) kvs ys := fun y hy => (kl.same s2) y (pm.subset hy)
    have hpp : (upd (upd H1 l (.lst (bs.map V.ref))) p (.lst ys)) p = some (.lst ys) := upd_same
    have hq2 := s2 _ _ hq
    have s02 := s1.trans s2
    have hyl : ys.length ≤ 10000 := by rw [pm.length_eq, List.length_map]; omega
    have hks2 := hkat
    refine ⟨p, rfl, ⟨_, SqL.of hpp⟩, ?_⟩
    generalize hH2 : upd (upd H1 l (.lst (bs.map V.ref))) p (.lst ys) = H2 at *
    refine for_list (xs := ys) (fun i σ H3 => ∃ q ps v2 v3 v4 v5 v6, σ = [some (.ref wd), some (.ref q), v2, v3, v4, v5, v6, none] ∧ H q = none ∧ H3 q = some (.lst (natV ps)) ∧ ps.length = xs.length ∧ (∀ x ∈ ps, x < xs.length) ∧ ps = (ks.take i).foldl stepP (List.range xs.length) ∧ Same H2 H3 ∧
        (∀ y ∈ ys.take i, ∀ (b : Addr) (i1 j1 : Nat) (kd : Str), y = .ref b → H2 b = some (.tup [.int (i1 : Int), .int (j1 : Int), .str kd]) → ps[i1]? = ps[j1]?))
      ⟨q, List.range xs.length, none, none, none, none, none, rfl, hq0, hq2, by simp, fun x hx => List.mem_range.mp hx, rfl, Same.refl _, fun y hy => by simp at hy⟩ (fun i σ H3 _ ⟨_, _, _, _, _, _, _, _, _, _, _, _, _, sm, _⟩ => SqL.of (sm _ _ hpp)) ?_ ?_
    · rintro i y σ H3 hi ⟨q, ps, v2, v3, v4, v5, v6, rfl, hq0, hq3, hpl, hpn, hpf, s3, hdone⟩
      obtain ⟨b1, i1, j1, x1, kd1, rfl, hb1, hmem, hij, hjn, _, _, _⟩ := kly.tie ti (List.mem_of_getElem? hi)
      have hb3 := s3 _ _ hb1
      have hbs1 : (upd H1 l (.lst (bs.map V.ref))) b1 = some (.tup [.int (i1 : Int), .int (j1 : Int), .str kd1]) := by
        obtain ⟨b', i', j', x', kd', e', hb', _⟩ := rows2 _ (List.mem_of_getElem? hi)
        cases e'
        have := sHs _ _ hb'
        rw [hb1] at this
        rw [hb', ← Option.some.inj this]
      obtain ⟨u, hu1⟩ : ∃ u, ps[i1]? = some u := ⟨_, List.getElem?_eq_getElem (by omega)⟩
      obtain ⟨v, hv1⟩ : ∃ v, ps[j1]? = some v := ⟨_, List.getElem?_eq_getElem (by omega)⟩
      refine ⟨b1, _, rfl, SqT.of hb3, rfl, _, _, rfl, _, _, rfl, _, _, rfl, rfl, ?_⟩
      refine ⟨_, rfl, _, rfl, q, _, _, V.int (u : Int), rfl, rfl, SqL.of hq3, atI_nat (by rw [List.getElem?_map, hu1]; rfl), _, rfl, _, rfl, q, _, _, V.int (v : Int), rfl, rfl, SqL.of hq3, atI_nat (by rw [List.getElem?_map, hv1]; rfl), (by show 2 ≤ sizeLine; decide), fun tt htt => ?_⟩
      refine ⟨tt, _, rfl, SqT.of upd_same, rfl, _, _, rfl, _, _, rfl, rfl, ?_⟩
      have s4 := same_new (o := .tup [V.int (u : Int), V.int (v : Int)]) htt
      refine ⟨_, rfl, q, rfl, ⟨_, SqL.of (s4 _ _ hq3)⟩, fun D hD => ?_⟩
      have hD3 : H3 D = none := s4.free hD
      have hD0 : H D = none := (s02.trans s3).free hD3
      refine lc_list (xs := natV ps) (fun j H4 => H4 D = some (.lst (natV ((ps.map fun z => if z = v then u else z).take j))) ∧ Same H3 H4) ⟨upd_same, s4.trans (same_new hD)⟩ (fun j H4 _ h => SqL.of (h.2 _ _ hq3)) ?_ ?_
      · rintro j z H4 hj ⟨hD4, s5⟩
        have hjl := (List.getElem?_eq_some_iff.mp hj).1
        rw [List.length_map] at hjl
        rw [List.getElem?_map] at hj
        obtain ⟨z0, hz0, rfl⟩ := Option.map_eq_some_iff.mp hj
        refine ⟨rfl, tyes ?_⟩
        have tk : natV ((ps.map fun z => if z = v then u else z).take (j + 1)) = natV ((ps.map fun z => if z = v then u else z).take j) ++ [V.int ((if z0 = v then u else z0 : Nat) : Int)] := by
          have e : (ps.map fun z => if z = v then u else z)[j]? = some (if z0 = v then u else z0) := by rw [List.getElem?_map, hz0]; rfl
          rw [List.take_add_one, e]
          unfold natV
          rw [List.map_append]
          rfl
        have fin : ∀ y, y = V.int ((if z0 = v then u else z0 : Nat) : Int) → ∃ acc, H4 D = some (.lst acc) ∧ acc.length < sizeLine ∧ (upd H4 D (.lst (acc ++ [y]))) D = some (.lst (natV ((ps.map fun z => if z = v then u else z).take (j + 1)))) ∧ Same H3 (upd H4 D (.lst (acc ++ [y]))) := fun y hy => by
          refine ⟨_, hD4, Evl.sz_lt (by rw [List.length_map, List.length_take, List.length_map]; omega), by rw [upd_same, tk, hy], fun b o e => ?_⟩
          rw [upd_ne (ne_of_none e hD3)]
          exact s5 b o e
        refine ⟨_, rfl, _, rfl, rfl, _, rfl, ?_⟩
        refine ite2 (fun h => ?_) (fun h => ?_)
        · refine ⟨_, rfl, fin _ ?_⟩
          have : (V.int (z0 : Int)) = V.int (v : Int) := of_decide_eq_true h
          injection this with this
          rw [if_pos (by omega)]
        · refine ⟨_, rfl, fin _ ?_⟩
          have : ¬ (V.int (z0 : Int)) = V.int (v : Int) := of_decide_eq_false (Bool.eq_false_iff.mpr h)
          rw [if_neg (fun e => this (by rw [e]))]
      · rintro H4 ⟨hD4, s5⟩
        rw [List.length_map] at hD4
        rw [List.take_of_length_le (by simp)] at hD4
        refine ⟨D, ps.map fun z => if z = v then u else z, _, _, _, _, _, rfl, hD0, hD4, by simp [hpl], ?_, ?_, s3.trans s5, ?_⟩
        · intro x hx
          obtain ⟨z, hz, rfl⟩ := List.mem_map.mp hx
          split
          · exact hpn u (List.mem_of_getElem? hu1)
          · exact hpn z hz
        · rw [List.take_add_one, hkat i b1 i1 j1 kd1 hi hbs1, List.foldl_append, ← hpf]
          show _ = ps.map fun z => if z = (ps[(j1 : Int).toNat]?).getD 0 then (ps[(i1 : Int).toNat]?).getD 0 else z
          rw [Int.toNat_natCast, Int.toNat_natCast, hu1, hv1]
          rfl
        · intro y hy b i2 j2 kd2 e hb2
          rw [List.getElem?_map, List.getElem?_map]
          rw [List.take_add_one, hi] at hy
          rcases List.mem_append.mp hy with z | z
          · rw [hdone y z b i2 j2 kd2 e hb2]
          · have z' : y = V.ref b1 := by simpa using z
            rw [z'] at e
            cases e
            rw [hb1] at hb2
            injection hb2 with hb2
            injection hb2 with hb2
            simp at hb2
            obtain ⟨e1, e2, _⟩ := hb2
            have e1' : i1 = i2 := by omega
            have e2' : j1 = j2 := by omega
            subst e1' e2'
            rw [hu1, hv1]
            show some (if u = v then u else u) = some (if v = v then u else v)
            simp
    · rintro σ H3 ⟨q, ps, v2, v3, v4, v5, v6, rfl, hq0, hq3, hpl, hpn, hpf, s3, hdone⟩
      refine ⟨_, rfl, k q ps H3 hq0 hq3 hpl hpn ?_ ⟨ks, sk, pk, by rw [hpf, List.take_of_length_le (by omega)]⟩ (s02.trans s3)⟩
      intro i j kd v hm
      rw [List.take_of_length_le (Nat.le_refl _)] at hdone
      have hex : ∃ b, V.ref b ∈ ys ∧ H2 b = some (.tup [.int (i : Int), .int (j : Int), .str kd]) := by
        obtain ⟨b, hb, hb1⟩ := keyL_all hk _ hm
        exact ⟨b, pm.mem_iff.mpr (List.mem_map.mpr ⟨b, hb, rfl⟩), s2 _ _ hb1⟩
      obtain ⟨b, hb, hb2⟩ := hex
      exact hdone _ hb b i j kd rfl hb2
end
end Nm
set_option maxRecDepth 100000
set_option maxHeartbeats 4000000
/-! reached_from -/
namespace Nm
open PySem L2
/-- keys of a dict of places found -/
def kvT (ks : List Nat) : List (Key × V) := ks.map fun (k : Nat) => ((Sum.inl (k : Int) : Key), V.bl true)
theorem kvT_keys (ks : List Nat) : (kvT ks).map (·.1) = ks.map fun (k : Nat) => (Sum.inl (k : Int) : Key) := by
  unfold kvT
  rw [List.map_map]
  rfl
theorem kvT_mem {ks : List Nat} {k : Nat} : (Sum.inl (k : Int) : Key) ∈ (kvT ks).map (·.1) ↔ k ∈ ks := by
  rw [kvT_keys, List.mem_map]
  constructor
  · rintro ⟨x, hx, e⟩
    have := Sum.inl.inj e
    obtain rfl : x = k := by omega
    exact hx
  · exact fun h => ⟨k, h, rfl⟩
theorem kvT_get {ks : List Nat} {k : Nat} (h : k ∈ ks) : ∃ v, valV (kvT ks) (Sum.inl (k : Int)) = some v := by
  cases e : valV (kvT ks) (Sum.inl (k : Int)) with
  | some v => exact ⟨v, rfl⟩
  | none => exact absurd (kvT_mem.mpr h) (valV_not e)
theorem kvT_no {ks : List Nat} {k : Nat} (h : k ∉ ks) : valV (kvT ks) (Sum.inl (k : Int)) = none := by
  cases e : valV (kvT ks) (Sum.inl (k : Int)) with
  | none => rfl
  | some v => exact absurd (kvT_mem.mp (valV_in e)) h
theorem kvT_put {ks : List Nat} {k : Nat} (h : k ∉ ks) : putK (kvT ks) (Sum.inl (k : Int)) (V.bl true) = kvT (ks ++ [k]) := by
  unfold putK
  rw [valV_any, kvT_no h]
  simp [kvT]
/-- lists of neighbours as they stand -/
def NearAt (H : Hp) (a : Addr) (nb : List (List Nat)) : Prop := ∃ as : List Addr, H a = some (.lst (as.map V.ref)) ∧ as.length = nb.length ∧ ∀ (k : Nat) (p : Addr) (l : List Nat), as[k]? = some p → nb[k]? = some l → H p = some (.lst (natV l))
theorem NearAt.same {H H' : Hp} {a : Addr} {nb : List (List Nat)} (h : NearAt H a nb) (s : Same H H') : NearAt H' a nb := by
  obtain ⟨as, h1, h2, h3⟩ := h
  exact ⟨as, s _ _ h1, h2, fun k p l e1 e2 => s _ _ (h3 k p l e1 e2)⟩
/-- what is found from a place -/
structure Found (nb : List (List Nat)) (s : Nat) (ks : List Nat) : Prop where
  nd : ks.Nodup
  lt : ∀ k ∈ ks, k < nb.length
  start : s ∈ ks
  closed : ∀ x ∈ ks, ∀ l, nb[x]? = some l → ∀ y ∈ l, y ∈ ks
  least : ∀ S : Nat → Prop, S s → (∀ x l, S x → nb[x]? = some l → ∀ y ∈ l, S y) → ∀ k ∈ ks, S k
theorem nodup_le : ∀ {n : Nat} {ks : List Nat}, ks.Nodup → (∀ k ∈ ks, k < n) → ks.length ≤ n
  | 0, [], _, _ => Nat.le_refl 0
  | 0, k :: _, _, h => absurd (h k List.mem_cons_self) (Nat.not_lt_zero k)
  | n + 1, ks, nd, h => by
    by_cases m : n ∈ ks
    · have l1 := List.length_erase_of_mem m
      have l2 := nodup_le (n := n) (nd.erase n) fun k hk => by
        have h1 := (nd.mem_erase_iff.mp hk).1
        have h2 := h k (nd.mem_erase_iff.mp hk).2
        omega
      omega
    · exact Nat.le_succ_of_le (nodup_le nd fun k hk => by
        have := h k hk
        have : k ≠ n := fun e => m (e ▸ hk)
        omega)
theorem Same.off {H H' : Hp} {p : Addr} {o : HO} (s : Same H H') (h : H p = none) : Same H (upd H' p o) := fun b u e => by
  rw [upd_ne (ne_of_none e h)]
  exact s b u e
/-- between two turns of the while -/
structure Wv (nb : List (List Nat)) (s : Nat) (ks ws : List Nat) : Prop where
  nd : ks.Nodup
  lt : ∀ k ∈ ks, k < nb.length
  start : s ∈ ks
  least : ∀ S : Nat → Prop, S s → (∀ x l, S x → nb[x]? = some l → ∀ y ∈ l, S y) → ∀ k ∈ ks, S k
  sub : ∀ x ∈ ws, x ∈ ks
  closed : ∀ x ∈ ks, x ∈ ws ∨ ∀ l, nb[x]? = some l → ∀ y ∈ l, y ∈ ks
/-- within one -/
structure Iv (nb : List (List Nat)) (s pl : Nat) (l : List Nat) (j : Nat) (ks ws : List Nat) : Prop where
  nd : ks.Nodup
  lt : ∀ k ∈ ks, k < nb.length
  start : s ∈ ks
  least : ∀ S : Nat → Prop, S s → (∀ x l, S x → nb[x]? = some l → ∀ y ∈ l, S y) → ∀ k ∈ ks, S k
  sub : ∀ x ∈ ws, x ∈ ks
  closed : ∀ x ∈ ks, x ∈ ws ∨ x = pl ∨ ∀ l, nb[x]? = some l → ∀ y ∈ l, y ∈ ks
  pin : pl ∈ ks
  done : ∀ y ∈ l.take j, y ∈ ks
theorem Wv.pop {nb : List (List Nat)} {s pl : Nat} {ks ws : List Nat} (W : Wv nb s ks ws) (h : ws[ws.length - 1]? = some pl) (l : List Nat) : Iv nb s pl l 0 ks ws.dropLast := by
  refine ⟨W.nd, W.lt, W.start, W.least, fun x hx => W.sub x ((List.dropLast_sublist ws).subset hx), fun x hx => ?_, W.sub pl (List.mem_of_getElem? h), fun y hy => by simp at hy⟩
  rcases W.closed x hx with hw | hc
  · by_cases e : x = pl
    · exact .inr (.inl e)
    · left
      have ne : ws ≠ [] := fun z => by subst z; simp at hw
      have e1 : ws = ws.dropLast ++ [ws.getLast ne] := (List.dropLast_concat_getLast ne).symm
      have e2 : ws.getLast ne = pl := by
        rw [List.getLast_eq_getElem ne]
        have := (List.getElem?_eq_some_iff.mp h).2
        exact this
      rw [e1, e2] at hw
      rcases List.mem_append.mp hw with z | z
      · exact z
      · exact absurd (List.mem_singleton.mp z) e
  · exact .inr (.inr hc)
theorem Iv.have_ {nb : List (List Nat)} {s pl : Nat} {l : List Nat} {j y : Nat} {ks ws : List Nat} (I : Iv nb s pl l j ks ws) (hy : l[j]? = some y) (hin : y ∈ ks) : Iv nb s pl l (j + 1) ks ws :=
  ⟨I.nd, I.lt, I.start, I.least, I.sub, I.closed, I.pin, fun z hz => by
    rw [List.take_add_one, hy] at hz
    rcases List.mem_append.mp hz with q | q
    · exact I.done z q
    · obtain rfl : z = y := by simpa using q
      exact hin⟩
theorem Iv.add {nb : List (List Nat)} {s pl : Nat} {l : List Nat} {j y : Nat} {ks ws : List Nat} (I : Iv nb s pl l j ks ws) (hl : nb[pl]? = some l) (hy : l[j]? = some y) (hn : y ∉ ks) (hlt : y < nb.length) : Iv nb s pl l (j + 1) (ks ++ [y]) (ws ++ [y]) := by
  refine ⟨?_, fun k hk => ?_, List.mem_append_left _ I.start, fun S h0 hs k hk => ?_, fun x hx => ?_, fun x hx => ?_, List.mem_append_left _ I.pin, fun z hz => ?_⟩
  · rw [List.nodup_append]
    exact ⟨I.nd, by simp, fun a ha b hb e => hn (by rw [List.mem_singleton] at hb; subst hb e; exact ha)⟩
  · rcases List.mem_append.mp hk with q | q
    · exact I.lt k q
    · rw [List.mem_singleton.mp q]
      exact hlt
  · rcases List.mem_append.mp hk with q | q
    · exact I.least S h0 hs k q
    · rw [List.mem_singleton.mp q]
      exact hs pl l (I.least S h0 hs pl I.pin) hl y (List.mem_of_getElem? hy)
  · rcases List.mem_append.mp hx with q | q
    · exact List.mem_append_left _ (I.sub x q)
    · exact List.mem_append_right _ q
  · rcases List.mem_append.mp hx with q | q
    · rcases I.closed x q with a | a | a
      · exact .inl (List.mem_append_left _ a)
      · exact .inr (.inl a)
      · exact .inr (.inr fun l' h' y' hy' => List.mem_append_left _ (a l' h' y' hy'))
    · exact .inl (List.mem_append_right _ q)
  · rw [List.take_add_one, hy] at hz
    rcases List.mem_append.mp hz with q | q
    · exact List.mem_append_left _ (I.done z q)
    · exact List.mem_append_right _ (by simpa using q)
theorem Iv.out {nb : List (List Nat)} {s pl : Nat} {l : List Nat} {ks ws : List Nat} (I : Iv nb s pl l l.length ks ws) (hl : nb[pl]? = some l) : Wv nb s ks ws := by
  refine ⟨I.nd, I.lt, I.start, I.least, I.sub, fun x hx => ?_⟩
  rcases I.closed x hx with a | a | a
  · exact .inl a
  · subst a
    refine .inr fun l' h' y hy => ?_
    rw [hl] at h'
    cases h'
    exact I.done y (by rw [List.take_length]; exact hy)
  · exact .inr a
section
variable {P : Program} {w : World} {K : PySem.W.Frag} {mg : Str → Option Value} {base : Heap}
def spReach : Sp := fun vs H Q _ => ∃ (a : Addr) (nb : List (List Nat)) (s : Nat), vs = [.int (s : Int), .ref a] ∧ NearAt H a nb ∧ s < nb.length ∧ nb.length ≤ 1000 ∧ (∀ l ∈ nb, ∀ y ∈ l, y < nb.length) ∧ (∀ l ∈ nb, l.length ≤ 1000) ∧
  ∀ (d : Addr) (ks : List Nat) (H' : Hp), H d = none → H' d = some (.dK (kvT ks)) → Found nb s ks → Same H H' → Q (.ref d) H'
abbrev nRe : List Str := ["start", "near", "found", "waiting", "place", "name"]
theorem scRe : FnScope nRe ["start", "near"] (defScope sReached) := ⟨rfl, rfl, rfl, by decide +kernel, rfl, by decide +kernel, by decide +kernel⟩
theorem ok_reach {f : Addr} {fd : FuncData} (F : Fun K "reached_from" "reached_from" sReached f fd) : FnOk P w K mg base CX0 1 f fd ["start", "near"] spReach := by
  refine F.ok scRe (fun vs H Q E h => ?_) (fun cdv A outer s H vs Q E hr h => ?_)
  · obtain ⟨_, _, _, rfl, _⟩ := h
    rfl
  · obtain ⟨a, nb, st, rfl, near, hst, hn, hlt, hll, k⟩ := h
    have hu := hu_of hr
    obtain ⟨as, ha, hal, has⟩ := near
    refine ⟨_, Evl.pss_cut (ps_set (i := 2) scRe.nd rfl (Or.inl rfl) (pe_disp (pps_cons (pv 0) pe_bl pps_nil) (by rfl) (by rfl) (fun z => by cases z) (by decide)))
      (Evl.pss_cut (ps_set (i := 3) scRe.nd rfl (Or.inl rfl) (pe_lst (pa_cons (pv 0) pa_nil)))
      (Evl.pss_cut (ps_while PassesOwn.never (pt_truth (pv 3) (by intro _; rfl))
        (pss_cons (ps_set (i := 4) scRe.nd rfl (Or.inl rfl) (pe_bm0 PySem.F.plainAttrs_list PySem.F.slot_list_pop PySem.F.type_list_pop mt_pop (pv 3)))
        (pss_one (ps_for PassesOwn.never rfl (pi_list (pe_ix ix_list (pv 1) (pv 4) (fun _ _ => rfl))) (pg_name (i := 5) scRe.nd rfl (.inl rfl))
          (pss_one (ps_if (pt_cmp (pc_dnotin hu (pv 5) (pv 2)))
            (pss_cons (ps_dput hu (pv 2) (pv 5) pe_bl rfl) (pss_one (ps_expr (pe_bm PySem.F.plainAttrs_list PySem.F.slot_list_append PySem.F.type_list_append mt_append (pv 3) (pa_cons (pv 5) pa_nil))))) pss_nil))))))
      (pss_one (ps_ret (pv 2))))), ?_⟩
    refine ⟨fun σ H1 => ∃ d, σ = [some (.int (st : Int)), some (.ref a), some (.ref d), none, none, none] ∧ H d = none ∧ H1 d = some (.dK (kvT [st])) ∧ Same H H1, ?_, ?_⟩
    · refine fun d hd => ⟨_, rfl, upd_same, [(Sum.inl (st : Int), V.bl true)], rfl, (by show 1 ≤ 15; decide), d, rfl, hd, ?_, ?_⟩
      · rw [upd_same]
        rfl
      · exact Same.off (same_new hd) hd
    rintro σ H1 ⟨d, rfl, hd0, hd1, s1⟩
    refine ⟨fun σ H2 => ∃ wt, σ = [some (.int (st : Int)), some (.ref a), some (.ref d), some (.ref wt), none, none] ∧ H1 wt = none ∧ H2 wt = some (.lst (natV [st])) ∧ Same H1 H2, ?_, ?_⟩
    · exact ⟨_, rfl, (by show 1 ≤ sizeLine; decide), fun wt hwt => ⟨wt, rfl, hwt, upd_same, same_new hwt⟩⟩
    rintro σ H2 ⟨wt, rfl, hwt0, hwt2, s2⟩
    have hdw : d ≠ wt := ne_of_none hd1 hwt0
    have hw0 := s1.free hwt0
    have hd2 := s2 _ _ hd1
    have s02 := s1.trans s2
    refine ⟨fun σ H3 => ∃ v4 v5 ks, σ = [some (.int (st : Int)), some (.ref a), some (.ref d), some (.ref wt), v4, v5] ∧ H3 d = some (.dK (kvT ks)) ∧ Found nb st ks ∧ Same H H3, ?_, ?_⟩
    · refine ⟨fun mm σ H3 => ∃ v4 v5 ks ws, mm = 2 * (nb.length - ks.length) + ws.length ∧ σ = [some (.int (st : Int)), some (.ref a), some (.ref d), some (.ref wt), v4, v5] ∧ H3 d = some (.dK (kvT ks)) ∧ H3 wt = some (.lst (natV ws)) ∧ ws.length ≤ ks.length ∧ Wv nb st ks ws ∧ Same H H3,
        ⟨_, none, none, [st], [st], rfl, rfl, hd2, hwt2, Nat.le_refl _, ⟨by simp, fun k hk => by rw [List.mem_singleton.mp hk]; exact hst, List.mem_singleton.mpr rfl, fun S h0 _ k hk => by rw [List.mem_singleton.mp hk]; exact h0, fun x hx => hx, fun x hx => .inl hx⟩, s02⟩, ?_⟩
      rintro mm σ H3 ⟨v4, v5, ks, ws, rfl, rfl, hd3, hw3, hwk, W, s3⟩
      have hkn := nodup_le W.nd W.lt
      refine ⟨_, rfl, (!(natV ws).isEmpty), .inl ⟨_, SqL.of hw3, rfl⟩, ?_⟩
      cases hws : ws with
      | nil =>
        subst hws
        refine iteF ⟨v4, v5, ks, rfl, hd3, ⟨W.nd, W.lt, W.start, fun x hx => ?_, W.least⟩, s3⟩
        rcases W.closed x hx with a | a
        · simp at a
        · exact a
      | cons w0 wr =>
        rw [← hws]
        have wl : 0 < ws.length := by rw [hws]; simp
        have e1 : (!(natV ws).isEmpty) = true := by rw [hws]; rfl
        rw [e1]
        obtain ⟨pl, hpl⟩ : ∃ pl, ws[ws.length - 1]? = some pl := ⟨_, List.getElem?_eq_getElem (by omega)⟩
        have hplk := W.sub pl (List.mem_of_getElem? hpl)
        have hpln := W.lt pl hplk
        obtain ⟨l, hl⟩ : ∃ l, nb[pl]? = some l := ⟨_, List.getElem?_eq_getElem hpln⟩
        obtain ⟨pa, hpa⟩ : ∃ pa, as[pl]? = some pa := ⟨_, List.getElem?_eq_getElem (by omega)⟩
        have hpal := has pl pa l hpa hl
        have lm := List.mem_of_getElem? hl
        refine iteT ⟨fun σ H4 => ∃ v4 v5 ks2 ws2, 2 * (nb.length - ks2.length) + ws2.length < 2 * (nb.length - ks.length) + ws.length ∧ σ = [some (.int (st : Int)), some (.ref a), some (.ref d), some (.ref wt), v4, v5] ∧ H4 d = some (.dK (kvT ks2)) ∧ H4 wt = some (.lst (natV ws2)) ∧ ws2.length ≤ ks2.length ∧ Wv nb st ks2 ws2 ∧ Same H H4,
          fun σ' H' ⟨v4, v5, ks2, ws2, q1, q2, q3, q4, q5, q6, q7⟩ => ⟨_, q1, v4, v5, ks2, ws2, rfl, q2, q3, q4, q5, q6, q7⟩, ?_⟩
        refine ⟨_, rfl, .inl ⟨rfl, _, SqL.of hw3⟩, wt, _, .int (pl : Int), rfl, rfl, hw3, (by rw [List.length_map, List.getElem?_map, hpl]; rfl), ?_⟩
        have s4 : Same H (upd H3 wt (.lst (natV ws).dropLast)) := Same.off s3 hw0
        have hw4 : (upd H3 wt (.lst (natV ws).dropLast)) wt = some (.lst (natV ws.dropLast)) := by
          rw [upd_same]
          show some (HO.lst (List.dropLast (List.map _ ws))) = _
          rw [← List.map_dropLast]
        have hd4 : (upd H3 wt (.lst (natV ws).dropLast)) d = some (.dK (kvT ks)) := by
          rw [upd_ne hdw]
          exact hd3
        generalize upd H3 wt (.lst (natV ws).dropLast) = H4 at *
        refine ⟨_, rfl, _, rfl, a, _, _, V.ref pa, rfl, rfl, SqL.of (s4 _ _ ha), atI_nat (by rw [List.getElem?_map, hpa]; rfl), pa, rfl, ⟨_, SqL.of (s4 _ _ hpal)⟩, ?_⟩
        have dl : ws.dropLast.length = ws.length - 1 := List.length_dropLast
        refine for_it (walk_list (xs := natV l)) (fun j σ H5 => ∃ v5 ks2 ws2, 2 * (nb.length - ks2.length) + ws2.length + 1 ≤ 2 * (nb.length - ks.length) + ws.length ∧ σ = [some (.int (st : Int)), some (.ref a), some (.ref d), some (.ref wt), some (.int (pl : Int)), v5] ∧ H5 d = some (.dK (kvT ks2)) ∧ H5 wt = some (.lst (natV ws2)) ∧ ws2.length ≤ ks2.length ∧ Iv nb st pl l j ks2 ws2 ∧ Same H H5)
          ⟨v5, ks, ws.dropLast, by omega, rfl, hd4, hw4, by omega, W.pop hpl l, s4⟩ (fun j σ H5 _ ⟨_, _, _, _, _, _, _, _, _, s⟩ => SqL.of (s _ _ hpal)) ?_ ?_
        · rintro j x σ H6 H5 hj ⟨v5, ks2, ws2, me, rfl, hd5, hw5, hwk5, I, s5⟩ ⟨rfl, hx⟩
          have hx : (l.map fun w : Nat => V.int (w : Int))[j]? = some x := hx
          rw [List.getElem?_map] at hx
          obtain ⟨y, hy, rfl⟩ := Option.map_eq_some_iff.mp hx
          have hyn := hlt l lm y (List.mem_of_getElem? hy)
          have hk2 := nodup_le I.nd I.lt
          by_cases hin : y ∈ ks2
          · obtain ⟨vx, hvx⟩ := kvT_get hin
            exact ⟨_, rfl, _, rfl, d, some vx, rfl, (by rw [← hvx]; exact DGet.k (k := Sum.inl (y : Int)) hd5), _, rfl, iteF ⟨_, ks2, ws2, me, rfl, hd5, hw5, hwk5, I.have_ hy hin, s5⟩⟩
          · have hno := kvT_no hin
            have hk3 : (ks2 ++ [y]).length ≤ nb.length := by
              have I2 := I.add hl hy hin hyn
              exact nodup_le I2.nd I2.lt
            rw [List.length_append, List.length_singleton] at hk3
            refine ⟨_, rfl, _, rfl, d, none, rfl, (by rw [← hno]; exact DGet.k (k := Sum.inl (y : Int)) hd5), _, rfl, iteT ?_⟩
            refine ⟨_, rfl, _, rfl, d, _, rfl, DPut.k (k := Sum.inl (y : Int)) hd5 (Evl.sz_lt (by unfold kvT; rw [List.length_map]; omega)), ?_⟩
            rw [kvT_put hin]
            have hw6 : (upd H5 d (.dK (kvT (ks2 ++ [y])))) wt = some (.lst (natV ws2)) := by
              rw [upd_ne hdw.symm]
              exact hw5
            refine ⟨_, rfl, .inl ⟨rfl, _, SqL.of hw6⟩, _, rfl, wt, _, _, rfl, rfl, hw6, Evl.sz_lt (by rw [List.length_map]; omega), ?_⟩
            refine ⟨_, ks2 ++ [y], ws2 ++ [y], ?_, rfl, ?_, ?_, ?_, I.add hl hy hin hyn, Same.off (Same.off s5 hd0) hw0⟩
            · simp only [List.length_append, List.length_singleton]
              omega
            · rw [upd_ne hdw, upd_same]
            · rw [upd_same]
              show _ = some (HO.lst (List.map _ (ws2 ++ [y])))
              rw [List.map_append]
              rfl
            · rw [List.length_append, List.length_append]
              omega
        · rintro σ H5 ⟨v5, ks2, ws2, me, rfl, hd5, hw5, hwk5, I, s5⟩
          have e : (natV l).length = l.length := List.length_map _
          rw [e] at I
          exact ⟨_, v5, ks2, ws2, by omega, rfl, hd5, hw5, hwk5, I.out hl, s5⟩
    rintro σ H3 ⟨v4, v5, ks, rfl, hd3, fo, s3⟩
    exact ⟨_, rfl, k d ks H3 hd0 hd3 fo s3⟩
end
end Nm
set_option maxRecDepth 100000
set_option maxHeartbeats 4000000
/-! zip of many tuples: its making -/
namespace Nm
open PySem PySem.Spec PyProof.Rows L2
theorem zipN_type (as : List Value) : checkTypeCall "zip" ⟨as, []⟩ = pure () := by kernel_rfl
theorem zipN_new : ∀ (as : List Value), 1 ≤ as.length → as.length ≤ 8 → checkBuiltinCall "zip.__new__" ⟨.type "zip" :: as, []⟩ = pure ()
  | [_], _, _ => by kernel_rfl
  | [_, _], _, _ => by kernel_rfl
  | [_, _, _], _, _ => by kernel_rfl
  | [_, _, _, _], _, _ => by kernel_rfl
  | [_, _, _, _, _], _, _ => by kernel_rfl
  | [_, _, _, _, _, _], _, _ => by kernel_rfl
  | [_, _, _, _, _, _, _], _, _ => by kernel_rfl
  | [_, _, _, _, _, _, _, _], _, _ => by kernel_rfl
  | _ :: _ :: _ :: _ :: _ :: _ :: _ :: _ :: _ :: _, _, h => by simp only [List.length_cons] at h; omega
local macro_rules | `(tactic| trivial) => `(tactic| (unfold argsOk; rw [signature?_of (id := "object.__init__") (n := ['_', '_', 't', 'i', 'n', 'i', '_', '_']) (o := ['t', 'c', 'e', 'j', 'b', 'o']) (by kernel_rfl) F.owner_object]; kernel_rfl))
theorem zipN_init : ∀ (a : Value) (as : List Value), as.length ≤ 8 → argsOk "object.__init__" ⟨a :: as, []⟩
  | _, [], _ => by trivial
  | _, [_], _ => by trivial
  | _, [_, _], _ => by trivial
  | _, [_, _, _], _ => by trivial
  | _, [_, _, _, _], _ => by trivial
  | _, [_, _, _, _, _], _ => by trivial
  | _, [_, _, _, _, _, _], _ => by trivial
  | _, [_, _, _, _, _, _, _], _ => by trivial
  | _, [_, _, _, _, _, _, _, _], _ => by trivial
  | _, _ :: _ :: _ :: _ :: _ :: _ :: _ :: _ :: _ :: _, h => by simp only [List.length_cons] at h; omega
section
variable {prog : Program} {w : World} {A : Around} {E : Value → Shared → Prop} {s : Shared}
/-- the iterators' places -/
abbrev itsAt (z n : Nat) : List Addr := (List.range n).map (z + ·)
theorem its_get {z n k : Nat} (h : k < n) : (itsAt z n)[k]? = some (z + k) := by
  rw [List.getElem?_map, List.getElem?_range h]
  rfl
theorem wpAny_iterAllT {ls : List Addr} {Q : List Value → Shared → Prop} (hl : ∀ l ∈ ls, ∃ xs, s.heap.IsTuple l xs)
    (hQ : ∀ h', h'.objs.size = s.heap.objs.size + ls.length → (∀ c o, s.heap.get? c = some o → h'.get? c = some o) → (∀ k l, ls[k]? = some l → h'.IsTupleIter (s.heap.objs.size + k) l 0) → Q ((itsAt s.heap.objs.size ls.length).map Value.ref) { s with heap := h' }) :
    wpAny (model prog w) A (Builtin.SmallTypes.iterAll (ls.map Value.ref)) Q E s := by
  unfold Builtin.SmallTypes.iterAll
  refine wpAny_bind ?_
  refine wpAny_forIn_list _ (fun rest b s' => ∃ k h', k ≤ ls.length ∧ rest = (ls.drop k).map Value.ref ∧ b = ((itsAt s.heap.objs.size k).map Value.ref).toArray ∧ s' = { s with heap := h' } ∧ h'.objs.size = s.heap.objs.size + k ∧ (∀ c o, s.heap.get? c = some o → h'.get? c = some o) ∧ ∀ j l, j < k → ls[j]? = some l → h'.IsTupleIter (s.heap.objs.size + j) l 0) _ ?_ ?_ _ _ ⟨0, s.heap, Nat.zero_le _, by simp, by simp [itsAt], rfl, rfl, fun _ _ e => e, fun j l h => absurd h (Nat.not_lt_zero j)⟩
  · rintro x rest b s1 ⟨k, h1, kl, er, rfl, rfl, sz, kp, its⟩
    cases hd : ls.drop k with
    | nil => rw [hd] at er; cases er
    | cons l more =>
      rw [hd] at er
      cases er
      have lk : ls[k]? = some l := by
        have := congrArg (fun (z : List Addr) => z[0]?) hd
        rw [List.getElem?_drop] at this
        simpa using this
      have klt := (List.getElem?_eq_some_iff.mp lk).1
      have hd1 : ls.drop (k + 1) = more := by
        rw [← List.tail_drop, hd]
        rfl
      obtain ⟨xs, hxs⟩ := hl l (List.mem_of_getElem? lk)
      have hxs1 : (Shared.heap { s with heap := h1 }).IsTuple l xs := hxs.at fun o e => kp _ o e
      refine wpAny_bind (wpAny_holding (wpAny_pyIter_tuple hxs1 (wpAny_pure ?_)))
      refine ⟨k + 1, _, klt, by rw [hd1], ?_, rfl, by rw [Heap.size_push, sz]; rfl, fun c o e => Heap.get?_push_of_some _ (kp c o e), fun j l' hj hl' => ?_⟩
      · rw [sz]
        simp [itsAt, List.range_succ]
      · by_cases e : j = k
        · subst e
          rw [lk] at hl'
          cases hl'
          rw [← sz]
          exact ⟨_, Heap.get?_push_size _ rfl, rfl, rfl⟩
        · exact (its j l' (by omega) hl').at fun o e => Heap.get?_push_of_some _ e
  · rintro b s1 ⟨k, h1, kl, er, rfl, rfl, sz, kp, its⟩
    have ek : k = ls.length := by
      have := congrArg List.length er
      simp at this
      omega
    subst ek
    refine wpAny_pure ?_
    have := hQ h1 sz kp fun j l h => its j l (List.getElem?_eq_some_iff.mp h).1 h
    simpa using this
end
end Nm
set_option maxRecDepth 100000
set_option maxHeartbeats 4000000
/-! zip of many tuples: the next item -/
namespace Nm
open PySem PySem.Spec PyProof.Rows L2
abbrev tupN (vs : List Value) : Obj := { cls := .type "tuple", data := .seq vs.toArray }
/-- the iterators, and what they go over: the first n at b, the tuple of them behind, a tuple of its own, the zip -/
structure ZN (h : Heap) (b : Nat) (ls : List Addr) (rows : List (List Value)) (i : Nat) : Prop where
  ti : h.get? (b + ls.length) = some (tupN ((itsAt b ls.length).map Value.ref))
  its : ∀ (k : Nat) (l : Addr), ls[k]? = some l → h.IsTupleIter (b + k) l i
  row : ∀ (k : Nat) (l : Addr), ls[k]? = some l → ∃ r : List Value, rows[k]? = some r ∧ h.IsTuple l r.toArray
  lt : ∀ l ∈ ls, l < b
theorem neA {a b : Nat} (h : a ≠ b) : @Ne Addr a b := h
/-- what the zip itself does not touch -/
abbrev FrN (b n : Nat) (h h' : Heap) : Prop := ∀ c o, (c < b ∨ b + n + 2 < c ∨ c = b + n) → h.get? c = some o → h'.get? c = some o
section
variable {prog : Program} {w : World} {A : Around} {E : Value → Shared → Prop} {s : Shared} {b i : Nat} {ls : List Addr} {rows : List (List Value)}
theorem zipN_item {vs xs : List Value} {Q : Value → Shared → Prop} (Z : ZN s.heap b ls rows i) (n1 : 1 ≤ ls.length) (n8 : ls.length ≤ 8)
    (hz : IsZip s.heap (b + ls.length + 2) (b + ls.length) (b + ls.length + 1) .none) (hTO : s.heap.get? (b + ls.length + 1) = some (tupN vs)) (vl : vs.length = ls.length) (xl : xs.length = ls.length) (hx : ∀ (k : Nat) r, rows[k]? = some r → r[i]? = xs[k]?)
    (hQ : ∀ h', IsZipHeld h' (b + ls.length + 2) (b + ls.length) (b + ls.length + 1) s.heap.objs.size false → h'.get? (b + ls.length + 1) = some (tupN xs) → (∀ (k : Nat) (l : Addr), ls[k]? = some l → h'.IsTupleIter (b + k) l (i + 1)) → h'.get? s.heap.objs.size = some (tupN xs) → h'.objs.size = s.heap.objs.size + 1 →
      FrN b ls.length s.heap h' → Q (.ref s.heap.objs.size) { s with heap := h' }) :
    wpAny (model prog w) A (Builtin.«zip.__next__» ⟨[.ref (b + ls.length + 2)], []⟩) (fun fin s' => ∃ v, fin = .done (.ret v) ∧ Q v s') E s := by
  have zlt : b + ls.length + 2 < s.heap.objs.size := Heap.lt_size hz
  show wpAny _ _ (field (.ref _) 2 >>= _) _ _ _
  refine wpAny_bind (wpAny_field hz rfl (x := .bool false) rfl ?_)
  show wpAny _ _ (field (.ref _) 3 >>= _) _ _ _
  refine wpAny_bind (wpAny_field hz rfl (x := .ref (b + ls.length)) rfl ?_)
  refine wpAny_bind (wpAny_seqItems Z.ti rfl ?_)
  have ne0 : (((itsAt b ls.length).map Value.ref).toArray).isEmpty = false := by
    rw [← Bool.not_eq_true, Array.isEmpty_iff]
    intro h
    have := congrArg Array.size h
    simp at this
    subst this
    simp at n1
  simp only [ne0, Bool.false_eq_true, if_false]
  show wpAny _ _ (Builtin.SmallTypes.ownedTupleIsFree (.ref _) >>= _) _ _ _
  refine wpAny_bind ?_
  unfold Builtin.SmallTypes.ownedTupleIsFree
  refine wpAny_bind (wpAny_field hz rfl (x := .none) rfl (wpAny_pure ?_))
  simp only [if_true]
  refine wpAny_bind (wpAny_rule ?_)
  refine wpAny_bind (wpAny_field hz rfl (x := .ref (b + ls.length + 1)) rfl ?_)
  refine wpAny_bind (wpAny_setField_rec hz (by simp) fun h₁ hz₁ hs₁ => ?_)
  replace hz₁ : IsZip h₁ (b + ls.length + 2) (b + ls.length) (b + ls.length + 1) .ellipsis := hz₁
  refine wpAny_bind ?_
  refine wpAny_forIn_list _ (fun rest st s' => ∃ k h', k ≤ ls.length ∧ rest = (((itsAt b ls.length).map Value.ref).zipIdx).drop k ∧ st = ⟨none, ⟨⟩⟩ ∧ s' = { s with heap := h' } ∧ h'.objs.size = s.heap.objs.size ∧ IsZip h' (b + ls.length + 2) (b + ls.length) (b + ls.length + 1) .ellipsis ∧
      h'.get? (b + ls.length + 1) = some (tupN (xs.take k ++ vs.drop k)) ∧ (∀ (j : Nat) (l : Addr), ls[j]? = some l → h'.IsTupleIter (b + j) l (if j < k then i + 1 else i)) ∧ FrN b ls.length s.heap h') _ ?_ ?_ _ _ ?_
  · rintro x rest st s1 ⟨k, h1, kl, er, rfl, rfl, sz, hz1, to1, it1, fr1⟩
    cases hd : (((itsAt b ls.length).map Value.ref).zipIdx).drop k with
    | nil => rw [hd] at er; cases er
    | cons p more =>
      rw [hd] at er
      cases er
      have pk : (((itsAt b ls.length).map Value.ref).zipIdx)[k]? = some x := by
        have := congrArg (fun (z : List (Value × Nat)) => z[0]?) hd
        rw [List.getElem?_drop] at this
        simpa using this
      have klt : k < ls.length := by
        have := (List.getElem?_eq_some_iff.mp pk).1
        simpa using this
      have hd1 : (((itsAt b ls.length).map Value.ref).zipIdx).drop (k + 1) = rest := by
        rw [← List.tail_drop, hd]
        rfl
      have ep : x = (Value.ref (b + k), k) := by
        rw [List.getElem?_zipIdx, List.getElem?_map, its_get klt] at pk
        simpa using pk.symm
      subst ep
      obtain ⟨l, hl⟩ : ∃ l, ls[k]? = some l := ⟨_, List.getElem?_eq_getElem klt⟩
      obtain ⟨r, hr, hrow⟩ := Z.row k l hl
      have llt := Z.lt l (List.mem_of_getElem? hl)
      obtain ⟨v, hv⟩ : ∃ v, xs[k]? = some v := ⟨_, List.getElem?_eq_getElem (by omega)⟩
      have hri : r.toArray[i]? = some v := by
        rw [List.getElem?_toArray, hx k r hr, hv]
      have itk := it1 k l hl
      rw [if_neg (Nat.lt_irrefl k)] at itk
      have hrow1 : h1.IsTuple l r.toArray := hrow.at fun o e => fr1 l o (.inl llt) e
      show wpAny _ _ (_ >>= _) _ _ _
      refine wpAny_bind (wpAny_onRaise ?_)
      show wpAny _ _ (Builtin.SmallTypes.nextOf (.ref (b + k)) >>= _) _ _ _
      refine wpAny_bind (RZ.nextOf_tuple_item (s := { s with heap := h1 }) itk hrow1 hri fun h2 it2 hs2 => wpAny_pure ?_)
      have to2 : h2.get? (b + ls.length + 1) = some (tupN (xs.take k ++ vs.drop k)) := hs2.extBut _ _ (neA (by omega)) to1
      show wpAny _ _ (seqItems? _ >>= _) _ _ _
      refine wpAny_bind (wpAny_seqItems to2 rfl ?_)
      have lim : (xs.take k ++ vs.drop k).length ≤ 8 := by rw [List.length_append, List.length_take, List.length_drop]; omega
      have at3 := Heap.get?_update_self (Obj.mapSeq (·.setIfInBounds k v)) to2 rfl
      refine wpAny_bind (wpAny_updateSeq to2 rfl ?_ (by rw [List.size_toArray, sizeLine_eq]; omega) (by rw [Array.size_setIfInBounds, List.size_toArray, sizeLine_eq]; omega))
      refine wpAny_bind (wpAny_letGo (wpAny_pure ?_))
      have oth : ∀ c o, c ≠ b + ls.length + 1 → h2.get? c = some o → (h2.update (b + ls.length + 1) (Obj.mapSeq (·.setIfInBounds k v))).get? c = some o := fun c o n e => (Heap.get?_update_other _ _ n.symm).trans e
      refine ⟨k + 1, h2.update (b + ls.length + 1) (Obj.mapSeq (·.setIfInBounds k v)), klt, hd1.symm, rfl, rfl, by rw [Heap.size_update, hs2.1, sz], oth _ _ (neA (by omega)) (hs2.extBut _ _ (neA (by omega)) hz1), ?_, fun j l' hj => ?_, fun c o hc e => oth _ _ (neA (by omega)) (hs2.extBut _ _ (neA (by omega)) (fr1 c o hc e))⟩
      · rw [at3]
        have e1 : (xs.take k ++ vs.drop k).set k v = xs.take (k + 1) ++ vs.drop (k + 1) := by
          rw [List.take_add_one, hv]
          have e2 : vs.drop k = vs[k]'(by omega) :: vs.drop (k + 1) := (List.getElem_cons_drop (by omega)).symm
          rw [e2, List.set_append_right _ _ (by rw [List.length_take]; omega)]
          have e3 : k - (xs.take k).length = 0 := by rw [List.length_take]; omega
          rw [e3, ← e2]
          rw [e2, List.set_cons_zero]
          simp
        simp only [Obj.mapSeq, tupN]
        rw [← e1]
        simp
      · have jl : j < ls.length := (List.getElem?_eq_some_iff.mp hj).1
        by_cases e : j = k
        · subst e
          rw [hl] at hj
          cases hj
          rw [if_pos (Nat.lt_succ_self _)]
          exact it2.at fun o e => oth _ o (neA (by omega)) e
        · have := it1 j l' hj
          have e1 : (j < k + 1) = (j < k) := by
            apply propext
            omega
          rw [show (if j < k + 1 then i + 1 else i) = (if j < k then i + 1 else i) from by simp only [e1]]
          exact this.at fun o e' => oth _ o (neA (by omega)) (hs2.extBut _ _ (neA (by omega)) e')
  · rintro st s1 ⟨k, h1, kl, er, rfl, rfl, sz, hz1, to1, it1, fr1⟩
    have ek : k = ls.length := by
      have := congrArg List.length er
      simp at this
      omega
    subst ek
    rw [List.take_of_length_le (by omega), List.drop_of_length_le (by omega), List.append_nil] at to1
    have it2 : ∀ (j : Nat) (l : Addr), ls[j]? = some l → h1.IsTupleIter (b + j) l (i + 1) := fun j l hj => by
      have := it1 j l hj
      rwa [if_pos (List.getElem?_eq_some_iff.mp hj).1] at this
    show wpAny _ _ (seqItems? _ >>= _) _ _ _
    refine wpAny_bind (wpAny_seqItems to1 rfl ?_)
    have tl : xs.toArray.toList = xs := rfl
    refine wpAny_bind (wpAny_newTuple ?_ (by show xs.length ≤ sizeLine; rw [sizeLine_eq]; omega))
    show wpAny _ _ (Builtin.SmallTypes.ownedTupleHandOut (.ref _) (.ref h1.objs.size) >>= _) _ _ _
    refine wpAny_bind ?_
    unfold Builtin.SmallTypes.ownedTupleHandOut
    have hz6 : IsZip (h1.push (tupN xs)) (b + ls.length + 2) (b + ls.length) (b + ls.length + 1) .ellipsis := Heap.get?_push_of_some _ hz1
    refine wpAny_bind (wpAny_setField_rec hz6 (by simp) fun h7 hz7 hs7 => ?_)
    replace hz7 : IsZip h7 (b + ls.length + 2) (b + ls.length) (b + ls.length + 1) (rawInt h1.objs.size) := hz7
    refine wpAny_setField_rec hz7 (by simp) fun h8 hz8 hs8 => ?_
    replace hz8 : IsZipHeld h8 (b + ls.length + 2) (b + ls.length) (b + ls.length + 1) h1.objs.size false := hz8
    have up : ∀ (c : Nat) o, c ≠ b + ls.length + 2 → h1.get? c = some o → h8.get? c = some o := fun c o c1 e => hs8.extBut _ _ (neA c1) (hs7.extBut _ _ (neA c1) (Heap.get?_push_of_some _ e))
    have t8 : h8.get? h1.objs.size = some (tupN xs) := hs8.extBut _ _ (neA (by omega)) (hs7.extBut _ _ (neA (by omega)) (Heap.get?_push_size _ rfl))
    have sz8 : h8.objs.size = h1.objs.size + 1 := by rw [hs8.1, hs7.1, Heap.size_push]
    rw [sz] at hz8 t8 sz8
    refine wpAny_pure ⟨_, rfl, ?_⟩
    show Q (.ref h1.objs.size) _
    rw [sz]
    refine hQ h8 hz8 (up _ _ (by omega) to1) (fun k l hk => (it2 k l hk).at fun o e => up _ o ?_ e) t8 sz8 fun c o hc e => up c o (by omega) (fr1 c o hc e)
    have := (List.getElem?_eq_some_iff.mp hk).1
    omega
  · refine ⟨0, h₁, Nat.zero_le _, by simp, rfl, rfl, by rw [hs₁.1], hz₁, ?_, fun j l hj => ?_, fun c o hc e => hs₁.extBut _ _ (neA (by omega)) e⟩
    · have := hs₁.extBut _ _ (show b + ls.length + 1 ≠ b + ls.length + 2 by omega) hTO
      simpa using this
    · have jl : j < ls.length := (List.getElem?_eq_some_iff.mp hj).1
      rw [if_neg (Nat.not_lt_zero j)]
      exact (Z.its j l hj).extBut hs₁.extBut (neA (by omega))
end
end Nm
set_option maxRecDepth 100000
set_option maxHeartbeats 4000000
/-! zip of many tuples: the next item while the one before is still there; the end -/
namespace Nm
open PySem PySem.Spec PyProof.Rows L2
section
variable {prog : Program} {w : World} {A : Around} {E : Value → Shared → Prop} {s : Shared} {b i : Nat} {ls : List Addr} {rows : List (List Value)}
theorem zipN_item_held {xs : List Value} {T : Addr} {f : Bool} {oT : Obj} {Q : Value → Shared → Prop} (Z : ZN s.heap b ls rows i) (n1 : 1 ≤ ls.length) (n8 : ls.length ≤ 8)
    (hz : IsZipHeld s.heap (b + ls.length + 2) (b + ls.length) (b + ls.length + 1) T f) (hT : s.heap.get? T = some oT) (xl : xs.length = ls.length) (hx : ∀ (k : Nat) r, rows[k]? = some r → r[i]? = xs[k]?)
    (hQ : ∀ h', IsZipHeld h' (b + ls.length + 2) (b + ls.length) (b + ls.length + 1) T true → (∀ (k : Nat) (l : Addr), ls[k]? = some l → h'.IsTupleIter (b + k) l (i + 1)) → h'.get? s.heap.objs.size = some (tupN xs) → h'.objs.size = s.heap.objs.size + 1 →
      FrN b ls.length s.heap h' → (∀ o, s.heap.get? (b + ls.length + 1) = some o → h'.get? (b + ls.length + 1) = some o) → Q (.ref s.heap.objs.size) { s with heap := h' }) :
    wpAny (model prog w) A (Builtin.«zip.__next__» ⟨[.ref (b + ls.length + 2)], []⟩) (fun fin s' => ∃ v, fin = .done (.ret v) ∧ Q v s') E s := by
  have zlt : b + ls.length + 2 < s.heap.objs.size := Heap.lt_size hz
  show wpAny _ _ (field (.ref _) 2 >>= _) _ _ _
  refine wpAny_bind (wpAny_field hz rfl (x := .bool false) rfl ?_)
  show wpAny _ _ (field (.ref _) 3 >>= _) _ _ _
  refine wpAny_bind (wpAny_field hz rfl (x := .ref (b + ls.length)) rfl ?_)
  refine wpAny_bind (wpAny_seqItems Z.ti rfl ?_)
  have ne0 : (((itsAt b ls.length).map Value.ref).toArray).isEmpty = false := by
    rw [← Bool.not_eq_true, Array.isEmpty_iff]
    intro h
    have := congrArg Array.size h
    simp at this
    subst this
    simp at n1
  simp only [ne0, Bool.false_eq_true, if_false]
  show wpAny _ _ (Builtin.SmallTypes.ownedTupleIsFree (.ref _) >>= _) _ _ _
  refine wpAny_bind (wpAny_tupleHeld_zip hz hT fun h₁ hz₁ hs₁ => ?_)
  simp only [Bool.false_eq_true, if_false]
  refine wpAny_bind ?_
  rw [← Array.forIn_toList]
  refine wpAny_forIn_list _ (fun rest st s' => ∃ k h', k ≤ ls.length ∧ rest = ((itsAt b ls.length).map Value.ref).drop k ∧ st = ⟨none, (xs.take k).toArray⟩ ∧ s' = { s with heap := h' } ∧ h'.objs.size = s.heap.objs.size ∧ IsZipHeld h' (b + ls.length + 2) (b + ls.length) (b + ls.length + 1) T true ∧
      (∀ (j : Nat) (l : Addr), ls[j]? = some l → h'.IsTupleIter (b + j) l (if j < k then i + 1 else i)) ∧ FrN b ls.length s.heap h' ∧ (∀ o, s.heap.get? (b + ls.length + 1) = some o → h'.get? (b + ls.length + 1) = some o)) _ ?_ ?_ _ _ ?_
  · rintro x rest st s1 ⟨k, h1, kl, er, rfl, rfl, sz, hz1, it1, fr1, to1⟩
    cases hd : ((itsAt b ls.length).map Value.ref).drop k with
    | nil => rw [hd] at er; cases er
    | cons p more =>
      rw [hd] at er
      cases er
      have pk : ((itsAt b ls.length).map Value.ref)[k]? = some x := by
        have := congrArg (fun (z : List Value) => z[0]?) hd
        rw [List.getElem?_drop] at this
        simpa using this
      have klt : k < ls.length := by
        have := (List.getElem?_eq_some_iff.mp pk).1
        simpa using this
      have hd1 : ((itsAt b ls.length).map Value.ref).drop (k + 1) = rest := by
        rw [← List.tail_drop, hd]
        rfl
      have ep : x = Value.ref (b + k) := by
        rw [List.getElem?_map, its_get klt] at pk
        simpa using pk.symm
      subst ep
      obtain ⟨l, hl⟩ : ∃ l, ls[k]? = some l := ⟨_, List.getElem?_eq_getElem klt⟩
      obtain ⟨r, hr, hrow⟩ := Z.row k l hl
      have llt := Z.lt l (List.mem_of_getElem? hl)
      obtain ⟨v, hv⟩ : ∃ v, xs[k]? = some v := ⟨_, List.getElem?_eq_getElem (by omega)⟩
      have hri : r.toArray[i]? = some v := by
        rw [List.getElem?_toArray, hx k r hr, hv]
      have itk := it1 k l hl
      rw [if_neg (Nat.lt_irrefl k)] at itk
      have hrow1 : h1.IsTuple l r.toArray := hrow.at fun o e => fr1 l o (.inl llt) e
      refine wpAny_bind (wpAny_holding ?_)
      show wpAny _ _ (Builtin.SmallTypes.nextOf (.ref (b + k)) >>= _) _ _ _
      refine wpAny_bind (RZ.nextOf_tuple_item (s := { s with heap := h1 }) itk hrow1 hri fun h2 it2 hs2 => wpAny_pure (wpAny_pure ?_))
      refine ⟨k + 1, h2, klt, hd1.symm, ?_, rfl, by rw [hs2.1, sz], hs2.extBut _ _ (neA (by omega)) hz1, fun j l' hj => ?_, fun c o hc e => hs2.extBut _ _ (neA (by omega)) (fr1 c o hc e), fun o e => hs2.extBut _ _ (neA (by omega)) (to1 o e)⟩
      · rw [List.take_add_one, hv]
        simp
      · have jl : j < ls.length := (List.getElem?_eq_some_iff.mp hj).1
        by_cases e : j = k
        · subst e
          rw [hl] at hj
          cases hj
          rw [if_pos (Nat.lt_succ_self _)]
          exact it2
        · have := it1 j l' hj
          have e1 : (j < k + 1) = (j < k) := by
            apply propext
            omega
          rw [show (if j < k + 1 then i + 1 else i) = (if j < k then i + 1 else i) from by simp only [e1]]
          exact this.at fun o e' => hs2.extBut _ _ (neA (by omega)) e'
  · rintro st s1 ⟨k, h1, kl, er, rfl, rfl, sz, hz1, it1, fr1, to1⟩
    have ek : k = ls.length := by
      have := congrArg List.length er
      simp at this
      omega
    subst ek
    rw [List.take_of_length_le (by omega)]
    have it2 : ∀ (j : Nat) (l : Addr), ls[j]? = some l → h1.IsTupleIter (b + j) l (i + 1) := fun j l hj => by
      have := it1 j l hj
      rwa [if_pos (List.getElem?_eq_some_iff.mp hj).1] at this
    show wpAny _ _ (newTuple xs >>= _) _ _ _
    refine wpAny_bind (wpAny_newTuple ?_ (by rw [sizeLine_eq]; omega))
    refine wpAny_pure ⟨_, rfl, ?_⟩
    show Q (.ref h1.objs.size) _
    have up : ∀ (c : Nat) o, h1.get? c = some o → (h1.push (tupN xs)).get? c = some o := fun c o e => Heap.get?_push_of_some _ e
    have t8 : (h1.push (tupN xs)).get? h1.objs.size = some (tupN xs) := Heap.get?_push_size _ rfl
    have sz8 : (h1.push (tupN xs)).objs.size = h1.objs.size + 1 := Heap.size_push ..
    rw [sz] at t8 sz8 ⊢
    exact hQ _ (up _ _ hz1) (fun k l hk => (it2 k l hk).at fun o e => up _ o e) t8 sz8 (fun c o hc e => up c o (fr1 c o hc e)) fun o e => up _ o (to1 o e)
  · refine ⟨0, h₁, Nat.zero_le _, rfl, rfl, rfl, by rw [hs₁.1], hz₁, fun j l hj => ?_, fun c o hc e => hs₁.extBut _ _ (neA (by omega)) e, fun o e => hs₁.extBut _ _ (neA (by omega)) e⟩
    have jl : j < ls.length := (List.getElem?_eq_some_iff.mp hj).1
    rw [if_neg (Nat.not_lt_zero j)]
    exact (Z.its j l hj).extBut hs₁.extBut (neA (by omega))
end
end Nm
set_option maxRecDepth 100000
set_option maxHeartbeats 4000000
/-! zip of many tuples: its end; next -/
namespace Nm
open PySem PySem.Spec PyProof.Rows L2
section
variable {prog : Program} {w : World} {A : Around} {E : Value → Shared → Prop} {s : Shared} {b i : Nat} {ls : List Addr} {rows : List (List Value)}
theorem ZN.first {h : Heap} (Z : ZN h b ls rows i) (n1 : 1 ≤ ls.length) : ∃ (l : Addr) (r : List Value), ls[0]? = some l ∧ rows[0]? = some r ∧ h.IsTuple l r.toArray ∧ h.IsTupleIter b l i ∧ l < b := by
  obtain ⟨l, hl⟩ : ∃ l, ls[0]? = some l := ⟨_, List.getElem?_eq_getElem n1⟩
  obtain ⟨r, hr, hrow⟩ := Z.row 0 l hl
  exact ⟨l, r, hl, hr, hrow, Z.its 0 l hl, Z.lt l (List.mem_of_getElem? hl)⟩
theorem ne_empty (n1 : 1 ≤ ls.length) : (((itsAt b ls.length).map Value.ref).toArray).isEmpty = false := by
  rw [← Bool.not_eq_true, Array.isEmpty_iff]
  intro h
  have := congrArg Array.size h
  simp at this
  subst this
  simp at n1
theorem its_cons (n1 : 1 ≤ ls.length) : ∃ more, (itsAt b ls.length).map Value.ref = Value.ref b :: more := by
  cases e : (itsAt b ls.length).map Value.ref with
  | nil =>
    have := congrArg List.length e
    simp at this
    subst this
    simp at n1
  | cons x more =>
    have h0 : ((itsAt b ls.length).map Value.ref)[0]? = some (Value.ref (b + 0)) := by
      rw [List.getElem?_map, its_get (by omega)]
      rfl
    rw [e] at h0
    cases h0
    exact ⟨more, rfl⟩
theorem zipN_end {Q : Fin → Shared → Prop} (hh : A.handled = none) (Z : ZN s.heap b ls rows i) (n1 : 1 ≤ ls.length) (hend : ∀ r : List Value, rows[0]? = some r → r.length ≤ i)
    (hz : IsZip s.heap (b + ls.length + 2) (b + ls.length) (b + ls.length + 1) .none) {vs : List Value} (hTO : s.heap.get? (b + ls.length + 1) = some (tupN vs))
    (hE : ∀ h' e, FrN b ls.length s.heap h' → (∃ o, h'.get? e = some o ∧ o.cls = .type "StopIteration") → E (.ref e) { s with heap := h' }) :
    wpAny (model prog w) A (Builtin.«zip.__next__» ⟨[.ref (b + ls.length + 2)], []⟩) Q E s := by
  show wpAny _ _ (field (.ref _) 2 >>= _) _ _ _
  refine wpAny_bind (wpAny_field hz rfl (x := .bool false) rfl ?_)
  show wpAny _ _ (field (.ref _) 3 >>= _) _ _ _
  refine wpAny_bind (wpAny_field hz rfl (x := .ref (b + ls.length)) rfl ?_)
  refine wpAny_bind (wpAny_seqItems Z.ti rfl ?_)
  simp only [ne_empty n1, Bool.false_eq_true, if_false]
  show wpAny _ _ (Builtin.SmallTypes.ownedTupleIsFree (.ref _) >>= _) _ _ _
  refine wpAny_bind ?_
  unfold Builtin.SmallTypes.ownedTupleIsFree
  refine wpAny_bind (wpAny_field hz rfl (x := .none) rfl (wpAny_pure ?_))
  simp only [if_true]
  refine wpAny_bind (wpAny_rule ?_)
  refine wpAny_bind (wpAny_field hz rfl (x := .ref (b + ls.length + 1)) rfl ?_)
  refine wpAny_bind (wpAny_setField_rec hz (by simp) fun h₁ hz₁ hs₁ => ?_)
  replace hz₁ : IsZip h₁ (b + ls.length + 2) (b + ls.length) (b + ls.length + 1) .ellipsis := hz₁
  refine wpAny_bind ?_
  obtain ⟨more, em⟩ := its_cons (b := b) n1
  obtain ⟨l, r, hl, hr, hrow, hit, llt0⟩ := Z.first n1
  have llt := @id (@LT.lt Nat _ l b) llt0
  refine wpAny_forIn_list _ (fun rest st s' => rest = ((itsAt b ls.length).map Value.ref).zipIdx ∧ s' = { s with heap := h₁ }) _ ?_ ?_ _ _ ⟨rfl, rfl⟩
  · rintro x rest st s1 ⟨er, rfl⟩
    rw [em, List.zipIdx_cons] at er
    cases er
    show wpAny _ _ (_ >>= _) _ _ _
    refine wpAny_bind (wpAny_onRaise ?_)
    show wpAny _ _ (Builtin.SmallTypes.nextOf (.ref b) >>= _) _ _ _
    refine wpAny_bind (RZ.nextOf_tuple_end (s := { s with heap := h₁ }) hh (hit.extBut hs₁.extBut (neA (by omega))) (hrow.at fun o e => hs₁.extBut _ _ (neA (by omega)) e) (by rw [List.getElem?_toArray]; exact List.getElem?_eq_none (hend r hr)) fun h₂ e hs₂ he => ?_)
    obtain ⟨oe, hoe, hce⟩ := he
    have hz₂ : IsZip h₂ (b + ls.length + 2) (b + ls.length) (b + ls.length + 1) .ellipsis := hs₂ _ _ (neA (by omega)) hz₁
    have hez : e ≠ b + ls.length + 2 := fun x => by subst x; rw [hz₂] at hoe; cases hoe; simp at hce
    refine wpAny_setField_rec hz₂ (by simp) fun h₃ _ hs₃ => hE h₃ e (fun c o hc x => hs₃.extBut _ _ (neA (by omega)) (hs₂ _ _ (neA (by omega)) (hs₁.extBut _ _ (neA (by omega)) x))) ⟨oe, hs₃.extBut _ _ hez hoe, hce⟩
  · rintro st s1 ⟨er, rfl⟩
    rw [em, List.zipIdx_cons] at er
    cases er
theorem zipN_end_held {T : Addr} {f : Bool} {oT : Obj} {Q : Fin → Shared → Prop} (hh : A.handled = none) (Z : ZN s.heap b ls rows i) (n1 : 1 ≤ ls.length) (hend : ∀ r : List Value, rows[0]? = some r → r.length ≤ i)
    (hz : IsZipHeld s.heap (b + ls.length + 2) (b + ls.length) (b + ls.length + 1) T f) (hT : s.heap.get? T = some oT)
    (hE : ∀ h' e, FrN b ls.length s.heap h' → (∃ o, h'.get? e = some o ∧ o.cls = .type "StopIteration") → E (.ref e) { s with heap := h' }) :
    wpAny (model prog w) A (Builtin.«zip.__next__» ⟨[.ref (b + ls.length + 2)], []⟩) Q E s := by
  show wpAny _ _ (field (.ref _) 2 >>= _) _ _ _
  refine wpAny_bind (wpAny_field hz rfl (x := .bool false) rfl ?_)
  show wpAny _ _ (field (.ref _) 3 >>= _) _ _ _
  refine wpAny_bind (wpAny_field hz rfl (x := .ref (b + ls.length)) rfl ?_)
  refine wpAny_bind (wpAny_seqItems Z.ti rfl ?_)
  simp only [ne_empty n1, Bool.false_eq_true, if_false]
  show wpAny _ _ (Builtin.SmallTypes.ownedTupleIsFree (.ref _) >>= _) _ _ _
  refine wpAny_bind (wpAny_tupleHeld_zip hz hT fun h₁ hz₁ hs₁ => ?_)
  simp only [Bool.false_eq_true, if_false]
  refine wpAny_bind ?_
  rw [← Array.forIn_toList]
  obtain ⟨more, em⟩ := its_cons (b := b) n1
  obtain ⟨l, r, hl, hr, hrow, hit, llt0⟩ := Z.first n1
  have llt := @id (@LT.lt Nat _ l b) llt0
  refine wpAny_forIn_list _ (fun rest st s' => rest = (itsAt b ls.length).map Value.ref ∧ s' = { s with heap := h₁ }) _ ?_ ?_ _ _ ⟨rfl, rfl⟩
  · rintro x rest st s1 ⟨er, rfl⟩
    rw [em] at er
    cases er
    refine wpAny_bind (wpAny_holding ?_)
    show wpAny _ _ (Builtin.SmallTypes.nextOf (.ref b) >>= _) _ _ _
    refine wpAny_bind (RZ.nextOf_tuple_end (s := { s with heap := h₁ }) hh (hit.extBut hs₁.extBut (neA (by omega))) (hrow.at fun o e => hs₁.extBut _ _ (neA (by omega)) e) (by rw [List.getElem?_toArray]; exact List.getElem?_eq_none (hend r hr)) fun h₂ e hs₂ he => ?_)
    exact hE h₂ e (fun c o hc x => hs₂ _ _ (neA (by omega)) (hs₁.extBut _ _ (neA (by omega)) x)) he
  · rintro st s1 ⟨er, rfl⟩
    rw [em] at er
    cases er
/-! ### next -/
/-- how the zip stands between two items -/
def ZSt (h : Heap) (b n S : Nat) : Prop := (IsZip h (b + n + 2) (b + n) (b + n + 1) .none ∨ ∃ T f oT, IsZipHeld h (b + n + 2) (b + n) (b + n + 1) T f ∧ h.get? T = some oT ∧ (T < b ∨ b + n + 2 < T) ∧ T ≠ S) ∧ ∃ vs : List Value, vs.length = n ∧ h.get? (b + n + 1) = some (tupN vs)
theorem ZSt.ty {n S : Nat} (h : ZSt s.heap b n S) : s.TypeIs (.ref (b + n + 2)) "zip" := by
  rcases h.1 with a | ⟨T, f, oT, a, _⟩
  · exact ⟨_, a, rfl⟩
  · exact ⟨_, a, rfl⟩
theorem ZSt.lt {h : Heap} {n S : Nat} (z : ZSt h b n S) : b + n + 2 < h.objs.size := by
  rcases z.1 with a | ⟨T, f, oT, a, _⟩
  · exact Heap.lt_size a
  · exact Heap.lt_size a
theorem nextN_item {S : Nat} {xs : List Value} {Q : Option Value → Shared → Prop} (Z : ZN s.heap b ls rows i) (n1 : 1 ≤ ls.length) (n8 : ls.length ≤ 8) (st : ZSt s.heap b ls.length S) (hS : S < s.heap.objs.size) (xl : xs.length = ls.length) (hx : ∀ (k : Nat) r, rows[k]? = some r → r[i]? = xs[k]?)
    (hQ : ∀ h', ZSt h' b ls.length S → ZN h' b ls rows (i + 1) → h'.get? s.heap.objs.size = some (tupN xs) → h'.objs.size = s.heap.objs.size + 1 → FrN b ls.length s.heap h' → Q (some (.ref s.heap.objs.size)) { s with heap := h' }) :
    wpAny (model prog w) A (pyNext (.ref (b + ls.length + 2))) Q E s := by
  have hTy := st.ty
  have lt := st.lt
  obtain ⟨st1, vs, vl, hTO⟩ := st
  have next : ∀ {h' : Heap}, FrN b ls.length s.heap h' → (∀ (k : Nat) (l : Addr), ls[k]? = some l → h'.IsTupleIter (b + k) l (i + 1)) → ZN h' b ls rows (i + 1) := fun {h'} fr its => ⟨fr _ _ (.inr (.inr rfl)) Z.ti, its, fun k l hk => by
    obtain ⟨r, hr, hrow⟩ := Z.row k l hk
    exact ⟨r, hr, hrow.at fun o e => fr _ o (.inl (Z.lt l (List.mem_of_getElem? hk))) e⟩, Z.lt⟩
  unfold pyNext
  refine wpAny_bind (wpAny_attempt (wpAny_callSpecial?_slot (name := Str.ofString "__next__") hTy F.slot_zip_next
    (wpAny_call_entry F.slot_zip_next hTy F.entry_zip_next ?_ (F.args_zip_next_1 _))))
  rcases st1 with hz | ⟨T, f, oT, hz, hT, hTn⟩
  · exact zipN_item Z n1 n8 hz hTO vl xl hx fun h' a1 a2 a3 a4 a5 a6 => wpAny_pure (hQ h' ⟨.inr ⟨_, _, _, a1, a4, .inr lt, neA (by omega)⟩, xs, xl, a2⟩ (next a6 a3) a4 a5 a6)
  · exact zipN_item_held Z n1 n8 hz hT xl hx fun h' a1 a3 a4 a5 a6 a7 => wpAny_pure (hQ h' ⟨.inr ⟨_, _, _, a1, a6 T oT (hTn.1.imp id .inl) hT, hTn⟩, vs, vl, a7 _ hTO⟩ (next a6 a3) a4 a5 a6)
theorem nextN_end {S : Nat} {Q : Option Value → Shared → Prop} (hh : A.handled = none) (Z : ZN s.heap b ls rows i) (n1 : 1 ≤ ls.length) (st : ZSt s.heap b ls.length S) (hend : ∀ r : List Value, rows[0]? = some r → r.length ≤ i)
    (hQ : ∀ h', FrN b ls.length s.heap h' → Q none { s with heap := h' }) : wpAny (model prog w) A (pyNext (.ref (b + ls.length + 2))) Q E s := by
  have hTy := st.ty
  obtain ⟨st1, vs, vl, hTO⟩ := st
  unfold pyNext
  refine wpAny_bind (wpAny_attempt (wpAny_callSpecial?_slot (name := Str.ofString "__next__") hTy F.slot_zip_next
    (wpAny_call_entry F.slot_zip_next hTy F.entry_zip_next ?_ (F.args_zip_next_1 _))))
  rcases st1 with hz | ⟨T, f, oT, hz, hT, hTn⟩
  · refine zipN_end hh Z n1 hend hz hTO fun h' e hk he => ?_
    obtain ⟨o, ho, hc⟩ := he
    refine wpAny_bind (wpAny_isInstance (T := "StopIteration") (b := true) ⟨o, ho, hc⟩ isSubtype_stop ?_)
    exact wpAny_pure (hQ _ hk)
  · refine zipN_end_held hh Z n1 hend hz hT fun h' e hk he => ?_
    obtain ⟨o, ho, hc⟩ := he
    refine wpAny_bind (wpAny_isInstance (T := "StopIteration") (b := true) ⟨o, ho, hc⟩ isSubtype_stop ?_)
    exact wpAny_pure (hQ _ hk)
end
end Nm
set_option maxRecDepth 100000
set_option maxHeartbeats 4000000
/-! tuple(zip(..)): the loop -/
namespace Nm
open PySem PySem.Spec PyProof.Rows L2
theorem zipN_lenless : typeLookup (.type "zip") "__len__" = pure none := am_miss_of_fast (by decide +kernel)
theorem zipN_hintless : typeLookup (.type "zip") "__length_hint__" = pure none := am_miss_of_fast (by decide +kernel)
/-- a list of references as it stands -/
abbrev refsL (ts : List Addr) (c : Nat) : Obj := { cls := .type "list", dict := none, data := .seq (ts.map Value.ref).toArray c, slots := #[] }
/-- column j -/
def colAt (rows : List (List Value)) (j : Nat) : List Value := rows.map fun r => r.getD j .none
/-- a zip on its way into the list behind it; g: the heap ahead of it all -/
structure ZL2 (g h : Heap) (b : Nat) (ls : List Addr) (rows : List (List Value)) (i : Nat) (ts : List Addr) (c : Nat) : Prop where
  base : ∀ (x : Nat) o, x < b → g.get? x = some o → h.get? x = some o
  zn : ZN h b ls rows i
  st : ZSt h b ls.length (b + ls.length + 3)
  at_ : h.get? (b + ls.length + 3) = some (refsL ts c)
  len : ts.length = i
  nd : ts.Nodup
  each : ∀ (j : Nat) (t : Nat), ts[j]? = some t → h.get? t = some (tupN (colAt rows j)) ∧ b + ls.length + 3 < t
/-- what comes of it -/
structure ZD2 (g h : Heap) (b n : Nat) (rows : List (List Value)) (m : Nat) (ts : List Addr) : Prop where
  base : ∀ (x : Nat) o, x < b → g.get? x = some o → h.get? x = some o
  len : ts.length = m
  nd : ts.Nodup
  each : ∀ (j : Nat) (t : Nat), ts[j]? = some t → h.get? t = some (tupN (colAt rows j)) ∧ b + n + 3 < t
  big : b + n + 3 < h.objs.size
section
variable {P : Program} {w : World} {A : Around} {E : Value → Shared → Prop} {R : Result → Shared → Prop} {g : Heap} {b m : Nat} {ls : List Addr} {rows : List (List Value)}
theorem zl2_loop (n1 : 1 ≤ ls.length) (n8 : ls.length ≤ 8) (rl : rows.length = ls.length) (rm : ∀ r ∈ rows, r.length = m) (lim : m ≤ 1000) (hh : A.in1.handled = none) (res : Value) :
    ∀ (k i : Nat) (s : Shared) (ts : List Addr) (c : Nat), m - i = k → i ≤ m → ZL2 g s.heap b ls rows i ts c →
      (∀ h' ts' c', h'.get? (b + ls.length + 3) = some (refsL ts' c') → ZD2 g h' b ls.length rows m ts' → R (.ok (.ret res)) { s with heap := h' }) →
      codeAny (model P w) A (.builtin "list.extend.loop" ⟨[.ref (b + ls.length + 3), .ref (b + ls.length + 2), res], []⟩) R s := by
  intro k
  induction k with
  | zero =>
    intro i s ts c ek le Z hR
    obtain rfl : i = m := by omega
    refine codeAny_builtin F.entry_extend_loop ?_
    rw [Around.under_plainId F.plain_extend_loop _]
    show wpAny _ A.in1 (pyNext (.ref (b + ls.length + 2)) >>= _) _ _ s
    refine wpAny_bind (nextN_end hh Z.zn n1 Z.st (fun r hr => Nat.le_of_eq (rm r (List.mem_of_getElem? hr))) fun h' fr => wpAny_pure ?_)
    exact hR h' ts c (fr _ _ (.inr (.inl (by omega))) Z.at_) ⟨fun x o hx e => fr x o (.inl hx) (Z.base x o hx e), Z.len, Z.nd, fun j t e => ⟨fr t _ (.inr (.inl (by have := (Z.each j t e).2; omega))) (Z.each j t e).1, (Z.each j t e).2⟩, Heap.lt_size (fr _ _ (.inr (.inl (by omega))) Z.at_)⟩
  | succ k ih =>
    intro i s ts c ek le Z hR
    have lt : i < m := by omega
    have Slt : b + ls.length + 3 < s.heap.objs.size := Heap.lt_size Z.at_
    refine codeAny_builtin F.entry_extend_loop ?_
    rw [Around.under_plainId F.plain_extend_loop _]
    show wpAny _ A.in1 (pyNext (.ref (b + ls.length + 2)) >>= _) _ _ s
    refine wpAny_bind (nextN_item (xs := colAt rows i) Z.zn n1 n8 Z.st Slt (by unfold colAt; rw [List.length_map, rl]) (fun k' r hr => ?_) fun h1 st1 zn1 t1 sz1 fr1 => ?_)
    · unfold colAt
      have hl := rm r (List.mem_of_getElem? hr)
      rw [List.getElem?_map, hr, List.getElem?_eq_getElem (by omega)]
      show some _ = some (r.getD i .none)
      rw [List.getD_eq_getElem?_getD, List.getElem?_eq_getElem (by omega)]
      rfl
    show wpAny (model P w) A.in1 (updateSeq (b + ls.length + 3) (·.push (.ref s.heap.objs.size)) >>= fun _ => again (.builtin "list.extend.loop" ⟨[.ref (b + ls.length + 3), .ref (b + ls.length + 2), res], []⟩)) _ _ _
    have at1 : h1.get? (b + ls.length + 3) = some (refsL ts c) := fr1 _ _ (.inr (.inl (by omega))) Z.at_
    have nin : s.heap.objs.size ∉ ts := fun mm => by
      obtain ⟨j, hj⟩ := List.getElem?_of_mem mm
      exact absurd (Heap.lt_size (Z.each j _ hj).1) (Nat.lt_irrefl _)
    have szt : ((ts.map Value.ref).toArray).size = i := by simp [Z.len]
    refine wpAny_bind (wpAny_updateSeq at1 rfl (wpAny_pure ⟨plainId_quiet F.plain_extend_loop _, ?_⟩) (by rw [szt, sizeLine_eq]; omega) (by rw [Array.size_push, szt, sizeLine_eq]; omega))
    have oth : ∀ (x : Nat) o, x ≠ b + ls.length + 3 → h1.get? x = some o → (h1.update (b + ls.length + 3) (Obj.mapSeq (·.push (.ref s.heap.objs.size)))).get? x = some o := fun x o n e => (Heap.get?_update_other _ _ (neA n.symm)).trans e
    have at2 := Heap.get?_update_self (Obj.mapSeq (·.push (.ref s.heap.objs.size))) at1 rfl
    refine ih (i + 1) { s with heap := h1.update (b + ls.length + 3) (Obj.mapSeq (·.push (.ref s.heap.objs.size))) } (ts ++ [s.heap.objs.size]) (c + 1) (by omega) lt ⟨fun x o hx e => oth x o (by omega) (fr1 x o (.inl hx) (Z.base x o hx e)), ?_, ?_, ?_, by rw [List.length_append, Z.len]; rfl, ?_, fun j t e => ?_⟩ fun h' ts' c' e zd => hR h' ts' c' e zd
    · refine ⟨oth _ _ (by omega) zn1.ti, fun k l hk => (zn1.its k l hk).at fun o e => oth _ o ?_ e, fun k l hk => ?_, zn1.lt⟩
      · have := (List.getElem?_eq_some_iff.mp hk).1
        omega
      · obtain ⟨r, hr, hrow⟩ := zn1.row k l hk
        have llt := @id (@LT.lt Nat _ l b) (zn1.lt l (List.mem_of_getElem? hk))
        exact ⟨r, hr, hrow.at fun o e => oth _ o (by omega) e⟩
    · obtain ⟨a, vs, vl, to⟩ := st1
      refine ⟨?_, vs, vl, oth _ _ (by omega) to⟩
      rcases a with a | ⟨T, f, oT, a, hT, hn, hs⟩
      · exact .inl (oth _ _ (by omega) a)
      · exact .inr ⟨T, f, oT, oth _ _ (by omega) a, oth _ _ hs hT, hn, hs⟩
    · rw [at2]
      simp [refsL, Obj.mapSeq]
    · rw [List.nodup_append]
      refine ⟨Z.nd, by simp, fun a ha b' hb q => ?_⟩
      rw [List.mem_singleton] at hb
      subst hb q
      exact nin ha
    · by_cases q : j < ts.length
      · rw [List.getElem?_append_left q] at e
        obtain ⟨h1', h2'⟩ := Z.each j t e
        exact ⟨oth _ _ (by omega) (fr1 _ _ (.inr (.inl (by omega))) h1'), h2'⟩
      · have ej : j = i := by
          have := (List.getElem?_eq_some_iff.mp e).1
          rw [List.length_append, List.length_singleton, Z.len] at this
          rw [Z.len] at q
          omega
        subst ej
        rw [List.getElem?_append_right (by rw [Z.len]; exact Nat.le_refl _), Z.len, Nat.sub_self] at e
        cases e
        exact ⟨oth _ _ (by omega) t1, Slt⟩
end
end Nm
set_option maxRecDepth 100000
set_option maxHeartbeats 4000000
/-! tuple(zip(..)): the tuple -/
namespace Nm
open PySem PySem.Spec PyProof.Rows L2
open AutoSeq1 (wpAny_loadPart')
/-- a zip just made, the last of the heap -/
structure ZNew (h : Heap) (b : Nat) (ls : List Addr) (rows : List (List Value)) (m : Nat) : Prop where
  hz : IsZip h (b + ls.length + 2) (b + ls.length) (b + ls.length + 1) .none
  zn : ZN h b ls rows 0
  to : ∃ vs : List Value, vs.length = ls.length ∧ h.get? (b + ls.length + 1) = some (tupN vs)
  size : h.objs.size = b + ls.length + 3
  n1 : 1 ≤ ls.length
  n8 : ls.length ≤ 8
  rl : rows.length = ls.length
  rm : ∀ r ∈ rows, r.length = m
  lim : m ≤ 1000
section
variable {P : Program} {w : World} {A : Around} {E : Value → Shared → Prop} {R : Result → Shared → Prop} {b m : Nat} {ls : List Addr} {rows : List (List Value)} {s : Shared}
theorem ZNew.grow {h h' : Heap} (Z : ZNew h b ls rows m) (k : ∀ c o, h.get? c = some o → h'.get? c = some o) : ZN h' b ls rows 0 :=
  ⟨k _ _ Z.zn.ti, fun j l e => (Z.zn.its j l e).at fun o => k _ o, fun j l e => let ⟨r, h1, h2⟩ := Z.zn.row j l e; ⟨r, h1, h2.at fun o => k _ o⟩, Z.zn.lt⟩
theorem collect_zipN {Q : List Value → Shared → Prop} (hh : A.handled = none) (Z : ZNew s.heap b ls rows m)
    (hQ : ∀ h' ts, ZD2 s.heap h' b ls.length rows m ts → Q (ts.map Value.ref) { s with heap := h' }) : wpAny (model P w) A (collect (.ref (b + ls.length + 2))) Q E s := by
  have sz := Z.size
  unfold collect
  refine wpAny_bind (wpAny_runValue (codeAny_builtin F.entry_proto_collect ?_))
  rw [Around.under_plainId F.plain_proto_collect _]
  show wpAny _ A.in1 (newList [] >>= fun l => again (.builtin "list.__iadd__" ⟨[l, .ref (b + ls.length + 2)], []⟩)) _ _ s
  refine wpAny_bind (wpAny_newObj_type ?_)
  refine wpAny_pure ⟨plainId_quiet F.plain_list_iadd _, codeAny_builtin F.entry_list_iadd ?_⟩
  rw [Around.under_plainId F.plain_list_iadd _]
  show wpAny _ A.in1 (Builtin.List.listExtendWith (.ref s.heap.objs.size) (.ref (b + ls.length + 2)) (.ref s.heap.objs.size)) _ _ _
  have at0 : (s.heap.push { cls := .type "list", data := .seq ([] : List Value).toArray }).get? s.heap.objs.size = some { cls := .type "list", data := .seq ([] : List Value).toArray } := Heap.get?_push_size _ rfl
  have kp : ∀ c o, s.heap.get? c = some o → (s.heap.push { cls := .type "list", data := .seq ([] : List Value).toArray }).get? c = some o := fun c o e => Heap.get?_push_of_some _ e
  have hz := kp _ _ Z.hz
  have ty : Shared.TypeIs { s with heap := s.heap.push { cls := .type "list", data := .seq ([] : List Value).toArray } } (.ref (b + ls.length + 2)) "zip" := ⟨_, hz, rfl⟩
  rw [sz] at at0 ⊢
  unfold Builtin.List.listExtendWith
  refine wpAny_bind (wpAny_typeOf ty ?_)
  have q1 : Builtin.List.listSameRef (.ref (b + ls.length + 3)) (.ref (b + ls.length + 2)) = false := by simp [Builtin.List.listSameRef]
  have q2 : (Value.type "zip" == Value.type "list") = false := by decide
  have q3 : (Value.type "zip" == Value.type "tuple") = false := by decide
  simp only [q1, q2, q3, Bool.or_false, Bool.false_eq_true, if_false]
  refine wpAny_bind (wpAny_pyIter_zip hz (wpAny_bind (wpAny_holding ?_)))
  unfold Builtin.List.listLengthHint
  refine wpAny_bind (wpAny_specialOf ty zipN_lenless ?_)
  show wpAny _ A.in1 (specialOf (Value.ref (b + ls.length + 2)) (Str.ofString "__length_hint__") >>= _) _ _ _
  refine wpAny_bind (wpAny_specialOf ty zipN_hintless (wpAny_pure ?_))
  show wpAny _ A.in1 (rule "list.extend.makes-room" >>= fun _ => Builtin.List.listTouch (.ref (b + ls.length + 3)) >>= fun _ => again (.builtin "list.extend.loop" ⟨[.ref (b + ls.length + 3), .ref (b + ls.length + 2), .ref (b + ls.length + 3)], []⟩)) _ _ _
  refine wpAny_bind (wpAny_rule (wpAny_bind ?_))
  show wpAny _ A.in1 (updateSeq (b + ls.length + 3) (·.push .none) >>= fun _ => updateSeq (b + ls.length + 3) (·.pop)) _ _ _
  refine wpAny_bind (wpAny_updateSeq at0 rfl ?_ (by simp [sizeLine_eq]) (by simp [sizeLine_eq]))
  have at2 := Heap.get?_update_self (Obj.mapSeq (·.push Value.none)) at0 rfl
  refine wpAny_updateSeq at2 rfl ?_ (by simp [Obj.mapSeq, sizeLine_eq]) (by simp [Obj.mapSeq, sizeLine_eq])
  have at3 := Heap.get?_update_self (Obj.mapSeq (·.pop)) at2 rfl
  have oth : ∀ (c : Nat) o, s.heap.get? c = some o → (((s.heap.push { cls := .type "list", data := .seq ([] : List Value).toArray }).update (b + ls.length + 3) (Obj.mapSeq (·.push Value.none))).update (b + ls.length + 3) (Obj.mapSeq (·.pop))).get? c = some o := fun c o e => by
    have n : c ≠ b + ls.length + 3 := by
      have := Heap.lt_size e
      rw [sz] at this
      exact Nat.ne_of_lt this
    exact (Heap.get?_update_other _ _ (neA n.symm)).trans ((Heap.get?_update_other _ _ (neA n.symm)).trans (kp c o e))
  refine wpAny_pure ⟨plainId_quiet F.plain_extend_loop _, zl2_loop (g := s.heap) Z.n1 Z.n8 Z.rl Z.rm Z.lim hh _ m 0 _ [] 2 (Nat.sub_zero m) (Nat.zero_le _) ⟨fun x o _ e => oth x o e, Z.grow oth, ⟨.inl (oth _ _ Z.hz), ?_⟩, ?_, rfl, List.nodup_nil, fun j t e => by simp at e⟩ fun h' ts c e zd => ?_⟩
  · obtain ⟨vs, vl, to⟩ := Z.to
    exact ⟨vs, vl, oth _ _ to⟩
  · rw [at3]
    simp [refsL, Obj.mapSeq]
  · show wpAny _ A (load (b + ls.length + 3) >>= _) _ _ _
    refine wpAny_bind (wpAny_load e ?_)
    refine wpAny_pure ?_
    show Q ((ts.map Value.ref).toArray.toList) _
    exact hQ h' ts zd
theorem meets_tuple_new_zip : Meets (Builtin.«tuple.__new__» ⟨[.type "tuple", .ref (b + ls.length + 2)], []⟩)
      (fun A R s => A.handled = none ∧ ZNew s.heap b ls rows m ∧ ∀ h' ts, ZD2 s.heap h' b ls.length rows m ts → R (.ok (.ret (.ref h'.objs.size))) { s with heap := h'.push { cls := .type "tuple", data := .seq (ts.map Value.ref).toArray } }) :=
  .of_wp fun prog w A R s h => by
    obtain ⟨hp, g, d, tk, os⟩ := s
    obtain ⟨hh, Z, h⟩ := h
    have hsub := sub_tuple_self
    have hinit := init_tuple_lookup
    have hmh := madeHere_tuple
    have hT : Shared.TypeIs ⟨hp, g, d, tk, os⟩ (.ref (b + ls.length + 2)) "zip" := ⟨_, Z.hz, rfl⟩
    have lim := Z.lim
    wp_walk using wpAny_loadPart' Z.hz, wpAny_typeOf hT, collect_zipN (A := A.in1) (s := ⟨hp, g, d, tk, os⟩) hh Z
    intro h' ts zd
    show wpAny _ _ (Builtin.Tuple.tupleExact (ts.map Value.ref).toArray >>= fun v => ret v) _ _ _
    unfold Builtin.Tuple.tupleExact
    refine wpAny_bind (wpAny_newObj_type ?_ (by show (ts.map Value.ref).toArray.size ≤ sizeLine; rw [List.size_toArray, List.length_map, zd.len, sizeLine_eq]; omega))
    exact wpAny_pure ⟨_, rfl, h h' ts zd⟩
theorem call_tupleZip {Q : Value → Shared → Prop} (hh : A.handled = none) (Z : ZNew s.heap b ls rows m)
    (hQ : ∀ h' ts, ZD2 s.heap h' b ls.length rows m ts → Q (.ref h'.objs.size) { s with heap := h'.push { cls := .type "tuple", data := .seq (ts.map Value.ref).toArray } }) : wpAny (model P w) A (call (.type "tuple") [.ref (b + ls.length + 2)]) Q E s :=
  callType_new F.called_tuple (by decide) (F.typeCall_tuple_1 _) (F.newCall_tuple_1 _) (fun obj => F.args_object_init_2 obj _) F.entry_tuple_new
    (meets_tuple_new_zip (b := b) (ls := ls) (rows := rows) (m := m)) ⟨hh, Z, fun h' ts zd => ⟨⟨_, Heap.get?_push_size _ rfl, rfl⟩, hQ h' ts zd⟩⟩
end
end Nm
set_option maxRecDepth 100000
set_option maxHeartbeats 4000000
/-! tuple(zip(*t)) as an expression -/
namespace Nm
open PySem PySem.Spec PyProof.Rows L2
section
variable {P : Program} {w : World} {A : Around} {E : Value → Shared → Prop} {m : Nat} {ls : List Addr} {rows : List (List Value)} {s : Shared}
/-- the heap behind the making -/
abbrev zipNH1 (h : Heap) (its : List Value) : Heap := h.push (tupN its)
abbrev zipNH2 (h : Heap) (its : List Value) : Heap := (zipNH1 h its).push (tupN (its.map fun _ => Value.none))
abbrev zipNH (h : Heap) (its : List Value) : Heap := (zipNH2 h its).push { cls := .type "zip", data := .fields #[.none, .bool false, .bool false, .ref h.objs.size, .ref (zipNH1 h its).objs.size] }
theorem meets_zipN_new (ls : List Addr) (n8 : ls.length ≤ 8) : Meets (Builtin.«zip.__new__» ⟨.type "zip" :: ls.map Value.ref, []⟩)
    (fun _ R s => (∀ l ∈ ls, ∃ xs, s.heap.IsTuple l xs) ∧ ∀ h' : Heap, h'.objs.size = s.heap.objs.size + ls.length → (∀ c o, s.heap.get? c = some o → h'.get? c = some o) → (∀ (k : Nat) (l : Addr), ls[k]? = some l → h'.IsTupleIter (s.heap.objs.size + k) l 0) →
      R (.ok (.ret (.ref (zipNH2 h' ((itsAt s.heap.objs.size ls.length).map Value.ref)).objs.size))) { s with heap := zipNH h' ((itsAt s.heap.objs.size ls.length).map Value.ref) }) :=
  .of_wp fun prog w A R s h => by
    obtain ⟨hp, g, d, tk, os⟩ := s
    obtain ⟨hl, h⟩ := h
    have hsub := sub_zip
    wp_walk using wpAny_iterAllT (A := A.in1) (s := ⟨hp, g, d, tk, os⟩) (ls := ls) hl
    intro h' hs hk hi
    have sl : ((itsAt hp.objs.size ls.length).map Value.ref).length ≤ sizeLine := by
      rw [List.length_map, List.length_map, List.length_range, sizeLine_eq]
      omega
    refine wpAny_bind (wpAny_newTuple ?_ sl)
    refine wpAny_bind (wpAny_newTuple ?_ (by rw [List.length_map]; exact sl))
    wp_walk
    exact ⟨_, rfl, h h' hs hk hi⟩
theorem call_zipN {Q : Value → Shared → Prop} (hl : ∀ (k : Nat) (l : Addr), ls[k]? = some l → ∃ r : List Value, rows[k]? = some r ∧ s.heap.IsTuple l r.toArray) (n1 : 1 ≤ ls.length) (n8 : ls.length ≤ 8) (rl : rows.length = ls.length) (rm : ∀ r ∈ rows, r.length = m) (lim : m ≤ 1000)
    (hQ : ∀ h', ZNew h' s.heap.objs.size ls rows m → (∀ c o, s.heap.get? c = some o → h'.get? c = some o) → Q (.ref (s.heap.objs.size + ls.length + 2)) { s with heap := h' }) : wpAny (model P w) A (call (.type "zip") (ls.map Value.ref)) Q E s := by
  have hl' : ∀ l ∈ ls, ∃ xs, s.heap.IsTuple l xs := fun l hm => by
    obtain ⟨k, hk⟩ := List.getElem?_of_mem hm
    obtain ⟨r, _, h⟩ := hl k l hk
    exact ⟨_, h⟩
  refine callType_new F.called_zip (by decide) (zipN_type _) (zipN_new _ (by rw [List.length_map]; exact n1) (by rw [List.length_map]; exact n8)) (fun obj => zipN_init obj _ (by rw [List.length_map]; exact n8)) F.entry_zip_new (meets_zipN_new ls n8) ⟨hl', fun h' hs hk hi => ?_⟩
  have z1 : (zipNH1 h' ((itsAt s.heap.objs.size ls.length).map Value.ref)).objs.size = s.heap.objs.size + ls.length + 1 := by rw [Heap.size_push, hs]
  have z2 : (zipNH2 h' ((itsAt s.heap.objs.size ls.length).map Value.ref)).objs.size = s.heap.objs.size + ls.length + 2 := by rw [Heap.size_push, z1]
  have z3 : (zipNH h' ((itsAt s.heap.objs.size ls.length).map Value.ref)).objs.size = s.heap.objs.size + ls.length + 3 := by rw [Heap.size_push, z2]
  have up : ∀ c o, h'.get? c = some o → (zipNH h' ((itsAt s.heap.objs.size ls.length).map Value.ref)).get? c = some o := fun c o e => Heap.get?_push_of_some _ (Heap.get?_push_of_some _ (Heap.get?_push_of_some _ e))
  have g3 : (zipNH h' ((itsAt s.heap.objs.size ls.length).map Value.ref)).get? (zipNH2 h' ((itsAt s.heap.objs.size ls.length).map Value.ref)).objs.size = some _ := Heap.get?_push_size _ rfl
  have g2 : (zipNH h' ((itsAt s.heap.objs.size ls.length).map Value.ref)).get? (zipNH1 h' ((itsAt s.heap.objs.size ls.length).map Value.ref)).objs.size = some _ := Heap.get?_push_of_some _ (Heap.get?_push_size _ rfl)
  have g1 : (zipNH h' ((itsAt s.heap.objs.size ls.length).map Value.ref)).get? h'.objs.size = some _ := Heap.get?_push_of_some _ (Heap.get?_push_of_some _ (Heap.get?_push_size _ rfl))
  rw [z2, z1, hs] at g3
  rw [z1] at g2
  rw [hs] at g1
  show _ ∧ _
  rw [z2]
  refine ⟨⟨_, g3, rfl⟩, hQ _ ⟨g3, ⟨g1, fun k l e => (hi k l e).at fun o => up _ o, fun k l e => ?_, fun l hm => ?_⟩, ⟨_, ?_, g2⟩, z3, n1, n8, rl, rm, lim⟩ fun c o e => up c o (hk c o e)⟩
  · obtain ⟨r, h1, h2⟩ := hl k l e
    exact ⟨r, h1, h2.at fun o e => up _ o (hk _ o e)⟩
  · obtain ⟨xs, o, ho, _⟩ := hl' l hm
    exact Heap.lt_size ho
  · simp
end
end Nm
set_option maxRecDepth 100000
set_option maxHeartbeats 4000000
/-! list(zip(xs, ys)) -/
namespace Nm
open PySem PySem.Spec PyProof.Rows L2
theorem zip_lenless : typeLookup (.type "zip") "__len__" = pure none := am_miss_of_fast (by decide +kernel)
theorem zip_hintless : typeLookup (.type "zip") "__length_hint__" = pure none := am_miss_of_fast (by decide +kernel)
/-- a list of references as it stands -/
abbrev refsObj (ts : List Addr) (c : Nat) : Obj := { cls := .type "list", dict := none, data := .seq (ts.map Value.ref).toArray c, slots := #[] }
/-- a zip on its way into the list at S; g: the heap ahead of it all -/
structure ZL (g h : Heap) (z TI TO i1 i2 l1 l2 S : Addr) (xs ys : Array Value) (i : Nat) (ts : List Addr) (c : Nat) : Prop where
  base : ∀ b o, g.get? b = some o → h.get? b = some o
  size : g.objs.size ≤ h.objs.size
  ti : IsPair h TI (.ref i1) (.ref i2)
  a1 : h.IsListIter i1 l1 i
  a2 : h.IsListIter i2 l2 i
  b1 : h.IsList l1 xs
  b2 : h.IsList l2 ys
  to : ∃ u v, IsPair h TO u v
  st : IsZip h z TI TO .none ∨ ∃ T f oT, IsZipHeld h z TI TO T f ∧ h.get? T = some oT ∧ T ≠ z ∧ T ≠ i1 ∧ T ≠ i2 ∧ T ≠ S
  at_ : h.get? S = some (refsObj ts c)
  len : ts.length = i
  nd : ts.Nodup
  each : ∀ (j : Nat) t, ts[j]? = some t → ∃ x y, xs[j]? = some x ∧ ys[j]? = some y ∧ IsPair h t x y ∧ t ≠ z ∧ t ≠ TO ∧ t ≠ i1 ∧ t ≠ i2 ∧ t ≠ S ∧ g.objs.size ≤ t
/-- S stands apart -/
structure Off (g : Heap) (z TI TO i1 i2 l1 l2 S : Addr) : Prop where
  oz : S ≠ z
  oti : S ≠ TI
  oto : S ≠ TO
  oi1 : S ≠ i1
  oi2 : S ≠ i2
  ol1 : S ≠ l1
  ol2 : S ≠ l2
  nz : g.get? z = none
  nto : g.get? TO = none
  n1 : g.get? i1 = none
  n2 : g.get? i2 = none
  ns : g.get? S = none
/-- what comes of it -/
structure ZD (g h : Heap) (S : Addr) (xs ys : Array Value) (ts : List Addr) (c : Nat) : Prop where
  base : ∀ b o, g.get? b = some o → h.get? b = some o
  at_ : h.get? S = some (refsObj ts c)
  len : ts.length = xs.size
  nd : ts.Nodup
  each : ∀ (j : Nat) t, ts[j]? = some t → ∃ x y, xs[j]? = some x ∧ ys[j]? = some y ∧ IsPair h t x y ∧ t ≠ S ∧ g.objs.size ≤ t
section
variable {P : Program} {w : World} {A : Around} {E : Value → Shared → Prop} {R : Result → Shared → Prop} {g : Heap} {z TI TO i1 i2 l1 l2 S : Addr} {xs ys : Array Value}
/-- S changed -/
theorem ZL.lay {h h' : Heap} {i : Nat} {ts : List Addr} {c c' : Nat} (Z : ZL g h z TI TO i1 i2 l1 l2 S xs ys i ts c) (O : Off g z TI TO i1 i2 l1 l2 S) (k : ∀ b o, b ≠ S → h.get? b = some o → h'.get? b = some o) (le : h.objs.size ≤ h'.objs.size)
    (at_ : h'.get? S = some (refsObj ts c')) : ZL g h' z TI TO i1 i2 l1 l2 S xs ys i ts c' := by
  refine ⟨fun b o e => k b o (fun q => by subst q; rw [O.ns] at e; cases e) (Z.base b o e), Nat.le_trans Z.size le, k _ _ O.oti.symm Z.ti, Z.a1.at fun o e => k _ o O.oi1.symm e, Z.a2.at fun o e => k _ o O.oi2.symm e, Z.b1.at fun o e => k _ o O.ol1.symm e, Z.b2.at fun o e => k _ o O.ol2.symm e, let ⟨u, v, b⟩ := Z.to; ⟨u, v, k _ _ O.oto.symm b⟩, ?_, at_, Z.len, Z.nd, fun j t e => ?_⟩
  · rcases Z.st with a | ⟨T, f, oT, a, b, n1, n2, n3, n4⟩
    · exact .inl (k _ _ O.oz.symm a)
    · exact .inr ⟨T, f, oT, k _ _ O.oz.symm a, k _ _ n4 b, n1, n2, n3, n4⟩
  · obtain ⟨x, y, ex, ey, ep, n1, n2, n3, n4, n5, n6⟩ := Z.each j t e
    exact ⟨x, y, ex, ey, k _ _ n5 ep, n1, n2, n3, n4, n5, n6⟩
theorem zl_loop (D : ZipApart z TI TO i1 i2 l1 l2) (O : Off g z TI TO i1 i2 l1 l2 S) (same : xs.size = ys.size) (lim : xs.size ≤ sizeLine) (hh : A.in1.handled = none) (res : Value) :
    ∀ (k i : Nat) (s : Shared) (ts : List Addr) (c : Nat), xs.size - i = k → i ≤ xs.size → ZL g s.heap z TI TO i1 i2 l1 l2 S xs ys i ts c →
      (∀ h' ts' c', ZD g h' S xs ys ts' c' → R (.ok (.ret res)) { s with heap := h' }) →
      codeAny (model P w) A (.builtin "list.extend.loop" ⟨[.ref S, .ref z, res], []⟩) R s := by
  intro k
  induction k with
  | zero =>
    intro i s ts c ek le Z hR
    obtain rfl : i = xs.size := by omega
    have fin : ∀ h', (∀ b o, b ≠ z → b ≠ TO → b ≠ i1 → b ≠ i2 → s.heap.get? b = some o → h'.get? b = some o) → R (.ok (.ret res)) { s with heap := h' } := fun h' kp => by
      refine hR h' ts c ⟨fun b o e => kp b o (fun q => ?_) (fun q => ?_) (fun q => ?_) (fun q => ?_) (Z.base b o e), kp _ _ O.oz O.oto O.oi1 O.oi2 Z.at_, Z.len, Z.nd, fun j t e => ?_⟩
      · subst q; rw [O.nz] at e; cases e
      · subst q; rw [O.nto] at e; cases e
      · subst q; rw [O.n1] at e; cases e
      · subst q; rw [O.n2] at e; cases e
      · obtain ⟨x, y, ex, ey, ep, n1, n2, n3, n4, n5, n6⟩ := Z.each j t e
        exact ⟨x, y, ex, ey, kp _ _ n1 n2 n3 n4 ep, n5, n6⟩
    have hend : xs[xs.size]? = none ∨ ys[xs.size]? = none := .inl (Array.getElem?_eq_none (Nat.le_refl _))
    refine codeAny_builtin F.entry_extend_loop (by
      rw [Around.under_plainId F.plain_extend_loop _]
      show wpAny _ A.in1 (pyNext (.ref z) >>= _) _ _ s
      refine wpAny_bind ?_
      obtain ⟨u, v, o0⟩ := Z.to
      rcases Z.st with a | ⟨T, f, oT, a, b, n1, n2, n3, n4⟩
      · exact wpAny_pyNext_zip_end hh D a Z.ti o0 Z.a1 Z.a2 Z.b1 Z.b2 hend fun h' kp => wpAny_pure (fin h' kp)
      · exact wpAny_pyNext_zip_end_held hh D a b Z.ti Z.a1 Z.a2 Z.b1 Z.b2 hend fun h' kp => wpAny_pure (fin h' fun b o m1 _ m3 m4 e => kp b o m1 m3 m4 e))
  | succ k ih =>
    intro i s ts c ek le Z hR
    have lt : i < xs.size := by omega
    have ex := Array.getElem?_eq_getElem lt
    have ey := Array.getElem?_eq_getElem (show i < ys.size by omega)
    have off : ∀ {b o}, s.heap.get? b = some o → s.heap.objs.size ≠ b := fun e => Nat.ne_of_gt (Heap.lt_size e)
    have m1 : s.heap.objs.size ≠ i1 := let ⟨_, e, _⟩ := Z.a1; off e
    have m2 : s.heap.objs.size ≠ i2 := let ⟨_, e, _⟩ := Z.a2; off e
    have m3 : s.heap.objs.size ≠ S := off Z.at_
    have m4 : s.heap.objs.size ≠ z := by rcases Z.st with a | ⟨_, _, _, a, _⟩ <;> exact off a
    -- behind one item
    have turn : ∀ h1, (∃ T f oT, IsZipHeld h1 z TI TO T f ∧ h1.get? T = some oT ∧ T ≠ z ∧ T ≠ i1 ∧ T ≠ i2 ∧ T ≠ S) → (∃ u v, IsPair h1 TO u v) → h1.IsListIter i1 l1 (i + 1) → h1.IsListIter i2 l2 (i + 1) → IsPair h1 s.heap.objs.size xs[i] ys[i] → h1.objs.size = s.heap.objs.size + 1 →
        (∀ b o, b ≠ z → b ≠ TO → b ≠ i1 → b ≠ i2 → s.heap.get? b = some o → h1.get? b = some o) →
        wpAny (model P w) A.in1 (updateSeq S (·.push (.ref s.heap.objs.size)) >>= fun _ => again (.builtin "list.extend.loop" ⟨[.ref S, .ref z, res], []⟩))
          (fun fin s' => match fin with | .done f => R (.ok f) s' | .again c' => c'.quiet = true ∧ codeAny (model P w) A c' R s') (fun e s' => R (.error e) s') { s with heap := h1 } := fun h1 st1 to1 c1 c2 cp csz kp => by
      obtain ⟨_, _, o0⟩ := Z.to
      have m5 : s.heap.objs.size ≠ TO := off o0
      have at1 : h1.get? S = some (refsObj ts c) := kp _ _ O.oz O.oto O.oi1 O.oi2 Z.at_
      have sz1 : (ts.map Value.ref).toArray.size = i := by simp [Z.len]
      have nin : s.heap.objs.size ∉ ts := fun m => by
        obtain ⟨j, hj⟩ := List.getElem?_of_mem m
        obtain ⟨_, _, _, _, ep, _⟩ := Z.each j _ hj
        exact off ep rfl
      refine wpAny_bind (wpAny_updateSeq at1 rfl (wpAny_pure ⟨plainId_quiet F.plain_extend_loop _, ?_⟩) (by rw [sz1]; omega) (by show ((ts.map Value.ref).toArray.push _).size ≤ sizeLine + 1; rw [Array.size_push, sz1]; omega))
      have oth : ∀ b o, b ≠ S → h1.get? b = some o → (h1.update S (Obj.mapSeq (·.push (.ref s.heap.objs.size)))).get? b = some o := fun b o n e => (Heap.get?_update_other _ _ n.symm).trans e
      have at2 := Heap.get?_update_self (Obj.mapSeq (·.push (.ref s.heap.objs.size))) at1 rfl
      have size2 : (h1.update S (Obj.mapSeq (·.push (.ref s.heap.objs.size)))).objs.size = s.heap.objs.size + 1 := by rw [Heap.size_update, csz]
      refine ih (i + 1) { s with heap := h1.update S (Obj.mapSeq (·.push (.ref s.heap.objs.size))) } (ts ++ [s.heap.objs.size]) (c + 1) (by omega) lt ⟨fun b o e => ?_, by show g.objs.size ≤ (h1.update S _).objs.size; rw [size2]; have := Z.size; omega, oth _ _ O.oti.symm (kp _ _ D.TIz D.TITO D.TIi1 D.TIi2 Z.ti), c1.at fun o e => oth _ o O.oi1.symm e, c2.at fun o e => oth _ o O.oi2.symm e,
        Z.b1.at fun o e => oth _ o O.ol1.symm (kp _ o D.l1z D.l1TO D.l1i1 D.l1i2 e), Z.b2.at fun o e => oth _ o O.ol2.symm (kp _ o D.l2z D.l2TO D.l2i1 D.l2i2 e), let ⟨u, v, b⟩ := to1; ⟨u, v, oth _ _ O.oto.symm b⟩, .inr ?_, ?_, by simp [Z.len], ?_, fun j t e => ?_⟩ fun h' ts' c' zd => hR h' ts' c' zd
      · refine oth _ _ (fun q => ?_) (kp _ _ (fun q => ?_) (fun q => ?_) (fun q => ?_) (fun q => ?_) (Z.base b o e))
        · subst q; rw [O.ns] at e; cases e
        · subst q; rw [O.nz] at e; cases e
        · subst q; rw [O.nto] at e; cases e
        · subst q; rw [O.n1] at e; cases e
        · subst q; rw [O.n2] at e; cases e
      · obtain ⟨T, f, oT, a, b, n1, n2, n3, n4⟩ := st1
        exact ⟨T, f, oT, oth _ _ O.oz.symm a, oth _ _ n4 b, n1, n2, n3, n4⟩
      · rw [at2]
        simp [refsObj, Obj.mapSeq]
      · rw [List.nodup_append]
        refine ⟨Z.nd, by simp, fun a ha b hb q => ?_⟩
        rw [List.mem_singleton] at hb
        subst hb q
        exact nin ha
      · by_cases q : j < ts.length
        · rw [List.getElem?_append_left q] at e
          obtain ⟨x, y, fx, fy, ep, n1, n2, n3, n4, n5, n6⟩ := Z.each j t e
          exact ⟨x, y, fx, fy, oth _ _ n5 (kp _ _ n1 n2 n3 n4 ep), n1, n2, n3, n4, n5, n6⟩
        · have ej : j = i := by
            have := (List.getElem?_eq_some_iff.mp e).1
            rw [List.length_append, List.length_singleton, Z.len] at this
            rw [Z.len] at q
            omega
          subst ej
          rw [List.getElem?_append_right (by rw [Z.len]; exact Nat.le_refl _), Z.len, Nat.sub_self] at e
          cases e
          exact ⟨_, _, ex, ey, oth _ _ m3 cp, m4, m5, m1, m2, m3, Z.size⟩
    refine codeAny_builtin F.entry_extend_loop (by
      rw [Around.under_plainId F.plain_extend_loop _]
      show wpAny _ A.in1 (pyNext (.ref z) >>= _) _ _ s
      refine wpAny_bind ?_
      obtain ⟨u, v, o0⟩ := Z.to
      rcases Z.st with a | ⟨T, f, oT, a, b, n1, n2, n3, n4⟩
      · refine wpAny_pyNext_zip_item D a Z.ti o0 Z.a1 Z.a2 Z.b1 Z.b2 ex ey fun h1 q1 q2 q3 q4 q5 q6 kp => ?_
        exact turn h1 ⟨s.heap.objs.size, false, _, q1, q5, m4, m1, m2, m3⟩ ⟨_, _, q2⟩ q3 q4 q5 q6 kp
      · refine wpAny_pyNext_zip_item_held D a b Z.ti Z.a1 Z.a2 Z.b1 Z.b2 ex ey fun h1 q1 q3 q4 q5 q6 kp => ?_
        exact turn h1 ⟨T, true, oT, q1, kp _ _ n1 n2 n3 b, n1, n2, n3, n4⟩ ⟨u, v, kp _ _ D.TOz D.TOi1 D.TOi2 o0⟩ q3 q4 q5 q6 fun b o k1 _ k3 k4 e => kp b o k1 k3 k4 e)
end
end Nm
set_option maxRecDepth 100000
set_option maxHeartbeats 4000000
/-! list(zip(xs, ys)) as an expression -/
namespace Nm
open PySem PySem.Spec PyProof.Rows L2
section
variable {P : Program} {w : World} {A : Around} {E : Value → Shared → Prop} {R : Result → Shared → Prop} {g : Heap} {z TI TO i1 i2 l1 l2 S : Addr} {xs ys : Array Value} {s : Shared}
/-- what a list's making waits for -/
abbrev Waits (P : Program) (w : World) (A : Around) (R : Result → Shared → Prop) : PySem.Fin → Shared → Prop := fun fin s' => match fin with
  | .done f => R (.ok f) s'
  | .again c' => c'.quiet = true ∧ codeAny (model P w) A c' R s'
theorem extend_zip (D : ZipApart z TI TO i1 i2 l1 l2) (O : Off g z TI TO i1 i2 l1 l2 S) (same : xs.size = ys.size) (lim : xs.size ≤ sizeLine) (hh : A.in1.handled = none) (res : Value) {c : Nat} (hz : IsZip s.heap z TI TO .none) (Z : ZL g s.heap z TI TO i1 i2 l1 l2 S xs ys 0 [] c)
    (hR : ∀ h' ts c', ZD g h' S xs ys ts c' → R (.ok (.ret res)) { s with heap := h' }) :
    wpAny (model P w) A.in1 (Builtin.List.listExtendWith (.ref S) (.ref z) res) (Waits P w A R) (fun e s' => R (.error e) s') s := by
  have ty : s.TypeIs (.ref z) "zip" := ⟨_, hz, rfl⟩
  unfold Builtin.List.listExtendWith
  refine wpAny_bind (wpAny_typeOf ty ?_)
  have q1 : Builtin.List.listSameRef (.ref S) (.ref z) = false := by simp [Builtin.List.listSameRef, O.oz]
  have q2 : (Value.type "zip" == Value.type "list") = false := by decide
  have q3 : (Value.type "zip" == Value.type "tuple") = false := by decide
  simp only [q1, q2, q3, Bool.or_false, Bool.false_eq_true, if_false]
  refine wpAny_bind (wpAny_pyIter_zip hz (wpAny_bind (wpAny_holding ?_)))
  unfold Builtin.List.listLengthHint
  refine wpAny_bind (wpAny_specialOf ty zip_lenless ?_)
  show wpAny _ A.in1 (specialOf (Value.ref z) (Str.ofString "__length_hint__") >>= _) _ _ _
  refine wpAny_bind (wpAny_specialOf ty zip_hintless (wpAny_pure ?_))
  show wpAny _ A.in1 (rule "list.extend.makes-room" >>= fun _ => Builtin.List.listTouch (.ref S) >>= fun _ => again (.builtin "list.extend.loop" ⟨[.ref S, .ref z, res], []⟩)) _ _ _
  refine wpAny_bind (wpAny_rule (wpAny_bind ?_))
  show wpAny _ A.in1 (updateSeq S (·.push .none) >>= fun _ => updateSeq S (·.pop)) _ _ _
  refine wpAny_bind (wpAny_updateSeq Z.at_ rfl ?_ (by simp [sizeLine_eq]) (by simp [sizeLine_eq]))
  have at2 := Heap.get?_update_self (Obj.mapSeq (·.push Value.none)) Z.at_ rfl
  refine wpAny_updateSeq at2 rfl ?_ (by simp [Obj.mapSeq, refsObj, sizeLine_eq]) (by simp [Obj.mapSeq, refsObj, sizeLine_eq])
  have at3 := Heap.get?_update_self (Obj.mapSeq (·.pop)) at2 rfl
  have oth : ∀ b o, b ≠ S → s.heap.get? b = some o → ((s.heap.update S (Obj.mapSeq (·.push Value.none))).update S (Obj.mapSeq (·.pop))).get? b = some o := fun b o n e => (Heap.get?_update_other _ _ n.symm).trans ((Heap.get?_update_other _ _ n.symm).trans e)
  have Z2 := Z.lay (h' := (s.heap.update S (Obj.mapSeq (·.push Value.none))).update S (Obj.mapSeq (·.pop))) (c' := c + 2) O oth (by rw [Heap.size_update, Heap.size_update]; exact Nat.le_refl _) (by rw [at3]; simp [refsObj, Obj.mapSeq])
  exact wpAny_pure ⟨plainId_quiet F.plain_extend_loop _, zl_loop D O same lim hh res _ 0 _ [] (c + 2) rfl (Nat.zero_le _) Z2 hR⟩
theorem init_zip (D : ZipApart z TI TO i1 i2 l1 l2) (O : Off g z TI TO i1 i2 l1 l2 S) (same : xs.size = ys.size) (lim : xs.size ≤ sizeLine) (hh : A.in1.handled = none) {c : Nat} (hz : IsZip s.heap z TI TO .none) (Z : ZL g s.heap z TI TO i1 i2 l1 l2 S xs ys 0 [] c)
    (hR : ∀ h' ts c', ZD g h' S xs ys ts c' → R (.ok (.ret .none)) { s with heap := h' }) :
    wpAny (model P w) A.in1 (Builtin.«list.__init__» ⟨[.ref S, .ref z], []⟩) (Waits P w A R) (fun e s' => R (.error e) s') s := by
  show wpAny _ A.in1 (Builtin.List.listItems (.ref S) >>= fun old => Builtin.List.listUpdate (.ref S) (fun _ => #[]) >>= fun _ => letGo old.toList.reverse >>= fun _ => Builtin.List.listExtendWith (.ref S) (.ref z) .none) _ _ s
  refine wpAny_bind ?_
  unfold Builtin.List.listItems
  refine wpAny_bind (wpAny_seqItems Z.at_ rfl (wpAny_pure ?_))
  show wpAny _ A.in1 (updateSeq S (fun _ => #[]) >>= fun _ => letGo ((([] : List Addr).map Value.ref).toArray).toList.reverse >>= fun _ => Builtin.List.listExtendWith (.ref S) (.ref z) .none) _ _ s
  refine wpAny_bind (wpAny_updateSeq Z.at_ rfl ?_ (by simp [sizeLine_eq]) (by simp [sizeLine_eq]))
  have at2 := Heap.get?_update_self (Obj.mapSeq (fun _ => (#[] : Array Value))) Z.at_ rfl
  have oth : ∀ b o, b ≠ S → s.heap.get? b = some o → (s.heap.update S (Obj.mapSeq (fun _ => (#[] : Array Value)))).get? b = some o := fun b o n e => (Heap.get?_update_other _ _ n.symm).trans e
  have Z2 := Z.lay (h' := s.heap.update S (Obj.mapSeq (fun _ => (#[] : Array Value)))) (c' := c) O oth (by rw [Heap.size_update]; exact Nat.le_refl _) (by rw [at2]; simp [refsObj, Obj.mapSeq])
  exact wpAny_bind (wpAny_letGo (extend_zip (s := { s with heap := s.heap.update S (Obj.mapSeq (fun _ => (#[] : Array Value))) }) D O same lim hh .none (oth _ _ O.oz.symm hz) Z2 hR))
/-- list(z) of a zip just made -/
theorem call_listZip {Q : Value → Shared → Prop} {h0 : Heap} (la : l1 < h0.objs.size) (lb : l2 < h0.objs.size) (hb1 : h0.IsList l1 xs) (hb2 : h0.IsList l2 ys) (same : xs.size = ys.size) (lim : xs.size ≤ sizeLine) (hh : A.in1.in1.handled = none)
    (hz : IsZip s.heap (h0.objs.size + 4) (h0.objs.size + 2) (h0.objs.size + 3) .none) (hTI : IsPair s.heap (h0.objs.size + 2) (.ref h0.objs.size) (.ref (h0.objs.size + 1))) (hTO : IsPair s.heap (h0.objs.size + 3) .none .none) (a1 : s.heap.IsListIter h0.objs.size l1 0) (a2 : s.heap.IsListIter (h0.objs.size + 1) l2 0)
    (hsz : s.heap.objs.size = h0.objs.size + 5) (hk : ∀ b o, h0.get? b = some o → s.heap.get? b = some o)
    (hQ : ∀ h' ts c', ZD h0 h' (h0.objs.size + 5) xs ys ts c' → Q (.ref (h0.objs.size + 5)) { s with heap := h' }) : wpAny (model P w) A (call (.type "list") [.ref (h0.objs.size + 4)]) Q E s := by
  have fresh : ∀ k, h0.get? (h0.objs.size + k) = none := fun k => Heap.get?_none_of_le (Nat.le_add_right _ _)
  have O : Off h0 (h0.objs.size + 4) (h0.objs.size + 2) (h0.objs.size + 3) h0.objs.size (h0.objs.size + 1) l1 l2 (h0.objs.size + 5) := ⟨Nat.ne_of_gt (Nat.add_lt_add_left (by decide) _), Nat.ne_of_gt (Nat.add_lt_add_left (by decide) _), Nat.ne_of_gt (Nat.add_lt_add_left (by decide) _), Nat.ne_of_gt (Nat.lt_add_of_pos_right (by decide)), Nat.ne_of_gt (Nat.add_lt_add_left (by decide) _), Nat.ne_of_gt (Nat.lt_add_right 5 la), Nat.ne_of_gt (Nat.lt_add_right 5 lb), fresh 4, fresh 3, fresh 0, fresh 1, fresh 5⟩
  refine callType_codes (Q₁ := fun obj s₁ => obj = .ref s.heap.objs.size ∧ s₁ = { s with heap := s.heap.push { cls := .type "list", data := .seq #[] } }) F.called_list (F.typeCall_list_1 _) F.entry_list_init (code_list_new _ ⟨rfl, rfl⟩) fun obj s₁ h₁ => ?_
  obtain ⟨rfl, rfl⟩ := h₁
  have at_ : (s.heap.push { cls := .type "list", data := .seq #[] }).get? s.heap.objs.size = some { cls := .type "list", data := .seq #[] } := Heap.get?_push_size _ rfl
  have kp : ∀ b o, s.heap.get? b = some o → (s.heap.push { cls := .type "list", data := .seq #[] }).get? b = some o := fun b o e => Heap.get?_push_of_some _ e
  refine ⟨⟨_, at_, rfl⟩, F.args_list_init_2 _ _, ?_⟩
  rw [hsz] at at_ ⊢
  refine init_zip (s := { s with heap := s.heap.push { cls := .type "list", data := .seq #[] } }) (PySem.W.ktu_apart h0.objs.size l1 l2 la lb) O same lim hh (kp _ _ hz) ⟨fun b o e => kp b o (hk b o e), by show h0.objs.size ≤ (s.heap.push _).objs.size; rw [Heap.size_push, hsz]; omega, kp _ _ hTI, a1.at fun o e => kp _ o e, a2.at fun o e => kp _ o e, hb1.at fun o e => kp _ o (hk _ o e), hb2.at fun o e => kp _ o (hk _ o e), ⟨_, _, kp _ _ hTO⟩, .inl (kp _ _ hz), at_, rfl, List.nodup_nil, fun j t e => by simp at e⟩ fun h' ts c' zd => ?_
  exact ⟨rfl, hQ h' ts c' zd⟩
/-! ### the objects that come of it -/
theorem refs_vals : ∀ ts : List Addr, Vals (ts.map V.ref) (ts.map Value.ref)
  | [] => .nil
  | t :: ts => .cons (show RelV (.ref t) (.ref t) from rfl) (refs_vals ts)
/-- tuples laid at these places -/
def layT (H : Hp) : List Addr → List V → List V → Hp
  | t :: ts, x :: xs, y :: ys => upd (layT H ts xs ys) t (.tup [x, y])
  | _, _, _ => H
theorem layT_out {H : Hp} {b : Addr} : ∀ {ts : List Addr} {xs ys : List V}, b ∉ ts → layT H ts xs ys b = H b
  | [], _, _, _ => by unfold layT; rfl
  | _ :: _, [], _, _ => by unfold layT; rfl
  | _ :: _, _ :: _, [], _ => by unfold layT; rfl
  | t :: ts, x :: xs, y :: ys, n => by
    show upd (layT H ts xs ys) t _ b = H b
    rw [upd_ne fun e => n (by rw [e]; exact List.mem_cons_self)]
    exact layT_out fun m => n (List.mem_cons_of_mem _ m)
theorem layT_at {H : Hp} : ∀ {ts : List Addr} {xs ys : List V} {j : Nat} {t : Addr} {x y : V}, ts.Nodup → ts[j]? = some t → xs[j]? = some x → ys[j]? = some y → layT H ts xs ys t = some (.tup [x, y])
  | [], _, _, _, _, _, _, _, e, _, _ => by simp at e
  | _ :: _, [], _, _, _, _, _, _, _, e, _ => by simp at e
  | _ :: _, _ :: _, [], _, _, _, _, _, _, _, e => by simp at e
  | t :: ts, x :: xs, y :: ys, 0, _, _, _, _, e1, e2, e3 => by
    cases e1
    cases e2
    cases e3
    exact upd_same
  | t :: ts, x :: xs, y :: ys, j + 1, t', _, _, nd, e1, e2, e3 => by
    obtain ⟨n1, n2⟩ := List.nodup_cons.mp nd
    rw [List.getElem?_cons_succ] at e1 e2 e3
    show upd (layT H ts xs ys) t _ t' = _
    rw [upd_ne fun e => n1 (by rw [← e]; exact List.mem_of_getElem? e1)]
    exact layT_at n2 e1 e2 e3
variable {X : Cx} {pins : List (Addr × Obj)} {σ : L2.St} {H H' : Hp} {h' : Heap}
/-- many objects laid at once -/
theorem laid_all (I : Inv X pins σ H s) (k : ∀ b u, s.heap.get? b = some u → h'.get? b = some u) (old : ∀ b, b < s.heap.objs.size → H' b = H b) (new : ∀ b o, s.heap.objs.size ≤ b → H' b = some o → ObjOk X.prog X.w H' h' b o) : Inv X pins σ H' { s with heap := h' } := by
  have same : ∀ b o, H b = some o → H' b = some o := fun b o e => (old b (I.hok.lt e)).trans e
  refine I.un (t' := s.toks) ⟨fun b o e _ _ _ => k b o e, fun b o e _ _ _ => ⟨o.slots, k b o e⟩, fun b o e n _ => (old b (Heap.lt_size e)).trans n, fun b o e _ => ⟨o, k b o e⟩, fun b xs e => same b _ e, fun b o u e => same b _ e, fun b ps e => ⟨#[], by rw [same b _ e]; simp⟩⟩ fun b o e => ?_
  by_cases c : b < s.heap.objs.size
  · rw [old b c] at e
    exact (I.hok b o e).stay (fun b u _ q => k b u q) (fun b q => same b _ q) fun b xs q => same b _ q
  · exact new b o (Nat.le_of_not_lt c) e
/-- list(zip(xs, ys)): new tuples in a new list -/
def tListZip (K : PySem.W.Frag) (t : TA) : TE := fun σ H Q => t σ H fun vs H1 => ∃ (a b : Addr) (xs ys : List V), vs = [.ref a, .ref b] ∧ SqL K H1 a xs ∧ SqL K H1 b ys ∧ xs.length = ys.length ∧ xs.length ≤ 1000 ∧
  ∀ (p : Addr) (ts : List Addr) (H2 : Hp), H1 p = none → ts.length = xs.length → H2 p = some (.lst (ts.map V.ref)) → (∀ (i : Nat) (t : Addr), ts[i]? = some t → ∃ x y, xs[i]? = some x ∧ ys[i]? = some y ∧ H2 t = some (.tup [x, y])) → (∀ b o, H1 b = some o → H2 b = some o) → Q (.ref p) H2
theorem pe_listZip {e e2 : Expr} {t : TA} {p p2 q pos : Pos} (hc : X.calm = true) (g1 : Gl X "list") (m1 : X.mg "list" = none) (g2 : Gl X "zip") (m2 : X.mg "zip" = none) (ha : PA X [e, e2] t)
    (n1 : starEach [e, e2] X.env = (false, eval e X.env) :: starEach [e2] X.env := by rfl) (n2 : (backTo q (starEach [e2] X.env)).any (·.1) = false := by rfl) (n3 : starEach [.Call (.Name "zip" p2) [e, e2] [] q] X.env = (false, eval (.Call (.Name "zip" p2) [e, e2] [] q) X.env) :: starEach [] X.env := by rfl) : PE X (.Call (.Name "list" p) [.Call (.Name "zip" p2) [e, e2] [] q] [] pos) (tListZip X.K t) := by
  refine ⟨fun pins s σ H Q I h => ?_⟩
  refine Call_ (ld_blt I g1 m1 (show bootBuiltins "list" = some (.type "list") by decide +kernel) (PyProof.Rows.callWith_type1 (PyProof.Rows.args_cons ?_ n3) n3 rfl))
  refine Call_ (ld_blt I g2 m2 PyProof.Rows.boot_zip (PyProof.Rows.callWith_type1 (thn (ha.run q pins s σ H _ I h) fun us s1 ⟨vs, H1, I1, r1, q1⟩ => ?_) n1 n2))
  obtain ⟨a, b, xs, ys, rfl, hqx, hqy, same, lim, k⟩ := q1
  obtain ⟨its, rv, p1, _⟩ := I1.list hqx
  obtain ⟨its2, rv2, p2', _⟩ := I1.list hqy
  have e1 := rv.length
  have e2' := rv2.length
  cases r1 with
  | cons r rr =>
    cases rr with
    | cons r' rr =>
      cases rr
      cases r
      cases r'
      refine call_zip_2 p1.isList p2'.isList fun h1 hz hTI hTO a1 a2 hsz hk => PyProof.Rows.args_nil ?_
      refine call_listZip (s := { s1 with heap := h1 }) (h0 := s1.heap) p1.lt p2'.lt p1.isList p2'.isList (by simp only [List.size_toArray]; omega) (by simp only [List.size_toArray, sizeLine_eq]; omega) (I1.ok.hd hc) hz hTI hTO a1 a2 hsz hk fun h2 ts c zd => ?_
      have len : ts.length = xs.length := by rw [zd.len, List.size_toArray, e1]
      have nsT : s1.heap.objs.size + 5 ∉ ts := fun m => by
        obtain ⟨j, hj⟩ := List.getElem?_of_mem m
        obtain ⟨_, _, _, _, _, n, _⟩ := zd.each j _ hj
        exact n rfl
      have at1 : upd (layT H1 ts xs ys) (s1.heap.objs.size + 5) (.lst (ts.map V.ref)) (s1.heap.objs.size + 5) = some (.lst (ts.map V.ref)) := upd_same
      have tup1 : ∀ (j : Nat) t x y, ts[j]? = some t → xs[j]? = some x → ys[j]? = some y → upd (layT H1 ts xs ys) (s1.heap.objs.size + 5) (.lst (ts.map V.ref)) t = some (.tup [x, y]) := fun j t x y f1 f2 f3 => by
        rw [upd_ne fun q => nsT (by rw [← q]; exact List.mem_of_getElem? f1)]
        exact layT_at zd.nd f1 f2 f3
      have old1 : ∀ b, b < s1.heap.objs.size → upd (layT H1 ts xs ys) (s1.heap.objs.size + 5) (.lst (ts.map V.ref)) b = H1 b := fun b lt => by
        rw [upd_ne (Nat.ne_of_lt (Nat.lt_add_right 5 lt))]
        refine layT_out fun m => ?_
        obtain ⟨j, hj⟩ := List.getElem?_of_mem m
        obtain ⟨_, _, _, _, _, _, n⟩ := zd.each j _ hj
        exact absurd lt (Nat.not_lt.mpr n)
      refine ⟨.ref (s1.heap.objs.size + 5), _, laid_all (s := s1) I1 zd.base old1 fun b o ge eb => ?_, rfl, k (s1.heap.objs.size + 5) ts _ (I1.hok.fresh (Nat.le_add_right _ _)) len at1 (fun j t f1 => ?_) fun b o eb => ?_⟩
      · by_cases cS : b = s1.heap.objs.size + 5
        · subst cS
          rw [at1] at eb
          cases eb
          exact ⟨by rw [List.length_map, len, sizeLine_eq]; omega, ts.map Value.ref, c, refs_vals ts, zd.at_⟩
        · by_cases cT : b ∈ ts
          · obtain ⟨j, hj⟩ := List.getElem?_of_mem cT
            have jl : j < ts.length := (List.getElem?_eq_some_iff.mp hj).1
            have fx := List.getElem?_eq_getElem (show j < xs.length by omega)
            have fy := List.getElem?_eq_getElem (show j < ys.length by omega)
            rw [tup1 j b _ _ hj fx fy] at eb
            cases eb
            obtain ⟨u, v, hu, hv, hp, _⟩ := zd.each j b hj
            obtain ⟨u', hu', ru⟩ := rv.get fx
            obtain ⟨v', hv', rv'⟩ := rv2.get fy
            have eu : u' = u := Option.some.inj (hu'.symm.trans (by simpa using hu))
            have ev : v' = v := Option.some.inj (hv'.symm.trans (by simpa using hv))
            subst eu ev
            exact ⟨by show 2 ≤ sizeLine; decide, [u', v'], .cons ru (.cons rv' .nil), ⟨_, hp, rfl, _, rfl⟩⟩
          · rw [upd_ne cS, layT_out cT, I1.hok.fresh ge] at eb
            cases eb
      · have jl : j < ts.length := (List.getElem?_eq_some_iff.mp f1).1
        have fx := List.getElem?_eq_getElem (show j < xs.length by omega)
        have fy := List.getElem?_eq_getElem (show j < ys.length by omega)
        exact ⟨_, _, fx, fy, tup1 j t _ _ f1 fx fy⟩
      · rw [old1 b (I1.hok.lt eb)]
        exact eb
end
end Nm
set_option maxRecDepth 100000
set_option maxHeartbeats 4000000
/-! tuple(zip(*t)), t a tuple of tuples -/
namespace Nm
open PySem PySem.Spec PyProof.Rows L2
open PySem.W (Looks.of_pure)
/-- tuples laid at these places -/
def layC (H : Hp) (cs : List Addr) (col : Nat → List V) : Hp := fun x => if x ∈ cs then some (.tup (col (cs.idxOf x))) else H x
theorem layC_out {H : Hp} {cs : List Addr} {col : Nat → List V} {x : Addr} (h : x ∉ cs) : layC H cs col x = H x := if_neg h
theorem layC_at {H : Hp} {cs : List Addr} {col : Nat → List V} (nd : cs.Nodup) {j : Nat} {c : Addr} (h : cs[j]? = some c) : layC H cs col c = some (.tup (col j)) := by
  have e : cs.idxOf c = j := by
    have hj := (List.getElem?_eq_some_iff.mp h).1
    have hc := (List.getElem?_eq_some_iff.mp h).2
    rw [← hc]
    exact nd.idxOf_getElem j hj
  unfold layC
  rw [if_pos (List.mem_of_getElem? h), e]
def tTurned (K : PySem.W.Frag) (te : TE) : TE := fun σ H Q => te σ H fun x H1 => ∃ (t : Addr) (ts : List Addr) (rows : List (List V)) (m : Nat), x = .ref t ∧ SqT K H1 t (ts.map V.ref) ∧ rows.length = ts.length ∧ (∀ (k : Nat) (a : Addr), ts[k]? = some a → ∃ r, rows[k]? = some r ∧ SqT K H1 a r) ∧ (∀ r ∈ rows, r.length = m) ∧
  1 ≤ ts.length ∧ ts.length ≤ 8 ∧ m ≤ 1000 ∧ ∀ (p : Addr) (cs : List Addr) (H2 : Hp), H1 p = none → cs.length = m → H2 p = some (.tup (cs.map V.ref)) → (∀ (j : Nat) (c : Addr), cs[j]? = some c → H1 c = none ∧ H2 c = some (.tup (rows.map fun r => r.getD j .non))) → Same H1 H2 → Q (.ref p) H2
section
variable {X : Cx} {pins : List (Addr × Obj)} {σ : L2.St} {H : Hp} {s : Shared}
theorem refs_of_vals : ∀ {ts : List Addr} {us : List Value}, Vals (ts.map V.ref) us → us = ts.map Value.ref
  | [], _, .nil => rfl
  | t :: ts, _, .cons r rr => by
    cases (show _ = Value.ref t from r)
    rw [refs_of_vals rr]
    rfl
theorem vals_getD : ∀ {xs : List V} {us : List Value} (_ : Vals xs us) (j : Nat), j < xs.length → RelV (xs.getD j .non) (us.getD j .none)
  | _, _, .nil, j, h => absurd h (Nat.not_lt_zero j)
  | _, _, .cons r rr, 0, _ => r
  | _, _, .cons r rr, j + 1, h => vals_getD rr j (Nat.lt_of_succ_lt_succ h)
/-- the columns as they stand -/
theorem vals_col {j m : Nat} (hj : j < m) : ∀ {rows : List (List V)} {us : List (List Value)}, (∀ r ∈ rows, r.length = m) → rows.length = us.length → (∀ (k : Nat) r u, rows[k]? = some r → us[k]? = some u → Vals r u) → Vals (rows.map fun r => r.getD j .non) (us.map fun u => u.getD j .none)
  | [], [], _, _, _ => .nil
  | [], _ :: _, _, e, _ => by cases e
  | _ :: _, [], _, e, _ => by cases e
  | r :: rows, u :: us, hm, e, h => .cons (vals_getD (h 0 r u rfl rfl) j (by rw [hm r List.mem_cons_self]; exact hj)) (vals_col hj (fun r' h' => hm r' (List.mem_cons_of_mem _ h')) (by simpa using e) fun k r' u' h1 h2 => h (k + 1) r' u' h1 h2)
theorem pe_tupleZip {e : Expr} {te : TE} {p p2 p3 q pos : Pos} (hc : X.calm = true) (g1 : Gl X "tuple") (m1 : X.mg "tuple" = none) (g2 : Gl X "zip") (m2 : X.mg "zip" = none) (he : PE X e te)
    (hst : starEach [.Starred e p3] X.env = [(true, eval e X.env)] := by rfl) (n3 : starEach [.Call (.Name "zip" p2) [.Starred e p3] [] q] X.env = (false, eval (.Call (.Name "zip" p2) [.Starred e p3] [] q) X.env) :: starEach [] X.env := by rfl) :
    PE X (.Call (.Name "tuple" p) [.Call (.Name "zip" p2) [.Starred e p3] [] q] [] pos) (tTurned X.K te) := by
  refine ⟨fun pins s σ H Q I h => ?_⟩
  refine Call_ (ld_blt I g1 m1 (show bootBuiltins "tuple" = some (.type "tuple") by decide +kernel) (PyProof.Rows.callWith_type1 (PyProof.Rows.args_cons ?_ n3) n3 rfl))
  refine Call_ (ld_blt I g2 m2 PyProof.Rows.boot_zip ?_)
  rw [hst]
  refine PySem.W.ks_call (P := fun _ => True) rfl (fun _ _ => ⟨_, .inr (.inl rfl), Looks.of_pure rfl⟩) (PySem.W.ks_lone (thn (he.run pins s σ H _ I h) fun v s1 ⟨y, H1, I1, ry, t, ts, rows, m, ey, hx, rl, hrow, rm, n1, n8, lim, k⟩ => ?_))
  subst ey
  obtain rfl : v = Value.ref t := ry
  refine StX.star_any I1 (.inl hx) fun us s2 I2 rv => ⟨trivial, ?_⟩
  obtain rfl := refs_of_vals rv
  have hr : ∀ (n : Nat) (a : Addr), ts[n]? = some a → ∃ (r : List V) (u : List Value), rows[n]? = some r ∧ Vals r u ∧ s2.heap.IsTuple a u.toArray := fun n a ha => by
    obtain ⟨r, h1, h2⟩ := hrow n a ha
    obtain ⟨its, rv', p1, _⟩ := I2.tuple h2
    exact ⟨r, its, h1, rv', p1⟩
  obtain ⟨us, ul, hus⟩ : ∃ us : List (List Value), us.length = ts.length ∧ ∀ (n : Nat) (a : Addr), ts[n]? = some a → ∃ (r : List V) (u : List Value), rows[n]? = some r ∧ us[n]? = some u ∧ Vals r u ∧ s2.heap.IsTuple a u.toArray := by
    have all : ∀ k, k ≤ ts.length → ∃ us : List (List Value), us.length = k ∧ ∀ (n : Nat) (a : Addr), n < k → ts[n]? = some a → ∃ (r : List V) (u : List Value), rows[n]? = some r ∧ us[n]? = some u ∧ Vals r u ∧ s2.heap.IsTuple a u.toArray := by
      intro k
      induction k with
      | zero => exact fun _ => ⟨[], rfl, fun n a h => absurd h (Nat.not_lt_zero n)⟩
      | succ k ih =>
        intro hk
        obtain ⟨us, ul, hus⟩ := ih (by omega)
        obtain ⟨a, ha⟩ : ∃ a, ts[k]? = some a := ⟨_, List.getElem?_eq_getElem hk⟩
        obtain ⟨r, u, h1, h2, h3⟩ := hr k a ha
        refine ⟨us ++ [u], by rw [List.length_append, ul]; rfl, fun n a' hn ha' => ?_⟩
        by_cases e : n = k
        · subst e
          rw [ha] at ha'
          cases ha'
          exact ⟨r, u, h1, by rw [List.getElem?_append_right (by omega), ul, Nat.sub_self]; rfl, h2, h3⟩
        · obtain ⟨r', u', q1, q2, q3⟩ := hus n a' (by omega) ha'
          exact ⟨r', u', q1, by rw [List.getElem?_append_left (by omega)]; exact q2, q3⟩
    obtain ⟨us, ul, hus⟩ := all ts.length (Nat.le_refl _)
    exact ⟨us, ul, fun n a ha => hus n a (List.getElem?_eq_some_iff.mp ha).1 ha⟩
  have um : ∀ u ∈ us, u.length = m := fun u hu => by
    obtain ⟨n, hn⟩ := List.getElem?_of_mem hu
    have nl := (List.getElem?_eq_some_iff.mp hn).1
    obtain ⟨a, ha⟩ : ∃ a, ts[n]? = some a := ⟨_, List.getElem?_eq_getElem (by omega)⟩
    obtain ⟨r, u', q1, q2, q3, _⟩ := hus n a ha
    rw [hn] at q2
    cases q2
    rw [← q3.length]
    exact rm r (List.mem_of_getElem? q1)
  refine call_zipN (rows := us) (m := m) (fun n a ha => by obtain ⟨_, u, _, q2, _, q4⟩ := hus n a ha; exact ⟨u, q2, q4⟩) n1 n8 ul um lim fun h' Z hk => ?_
  refine PyProof.Rows.args_nil ?_
  refine call_tupleZip (s := { s2 with heap := h' }) (I2.ok.hd hc) Z fun h2 cs zd => ?_
  have kp : ∀ c o, s2.heap.get? c = some o → (h2.push { cls := .type "tuple", data := .seq (cs.map Value.ref).toArray }).get? c = some o := fun c o e => Heap.get?_push_of_some _ (zd.base c o (Heap.lt_size e) (hk c o e))
  have big : ∀ (j : Nat) (c : Addr), cs[j]? = some c → s2.heap.objs.size ≤ c ∧ c < h2.objs.size := fun j c e => by
    obtain ⟨e1, e2⟩ := zd.each j c e
    exact ⟨by have e2 := @id (@LT.lt Nat _ _ c) e2; omega, Heap.lt_size e1⟩
  have pn : h2.objs.size ∉ cs := fun mm => by
    obtain ⟨j, hj⟩ := List.getElem?_of_mem mm
    exact absurd (big j _ hj).2 (Nat.lt_irrefl _)
  have hge : s2.heap.objs.size ≤ h2.objs.size := by
    have := zd.big
    omega
  have at1 : upd (layC H1 cs fun j => rows.map fun r => r.getD j .non) h2.objs.size (.tup (cs.map V.ref)) h2.objs.size = some (.tup (cs.map V.ref)) := upd_same
  have old1 : ∀ b, b < s2.heap.objs.size → upd (layC H1 cs fun j => rows.map fun r => r.getD j .non) h2.objs.size (.tup (cs.map V.ref)) b = H1 b := fun b lt => by
    rw [upd_ne (Nat.ne_of_lt (Nat.lt_of_lt_of_le lt hge))]
    refine layC_out fun mm => ?_
    obtain ⟨j, hj⟩ := List.getElem?_of_mem mm
    exact absurd lt (Nat.not_lt.mpr (big j _ hj).1)
  have col1 : ∀ (j : Nat) (c : Addr), cs[j]? = some c → upd (layC H1 cs fun j => rows.map fun r => r.getD j .non) h2.objs.size (.tup (cs.map V.ref)) c = some (.tup (rows.map fun r => r.getD j .non)) := fun j c e => by
    rw [upd_ne (Nat.ne_of_lt (big j c e).2)]
    exact layC_at zd.nd e
  refine ⟨.ref h2.objs.size, _, laid_all (s := s2) I2 kp old1 fun b o ge eb => ?_, rfl, k h2.objs.size cs _ (I2.hok.fresh hge) zd.len at1 (fun j c e => ⟨I2.hok.fresh (big j c e).1, col1 j c e⟩) fun b o eb => ?_⟩
  · by_cases cS : b = h2.objs.size
    · subst cS
      rw [at1] at eb
      cases eb
      exact ⟨by rw [List.length_map, zd.len, sizeLine_eq]; omega, cs.map Value.ref, refs_vals cs, IsTup.new _ _⟩
    · by_cases cT : b ∈ cs
      · obtain ⟨j, hj⟩ := List.getElem?_of_mem cT
        rw [col1 j b hj] at eb
        cases eb
        have jm : j < m := by
          have := (List.getElem?_eq_some_iff.mp hj).1
          rw [zd.len] at this
          exact this
        refine ⟨by rw [List.length_map, rl, sizeLine_eq]; omega, us.map fun u => u.getD j .none, vals_col jm rm (by rw [rl, ul]) (fun n r u q1 q2 => ?_), ⟨_, Heap.get?_push_of_some _ (zd.each j b hj).1, rfl, _, rfl⟩⟩
        have nl := (List.getElem?_eq_some_iff.mp q2).1
        obtain ⟨a, ha⟩ : ∃ a, ts[n]? = some a := ⟨_, List.getElem?_eq_getElem (by omega)⟩
        obtain ⟨r', u', w1, w2, w3, _⟩ := hus n a ha
        rw [q1] at w1
        rw [q2] at w2
        cases w1
        cases w2
        exact w3
      · rw [upd_ne cS, layC_out cT, I2.hok.fresh ge] at eb
        cases eb
  · rw [old1 b (I2.hok.lt eb)]
    exact eb
end
end Nm
set_option maxRecDepth 100000
set_option maxHeartbeats 4000000
/-! tables; turned_over -/
namespace Nm
open PySem L2
/-- a table as it stands -/
def TblAt (H : Hp) (t : Addr) (tb : List (List Int)) : Prop := ∃ ts : List Addr, H t = some (.tup (ts.map V.ref)) ∧ ts.length = tb.length ∧ ∀ (k : Nat) (a : Addr) (r : List Int), ts[k]? = some a → tb[k]? = some r → H a = some (.tup (r.map V.int))
theorem TblAt.ext {H H' : Hp} {t : Addr} {tb : List (List Int)} (h : TblAt H t tb) (s : ∀ b xs, H b = some (.tup xs) → H' b = some (.tup xs)) : TblAt H' t tb := by
  obtain ⟨ts, h1, h2, h3⟩ := h
  exact ⟨ts, s _ _ h1, h2, fun k a r e1 e2 => s _ _ (h3 k a r e1 e2)⟩
theorem TblAt.same {H H' : Hp} {t : Addr} {tb : List (List Int)} (h : TblAt H t tb) (s : Same H H') : TblAt H' t tb := h.ext fun b xs e => s _ _ e
/-- of this form: rows of one length, few -/
structure TblOk (tb : List (List Int)) (m : Nat) : Prop where
  rm : ∀ r ∈ tb, r.length = m
  n1 : 1 ≤ tb.length
  n8 : tb.length ≤ 8
  m8 : m ≤ 8
def turnT (tb : List (List Int)) (m : Nat) : List (List Int) := (List.range m).map fun j => tb.map fun r => r.getD j 0
structure TxtZ (mg : Str → Option Value) : Prop where
  zip : mg "zip" = none
  tuple : mg "tuple" = none
theorem getD_ints {r : List Int} {j : Nat} (h : j < r.length) : (r.map V.int).getD j .non = V.int (r.getD j 0) := by
  rw [List.getD_eq_getElem?_getD, List.getD_eq_getElem?_getD, List.getElem?_map, List.getElem?_eq_getElem h]
  rfl
section
variable {P : Program} {w : World} {K : PySem.W.Frag} {mg : Str → Option Value} {base : Heap}
def spTurned : Sp := fun vs H Q _ => ∃ (t : Addr) (tb : List (List Int)) (m : Nat), vs = [.ref t] ∧ TblAt H t tb ∧ TblOk tb m ∧ ∀ (p : Addr) (H' : Hp), H p = none → TblAt H' p (turnT tb m) → Same H H' → Q (.ref p) H'
theorem scTu : FnScope ["table"] ["table"] (defScope sTurned) := ⟨rfl, rfl, rfl, by decide +kernel, rfl, by decide +kernel, by decide +kernel⟩
theorem ok_turned {f : Addr} {fd : FuncData} (F : Fun K "turned_over" "turned_over" sTurned f fd) (T : TxtZ mg) : FnOk P w K mg base CX0 1 f fd ["table"] spTurned := by
  refine F.ok scTu (fun vs H Q E h => ?_) (fun cdv A outer s H vs Q E hr h => ?_)
  · obtain ⟨_, _, _, rfl, _⟩ := h
    rfl
  · obtain ⟨t, tb, m, rfl, ⟨ts, h1, h2, h3⟩, ok, k⟩ := h
    refine ⟨_, pss_one (ps_ret (pe_tupleZip rfl (by rfl) T.tuple (by rfl) T.zip (pv 0))), ?_⟩
    have m8 := ok.m8
    refine ⟨_, rfl, t, ts, tb.map fun r => r.map V.int, m, rfl, SqT.of h1, by rw [List.length_map]; exact h2.symm, fun n a ha => ?_, fun r hr => ?_, by rw [h2]; exact ok.n1, by rw [h2]; exact ok.n8, by omega, fun p cs H2 hp hcl hp2 hcs s2 => ?_⟩
    · have nl := (List.getElem?_eq_some_iff.mp ha).1
      obtain ⟨r, hr⟩ : ∃ r, tb[n]? = some r := ⟨_, List.getElem?_eq_getElem (by omega)⟩
      exact ⟨r.map V.int, by rw [List.getElem?_map, hr]; rfl, SqT.of (h3 n a r ha hr)⟩
    · obtain ⟨r0, hr0, rfl⟩ := List.mem_map.mp hr
      rw [List.length_map]
      exact ok.rm r0 hr0
    · refine k p H2 hp ⟨cs, hp2, by rw [hcl]; unfold turnT; rw [List.length_map, List.length_range], fun j c r hc hr => ?_⟩ s2
      have jm : j < m := by
        have := (List.getElem?_eq_some_iff.mp hc).1
        omega
      have e := (hcs j c hc).2
      rw [e]
      unfold turnT at hr
      rw [List.getElem?_map, List.getElem?_range jm] at hr
      cases hr
      rw [List.map_map, List.map_map]
      congr 2
      refine List.map_congr_left fun r0 h0 => ?_
      exact getD_ints (by rw [ok.rm r0 h0]; exact jm)
end
end Nm
set_option maxRecDepth 100000
set_option maxHeartbeats 4000000
/-! colours by what hangs together: the mathematics -/
namespace Nm
open PySem L2
/-- without repeats, as they come -/
def dd (l : List Nat) : List Nat := l.foldl (fun acc x => if x ∈ acc then acc else acc ++ [x]) []
theorem dd_snoc (l : List Nat) (x : Nat) : dd (l ++ [x]) = if x ∈ dd l then dd l else dd l ++ [x] := by
  unfold dd
  rw [List.foldl_append]
  rfl
theorem take_snoc {f : List Nat} {i x : Nat} (h : f[i]? = some x) : f.take (i + 1) = f.take i ++ [x] := by
  rw [List.take_add_one, h]
  rfl
theorem dd_mem (f : List Nat) : ∀ i, i ≤ f.length → ∀ x, x ∈ dd (f.take i) ↔ x ∈ f.take i
  | 0, _, x => by simp [dd]
  | i + 1, h, x => by
    obtain ⟨y, hy⟩ : ∃ y, f[i]? = some y := ⟨_, List.getElem?_eq_getElem h⟩
    rw [take_snoc hy, dd_snoc, List.mem_append, List.mem_singleton]
    have ih := dd_mem f i (by omega)
    by_cases m : y ∈ dd (f.take i)
    · rw [if_pos m, ih x]
      constructor
      · exact .inl
      · rintro (z | rfl)
        · exact z
        · exact (ih x).mp m
    · rw [if_neg m, List.mem_append, List.mem_singleton, ih x]
theorem dd_old {f : List Nat} {i x y : Nat} (h : f[i]? = some y) (hi : i < f.length) (hx : x ∈ f.take i) : (dd (f.take (i + 1))).idxOf x = (dd (f.take i)).idxOf x := by
  have hm := (dd_mem f i (by omega) x).mpr hx
  rw [take_snoc h, dd_snoc]
  split
  · rfl
  · rw [List.idxOf_append, if_pos hm]
theorem dd_new {f : List Nat} {i y : Nat} (h : f[i]? = some y) (hi : i < f.length) (hy : y ∉ f.take i) : (dd (f.take (i + 1))).idxOf y = (dd (f.take i)).length ∧ (dd (f.take (i + 1))).length = (dd (f.take i)).length + 1 := by
  have hm : y ∉ dd (f.take i) := fun z => hy ((dd_mem f i (by omega) y).mp z)
  rw [take_snoc h, dd_snoc, if_neg hm]
  refine ⟨?_, by simp⟩
  rw [List.idxOf_append, if_neg hm]
  simp
theorem dd_len (f : List Nat) : ∀ i, (dd (f.take i)).length ≤ i
  | 0 => by simp [dd]
  | i + 1 => by
    cases h : f[i]? with
    | none =>
      have hl : f.length ≤ i := by
        by_cases c : i < f.length
        · rw [List.getElem?_eq_getElem c] at h
          cases h
        · omega
      have e : f.take (i + 1) = f.take i := by
        rw [List.take_of_length_le (by omega), List.take_of_length_le (by omega)]
      rw [e]
      have := dd_len f i
      omega
    | some y =>
      rw [take_snoc h, dd_snoc]
      have := dd_len f i
      split
      · omega
      · rw [List.length_append, List.length_singleton]
        omega
/-- the places of a row that are above 0 -/
def posJ (r : List Int) (j : Nat) : List Nat := (List.range j).filter fun k => decide (0 < r.getD k 0)
theorem posJ_yes {r : List Int} {j : Nat} (h : 0 < r.getD j 0) : posJ r (j + 1) = posJ r j ++ [j] := by
  unfold posJ
  rw [List.range_succ, List.filter_append, List.filter_cons_of_pos (by rw [decide_eq_true h])]
  rfl
theorem posJ_no {r : List Int} {j : Nat} (h : ¬ 0 < r.getD j 0) : posJ r (j + 1) = posJ r j := by
  unfold posJ
  rw [List.range_succ, List.filter_append, List.filter_cons_of_neg (by rw [decide_eq_false h]; decide)]
  simp
theorem posJ_mem {r : List Int} {j k : Nat} : k ∈ posJ r j ↔ k < j ∧ 0 < r.getD k 0 := by
  unfold posJ
  rw [List.mem_filter, List.mem_range, decide_eq_true_eq]
theorem posJ_len (r : List Int) (j : Nat) : (posJ r j).length ≤ j := by
  have := List.length_filter_le (fun k => decide (0 < r.getD k 0)) (List.range j)
  rwa [List.length_range] at this
def posI (off : Nat) (r : List Int) : List Nat := (posJ r r.length).map fun k => off + k
/-- the neighbours by a table -/
def nearT (tb : List (List Int)) (m : Nat) : List (List Nat) := (tb.map (posI tb.length)) ++ ((turnT tb m).map (posI 0))
theorem turn_len (tb : List (List Int)) (m : Nat) : (turnT tb m).length = m := by
  unfold turnT
  rw [List.length_map, List.length_range]
theorem near_len (tb : List (List Int)) (m : Nat) : (nearT tb m).length = tb.length + m := by
  unfold nearT
  rw [List.length_append, List.length_map, List.length_map, turn_len]
theorem near_row {tb : List (List Int)} {m x : Nat} {r : List Int} (h : tb[x]? = some r) : (nearT tb m)[x]? = some (posI tb.length r) := by
  unfold nearT
  rw [List.getElem?_append_left (by rw [List.length_map]; exact (List.getElem?_eq_some_iff.mp h).1), List.getElem?_map, h]
  rfl
theorem near_col {tb : List (List Int)} {m j : Nat} (h : j < m) : (nearT tb m)[tb.length + j]? = some (posI 0 (tb.map fun r => r.getD j 0)) := by
  unfold nearT
  rw [List.getElem?_append_right (by rw [List.length_map]; omega), List.length_map, Nat.add_sub_cancel_left, List.getElem?_map]
  unfold turnT
  rw [List.getElem?_map, List.getElem?_range h]
  rfl
theorem near_cases {tb : List (List Int)} {m x : Nat} {l : List Nat} (h : (nearT tb m)[x]? = some l) : (∃ r, tb[x]? = some r ∧ l = posI tb.length r) ∨ ∃ j, j < m ∧ x = tb.length + j ∧ l = posI 0 (tb.map fun r => r.getD j 0) := by
  have hl := (List.getElem?_eq_some_iff.mp h).1
  rw [near_len] at hl
  by_cases c : x < tb.length
  · have e := List.getElem?_eq_getElem c
    rw [near_row e] at h
    exact .inl ⟨_, e, (Option.some.inj h).symm⟩
  · obtain ⟨j, rfl⟩ : ∃ j, x = tb.length + j := ⟨x - tb.length, by omega⟩
    have hj : j < m := by omega
    rw [near_col hj] at h
    exact .inr ⟨j, hj, rfl, (Option.some.inj h).symm⟩
theorem posI_mem {off : Nat} {r : List Int} {y : Nat} : y ∈ posI off r ↔ ∃ k, y = off + k ∧ k < r.length ∧ 0 < r.getD k 0 := by
  unfold posI
  rw [List.mem_map]
  constructor
  · rintro ⟨k, hk, rfl⟩
    exact ⟨k, rfl, posJ_mem.mp hk⟩
  · rintro ⟨k, rfl, h⟩
    exact ⟨k, posJ_mem.mpr h, rfl⟩
theorem col_getD {tb : List (List Int)} {j k : Nat} {r : List Int} (h : tb[k]? = some r) : (tb.map fun r => r.getD j 0).getD k 0 = r.getD j 0 := by
  rw [List.getD_eq_getElem?_getD, List.getElem?_map, h]
  rfl
theorem near_lt {tb : List (List Int)} {m : Nat} (ok : TblOk tb m) : ∀ l ∈ nearT tb m, ∀ y ∈ l, y < (nearT tb m).length := fun l hl y hy => by
  obtain ⟨x, hx⟩ := List.getElem?_of_mem hl
  rw [near_len]
  rcases near_cases hx with ⟨r, hr, rfl⟩ | ⟨j, hj, rfl, rfl⟩
  · obtain ⟨k, rfl, hk, _⟩ := posI_mem.mp hy
    have := ok.rm r (List.mem_of_getElem? hr)
    omega
  · obtain ⟨k, rfl, hk, _⟩ := posI_mem.mp hy
    rw [List.length_map] at hk
    omega
theorem near_small {tb : List (List Int)} {m : Nat} (ok : TblOk tb m) : ∀ l ∈ nearT tb m, l.length ≤ 1000 := fun l hl => by
  obtain ⟨x, hx⟩ := List.getElem?_of_mem hl
  have n8 := ok.n8
  have m8 := ok.m8
  rcases near_cases hx with ⟨r, hr, rfl⟩ | ⟨j, hj, rfl, rfl⟩
  · have := ok.rm r (List.mem_of_getElem? hr)
    have h2 := posJ_len r r.length
    unfold posI
    rw [List.length_map]
    omega
  · have h2 := posJ_len (tb.map fun r => r.getD j 0) (tb.map fun r => r.getD j 0).length
    unfold posI
    rw [List.length_map]
    rw [List.length_map] at h2
    rw [List.length_map]
    omega
theorem near_sym {tb : List (List Int)} {m : Nat} (ok : TblOk tb m) : ∀ (x y : Nat) l l', (nearT tb m)[x]? = some l → (nearT tb m)[y]? = some l' → y ∈ l → x ∈ l' := fun x y l l' hx hy h => by
  rcases near_cases hx with ⟨r, hr, rfl⟩ | ⟨j, hj, rfl, rfl⟩
  · obtain ⟨k, rfl, hk, hp⟩ := posI_mem.mp h
    have hm := ok.rm r (List.mem_of_getElem? hr)
    rw [near_col (by omega)] at hy
    cases hy
    refine posI_mem.mpr ⟨x, by omega, by rw [List.length_map]; exact (List.getElem?_eq_some_iff.mp hr).1, ?_⟩
    rw [col_getD hr]
    exact hp
  · obtain ⟨k, rfl, hk, hp⟩ := posI_mem.mp h
    rw [List.length_map] at hk
    rw [Nat.zero_add] at hy
    have hr := List.getElem?_eq_getElem hk
    rw [near_row hr] at hy
    cases hy
    rw [col_getD hr] at hp
    exact posI_mem.mpr ⟨j, rfl, by rw [ok.rm _ (List.getElem_mem hk)]; exact hj, hp⟩
/-- f tells what hangs together by these neighbours -/
structure Fnd (nb : List (List Nat)) (f : List Nat) : Prop where
  len : f.length = nb.length
  edge : ∀ (x : Nat) l, nb[x]? = some l → ∀ y ∈ l, f[x]? = f[y]?
  least : ∀ S : Nat → Prop, (∀ (x : Nat) l, nb[x]? = some l → ∀ y ∈ l, (S x ↔ S y)) → ∀ i j : Nat, i < nb.length → f[i]? = f[j]? → (S i ↔ S j)
/-- what is found from a place is what has its number -/
theorem Fnd.found {nb : List (List Nat)} {f : List Nat} (F : Fnd nb f) (sym : ∀ (x y : Nat) l l', nb[x]? = some l → nb[y]? = some l' → y ∈ l → x ∈ l') (lt : ∀ l ∈ nb, ∀ y ∈ l, y < nb.length) {s : Nat} {ks : List Nat} (R : Found nb s ks) (hs : s < nb.length) (k : Nat) (hk : k < nb.length) : k ∈ ks ↔ f[k]? = f[s]? := by
  constructor
  · exact R.least (fun k => f[k]? = f[s]?) rfl (fun x l hx hl y hy => (F.edge x l hl y hy).symm.trans hx) k
  · intro e
    refine (F.least (fun x => x ∈ ks) (fun x l hl y hy => ⟨fun hx => R.closed x hx l hl y hy, fun hy2 => ?_⟩) s k hs e.symm).mp R.start
    have hyl := lt l (List.mem_of_getElem? hl) y hy
    obtain ⟨l', hl'⟩ : ∃ l', nb[y]? = some l' := ⟨_, List.getElem?_eq_getElem hyl⟩
    exact R.closed y hy2 l' hl' x (sym x y l l' hl hl' hy)
/-- the numbers as they come -/
def canonL (f : List Nat) : List Nat := f.map fun x => (dd f).idxOf x
/-- what stands at a place when the first s places are through -/
def numG (f : List Nat) (s i : Nat) : V := if f.getD i 0 ∈ f.take s then V.int (((dd (f.take s)).idxOf (f.getD i 0) : Nat) : Int) else V.non
theorem getD_at {f : List Nat} {i x : Nat} (h : f[i]? = some x) : f.getD i 0 = x := by
  rw [List.getD_eq_getElem?_getD, h]
  rfl
theorem numG_old {f : List Nat} {s x : Nat} (hs : f[s]? = some x) (hx : x ∈ f.take s) (i : Nat) : numG f (s + 1) i = numG f s i := by
  have hl := (List.getElem?_eq_some_iff.mp hs).1
  have hm := (dd_mem f s (by omega) x).mpr hx
  unfold numG
  rw [take_snoc hs, dd_snoc, if_pos hm]
  have : (f.getD i 0 ∈ f.take s ++ [x]) = (f.getD i 0 ∈ f.take s) := by
    apply propext
    rw [List.mem_append, List.mem_singleton]
    constructor
    · rintro (z | z)
      · exact z
      · rw [z]; exact hx
    · exact .inl
  simp only [this]
theorem numG_new {f : List Nat} {s x : Nat} (hs : f[s]? = some x) (hx : x ∉ f.take s) (i : Nat) : numG f (s + 1) i = if f.getD i 0 = x then V.int (((dd (f.take s)).length : Nat) : Int) else numG f s i := by
  have hl := (List.getElem?_eq_some_iff.mp hs).1
  obtain ⟨n1, _⟩ := dd_new hs hl hx
  by_cases e : f.getD i 0 = x
  · rw [if_pos e]
    unfold numG
    rw [e, n1, if_pos (by rw [take_snoc hs]; simp)]
  · rw [if_neg e]
    unfold numG
    by_cases m : f.getD i 0 ∈ f.take s
    · rw [if_pos m, if_pos (by rw [take_snoc hs]; exact List.mem_append_left _ m), dd_old hs hl m]
    · rw [if_neg m, if_neg (by rw [take_snoc hs, List.mem_append, List.mem_singleton]; rintro (z | z); exact m z; exact e z)]
theorem numG_end {f : List Nat} : (List.range f.length).map (numG f f.length) = natV (canonL f) := by
  unfold canonL natV
  rw [List.map_map]
  apply List.ext_getElem?
  intro i
  rw [List.getElem?_map, List.getElem?_map]
  by_cases h : i < f.length
  · rw [List.getElem?_range h, List.getElem?_eq_getElem h]
    show some (numG f f.length i) = some _
    unfold numG
    rw [List.take_length, getD_at (List.getElem?_eq_getElem h), if_pos (List.getElem_mem h)]
    rfl
  · rw [List.getElem?_eq_none (by rw [List.length_range]; omega), List.getElem?_eq_none (by omega)]
    rfl
theorem range_set {N k : Nat} {g : Nat → V} {v : V} (h : k < N) : ((List.range N).map g).set k v = (List.range N).map fun i => if i = k then v else g i := by
  apply List.ext_getElem?
  intro i
  rw [List.getElem?_set, List.getElem?_map, List.length_map, List.length_range]
  by_cases e : k = i
  · subst e
    rw [if_pos rfl, if_pos h, List.getElem?_map, List.getElem?_range h]
    show _ = some (if k = k then v else g k)
    rw [if_pos rfl]
  · rw [if_neg e, List.getElem?_map]
    cases hx : (List.range N)[i]? with
    | none => rfl
    | some y =>
      have hl := (List.getElem?_eq_some_iff.mp hx).1
      rw [List.length_range] at hl
      rw [List.getElem?_range hl] at hx
      cases hx
      show some (g i) = some (if i = k then v else g i)
      rw [if_neg fun z => e z.symm]
end Nm
set_option maxRecDepth 100000
set_option maxHeartbeats 4000000
/-! for i, x in enumerate(a tuple) -/
namespace Nm
open PySem PySem.Spec PyProof.Rows L2
open PySem.AutoSeq1 (wpAny_loadPart')
/-- the call of the type -/
theorem en_new (l : Addr) (xs : Array Value) (n : Nat) (dd : Option Addr) (sl : Array (Option Value)) :
    Meets (Builtin.«enumerate.__new__» ⟨[.type "enumerate", .ref l], []⟩) (fun _ R s => s.heap.get? l = some { cls := .type "tuple", dict := dd, data := .seq xs n, slots := sl } ∧
      R (.ok (.ret (.ref (s.heap.push { cls := .type "tuple_iterator", data := .fields #[.ref l, .int 0 0] }).objs.size)))
        { s with heap := (s.heap.push { cls := .type "tuple_iterator", data := .fields #[.ref l, .int 0 0] }).push { cls := .type "enumerate", data := .fields #[.none, .bool false, .ref s.heap.objs.size, rawInt 0, .none, .none] } }) :=
  .of_wp fun prog w A R s h => by
    obtain ⟨hp, g, d, tk, os⟩ := s; obtain ⟨ht0, h⟩ := h
    have hsub := sub_enumerate
    have hT : Heap.IsTuple (Shared.heap ⟨hp, g, d, tk, os⟩) l xs := ⟨_, ht0, rfl, n, rfl⟩
    wp_walk using wpAny_loadPart' ht0
    refine wpAny_stack_any fun st => wpAny_pure ?_
    split
    · rename_i c _ _ _ _ _
      cases (c == Value.type "enumerate")
      · wp_walk using wpAny_loadPart' ht0, wpAny_pyIter_tuple hT
        exact ⟨_, rfl, h⟩
      · wp_walk using wpAny_loadPart' ht0, wpAny_pyIter_tuple hT
        exact ⟨_, rfl, h⟩
    · wp_walk using wpAny_loadPart' ht0, wpAny_pyIter_tuple hT
      exact ⟨_, rfl, h⟩
section
variable {prog : Program} {w : World} {A : Around} {E : Value → Shared → Prop} {s : Shared}
theorem en_call {l : Addr} {xs : Array Value} {Q : Value → Shared → Prop} (hT : s.heap.IsTuple l xs)
    (h : ∀ h', IsEnum h' (s.heap.objs.size + 1) s.heap.objs.size 0 .none → h'.IsTupleIter s.heap.objs.size l 0 → h'.objs.size = s.heap.objs.size + 2 →
      (∀ b o, s.heap.get? b = some o → h'.get? b = some o) → Q (.ref (s.heap.objs.size + 1)) { s with heap := h' }) : wpAny (model prog w) A (call (.type "enumerate") [.ref l]) Q E s := by
  obtain ⟨⟨c, dd, dt, sl⟩, hl, hc, n, hd⟩ := hT
  replace hc : c = .type "tuple" := hc
  replace hd : dt = .seq xs n := hd
  subst hc hd
  refine callType_new F.called_enumerate (by decide) (F.typeCall_enumerate_1 _) (F.newCall_enumerate_1 _) (fun obj => F.args_object_init_2 obj _) F.entry_enumerate_new (en_new l xs n dd sl) ⟨hl, ?_⟩
  have hz : (s.heap.push { cls := .type "tuple_iterator", data := .fields #[.ref l, .int 0 0] }).objs.size = s.heap.objs.size + 1 := Heap.size_push ..
  show _ ∧ _
  rw [hz]
  have he : IsEnum ((s.heap.push { cls := .type "tuple_iterator", data := .fields #[.ref l, .int 0 0] }).push
      { cls := .type "enumerate", data := .fields #[.none, .bool false, .ref s.heap.objs.size, rawInt 0, .none, .none] }) (s.heap.objs.size + 1) s.heap.objs.size 0 .none := by
    have := Heap.get?_push_size (s.heap.push { cls := .type "tuple_iterator", data := .fields #[.ref l, .int 0 0] })
      (o := { cls := .type "enumerate", data := .fields #[.none, .bool false, .ref s.heap.objs.size, rawInt 0, .none, .none] }) rfl
    rw [hz] at this; exact this
  exact ⟨⟨_, he, rfl⟩, h _ he ⟨_, Heap.get?_push_of_some _ (Heap.get?_push_size _ rfl), rfl, rfl⟩ (by rw [Heap.size_push, hz]) fun b o x => Heap.get?_push_of_some _ (Heap.get?_push_of_some _ x)⟩
/-- one turn -/
theorem en_next {e it l : Addr} {i : Nat} {xs : Array Value} {x old : Value} {Q : Value → Shared → Prop} (he : IsEnum s.heap e it i old) (hit : s.heap.IsTupleIter it l i) (hl : s.heap.IsTuple l xs) (hx : xs[i]? = some x) (hne : e ≠ it)
    (hQ : ∀ h', IsEnumOut h' e it ((i : Int) + 1) x s.heap.objs.size → h'.IsTupleIter it l (i + 1) → h'.get? s.heap.objs.size = some { cls := .type "tuple", data := .seq #[.int i s.toks, x] } → h'.objs.size = s.heap.objs.size + 1 →
      (∀ b o, b ≠ e → b ≠ it → s.heap.get? b = some o → h'.get? b = some o) → Q (.ref s.heap.objs.size) { s with heap := h', toks := s.toks + 1 }) :
    wpAny (model prog w) A (Builtin.«enumerate.__next__» ⟨[.ref e], []⟩) (fun fin s' => ∃ v, fin = .done (.ret v) ∧ Q v s') E s := by
  obtain ⟨hp, g, d, tk, os⟩ := s
  show wpAny _ _ (field (.ref e) 2 >>= _) _ _ _
  refine wpAny_bind (wpAny_field he rfl (x := .ref it) rfl (wpAny_bind (RZ.nextOf_tuple_item hit hl hx fun h₁ hit₁ hs₁ => ?_)))
  replace hs₁ : Heap.SameBut it hp h₁ := hs₁
  have he₁ : IsEnum h₁ e it i old := (hs₁.2 e hne).trans he
  show wpAny _ _ (field (.ref e) 3 >>= _) _ _ ⟨h₁, g, d, tk, os⟩
  refine wpAny_bind (wpAny_field he₁ rfl (x := rawInt i) rfl ?_)
  show wpAny _ _ (field (.ref e) 4 >>= _) _ _ ⟨h₁, g, d, tk, os⟩
  refine wpAny_bind (wpAny_field he₁ rfl (x := .none) rfl ?_)
  show wpAny _ _ (mkInt i >>= _) _ _ ⟨h₁, g, d, tk, os⟩
  refine wpAny_bind (wpAny_mkInt ?_)
  show wpAny _ _ (setField (.ref e) 3 (rawInt ((i : Int) + 1)) >>= _) _ _ ⟨h₁, g, d, tk + 1, os⟩
  refine wpAny_bind (wpAny_setField_rec he₁ (by simp) fun h₂ he₂ hs₂ => ?_)
  replace hs₂ : Heap.SameBut e h₁ h₂ := hs₂
  replace he₂ : IsEnum h₂ e it ((i : Int) + 1) old := he₂
  show wpAny _ _ (setField (.ref e) 4 .none >>= _) _ _ ⟨h₂, g, d, tk + 1, os⟩
  refine wpAny_bind (wpAny_setField_rec he₂ (by simp) fun h₃ he₃ hs₃ => ?_)
  replace hs₃ : Heap.SameBut e h₂ h₃ := hs₃
  replace he₃ : IsEnum h₃ e it ((i : Int) + 1) old := he₃
  show wpAny _ _ (newTuple [.int i tk, x] >>= _) _ _ ⟨h₃, g, d, tk + 1, os⟩
  refine wpAny_bind (wpAny_newTuple ?_)
  have he₄ : IsEnum (h₃.push { cls := .type "tuple", data := .seq #[.int i tk, x] }) e it ((i : Int) + 1) old := Heap.get?_push_of_some _ he₃
  generalize hh₄ : h₃.push { cls := .type "tuple", data := .seq #[.int i tk, x] } = h₄ at he₄
  have hsz : h₃.objs.size = hp.objs.size := by rw [hs₃.1, hs₂.1, hs₁.1]
  have hel : e < hp.objs.size := Heap.lt_size he
  have ht₄ : h₄.get? hp.objs.size = some { cls := .type "tuple", data := .seq #[.int i tk, x] } := by rw [← hh₄, ← hsz]; exact Heap.get?_push_size _ rfl
  have hz₄ : h₄.objs.size = hp.objs.size + 1 := by rw [← hh₄, Heap.size_push, hsz]
  have hk₄ : ∀ b o, b ≠ e → b ≠ it → hp.get? b = some o → h₄.get? b = some o := fun b o hbe hbi hb => by
    rw [← hh₄]; exact Heap.get?_push_of_some _ (hs₃.extBut b o hbe (hs₂.extBut b o hbe (hs₁.extBut b o hbi hb)))
  have hit₄ : h₄.IsTupleIter it l (i + 1) := by
    rw [← hh₄]; obtain ⟨o, ho, r⟩ := (hit₁.extBut hs₂.extBut (Ne.symm hne)).extBut hs₃.extBut (Ne.symm hne); exact ⟨o, Heap.get?_push_of_some _ ho, r⟩
  show wpAny _ _ (Builtin.SmallTypes.ownedTupleIsFree (.ref e) >>= _) _ _ ⟨h₄, g, d, tk + 1, os⟩
  rw [hsz]
  clear hh₄ he₃ hs₃ he₂ hs₂ he₁ hs₁ hit₁ hsz h₃ h₂ h₁
  refine wpAny_bind ?_
  unfold Builtin.SmallTypes.ownedTupleIsFree
  refine wpAny_bind (wpAny_field he₄ rfl (x := .none) rfl (wpAny_pure ?_))
  simp only [if_true]
  refine wpAny_bind (wpAny_rule ?_)
  refine wpAny_bind (wpAny_field he₄ rfl (x := old) rfl ?_)
  refine wpAny_bind (wpAny_setField_rec he₄ (by simp) fun h₅ he₅ hs₅ => ?_)
  replace hs₅ : Heap.SameBut e h₄ h₅ := hs₅
  replace he₅ : IsEnum h₅ e it ((i : Int) + 1) x := he₅
  show wpAny _ _ (Builtin.SmallTypes.ownedTupleHandOut (.ref e) (.ref hp.objs.size) >>= _) _ _ ⟨h₅, g, d, tk + 1, os⟩
  refine wpAny_bind ?_
  unfold Builtin.SmallTypes.ownedTupleHandOut
  refine wpAny_bind (wpAny_setField_rec he₅ (by simp) fun h₆ he₆ hs₆ => ?_)
  replace hs₆ : Heap.SameBut e h₅ h₆ := hs₆
  replace he₆ : IsEnumOut h₆ e it ((i : Int) + 1) x hp.objs.size := he₆
  refine wpAny_setField_rec he₆ (by simp) fun h₇ he₇ hs₇ => ?_
  replace hs₇ : Heap.SameBut e h₆ h₇ := hs₇
  replace he₇ : IsEnumOut h₇ e it ((i : Int) + 1) x hp.objs.size := he₇
  refine wpAny_bind (wpAny_letGo (wpAny_pure ⟨_, rfl, hQ h₇ he₇ ?_ ?_ ?_ ?_⟩))
  · exact ((hit₄.extBut hs₅.extBut (Ne.symm hne)).extBut hs₆.extBut (Ne.symm hne)).extBut hs₇.extBut (Ne.symm hne)
  · exact hs₇.extBut _ _ (Nat.ne_of_gt hel) (hs₆.extBut _ _ (Nat.ne_of_gt hel) (hs₅.extBut _ _ (Nat.ne_of_gt hel) ht₄))
  · rw [hs₇.1, hs₆.1, hs₅.1, hz₄]
  · exact fun b o hbe hbi hb => hs₇.extBut b o hbe (hs₆.extBut b o hbe (hs₅.extBut b o hbe (hk₄ b o hbe hbi hb)))
theorem en_item {e it l : Addr} {i : Nat} {xs : Array Value} {x old : Value} {Q : Option Value → Shared → Prop} (he : IsEnum s.heap e it i old) (hit : s.heap.IsTupleIter it l i) (hl : s.heap.IsTuple l xs) (hx : xs[i]? = some x) (hne : e ≠ it)
    (hQ : ∀ h', IsEnumOut h' e it ((i : Int) + 1) x s.heap.objs.size → h'.IsTupleIter it l (i + 1) → h'.get? s.heap.objs.size = some { cls := .type "tuple", data := .seq #[.int i s.toks, x] } → h'.objs.size = s.heap.objs.size + 1 →
      (∀ b o, b ≠ e → b ≠ it → s.heap.get? b = some o → h'.get? b = some o) → Q (some (.ref s.heap.objs.size)) { s with heap := h', toks := s.toks + 1 }) : wpAny (model prog w) A (pyNext (.ref e)) Q E s := by
  have hT : s.TypeIs (.ref e) "enumerate" := ⟨_, he, rfl⟩
  unfold pyNext
  exact wpAny_bind (wpAny_attempt (wpAny_callSpecial?_slot (name := Str.ofString "__next__") hT F.slot_enumerate_next (wpAny_call_entry F.slot_enumerate_next hT F.entry_enumerate_next
    (en_next he hit hl hx hne fun h' a b c d k => wpAny_pure (hQ h' a b c d k)) (F.args_enumerate_next_1 _))))
theorem en_end {e it l : Addr} {i : Nat} {xs : Array Value} {old : Value} {Q : Option Value → Shared → Prop} (hh : A.handled = none) (he : IsEnum s.heap e it i old) (hit : s.heap.IsTupleIter it l i) (hl : s.heap.IsTuple l xs) (hx : xs[i]? = none)
    (hQ : ∀ h', Heap.ExtBut it s.heap h' → Q none { s with heap := h' }) : wpAny (model prog w) A (pyNext (.ref e)) Q E s := by
  have hT : s.TypeIs (.ref e) "enumerate" := ⟨_, he, rfl⟩
  unfold pyNext
  refine wpAny_bind (wpAny_attempt (wpAny_callSpecial?_slot (name := Str.ofString "__next__") hT F.slot_enumerate_next (wpAny_call_entry F.slot_enumerate_next hT F.entry_enumerate_next ?_ (F.args_enumerate_next_1 _))))
  show wpAny _ _ (field (.ref e) 2 >>= _) _ _ _
  refine wpAny_bind (wpAny_field he rfl (x := .ref it) rfl (wpAny_bind (RZ.nextOf_tuple_end hh hit hl hx fun h' x he' hx' => ?_)))
  obtain ⟨o, ho, hc⟩ := hx'
  exact wpAny_bind (wpAny_isInstance (T := "StopIteration") (b := true) ⟨o, ho, hc⟩ isSubtype_stop (wpAny_pure (hQ _ he')))
end
/-- the tuple at a, each item in a new pair with its number -/
def ItT (K : PySem.W.Frag) (a : Addr) : It :=
  ⟨fun i H => ∃ (xs : List V) (x : V), SqT K H a xs ∧ xs[i]? = some x, fun i H v H' => ∃ T x, v = .ref T ∧ H T = none ∧ H' = upd H T (.tup [.int (i : Nat), x]) ∧ ∀ xs, SqT K H a xs → xs[i]? = some x, fun i H => ∃ xs : List V, SqT K H a xs ∧ xs.length ≤ i⟩
theorem turn_enT {P : Program} {w : World} {K : PySem.W.Frag} {elts : List Expr} {kk : Nat} {tpos : Pos} (a e it : Addr) :
    Turn P w K (.Tuple elts kk tpos) (ItT K a) [e, it] e (fun i h => (∃ old, IsEnum h e it ((i : Nat) : Int) old) ∧ h.IsTupleIter it a i ∧ e ≠ it) where
  mem := by simp
  obj := fun i h st b hb => by
    obtain ⟨⟨old, he⟩, ⟨o, ho, hc, hd⟩, _⟩ := st
    have e' : b = e ∨ b = it := by simpa using hb
    rcases e' with z | z
    · rw [z]; exact ⟨_, he, fun v q => nomatch q⟩
    · rw [z]; exact ⟨o, ho, fun v q => by rw [hd] at q; cases q⟩
  keep := fun i h h' st k => by
    obtain ⟨⟨old, he⟩, ⟨o, ho, r⟩, hne⟩ := st
    exact ⟨⟨old, k e (by simp) _ he⟩, ⟨o, k it (by simp) o ho, r⟩, hne⟩
  item := by
    intro X hP hw hK hc i pins s σ H E I hf st hg
    subst hP hw hK
    obtain ⟨⟨old, he⟩, hit, hne⟩ := st
    obtain ⟨xs, x, hq, hx⟩ := hg
    obtain ⟨its, rv, p, hz⟩ := I.tuple hq
    obtain ⟨u, hu, ru⟩ := rv.get hx
    have hel : e < s.heap.objs.size := Heap.lt_size he
    have hil : it < s.heap.objs.size := by obtain ⟨_, q, _⟩ := hit; exact Heap.lt_size q
    refine en_item (l := a) (xs := its.toArray) he hit p (x := u) (by simpa using hu) hne fun h' ho hit' hT hsz hk => ?_
    refine ⟨_, rfl, wpAny_letOwnedTupleGo_enum (s := { s with heap := h', toks := s.toks + 1 }) ho fun h'' he' sb => ?_⟩
    have hT2 : h''.get? s.heap.objs.size = some { cls := .type "tuple", data := .seq #[.int i s.toks, u] } := (sb.2 _ (Nat.ne_of_gt hel)).trans hT
    have new : ObjOk X.prog X.w (upd H s.heap.objs.size (.tup [.int (i : Nat), x])) h'' s.heap.objs.size (.tup [.int (i : Nat), x]) :=
      ⟨by show 2 ≤ sizeLine; decide, [.int i s.toks, u], .cons ⟨_, rfl⟩ (.cons ru .nil), ⟨_, hT2, rfl, _, rfl⟩⟩
    have I1 : Inv X pins σ (upd H s.heap.objs.size (.tup [.int (i : Nat), x])) { s with heap := h'', toks := s.toks + 1 } :=
      I.turnedNew (ch := [e, it]) (fun b ob hb q => (sb.2 b (fun z => hb (by simp [z]))).trans (hk b ob (fun z => hb (by simp [z])) (fun z => hb (by simp [z])) q)) hf (Nat.le_refl _) new
    have hit'' : h''.IsTupleIter it a (i + 1) := by
      obtain ⟨o, ho2, r⟩ := hit'
      exact ⟨o, (sb.2 it (Ne.symm hne)).trans ho2, r⟩
    refine ⟨.ref s.heap.objs.size, _, I1, rfl, ⟨_, x, rfl, I.hok.fresh (Nat.le_refl _), rfl, fun ys hy => by rw [I.tuple_inj hy hq]; exact hx⟩, ⟨⟨u, ?_⟩, hit'', hne⟩, fun b hb => ?_⟩
    · have e1 : ((i + 1 : Nat) : Int) = (i : Int) + 1 := by omega
      rw [e1]; exact he'
    · have hb' : b < s.heap.objs.size := by
        have e' : b = e ∨ b = it := by simpa using hb
        rcases e' with z | z <;> rw [z] <;> assumption
      rw [upd_ne (Nat.ne_of_lt hb')]
      exact (hf b hb).1
  done := by
    intro X hP hw hK hc i pins s σ H E I hf st hg
    subst hP hw hK
    obtain ⟨⟨old, he⟩, hit, hne⟩ := st
    obtain ⟨xs, hq, hx⟩ := hg
    obtain ⟨its, rv, p, hz⟩ := I.tuple hq
    obtain ⟨f0, f1, f2, f3, f4, f5⟩ := hf it (by simp)
    have hl := rv.length
    exact en_end (l := a) (xs := its.toArray) (I.ok.hd hc) he hit p (by simp; omega) fun h' eb => ⟨rfl, I.turned (t' := s.toks) (fun b o hb q => eb b o hb q) f0 f1 f3 f4 f5⟩
  self := fun A i s Q E st h => let ⟨⟨_, he⟩, _⟩ := st; wpAny_pyIter_enum he h
/-- enumerate(xs), xs a list or a tuple -/
def iEnumA (K : PySem.W.Frag) (ta : TA) : TI := fun σ H R => ta σ H fun vs H1 => ∃ a xs, vs = [.ref a] ∧ ((SqL K H1 a xs ∧ R (Ite K a) H1) ∨ (SqT K H1 a xs ∧ R (ItT K a) H1))
theorem pi_enumA {X : Cx} {e : Expr} {ta : TA} {p pos tpos : Pos} {elts : List Expr} {kk : Nat} (hg : Gl X "enumerate") (hm : X.mg "enumerate" = none) (ha : PA X [e] ta) (hs : starEach [e] X.env = [(false, eval e X.env)] := by rfl) :
    PI X (.Tuple elts kk tpos) (.Call (.Name "enumerate" p) [e] [] pos) (iEnumA X.K ta) := by
  refine ⟨fun pins s σ H R I h => ?_⟩
  refine Call_ (ld_blt I hg hm boot_enumerate (PyProof.Rows.callWith_type1 (thn (ha.run pos pins s σ H _ I h) fun us s1 ⟨vs, H1, I1, r1, q1⟩ => ?_) hs rfl))
  obtain ⟨a, xs, ex, q⟩ := q1
  subst ex
  obtain ⟨u, rfl, ru⟩ := vals1 r1
  obtain rfl : u = Value.ref a := ru
  have bnd : ∀ b ∈ [s1.heap.objs.size + 1, s1.heap.objs.size], s1.heap.objs.size ≤ b := fun b hb => by
    have e' : b = s1.heap.objs.size + 1 ∨ b = s1.heap.objs.size := by simpa using hb
    omega
  rcases q with ⟨hq, q⟩ | ⟨hq, q⟩
  · obtain ⟨its, rv, p', hz⟩ := I1.list hq
    refine call_enumerate_list p'.isList fun h' he hit hsz hk => wpAny_pyIter_enum he ?_
    have I2 : Inv X pins σ H1 { s1 with heap := h' } := I1.kept (t' := s1.toks) hk
    exact ⟨s1.heap.objs.size + 1, [s1.heap.objs.size + 1, s1.heap.objs.size], _, _, H1, rfl, I2, turn_enum a (s1.heap.objs.size + 1) s1.heap.objs.size, ⟨⟨.none, he⟩, hit, Nat.succ_ne_self _⟩, fun b hb => I1.fpOk (bnd b hb) (I1.hok.fresh (bnd b hb)), q⟩
  · obtain ⟨its, rv, p', hz⟩ := I1.tuple hq
    refine en_call (l := a) (xs := its.toArray) p' fun h' he hit hsz hk => wpAny_pyIter_enum he ?_
    have I2 : Inv X pins σ H1 { s1 with heap := h' } := I1.kept (t' := s1.toks) hk
    exact ⟨s1.heap.objs.size + 1, [s1.heap.objs.size + 1, s1.heap.objs.size], _, _, H1, rfl, I2, turn_enT a (s1.heap.objs.size + 1) s1.heap.objs.size, ⟨⟨.none, he⟩, hit, Nat.succ_ne_self _⟩, fun b hb => I1.fpOk (bnd b hb) (I1.hok.fresh (bnd b hb)), q⟩
theorem walk_enT {K : PySem.W.Frag} {a : Addr} {xs : List V} : Walk (ItT K a) xs.length (fun H => SqT K H a xs) (YPair (fun i => some (.int (i : Nat))) (fun i => xs[i]?)) := by
  refine ⟨fun i _ hi q => ⟨xs, xs[i], q, by simp [hi]⟩, fun _ q => ⟨xs, q, Nat.le_refl _⟩, fun i H v H' _ q y => ?_⟩
  obtain ⟨T, x, h1, h2, h3, h4⟩ := y
  exact ⟨T, .int (i : Nat), x, h1, h2, h3, rfl, h4 xs q⟩
end Nm
set_option maxRecDepth 100000
set_option maxHeartbeats 4000000
/-! colours_of: its term -/
namespace Nm
open PySem L2
def tStill (t : TE) : TE := fun σ H Q => t σ H fun x H1 => ∃ d u, x = .ref d ∧ H1 d = some u ∧ Mut (some u) ∧ ∀ od, Q x (upd H1 d (.frz od u))
theorem pe_still {X : Cx} {e : PySem.Expr} {t : TE} (h : PE X e t) : PE X e (tStill t) := by
  refine ⟨fun pins s σ H Q I hw => ?_⟩
  refine thn (h.run pins s σ H _ I hw) fun v s1 ⟨x, H1, I1, r, d, u, _, hd, mu, q⟩ => ?_
  obtain ⟨od, I2⟩ := I1.lock hd mu
  exact ⟨x, _, I2, r, q od⟩
structure TxtQ (mg : Str → Option Value) : Prop extends TxtZ mg where
  len : mg "len" = none
  range : mg "range" = none
  enumerate : mg "enumerate" = none
section
variable {P : Program} {w : World} {K : PySem.W.Frag} {mg : Str → Option Value} {base : Heap}
abbrev nCo : List Str := ["table", "many", "near", "numbers", "classes", "start", "at", "row", "entry", "column"]
theorem scCo : FnScope nCo ["table"] (defScope sColours) := ⟨rfl, rfl, rfl, by decide +kernel, rfl, by decide +kernel, by decide +kernel⟩
theorem cut_from (xs : List V) (n : Nat) : cutV xs (some (n : Int)) none = xs.drop n := by
  unfold cutV
  have e1 : HT.sIx xs.length xs.length none = xs.length := rfl
  rw [e1, HT.sIx_nat]
  by_cases c : n ≤ xs.length
  · rw [Nat.min_eq_left c, List.take_of_length_le (by rw [List.length_drop]; omega)]
  · rw [Nat.min_eq_right (by omega), List.drop_of_length_le (Nat.le_refl _), List.drop_of_length_le (by omega)]
    simp
theorem cut_to (xs : List V) (n : Nat) : cutV xs none (some (n : Int)) = xs.take n := by
  unfold cutV
  have e1 : HT.sIx xs.length 0 none = 0 := rfl
  rw [e1, HT.sIx_nat, List.drop_zero, Nat.sub_zero]
  by_cases c : n ≤ xs.length
  · rw [Nat.min_eq_left c]
  · rw [Nat.min_eq_right (by omega), List.take_length, List.take_of_length_le (by omega)]
theorem natV_take (l : List Nat) (n : Nat) : (natV l).take n = natV (l.take n) := (List.map_take).symm
theorem natV_drop (l : List Nat) (n : Nat) : (natV l).drop n = natV (l.drop n) := (List.map_drop).symm
theorem numG_start {f : List Nat} (N : Nat) : List.replicate N V.non = (List.range N).map (numG f 0) := by
  apply List.ext_getElem?
  intro i
  rw [List.getElem?_map]
  by_cases h : i < N
  · rw [List.getElem?_range h, List.getElem?_replicate, if_pos h]
    show some V.non = some (numG f 0 i)
    unfold numG
    rw [List.take_zero, if_neg List.not_mem_nil]
  · rw [List.getElem?_eq_none (by rw [List.length_replicate]; omega), List.getElem?_eq_none (by rw [List.length_range]; omega)]
    rfl
/-- the scope of the first comprehension, with another one within -/
abbrev coIn : Scope := { kind := .function, names := [(".0", .local), ("row", .local), ("enumerate", .globalImplicit), ("many", .cell)], isGenerator := false, isCoroutine := false }
abbrev coIn2 : Scope := { kind := .function, names := [(".0", .local), ("column", .local), ("enumerate", .globalImplicit)], isGenerator := false, isCoroutine := false }
abbrev gPair : TGs := gCons (gName 6) (gCons (gName 8) gNil)
abbrev tPos : TT := tTest (tOp (rI0 fun i j => .bl (decide (j < i))) (tVar 8) (tC (.int 0)))
/-- the places of a row that are above 0, as the program lists them -/
theorem inner_cmp {te : TE} {off q : Nat} {a : Addr} {r : List Int} {v0 v1 v2 v3 v4 v5 v6 v7 v8 v9 : Option V} {H : Hp} {Q : VK} (hq : ([v0, v1, v2, v3, v4, v5, v6, v7, v8, v9] : L2.St)[q]? = some (some (.ref a))) (ha : H a = some (.tup (r.map V.int))) (rl : r.length ≤ 8)
    (hte : ∀ (j : Nat) (y : V) (H' : Hp) (Q' : VK), Q' (.int ((off + j : Nat) : Int)) H' → te [v0, v1, v2, v3, v4, v5, some (.int (j : Int)), v7, some y, v9] H' Q') (hQ : ∀ (D : Addr) (H2 : Hp), H D = none → H2 D = some (.lst (natV (posI off r))) → Same H H2 → Q (.ref D) H2) :
    tLc (iEnumA K (tCons (tVar q) tNil)) (gTup K 2 gPair) tPos te [6, 8] [v0, v1, v2, v3, v4, v5, v6, v7, v8, v9] H Q := by
  refine ⟨_, hq, a, _, rfl, .inr ⟨SqT.of ha, fun D hD => ?_⟩⟩
  refine lc_it (walk_enT (xs := r.map V.int)) (fun j H2 => H2 D = some (.lst (natV ((posJ r j).map fun k => off + k))) ∧ Same H H2) ⟨upd_same, same_new hD⟩ (fun j H2 _ h => SqT.of (h.2 _ _ ha)) ?_ ?_
  · rintro j x H2 H3 hj ⟨hD2, s2⟩ ⟨T', x1, y1, rfl, hT, rfl, e1, e2⟩
    cases e1
    have e2 : (r.map V.int)[j]? = some y1 := e2
    rw [List.length_map] at hj
    have hr : r[j]? = some (r.getD j 0) := by
      rw [List.getD_eq_getElem?_getD, List.getElem?_eq_getElem hj]
      rfl
    rw [List.getElem?_map, hr] at e2
    cases e2
    have hDT : D ≠ T' := ne_of_none hD2 hT
    have s3 : Same H (upd H2 T' (.tup [V.int (j : Nat), V.int (r.getD j 0)])) := s2.trans (same_new hT)
    have hD3 : (upd H2 T' (.tup [V.int (j : Nat), V.int (r.getD j 0)])) D = some (.lst (natV ((posJ r j).map fun k => off + k))) := by
      rw [upd_ne hDT]
      exact hD2
    refine ⟨T', _, rfl, SqT.of upd_same, rfl, _, _, rfl, _, _, rfl, rfl, ?_⟩
    generalize upd H2 T' (.tup [V.int (j : Nat), V.int (r.getD j 0)]) = H4 at *
    refine ⟨rfl, _, rfl, _, _, rfl, rfl, _, rfl, ?_⟩
    by_cases c : 0 < r.getD j 0
    · rw [decide_eq_true c]
      refine iteT (hte j _ H4 _ ⟨_, hD3, Evl.sz_lt (by rw [List.length_map, List.length_map]; have := posJ_len r j; omega), ?_, fun b o e => ?_⟩)
      · rw [upd_same, posJ_yes c]
        show _ = some (HO.lst (List.map _ (List.map _ (_ ++ [j]))))
        rw [List.map_append, List.map_append]
        rfl
      · rw [upd_ne (ne_of_none e hD)]
        exact s3 b o e
    · rw [decide_eq_false c]
      refine iteF ⟨?_, s3⟩
      rw [posJ_no c]
      exact hD3
  · rintro H2 ⟨hD2, s2⟩
    rw [List.length_map] at hD2
    exact hQ D H2 hD hD2 s2
def spColours : Sp := fun vs H Q _ => ∃ (t : Addr) (tb : List (List Int)) (m : Nat) (f : List Nat), vs = [.ref t] ∧ TblAt H t tb ∧ TblOk tb m ∧ Fnd (nearT tb m) f ∧
  ∀ (p a b : Addr) (H' : Hp), H p = none → H a = none → H b = none → a ≠ b → H' p = some (.tup [.ref a, .ref b]) → H' a = some (.lst (natV ((canonL f).take tb.length))) → H' b = some (.lst (natV ((canonL f).drop tb.length))) → Same H H' → Q (.ref p) H'
theorem ok_colours {f : Addr} {fd : FuncData} (F : Fun K "colours_of" "colours_of" sColours f fd) (T : TxtQ mg)
    (Gt : Def P w K mg base "turned_over" ["table"] 1 spTurned) (Gr : Def P w K mg base "reached_from" ["start", "near"] 1 spReach) : FnOk P w K mg base CX0 2 f fd ["table"] spColours := by
  obtain ⟨ft, fdt, Gt, mt, kt, bt⟩ := Gt.ex
  obtain ⟨fr, fdr, Gr, mr, kr, br⟩ := Gr.ex
  refine F.ok (k := 1) scCo (fun vs H Q E h => ?_) (fun cdv A outer s H vs Q E hr h => ?_)
  · obtain ⟨_, _, _, _, rfl, _⟩ := h
    rfl
  obtain ⟨t, tb, m, fl, rfl, ⟨ts, ht, htl, hts⟩, ok, fnd, k⟩ := h
  have hu := hu_of hr
  refine ⟨_, pss_cons (ps_set (i := 1) scCo.nd rfl (Or.inr rfl) (pe_callB call_len_seq (by rfl) T.len PySem.boot_len (pa_cons (pv 0) pa_nil)))
    (Evl.pss_cut (ps_setLc (i := 2) (own := [("row", 7)]) (g := gName 7) (tt := tYes) (te := tLc (iEnumA K (tCons (tVar 7) tNil)) (gTup K 2 gPair) tPos (tOp (rI0 fun i j => .int (i + j)) (tVar 1) (tVar 6)) [6, 8]) rfl scCo.nd rfl rfl (sw_true rfl rfl rfl (by decide +kernel)) (pi_tup (pv 0)) (blkOk_by (N := nCo) (sc := defScope sColours) (by decide +kernel))
        (fun _ _ _ _ _ => pg_name (i := 7) scCo.nd rfl (Or.inl rfl)) (fun _ _ _ _ _ => pts_nil)
        (fun _ _ _ _ _ => by
          refine pe_lc (own := [("at", 6), ("entry", 8)]) (g := gTup K 2 gPair) (tt := tPos) (te := tOp (rI0 fun i j => .int (i + j)) (tVar 1) (tVar 6)) rfl scCo.nd ?a ?b ?c ?d ?e
          case a => exact (pi_enumA (by rfl) T.enumerate (pa_cons (pv 7) pa_nil))
          case b => exact (blkOk_by (N := nCo) (sc := coIn) (by decide +kernel))
          case c => intro _ _ _ _ _; exact pg_tup rfl (pgs_cons (pg_name (i := 6) scCo.nd rfl (.inl rfl)) (pgs_cons (pg_name (i := 8) scCo.nd rfl (.inl rfl)) pgs_nil))
          case d => intro _ _ _ _ _; exact pts_one (pt_cmpR op_gt (pv 8) pe_int (nomark _))
          case e => intro _ _ _ _ _; exact pe_op op_add (pv 1) (pv 6)))
    (Evl.pss_cut (ps_expr (pe_bm PySem.F.plainAttrs_list PySem.F.slot_list_extend PySem.F.type_list_extend mt_extend (pv 2) (pa_cons
        (pe_lc (own := [("column", 9)]) (g := gName 9) (tt := tYes) (te := tLc (iEnumA K (tCons (tVar 9) tNil)) (gTup K 2 gPair) tPos (tVar 6) [6, 8]) rfl scCo.nd (pi_tup (pe_call Gt hr (by rfl) mt kt bt .nil pass0 (pa_cons (pv 0) pa_nil))) (blkOk_by (N := nCo) (sc := defScope sColours) (by decide +kernel))
          (fun _ _ _ _ _ => pg_name (i := 9) scCo.nd rfl (Or.inl rfl)) (fun _ _ _ _ _ => pts_nil)
          (fun _ _ _ _ _ => by
          refine pe_lc (own := [("at", 6), ("entry", 8)]) (g := gTup K 2 gPair) (tt := tPos) (te := tVar 6) rfl scCo.nd ?a ?b ?c ?d ?e
          case a => exact (pi_enumA (by rfl) T.enumerate (pa_cons (pv 9) pa_nil))
          case b => exact (blkOk_by (N := nCo) (sc := coIn2) (by decide +kernel))
          case c => intro _ _ _ _ _; exact pg_tup rfl (pgs_cons (pg_name (i := 6) scCo.nd rfl (.inl rfl)) (pgs_cons (pg_name (i := 8) scCo.nd rfl (.inl rfl)) pgs_nil))
          case d => intro _ _ _ _ _; exact pts_one (pt_cmpR op_gt (pv 8) pe_int (nomark _))
          case e => intro _ _ _ _ _; exact pv 6)) pa_nil)))
    (Evl.pss_cut (ps_set (i := 3) scCo.nd rfl (Or.inl rfl) (pe_op op_rep (pe_lst (pa_cons pe_non pa_nil)) (pe_callB call_len_seq (by rfl) T.len PySem.boot_len (pa_cons (pv 2) pa_nil))))
    (pss_cons (ps_set (i := 4) scCo.nd rfl (Or.inl rfl) pe_int)
    (Evl.pss_cut (ps_for PassesOwn.never rfl (pi_range1 (by rfl) T.range (pa_cons (pe_callB call_len_seq (by rfl) T.len PySem.boot_len (pa_cons (pv 2) pa_nil)) pa_nil)) (pg_name (i := 5) scCo.nd rfl (Or.inl rfl))
      (pss_one (ps_if (pt_cmpR op_isN (pe_ix ix_list (pv 3) (pv 5) (fun _ _ => rfl)) pe_non (nomark _))
        (pss_cons (ps_for PassesOwn.never rfl (pi_keys (pe_still (pe_call Gr hr (by rfl) mr kr br .nil pass0 (pa_cons (pv 5) (pa_cons (pv 2) pa_nil))))) (pg_name (i := 6) scCo.nd rfl (Or.inl rfl))
            (pss_one (ps_asg (pv 4) (pg_sub (pv 3) (pv 6) set_list))))
          (pss_one (ps_aug (i := 4) scCo.nd rfl (Or.inl rfl) pe_int ip_add))) pss_nil)))
    (pss_one (ps_ret (pe_tup (pa_cons (pe_slice sl_list (pv 3) po_none (po_some (pv 1))) (pa_cons (pe_slice sl_list (pv 3) (po_some (pv 1)) po_none) pa_nil)))))))))), ?_⟩
  have n8 := ok.n8
  have n1 := ok.n1
  have m8 := ok.m8
  have rlen : ∀ (i : Nat) (r : List Int), tb[i]? = some r → r.length = m := fun i r h => ok.rm r (List.mem_of_getElem? h)
  have hmany : (ts.map V.ref).length = tb.length := by rw [List.length_map, htl]
  refine ⟨_, rfl, t, _, rfl, .inr (SqT.of ht), ?_⟩
  rw [hmany]
  -- the rows' neighbours
  refine ⟨fun σ H1 => ∃ (nr : Addr) (as : List Addr), σ = [some (.ref t), some (.int ((tb.length : Nat) : Int)), some (.ref nr), none, none, none, none, none, none, none] ∧ H nr = none ∧ H1 nr = some (.lst (as.map V.ref)) ∧ as.length = tb.length ∧ (∀ (k : Nat) (p : Addr) (r : List Int), as[k]? = some p → tb[k]? = some r → p ≠ nr ∧ H1 p = some (.lst (natV (posI tb.length r)))) ∧ Same H H1, ?_, ?_⟩
  · refine ⟨_, rfl, t, rfl, ⟨_, SqT.of ht⟩, fun D hD => ?_⟩
    refine lc_it (walk_tup (xs := ts.map V.ref)) (fun i H1 => ∃ as : List Addr, H1 D = some (.lst (as.map V.ref)) ∧ as.length = i ∧ (∀ (k : Nat) (p : Addr) (r : List Int), as[k]? = some p → tb[k]? = some r → p ≠ D ∧ H1 p = some (.lst (natV (posI tb.length r)))) ∧ Same H H1) ⟨[], upd_same, rfl, fun k p r h => by simp at h, same_new hD⟩ (fun i H1 _ ⟨_, _, _, _, s⟩ => SqT.of (s _ _ ht)) ?_ ?_
    · rintro i x H2 H1 hi ⟨as, hD1, hal, has, s1⟩ ⟨rfl, hx⟩
      rw [List.getElem?_map] at hx
      obtain ⟨a, ha, rfl⟩ := Option.map_eq_some_iff.mp hx
      have hil := (List.getElem?_eq_some_iff.mp ha).1
      obtain ⟨r, hr⟩ : ∃ r, tb[i]? = some r := ⟨_, List.getElem?_eq_getElem (by omega)⟩
      refine ⟨rfl, tyes ?_⟩
      refine inner_cmp (off := tb.length) (a := a) (r := r) rfl (s1 _ _ (hts i a r ha hr)) (by rw [rlen i r hr]; exact m8) (fun j y H' Q' hq => ⟨_, rfl, _, rfl, _, _, rfl, rfl, hq⟩) (fun D2 H3 hD20 hD2 s3 => ?_)
      have hDD : D2 ≠ D := fun e => by
        subst e
        rw [hD1] at hD20
        cases hD20
      have hal8 : as.length ≤ 8 := by omega
      refine ⟨_, s3 _ _ hD1, Evl.sz_lt (by rw [List.length_map]; omega), as ++ [D2], by rw [upd_same, List.map_append]; rfl, by rw [List.length_append, hal]; rfl, fun k p r' hk hr' => ?_, fun b o e => ?_⟩
      · by_cases c : k < as.length
        · rw [List.getElem?_append_left c] at hk
          obtain ⟨h1, h2⟩ := has k p r' hk hr'
          exact ⟨h1, by rw [upd_ne h1]; exact s3 _ _ h2⟩
        · have hk2 := (List.getElem?_eq_some_iff.mp hk).1
          rw [List.length_append, List.length_singleton] at hk2
          have ek : k = i := by omega
          subst ek
          rw [List.getElem?_append_right (by omega), hal, Nat.sub_self] at hk
          cases hk
          rw [hr] at hr'
          cases hr'
          exact ⟨hDD, by rw [upd_ne hDD]; exact hD2⟩
      · rw [upd_ne (ne_of_none e hD)]
        exact s3 _ _ (s1 b o e)
    · rintro H1 ⟨as, hD1, hal, has, s1⟩
      rw [hmany] at hal
      exact ⟨D, as, rfl, hD, hD1, hal, has, s1⟩
  rintro σ H1 ⟨nr, as, rfl, hnr0, hnr1, hal, has, s1⟩
  -- the columns' too
  refine ⟨fun σ H2 => σ = [some (.ref t), some (.int ((tb.length : Nat) : Int)), some (.ref nr), none, none, none, none, none, none, none] ∧ NearAt H2 nr (nearT tb m) ∧ Same H H2, ?_, ?_⟩
  · have tbl : TblAt H t tb := ⟨ts, ht, htl, hts⟩
    refine ⟨_, rfl, .inl ⟨rfl, _, SqL.of hnr1⟩, _, rfl, t, tb, m, rfl, tbl.same s1, ok, fun p H2 hp0 htb2 s2 => ?_⟩
    obtain ⟨cs, hp2, hcl, hcs⟩ := htb2
    rw [turn_len] at hcl
    refine ⟨p, rfl, ⟨_, SqT.of hp2⟩, fun D hD => ?_⟩
    have s02 := s1.trans s2
    have hDn : D ≠ nr := fun e => by
      subst e
      rw [s2 _ _ hnr1] at hD
      cases hD
    refine lc_it (walk_tup (xs := cs.map V.ref)) (fun i H3 => ∃ bs : List Addr, H3 D = some (.lst (bs.map V.ref)) ∧ bs.length = i ∧ (∀ (k : Nat) (q : Addr), bs[k]? = some q → k < m → q ≠ D ∧ q ≠ nr ∧ H3 q = some (.lst (natV (posI 0 (tb.map fun r => r.getD k 0))))) ∧ Same H2 H3) ⟨[], upd_same, rfl, fun k q h => by simp at h, same_new hD⟩ (fun i H3 _ ⟨_, _, _, _, s⟩ => SqT.of (s _ _ hp2)) ?_ ?_
    · rintro i x H4 H3 hi ⟨bs, hD3, hbl, hbs, s3⟩ ⟨rfl, hx⟩
      rw [List.getElem?_map] at hx
      obtain ⟨c, hc, rfl⟩ := Option.map_eq_some_iff.mp hx
      have hil := (List.getElem?_eq_some_iff.mp hc).1
      have him : i < m := by omega
      have hcr : (turnT tb m)[i]? = some (tb.map fun r => r.getD i 0) := by
        unfold turnT
        rw [List.getElem?_map, List.getElem?_range him]
        rfl
      refine ⟨rfl, tyes ?_⟩
      refine inner_cmp (off := 0) (a := c) (r := tb.map fun r => r.getD i 0) rfl (s3 _ _ (hcs i c _ hc hcr)) (by rw [List.length_map]; exact n8) (fun j y H' Q' hq => ⟨_, rfl, by rw [Nat.zero_add] at hq; exact hq⟩) (fun D2 H5 hD20 hD2 s5 => ?_)
      have hDD : D2 ≠ D := fun e => by
        subst e
        rw [hD3] at hD20
        cases hD20
      have hDn2 : D2 ≠ nr := fun e => by
        subst e
        rw [s3 _ _ (s2 _ _ hnr1)] at hD20
        cases hD20
      refine ⟨_, s5 _ _ hD3, Evl.sz_lt (by rw [List.length_map]; omega), bs ++ [D2], by rw [upd_same, List.map_append]; rfl, by rw [List.length_append, hbl]; rfl, fun k q hk hkm => ?_, fun b o e => ?_⟩
      · by_cases c : k < bs.length
        · rw [List.getElem?_append_left c] at hk
          obtain ⟨h1, h2, h3⟩ := hbs k q hk hkm
          exact ⟨h1, h2, by rw [upd_ne h1]; exact s5 _ _ h3⟩
        · have hk2 := (List.getElem?_eq_some_iff.mp hk).1
          rw [List.length_append, List.length_singleton] at hk2
          have ek : k = i := by omega
          subst ek
          rw [List.getElem?_append_right (by omega), hbl, Nat.sub_self] at hk
          cases hk
          exact ⟨hDD, hDn2, by rw [upd_ne hDD]; exact hD2⟩
      · rw [upd_ne (ne_of_none e hD)]
        exact s5 _ _ (s3 b o e)
    · rintro H3 ⟨bs, hD3, hbl, hbs, s3⟩
      rw [List.length_map, hcl] at hbl
      have s13 := s2.trans s3
      refine ⟨nr, D, _, _, rfl, rfl, s13 _ _ hnr1, hD3, by rw [List.length_map, List.length_map, sizeLine_eq]; omega, rfl, ⟨as ++ bs, by rw [upd_same, List.map_append], by rw [List.length_append, near_len, hal, hbl], fun k q l hk hl => ?_⟩, Same.off (s1.trans s13) hnr0⟩
      by_cases c : k < as.length
      · rw [List.getElem?_append_left c] at hk
        have hr := List.getElem?_eq_getElem (show k < tb.length by omega)
        rw [near_row hr] at hl
        cases hl
        obtain ⟨h1, h2⟩ := has k q _ hk hr
        rw [upd_ne h1]
        exact s13 _ _ h2
      · have hk2 := (List.getElem?_eq_some_iff.mp hk).1
        rw [List.length_append] at hk2
        rw [List.getElem?_append_right (by omega)] at hk
        have e2 : k = tb.length + (k - as.length) := by omega
        rw [e2, near_col (by omega)] at hl
        cases hl
        obtain ⟨h1, h2, h3⟩ := hbs _ q hk (by omega)
        rw [upd_ne h2]
        exact h3
  rintro σ H2 ⟨rfl, near2, s2⟩
  -- no number yet
  have fl_len : fl.length = tb.length + m := by rw [fnd.len, near_len]
  obtain ⟨na, hna, hnal, hnas⟩ := id near2
  rw [near_len] at hnal
  refine ⟨fun σ H3 => ∃ nu : Addr, σ = [some (.ref t), some (.int ((tb.length : Nat) : Int)), some (.ref nr), some (.ref nu), none, none, none, none, none, none] ∧ H2 nu = none ∧ H3 nu = some (.lst ((List.range (tb.length + m)).map (numG fl 0))) ∧ Same H2 H3, ?_, ?_⟩
  · refine ⟨(by show 1 ≤ sizeLine; decide), fun l hl => ?_⟩
    have sl := same_new (o := .lst [V.non]) hl
    refine ⟨_, rfl, nr, _, rfl, .inl (SqL.of (sl _ _ hna)), l, _, _, rfl, rfl, upd_same, by rw [List.length_map]; omega, by rw [List.length_map]; omega, ?_, fun p hp => ?_⟩
    · rw [List.length_map]
      exact Evl.sz_of (by simp; omega)
    · refine ⟨p, rfl, sl.free hp, ?_, sl.trans (same_new hp)⟩
      rw [upd_same, List.length_map, hnal, Int.toNat_natCast, List.flatten_replicate_singleton, numG_start]
  rintro σ H3 ⟨nu, rfl, hnu0, hnu3, s3⟩
  have s03 := s2.trans s3
  have hnu0' : H nu = none := s2.free hnu0
  have near3 := near2.same s3
  obtain ⟨nb, hnb, hnbl, hnbs⟩ := id near3
  rw [near_len] at hnbl
  have hnm : (nb.map V.ref).length = tb.length + m := by rw [List.length_map, hnbl]
  refine ⟨fun σ H4 => ∃ v4 v5 v6, σ = [some (.ref t), some (.int ((tb.length : Nat) : Int)), some (.ref nr), some (.ref nu), v4, v5, v6, none, none, none] ∧ H4 nu = some (.lst ((List.range (tb.length + m)).map (numG fl (tb.length + m)))) ∧ Same H H4, ?_, ?_⟩
  · refine ⟨_, rfl, nr, _, rfl, .inl (SqL.of hnb), _, rfl, by rw [hnm]; omega, by rw [hnm]; omega, ?_⟩
    rw [hnm]
    refine for_range (lo := 0) (n := ((tb.length + m : Nat) : Int).toNat) (fun z σ H5 => ∃ v5 v6, σ = [some (.ref t), some (.int ((tb.length : Nat) : Int)), some (.ref nr), some (.ref nu), some (.int (((dd (fl.take z)).length : Nat) : Int)), v5, v6, none, none, none] ∧ H5 nu = some (.lst ((List.range (tb.length + m)).map (numG fl z))) ∧ Same H2 H5)
      ⟨none, none, rfl, hnu3, s3⟩ ?_ ?_
    · rintro z σ H5 hz ⟨v5, v6, rfl, hnu5, s5⟩
      rw [Int.toNat_natCast] at hz
      rw [show (0 : Int) + ((z : Nat) : Int) = ((z : Nat) : Int) from Int.zero_add _]
      have hzl : z < fl.length := by omega
      obtain ⟨x, hx⟩ : ∃ x, fl[z]? = some x := ⟨_, List.getElem?_eq_getElem hzl⟩
      have gx := getD_at hx
      refine ⟨_, rfl, _, rfl, nu, _, _, numG fl z z, rfl, rfl, SqL.of hnu5, atI_nat (by rw [List.getElem?_map, List.getElem?_range hz]; rfl), rfl, _, rfl, ?_⟩
      by_cases hin : x ∈ fl.take z
      · rw [show decide (numG fl z z = V.non) = false by unfold numG; rw [gx, if_pos hin]; rfl]
        have hm := (dd_mem fl z (by omega) x).mpr hin
        refine iteF ⟨some (.int (z : Nat)), v6, ?_, ?_, s5⟩
        · rw [take_snoc hx, dd_snoc, if_pos hm]
          rfl
        · rw [hnu5]
          congr 2
          exact List.map_congr_left fun i _ => (numG_old hx hin i).symm
      · rw [show decide (numG fl z z = V.non) = true by unfold numG; rw [gx, if_neg hin]; rfl]
        obtain ⟨_, n2⟩ := dd_new hx hzl hin
        have near5 := near2.same s5
        refine iteT ?_
        refine ⟨_, rfl, _, rfl, nr, nearT tb m, z, rfl, near5, by rw [near_len]; exact hz, by rw [near_len]; omega, near_lt ok, near_small ok, fun d ks H6 hd0 hd6 fo s6 => ⟨d, _, rfl, hd6, trivial, fun od => ⟨d, od, rfl, .inl ⟨_, upd_same, ?_⟩⟩⟩⟩
        have hdu : nu ≠ d := ne_of_none hnu5 hd0
        have hnu6 : (upd H6 d (.frz od (.dK (kvT ks)))) nu = some (.lst ((List.range (tb.length + m)).map (numG fl z))) := by
          rw [upd_ne hdu]
          exact s6 _ _ hnu5
        have sl6 : Same H2 (upd H6 d (.frz od (.dK (kvT ks)))) := Same.off (s5.trans s6) (s5.free hd0)
        have hd7 : (upd H6 d (.frz od (.dK (kvT ks)))) d = some (.frz od (.dK (kvT ks))) := upd_same
        generalize upd H6 d (.frz od (.dK (kvT ks))) = H6' at *
        refine for_it walk_keys (fun j σ H7 => ∃ v6, σ = [some (.ref t), some (.int ((tb.length : Nat) : Int)), some (.ref nr), some (.ref nu), some (.int (((dd (fl.take z)).length : Nat) : Int)), some (.int (z : Nat)), v6, none, none, none] ∧ H7 d = some (.frz od (.dK (kvT ks))) ∧ H7 nu = some (.lst ((List.range (tb.length + m)).map fun i => if i ∈ ks.take j then V.int (((dd (fl.take z)).length : Nat) : Int) else numG fl z i)) ∧ Same H2 H7)
          ⟨v6, rfl, hd7, by rw [hnu6]; congr 2, sl6⟩ (fun j σ H7 _ ⟨_, _, h, _⟩ => h) ?_ ?_
        · rintro j v σ H7 H7' hj ⟨v6, rfl, hd8, hnu8, s8⟩ ⟨rfl, k, w, hk, rfl⟩
          unfold kvT at hk
          rw [List.getElem?_map] at hk
          obtain ⟨y, hy, hk⟩ := Option.map_eq_some_iff.mp hk
          cases hk
          have hyN : y < tb.length + m := by
            have := fo.lt y (List.mem_of_getElem? hy)
            rwa [near_len] at this
          refine ⟨_, rfl, _, rfl, _, rfl, nu, _, _, y, rfl, rfl, hnu8, ?_, ?_⟩
          · rw [List.length_map, List.length_range]
            exact Evl.ixN_nat hyN
          refine ⟨_, rfl, (by rw [upd_ne hdu.symm]; exact hd8), ?_, Same.off s8 hnu0⟩
          rw [upd_same, range_set hyN]
          congr 2
          refine List.map_congr_left fun i _ => ?_
          rw [take_snoc hy]
          by_cases e : i = y
          · subst e
            rw [if_pos rfl, if_pos (by simp)]
          · rw [if_neg e]
            have : (i ∈ List.take j ks ++ [y]) = (i ∈ List.take j ks) := by
              apply propext
              rw [List.mem_append, List.mem_singleton]
              exact ⟨fun q => q.resolve_right e, .inl⟩
            simp only [this]
        · rintro σ H7 ⟨v6, rfl, hd8, hnu8, s8⟩
          refine ⟨_, rfl, _, _, rfl, rfl, some (.int (z : Nat)), v6, ?_, ?_, s8⟩
          · rw [n2]
            rfl
          · rw [hnu8]
            congr 2
            refine List.map_congr_left fun i hi => ?_
            have hiN := List.mem_range.mp hi
            have kl : (kvT ks).length = ks.length := List.length_map _
            rw [kl, List.take_length, numG_new hx hin]
            have fi := fnd.found (near_sym ok) (near_lt ok) fo (by rw [near_len]; exact hz) i (by rw [near_len]; exact hiN)
            obtain ⟨xi, hxi⟩ : ∃ xi, fl[i]? = some xi := ⟨_, List.getElem?_eq_getElem (by omega)⟩
            rw [getD_at hxi]
            by_cases e : xi = x
            · rw [if_pos e, if_pos (fi.mpr (by rw [hxi, hx, e]))]
            · rw [if_neg e, if_neg (fun q => e (by have := fi.mp q; rw [hxi, hx] at this; cases this; rfl))]
    · rintro σ H5 ⟨v5, v6, rfl, hnu5, s5⟩
      rw [Int.toNat_natCast] at hnu5
      exact ⟨_, v5, v6, rfl, hnu5, s2.trans s5⟩
  rintro σ H4 ⟨v4, v5, v6, rfl, hnu4, s4⟩
  rw [← fl_len, numG_end] at hnu4
  have cl : (natV (canonL fl)).length = tb.length + m := by
    unfold natV canonL
    rw [List.length_map, List.length_map, fl_len]
  refine ⟨_, rfl, _, rfl, _, rfl, nu, _, rfl, SqL.of hnu4, fun a ha => ?_⟩
  have sa := same_new (o := .lst (cutV (natV (canonL fl)) none (some ((tb.length : Nat) : Int)))) ha
  refine ⟨_, rfl, _, rfl, _, rfl, nu, _, rfl, SqL.of (sa _ _ hnu4), fun b hb => ?_⟩
  have sb := same_new (o := .lst (cutV (natV (canonL fl)) (some ((tb.length : Nat) : Int)) none)) hb
  refine ⟨(by show 2 ≤ sizeLine; decide), fun p hp => ?_⟩
  have sp := same_new (o := .tup [V.ref a, V.ref b]) hp
  have sab := (s4.trans sa).trans sb
  have hab : a ≠ b := fun e => by
    subst e
    rw [upd_same] at hb
    cases hb
  refine k p a b _ (sab.free hp) (s4.free ha) ((s4.trans sa).free hb) hab upd_same ?_ ?_ (sab.trans sp)
  · refine (sp _ _ (sb _ _ upd_same)).trans ?_
    rw [cut_to, natV_take]
  · refine (sp _ _ upd_same).trans ?_
    rw [cut_from, natV_drop]
end
end Nm
set_option maxRecDepth 100000
set_option maxHeartbeats 4000000
/-! the pieces, as the law merges them -/
namespace Nm
open PySem L2
/-- f tells what hangs together by the edges E -/
structure Cl (f : List Nat) (N : Nat) (E : Nat → Nat → Prop) : Prop where
  len : f.length = N
  edge : ∀ x y, E x y → f[x]? = f[y]?
  least : ∀ S : Nat → Prop, (∀ x y, E x y → (S x ↔ S y)) → ∀ i j : Nat, i < N → f[i]? = f[j]? → (S i ↔ S j)
theorem Cl.start (N : Nat) : Cl (List.range N) N (fun _ _ => False) where
  len := List.length_range
  edge := fun _ _ h => h.elim
  least := fun S _ i j hi e => by
    rw [List.getElem?_range hi] at e
    have hj := (List.getElem?_eq_some_iff.mp e.symm).1
    rw [List.length_range] at hj
    rw [List.getElem?_range hj] at e
    cases e
    exact Iff.rfl
theorem Cl.imp {f : List Nat} {N : Nat} {E E' : Nat → Nat → Prop} (h : Cl f N E) (e : ∀ x y, E x y ↔ E' x y) : Cl f N E' where
  len := h.len
  edge := fun x y z => h.edge x y ((e x y).mpr z)
  least := fun S hS => h.least S fun x y z => hS x y ((e x y).mp z)
def mergeV (f : List Nat) (kept gone : Nat) : List Nat := f.map fun v => if v = gone then kept else v
theorem Cl.merge {f : List Nat} {N x y kept gone : Nat} {E : Nat → Nat → Prop} (h : Cl f N E) (hx : f[x]? = some kept) (hy : f[y]? = some gone) : Cl (mergeV f kept gone) N (fun a b => E a b ∨ (a = x ∧ b = y)) := by
  have at' : ∀ i, (mergeV f kept gone)[i]? = (f[i]?).map fun v => if v = gone then kept else v := fun i => by
    unfold mergeV
    rw [List.getElem?_map]
  refine ⟨by unfold mergeV; rw [List.length_map]; exact h.len, ?_, ?_⟩
  · rintro a b (e | ⟨rfl, rfl⟩)
    · rw [at', at', h.edge a b e]
    · rw [at', at', hx, hy]
      show some (if kept = gone then kept else kept) = some (if gone = gone then kept else gone)
      rw [ite_self, if_pos rfl]
  · intro S hS i j hi e
    have L := h.least S fun a b z => hS a b (.inl z)
    have sxy := hS x y (.inr ⟨rfl, rfl⟩)
    have hxN : x < N := by
      rw [← h.len]
      exact (List.getElem?_eq_some_iff.mp hx).1
    have hyN : y < N := by
      rw [← h.len]
      exact (List.getElem?_eq_some_iff.mp hy).1
    obtain ⟨vi, hvi⟩ : ∃ v, f[i]? = some v := ⟨_, List.getElem?_eq_getElem (by rw [h.len]; exact hi)⟩
    rw [at', at', hvi] at e
    cases hvj : f[j]? with
    | none =>
      rw [hvj] at e
      cases e
    | some vj =>
      rw [hvj] at e
      have e : (if vi = gone then kept else vi) = if vj = gone then kept else vj := Option.some.inj e
      have toY : ∀ k, k < N → f[k]? = some gone → (S k ↔ S y) := fun k hk hv => L k y hk (hv.trans hy.symm)
      have toX : ∀ k, k < N → f[k]? = some kept → (S k ↔ S x) := fun k hk hv => L k x hk (hv.trans hx.symm)
      have hjN : j < N := by
        rw [← h.len]
        exact (List.getElem?_eq_some_iff.mp hvj).1
      by_cases c1 : vi = gone
      · by_cases c2 : vj = gone
        · exact L i j hi (by rw [hvi, hvj, c1, c2])
        · rw [if_pos c1, if_neg c2] at e
          exact (toY i hi (by rw [hvi, c1])).trans (sxy.symm.trans (toX j hjN (by rw [hvj, e])).symm)
      · by_cases c2 : vj = gone
        · rw [if_neg c1, if_pos c2] at e
          exact (toX i hi (by rw [hvi, e])).trans (sxy.trans (toY j hjN (by rw [hvj, c2])).symm)
        · rw [if_neg c1, if_neg c2] at e
          exact L i j hi (by rw [hvi, hvj, e])
/-- edges of a table when p rows and j entries of the row p are through -/
def Edg (tb : List (List Int)) (p j : Nat) (a b : Nat) : Prop := ∃ q, b = tb.length + q ∧ (∃ r, tb[a]? = some r ∧ q < r.length ∧ 0 < r.getD q 0) ∧ (a < p ∨ (a = p ∧ q < j))
theorem edg_row {tb : List (List Int)} {m p : Nat} (hm : ∀ r ∈ tb, r.length = m) (a b : Nat) : Edg tb p m a b ↔ Edg tb (p + 1) 0 a b := by
  constructor
  · rintro ⟨q, rfl, ⟨r, h1, h2, h3⟩, h4⟩
    exact ⟨q, rfl, ⟨r, h1, h2, h3⟩, .inl (by omega)⟩
  · rintro ⟨q, rfl, ⟨r, h1, h2, h3⟩, h4⟩
    refine ⟨q, rfl, ⟨r, h1, h2, h3⟩, ?_⟩
    have := hm r (List.mem_of_getElem? h1)
    omega
theorem edg_zero {tb : List (List Int)} (a b : Nat) : False ↔ Edg tb 0 0 a b := by
  constructor
  · exact False.elim
  · rintro ⟨q, rfl, _, h4⟩
    omega
theorem edg_yes {tb : List (List Int)} {p j : Nat} {r : List Int} (hr : tb[p]? = some r) (hj : j < r.length) (h : 0 < r.getD j 0) (a b : Nat) : (Edg tb p j a b ∨ (a = p ∧ b = tb.length + j)) ↔ Edg tb p (j + 1) a b := by
  constructor
  · rintro (⟨q, rfl, h1, h4⟩ | ⟨rfl, rfl⟩)
    · exact ⟨q, rfl, h1, by omega⟩
    · exact ⟨j, rfl, ⟨r, hr, hj, h⟩, .inr ⟨rfl, by omega⟩⟩
  · rintro ⟨q, rfl, h1, h4⟩
    by_cases c : a = p ∧ q = j
    · exact .inr ⟨c.1, by rw [c.2]⟩
    · exact .inl ⟨q, rfl, h1, by omega⟩
theorem edg_no {tb : List (List Int)} {p j : Nat} {r : List Int} (hr : tb[p]? = some r) (h : ¬ 0 < r.getD j 0) (a b : Nat) : Edg tb p j a b ↔ Edg tb p (j + 1) a b := by
  constructor
  · rintro ⟨q, rfl, h1, h4⟩
    exact ⟨q, rfl, h1, by omega⟩
  · rintro ⟨q, rfl, ⟨r', h1, h2, h3⟩, h4⟩
    refine ⟨q, rfl, ⟨r', h1, h2, h3⟩, ?_⟩
    by_cases c : a = p ∧ q = j
    · obtain ⟨rfl, rfl⟩ := c
      rw [hr] at h1
      cases h1
      exact absurd h3 h
    · omega
theorem Cl.fnd {tb : List (List Int)} {m : Nat} {f : List Nat} (ok : TblOk tb m) (h : Cl f (tb.length + m) (Edg tb tb.length 0)) : Fnd (nearT tb m) f where
  len := by rw [h.len, near_len]
  edge := fun x l hl y hy => by
    rcases near_cases hl with ⟨r, hr, rfl⟩ | ⟨j, hj, rfl, rfl⟩
    · obtain ⟨k, rfl, hk, hp⟩ := posI_mem.mp hy
      exact h.edge _ _ ⟨k, rfl, ⟨r, hr, hk, hp⟩, .inl (List.getElem?_eq_some_iff.mp hr).1⟩
    · obtain ⟨k, rfl, hk, hp⟩ := posI_mem.mp hy
      rw [List.length_map] at hk
      have hr := List.getElem?_eq_getElem hk
      rw [col_getD hr] at hp
      rw [Nat.zero_add]
      exact (h.edge _ _ ⟨j, rfl, ⟨_, hr, by rw [ok.rm _ (List.getElem_mem hk)]; exact hj, hp⟩, .inl hk⟩).symm
  least := fun S hS i j hi e => by
    rw [near_len] at hi
    refine h.least S ?_ i j hi e
    rintro x y ⟨q, rfl, ⟨r, h1, h2, h3⟩, _⟩
    exact hS x _ (near_row h1) _ (posI_mem.mpr ⟨q, rfl, h2, h3⟩)
/-- each column has an entry above 0 -/
def ColPos (tb : List (List Int)) (m : Nat) : Prop := ∀ j < m, ∃ (p : Nat) (r : List Int), tb[p]? = some r ∧ 0 < r.getD j 0
theorem Cl.cols {tb : List (List Int)} {m : Nat} {f : List Nat} (ok : TblOk tb m) (cp : ColPos tb m) (h : Cl f (tb.length + m) (Edg tb tb.length 0)) : ∀ x ∈ f, x ∈ f.take tb.length := fun x hx => by
  obtain ⟨i, hi⟩ := List.getElem?_of_mem hx
  have hil := (List.getElem?_eq_some_iff.mp hi).1
  rw [h.len] at hil
  have low : ∀ k, k < tb.length → f[k]? = some x → x ∈ f.take tb.length := fun k hk e => by
    refine List.mem_of_getElem? (i := k) ?_
    rw [List.getElem?_take, if_pos hk]
    exact e
  by_cases c : i < tb.length
  · exact low i c hi
  · obtain ⟨p, r, hr, hp⟩ := cp (i - tb.length) (by omega)
    have hpl := (List.getElem?_eq_some_iff.mp hr).1
    refine low p hpl ?_
    rw [h.edge p i ⟨i - tb.length, by omega, ⟨r, hr, by rw [ok.rm r (List.mem_of_getElem? hr)]; omega, hp⟩, .inl hpl⟩]
    exact hi
theorem dd_rest {f : List Nat} {n : Nat} (h : ∀ x ∈ f, x ∈ f.take n) : ∀ k, n + k ≤ f.length → dd (f.take (n + k)) = dd (f.take n)
  | 0, _ => rfl
  | k + 1, hk => by
    obtain ⟨y, hy⟩ : ∃ y, f[n + k]? = some y := ⟨_, List.getElem?_eq_getElem (by omega)⟩
    have ih := dd_rest h k (by omega)
    rw [← Nat.add_assoc, take_snoc hy, dd_snoc, ih, if_pos ((dd_mem f n (by omega) y).mpr (h y (List.mem_of_getElem? hy)))]
theorem dd_all {f : List Nat} {n : Nat} (hn : n ≤ f.length) (h : ∀ x ∈ f, x ∈ f.take n) : dd f = dd (f.take n) := by
  have := dd_rest h (f.length - n) (by omega)
  rw [show n + (f.length - n) = f.length by omega, List.take_length] at this
  exact this
end Nm
set_option maxRecDepth 100000
set_option maxHeartbeats 4000000
/-! there is such an f, and its numbers are the same for each -/
namespace Nm
open PySem L2
theorem cl_some {tb : List (List Int)} {m : Nat} (ok : TblOk tb m) : ∃ f, Cl f (tb.length + m) (Edg tb tb.length 0) := by
  have rows : ∀ p, p ≤ tb.length → ∃ f, Cl f (tb.length + m) (Edg tb p 0) := by
    intro p
    induction p with
    | zero => exact fun _ => ⟨_, (Cl.start (tb.length + m)).imp edg_zero⟩
    | succ p ih =>
      intro hp
      obtain ⟨f, hf⟩ := ih (by omega)
      have hr := List.getElem?_eq_getElem (show p < tb.length by omega)
      have hrm := ok.rm _ (List.getElem_mem (show p < tb.length by omega))
      have cols : ∀ j, j ≤ m → ∃ f, Cl f (tb.length + m) (Edg tb p j) := by
        intro j
        induction j with
        | zero => exact fun _ => ⟨f, hf⟩
        | succ j ih2 =>
          intro hj
          obtain ⟨g, hg⟩ := ih2 (by omega)
          by_cases c : 0 < (tb[p]'(by omega)).getD j 0
          · have hx := List.getElem?_eq_getElem (show p < g.length by rw [hg.len]; omega)
            have hy := List.getElem?_eq_getElem (show tb.length + j < g.length by rw [hg.len]; omega)
            exact ⟨_, (hg.merge hx hy).imp (edg_yes hr (by omega) c)⟩
          · exact ⟨g, hg.imp (edg_no hr c)⟩
      obtain ⟨g, hg⟩ := cols m (Nat.le_refl _)
      exact ⟨g, hg.imp (edg_row ok.rm)⟩
  exact rows _ (Nat.le_refl _)
theorem Fnd.same {nb : List (List Nat)} {f g : List Nat} (F : Fnd nb f) (G : Fnd nb g) {i j : Nat} (hi : i < nb.length) (e : f[i]? = f[j]?) : g[i]? = g[j]? :=
  (F.least (fun x => g[x]? = g[i]?) (fun x l hl y hy => by rw [G.edge x l hl y hy]) i j hi e).mp rfl |>.symm
theorem take_has {f : List Nat} {s x : Nat} : x ∈ f.take s ↔ ∃ j, j < s ∧ f[j]? = some x := by
  constructor
  · intro h
    obtain ⟨j, hj⟩ := List.getElem?_of_mem h
    rw [List.getElem?_take] at hj
    by_cases c : j < s
    · rw [if_pos c] at hj
      exact ⟨j, c, hj⟩
    · rw [if_neg c] at hj
      cases hj
  · rintro ⟨j, hj, e⟩
    refine List.mem_of_getElem? (i := j) ?_
    rw [List.getElem?_take, if_pos hj]
    exact e
theorem Fnd.canon {nb : List (List Nat)} {f g : List Nat} (F : Fnd nb f) (G : Fnd nb g) : canonL f = canonL g := by
  have fl := F.len
  have gl := G.len
  have key : ∀ s, s ≤ nb.length → (dd (f.take s)).length = (dd (g.take s)).length ∧ ∀ i, i < nb.length → numG f s i = numG g s i := by
    intro s
    induction s with
    | zero => exact fun _ => ⟨rfl, fun i _ => rfl⟩
    | succ s ih =>
      intro hs
      obtain ⟨i1, i2⟩ := ih (by omega)
      obtain ⟨x, hx⟩ : ∃ x, f[s]? = some x := ⟨_, List.getElem?_eq_getElem (by omega)⟩
      obtain ⟨y, hy⟩ : ∃ y, g[s]? = some y := ⟨_, List.getElem?_eq_getElem (by omega)⟩
      have mem : x ∈ f.take s ↔ y ∈ g.take s := by
        rw [take_has, take_has]
        constructor
        · rintro ⟨j, hj, e⟩
          exact ⟨j, hj, by rw [F.same G (i := j) (j := s) (by omega) (by rw [e, hx])]; exact hy⟩
        · rintro ⟨j, hj, e⟩
          exact ⟨j, hj, by rw [G.same F (i := j) (j := s) (by omega) (by rw [e, hy])]; exact hx⟩
      by_cases c : x ∈ f.take s
      · have c2 := mem.mp c
        have m1 := (dd_mem f s (by omega) x).mpr c
        have m2 := (dd_mem g s (by omega) y).mpr c2
        refine ⟨by rw [take_snoc hx, take_snoc hy, dd_snoc, dd_snoc, if_pos m1, if_pos m2]; exact i1, fun i hi => ?_⟩
        rw [numG_old hx c, numG_old hy c2]
        exact i2 i hi
      · have c2 := fun z => c (mem.mpr z)
        obtain ⟨_, n1⟩ := dd_new hx (by omega) c
        obtain ⟨_, n2⟩ := dd_new hy (by omega) c2
        refine ⟨by rw [n1, n2, i1], fun i hi => ?_⟩
        rw [numG_new hx c, numG_new hy c2, i2 i hi, i1]
        obtain ⟨xi, hxi⟩ : ∃ x, f[i]? = some x := ⟨_, List.getElem?_eq_getElem (by omega)⟩
        obtain ⟨yi, hyi⟩ : ∃ y, g[i]? = some y := ⟨_, List.getElem?_eq_getElem (by omega)⟩
        rw [getD_at hxi, getD_at hyi]
        have : (xi = x) ↔ (yi = y) := by
          constructor
          · intro e
            have := F.same G (i := i) (j := s) hi (by rw [hxi, hx, e])
            rw [hyi, hy] at this
            exact Option.some.inj this
          · intro e
            have := G.same F (i := i) (j := s) hi (by rw [hyi, hy, e])
            rw [hxi, hx] at this
            exact Option.some.inj this
        simp only [this]
  have e : natV (canonL f) = natV (canonL g) := by
    rw [← numG_end, ← numG_end, fl, gl]
    refine List.map_congr_left fun i hi => ?_
    exact (key nb.length (Nat.le_refl _)).2 i (List.mem_range.mp hi)
  have inj : ∀ {l l' : List Nat}, natV l = natV l' → l = l' := by
    intro l
    induction l with
    | nil =>
      intro l' h
      cases l' with
      | nil => rfl
      | cons _ _ => cases h
    | cons a r ih =>
      intro l' h
      cases l' with
      | nil => cases h
      | cons b r' =>
        obtain ⟨h1, h2⟩ := List.cons.inj h
        have h1 := V.int.inj h1
        rw [ih h2, show a = b by omega]
  exact inj e
end Nm
set_option maxRecDepth 100000
set_option maxHeartbeats 4000000
/-! _law_pieces -/
namespace Nm
open PySem L2
structure TxtP (mg : Str → Option Value) : Prop extends TxtQ mg where
  list : mg "list" = none
section
variable {P : Program} {w : World} {K : PySem.W.Frag} {mg : Str → Option Value} {base : Heap}
theorem flat_nat (l : List Nat) : (natV l).all flatV = true := by
  rw [List.all_eq_true]
  intro v hv
  obtain ⟨x, _, rfl⟩ := List.mem_map.mp hv
  rfl
theorem eqV_nat (x y : Nat) : eqV (.int (x : Int)) (.int (y : Int)) = decide (x = y) := by
  by_cases h : x = y
  · subst h
    rw [decide_eq_true rfl]
    exact beq_self_eq_true _
  · rw [decide_eq_false h]
    show ((x : Int) == (y : Int)) = false
    rw [beq_eq_false_iff_ne]
    omega
theorem inV_nat (y : Nat) (l : List Nat) : inV (.int (y : Int)) (natV l) = decide (y ∈ l) := by
  unfold inV natV
  by_cases h : y ∈ l
  · rw [decide_eq_true h, List.any_eq_true]
    exact ⟨_, List.mem_map.mpr ⟨y, h, rfl⟩, by rw [eqV_nat, decide_eq_true rfl]⟩
  · rw [decide_eq_false h, List.any_eq_false]
    intro v hv
    obtain ⟨x, hx, rfl⟩ := List.mem_map.mp hv
    rw [eqV_nat, decide_eq_true_eq]
    rintro rfl
    exact h hx
theorem idx_has {sn : List Nat} {y : Nat} (h : y ∈ sn) : ∃ z, (natV sn)[sn.idxOf y]? = some z ∧ eqV z (.int (y : Int)) = true ∧ ∀ (m : Nat) (z' : V), m < sn.idxOf y → (natV sn)[m]? = some z' → eqV z' (.int (y : Int)) = false := by
  have hl := List.idxOf_lt_length_of_mem h
  refine ⟨.int (y : Int), ?_, by rw [eqV_nat, decide_eq_true rfl], fun m z' hm hz => ?_⟩
  · unfold natV
    rw [List.getElem?_map, List.getElem?_eq_getElem hl, List.getElem_idxOf]
    rfl
  · unfold natV at hz
    rw [List.getElem?_map] at hz
    obtain ⟨x, hx, rfl⟩ := Option.map_eq_some_iff.mp hz
    rw [eqV_nat, decide_eq_false_iff_not]
    intro exy
    obtain ⟨hml, e⟩ := List.getElem?_eq_some_iff.mp hx
    have ne := List.not_of_lt_findIdx (p := (· == y)) (xs := sn) (i := m) hm
    have e2 : sn[m] = y := by rw [e, exy]
    have ne : (sn[m] == y) = false := ne
    rw [e2, beq_self_eq_true] at ne
    cases ne
def spPieces : Sp := fun vs H Q _ => ∃ (t : Addr) (tb : List (List Int)) (m : Nat) (f : List Nat), vs = [.ref t] ∧ TblAt H t tb ∧ TblOk tb m ∧ ColPos tb m ∧ Fnd (nearT tb m) f ∧
  ∀ (p a b : Addr) (H' : Hp), H p = none → H a = none → H b = none → a ≠ b → H' p = some (.tup [.ref a, .ref b]) → H' a = some (.lst (natV ((canonL f).take tb.length))) → H' b = some (.lst (natV ((canonL f).drop tb.length))) → Same H H' → Q (.ref p) H'
abbrev nPi : List Str := ["_law_weighed", "_law_many", "_law_wide", "_law_found", "_law_p", "_law_q", "_law_kept", "_law_gone", "_law_seen", "_law_number"]
theorem scPi : FnScope nPi ["_law_weighed"] (defScope sPieces) := ⟨rfl, rfl, rfl, by decide +kernel, rfl, by decide +kernel, by decide +kernel⟩
theorem ok_pieces {f : Addr} {fd : FuncData} (F : Fun K "_law_pieces" "_law_pieces" sPieces f fd) (T : TxtP mg) : FnOk P w K mg base CX0 1 f fd ["_law_weighed"] spPieces := by
  refine F.ok scPi (fun vs H Q E h => ?_) (fun cdv A outer s H vs Q E hr h => ?_)
  · obtain ⟨_, _, _, _, rfl, _⟩ := h
    rfl
  obtain ⟨t, tb, m, fl, rfl, ⟨ts, ht, htl, hts⟩, ok, cp, fnd, k⟩ := h
  have hu := hu_of hr
  refine ⟨_, Evl.pss_cut (ps_par (i := 1) (j := 2) (by rfl) scPi.nd rfl rfl (by decide) rfl rfl (pa_cons (pe_callB call_len_seq (by rfl) T.len PySem.boot_len (pa_cons (pv 0) pa_nil)) (pa_cons (pe_callB call_len_seq (by rfl) T.len PySem.boot_len (pa_cons (pe_ix ix_tup (pv 0) pe_int (fun _ _ => rfl)) pa_nil)) pa_nil)) (by rfl))
    (Evl.pss_cut (ps_set (i := 3) scPi.nd rfl (Or.inl rfl) (pe_listRg rfl (by rfl) T.list (prg_1 (by rfl) T.range (pe_op op_add (pv 1) (pv 2)))))
    (Evl.pss_cut (ps_for PassesOwn.never rfl (pi_range1 (by rfl) T.range (pa_cons (pv 1) pa_nil)) (pg_name (i := 4) scPi.nd rfl (Or.inl rfl))
      (pss_one (ps_for PassesOwn.never rfl (pi_range1 (by rfl) T.range (pa_cons (pv 2) pa_nil)) (pg_name (i := 5) scPi.nd rfl (Or.inl rfl))
        (pss_one (ps_if (pt_cmpR op_gt (pe_ix ix_tup (pe_ix ix_tup (pv 0) (pv 4) (fun _ _ => rfl)) (pv 5) (fun _ _ => rfl)) pe_int (nomark _))
          (pss_cons (ps_asg (pe_tup (pa_cons (pe_ix ix_list (pv 3) (pv 4) (fun _ _ => rfl)) (pa_cons (pe_ix ix_list (pv 3) (pe_op op_add (pv 1) (pv 5)) (fun _ _ => rfl)) pa_nil))) (pg_tup rfl (pgs_cons (pg_name (i := 6) scPi.nd rfl (.inr rfl)) (pgs_cons (pg_name (i := 7) scPi.nd rfl (.inr rfl)) pgs_nil))))
          (pss_one (ps_setLc (i := 3) (own := [("_law_number", 9)]) (g := gName 9) (tt := tYes) rfl scPi.nd rfl rfl (sw_true rfl rfl rfl (by decide +kernel)) (pi_list (pv 3))
            (blkOk_by (N := nPi) (sc := defScope sPieces) (by decide +kernel)) (fun _ _ _ _ _ => pg_name (i := 9) scPi.nd rfl (Or.inl rfl)) (fun _ _ _ _ _ => pts_nil)
            (fun _ _ _ _ _ => pe_ifExp (pt_cmpR op_eq (pv 9) (pv 7) (nomark _)) (pv 6) (pv 9))))) pss_nil)))))
    (Evl.pss_cut (ps_set (i := 8) scPi.nd rfl (Or.inr rfl) (pe_lst pa_nil))
    (Evl.pss_cut (ps_for PassesOwn.never rfl (pi_list (pe_slice sl_list (pv 3) po_none (po_some (pv 1)))) (pg_name (i := 9) scPi.nd rfl (Or.inl rfl))
      (pss_one (ps_if (pt_cmpR op_notIn_seq (pv 9) (pv 8) (by rfl))
        (pss_one (ps_expr (pe_bm PySem.F.plainAttrs_list PySem.F.slot_list_append PySem.F.type_list_append mt_append (pv 8) (pa_cons (pv 9) pa_nil)))) pss_nil)))
    (pss_one (ps_ret (pe_tup (pa_cons
      (pe_lc (own := [("_law_number", 9)]) (g := gName 9) (tt := tYes) (te := tBM K "list" (rIndex K) (tVar 8) (tCons (tVar 9) tNil)) rfl scPi.nd (pi_list (pe_slice sl_list (pv 3) po_none (po_some (pv 1)))) (blkOk_by (N := nPi) (sc := defScope sPieces) (by decide +kernel)) (fun _ _ _ _ _ => pg_name (i := 9) scPi.nd rfl (Or.inl rfl)) (fun _ _ _ _ _ => pts_nil)
        (fun _ _ _ _ _ => by exact pe_bm PySem.F.plainAttrs_list PySem.F.slot_list_index PySem.F.type_list_index mt_index (pv 8) (pa_cons (pv 9) pa_nil)))
      (pa_cons
      (pe_lc (own := [("_law_number", 9)]) (g := gName 9) (tt := tYes) (te := tBM K "list" (rIndex K) (tVar 8) (tCons (tVar 9) tNil)) rfl scPi.nd (pi_list (pe_slice sl_list (pv 3) (po_some (pv 1)) po_none)) (blkOk_by (N := nPi) (sc := defScope sPieces) (by decide +kernel)) (fun _ _ _ _ _ => pg_name (i := 9) scPi.nd rfl (Or.inl rfl)) (fun _ _ _ _ _ => pts_nil)
        (fun _ _ _ _ _ => by exact pe_bm PySem.F.plainAttrs_list PySem.F.slot_list_index PySem.F.type_list_index mt_index (pv 8) (pa_cons (pv 9) pa_nil))) pa_nil))))))))), ?_⟩
  have n1 := ok.n1
  have n8 := ok.n8
  have m8 := ok.m8
  have rowH : ∀ (p : Nat), p < tb.length → ∃ (a : Addr) (r : List Int), ts[p]? = some a ∧ tb[p]? = some r ∧ r.length = m ∧ H a = some (.tup (r.map V.int)) := fun p hp => by
    obtain ⟨a, ha⟩ : ∃ a, ts[p]? = some a := ⟨_, List.getElem?_eq_getElem (by omega)⟩
    have hr := List.getElem?_eq_getElem hp
    exact ⟨a, _, ha, hr, ok.rm _ (List.mem_of_getElem? hr), hts p a _ ha hr⟩
  obtain ⟨a0, r0, ha0, hr0, hrm0, hH0⟩ := rowH 0 (by omega)
  refine ⟨fun σ H1 => σ = [some (.ref t), some (.int ((tb.length : Nat) : Int)), some (.int ((m : Nat) : Int)), none, none, none, none, none, none, none] ∧ Same H H1, ?_, ?_⟩
  · refine ⟨_, rfl, t, _, rfl, .inr (SqT.of ht), _, rfl, t, _, _, V.ref a0, rfl, rfl, SqT.of ht, atI_nat (j := 0) (by rw [List.getElem?_map, ha0]; rfl), a0, _, rfl, .inr (SqT.of hH0), _, _, rfl, ?_, Same.refl _⟩
    rw [List.length_map, List.length_map, htl, hrm0]
    rfl
  rintro σ H1 ⟨rfl, s1⟩
  refine ⟨fun σ H2 => ∃ q, σ = [some (.ref t), some (.int ((tb.length : Nat) : Int)), some (.int ((m : Nat) : Int)), some (.ref q), none, none, none, none, none, none] ∧ H q = none ∧ H2 q = some (.lst (natV (List.range (tb.length + m)))) ∧ Same H H2, ?_, ?_⟩
  · refine ⟨_, rfl, _, rfl, _, _, rfl, rfl, _, rfl, ?_⟩
    rw [← Int.natCast_add]
    refine ⟨RgOk.of_le (by omega) (by omega) (by omega) (by omega), fun q hq => ⟨q, rfl, s1.free hq, by rw [upd_same, rgV_nat], s1.trans (same_new hq)⟩⟩
  rintro σ H2 ⟨q, rfl, hq0, hq2, s2⟩
  refine ⟨fun σ H3 => ∃ q g v4 v5 v6 v7, σ = [some (.ref t), some (.int ((tb.length : Nat) : Int)), some (.int ((m : Nat) : Int)), some (.ref q), v4, v5, v6, v7, none, none] ∧ H q = none ∧ H3 q = some (.lst (natV g)) ∧ Cl g (tb.length + m) (Edg tb tb.length 0) ∧ Same H H3, ?_, ?_⟩
  · refine ⟨_, rfl, _, rfl, by omega, by omega, ?_⟩
    refine for_range (lo := 0) (n := ((tb.length : Nat) : Int).toNat) (fun p σ H3 => ∃ q g v4 v5 v6 v7, σ = [some (.ref t), some (.int ((tb.length : Nat) : Int)), some (.int ((m : Nat) : Int)), some (.ref q), v4, v5, v6, v7, none, none] ∧ H q = none ∧ H3 q = some (.lst (natV g)) ∧ Cl g (tb.length + m) (Edg tb p 0) ∧ Same H H3)
      ⟨q, _, none, none, none, none, rfl, hq0, hq2, (Cl.start _).imp edg_zero, s2⟩ ?_ ?_
    · rintro p σ H3 hp ⟨q, g, v4, v5, v6, v7, rfl, hq0, hq3, cl, s3⟩
      rw [Int.toNat_natCast] at hp
      rw [show (0 : Int) + ((p : Nat) : Int) = ((p : Nat) : Int) from Int.zero_add _]
      obtain ⟨a, r, ha, hr, hrm, hHa⟩ := rowH p hp
      refine ⟨_, rfl, _, rfl, by omega, by omega, ?_⟩
      refine for_range (lo := 0) (n := ((m : Nat) : Int).toNat) (fun j σ H4 => ∃ q g v5 v6 v7, σ = [some (.ref t), some (.int ((tb.length : Nat) : Int)), some (.int ((m : Nat) : Int)), some (.ref q), some (.int ((p : Nat) : Int)), v5, v6, v7, none, none] ∧ H q = none ∧ H4 q = some (.lst (natV g)) ∧ Cl g (tb.length + m) (Edg tb p j) ∧ Same H H4)
        ⟨q, g, v5, v6, v7, rfl, hq0, hq3, cl, s3⟩ ?_ ?_
      · rintro j σ H4 hj ⟨q, g, v5, v6, v7, rfl, hq0, hq4, cl, s4⟩
        rw [Int.toNat_natCast] at hj
        rw [show (0 : Int) + ((j : Nat) : Int) = ((j : Nat) : Int) from Int.zero_add _]
        have hrj : r[j]? = some (r.getD j 0) := by
          rw [List.getD_eq_getElem?_getD, List.getElem?_eq_getElem (by omega)]
          rfl
        refine ⟨_, rfl, _, rfl, t, _, _, V.ref a, rfl, rfl, SqT.of (s4 _ _ ht), atI_nat (by rw [List.getElem?_map, ha]; rfl), _, rfl, a, _, _, V.int (r.getD j 0), rfl, rfl, SqT.of (s4 _ _ hHa), atI_nat (by rw [List.getElem?_map, hrj]; rfl), _, _, rfl, rfl, _, rfl, ?_⟩
        by_cases c : 0 < r.getD j 0
        · rw [decide_eq_true c]
          obtain ⟨u, hu1⟩ : ∃ u, g[p]? = some u := ⟨_, List.getElem?_eq_getElem (by rw [cl.len]; omega)⟩
          obtain ⟨v, hv1⟩ : ∃ v, g[tb.length + j]? = some v := ⟨_, List.getElem?_eq_getElem (by rw [cl.len]; omega)⟩
          have hat : atI (natV g) (((tb.length : Nat) : Int) + ((j : Nat) : Int)) = some (V.int (v : Int)) := by
            rw [← Int.natCast_add]
            exact atI_nat (by unfold natV; rw [List.getElem?_map, hv1]; rfl)
          refine iteT ⟨_, rfl, _, rfl, q, _, _, V.int (u : Int), rfl, rfl, SqL.of hq4, atI_nat (by unfold natV; rw [List.getElem?_map, hu1]; rfl), _, rfl, _, rfl, _, rfl, _, _, rfl, rfl, q, _, _, V.int (v : Int), rfl, rfl, SqL.of hq4, hat, (by show 2 ≤ sizeLine; decide), fun tt htt => ?_⟩
          refine ⟨tt, _, rfl, SqT.of upd_same, rfl, _, _, rfl, _, _, rfl, rfl, ?_⟩
          have s5 := same_new (o := .tup [V.int (u : Int), V.int (v : Int)]) htt
          refine ⟨_, rfl, q, rfl, ⟨_, SqL.of (s5 _ _ hq4)⟩, fun D hD => ?_⟩
          have hD4 : H4 D = none := s5.free hD
          have gl : g.length ≤ 16 := by rw [cl.len]; omega
          refine lc_list (xs := natV g) (fun i H5 => H5 D = some (.lst (natV ((mergeV g u v).take i))) ∧ Same H4 H5) ⟨upd_same, s5.trans (same_new hD)⟩ (fun i H5 _ h => SqL.of (h.2 _ _ hq4)) ?_ ?_
          · rintro i z H5 hi ⟨hD5, s6⟩
            have hil := (List.getElem?_eq_some_iff.mp hi).1
            rw [List.length_map] at hil
            rw [List.getElem?_map] at hi
            obtain ⟨z0, hz0, rfl⟩ := Option.map_eq_some_iff.mp hi
            refine ⟨rfl, tyes ?_⟩
            have tk : natV ((mergeV g u v).take (i + 1)) = natV ((mergeV g u v).take i) ++ [V.int ((if z0 = v then u else z0 : Nat) : Int)] := by
              have e : (mergeV g u v)[i]? = some (if z0 = v then u else z0) := by unfold mergeV; rw [List.getElem?_map, hz0]; rfl
              rw [List.take_add_one, e]
              unfold natV
              rw [List.map_append]
              rfl
            have fin : ∀ y, y = V.int ((if z0 = v then u else z0 : Nat) : Int) → ∃ acc, H5 D = some (.lst acc) ∧ acc.length < sizeLine ∧ (upd H5 D (.lst (acc ++ [y]))) D = some (.lst (natV ((mergeV g u v).take (i + 1)))) ∧ Same H4 (upd H5 D (.lst (acc ++ [y]))) := fun y hy => by
              refine ⟨_, hD5, Evl.sz_lt (by unfold mergeV; rw [List.length_map, List.length_take, List.length_map]; omega), by rw [upd_same, tk, hy], Same.off s6 hD4⟩
            refine ⟨_, rfl, _, rfl, rfl, _, rfl, ?_⟩
            refine ite2 (fun h => ?_) (fun h => ?_)
            · refine ⟨_, rfl, fin _ ?_⟩
              have : (V.int (z0 : Int)) = V.int (v : Int) := of_decide_eq_true h
              injection this with this
              rw [if_pos (by omega)]
            · refine ⟨_, rfl, fin _ ?_⟩
              have : ¬ (V.int (z0 : Int)) = V.int (v : Int) := of_decide_eq_false (Bool.eq_false_iff.mpr h)
              rw [if_neg (fun e => this (by rw [e]))]
          · rintro H5 ⟨hD5, s6⟩
            rw [List.length_map, List.take_of_length_le (by unfold mergeV; rw [List.length_map]; omega)] at hD5
            exact ⟨D, mergeV g u v, _, _, _, rfl, s4.free hD4, hD5, (cl.merge hu1 hv1).imp (edg_yes hr (by omega) c), s4.trans s6⟩
        · rw [decide_eq_false c]
          exact iteF ⟨q, g, _, v6, v7, rfl, hq0, hq4, cl.imp (edg_no hr c), s4⟩
      · rintro σ H4 ⟨q, g, v5, v6, v7, rfl, hq0, hq4, cl, s4⟩
        rw [Int.toNat_natCast] at cl
        exact ⟨q, g, _, v5, v6, v7, rfl, hq0, hq4, cl.imp (edg_row ok.rm), s4⟩
    · rintro σ H3 ⟨q, g, v4, v5, v6, v7, rfl, hq0, hq3, cl, s3⟩
      rw [Int.toNat_natCast] at cl
      exact ⟨q, g, v4, v5, v6, v7, rfl, hq0, hq3, cl, s3⟩
  rintro σ H3 ⟨q, g, v4, v5, v6, v7, rfl, hq0, hq3, cl, s3⟩
  have gl := cl.len
  have cols := cl.cols ok cp
  have canon := (cl.fnd ok).canon fnd
  have ddg := dd_all (n := tb.length) (by omega) cols
  have tkl : (g.take tb.length).length = tb.length := by rw [List.length_take]; omega
  refine ⟨fun σ H4 => ∃ se, σ = [some (.ref t), some (.int ((tb.length : Nat) : Int)), some (.int ((m : Nat) : Int)), some (.ref q), v4, v5, v6, v7, some (.ref se), none] ∧ H3 se = none ∧ H4 se = some (.lst []) ∧ Same H3 H4, ?_, ?_⟩
  · exact ⟨(by show 0 ≤ sizeLine; decide), fun se hse => ⟨se, rfl, hse, upd_same, same_new hse⟩⟩
  rintro σ H4 ⟨se, rfl, hse0, hse4, s4⟩
  have hq4 := s4 _ _ hq3
  refine ⟨fun σ H5 => ∃ v9, σ = [some (.ref t), some (.int ((tb.length : Nat) : Int)), some (.int ((m : Nat) : Int)), some (.ref q), v4, v5, v6, v7, some (.ref se), v9] ∧ H5 se = some (.lst (natV (dd g))) ∧ Same H3 H5, ?_, ?_⟩
  · refine ⟨_, rfl, _, rfl, _, rfl, q, _, rfl, SqL.of hq4, fun sl hsl => ?_⟩
    rw [cut_to, natV_take]
    have s5 := same_new (o := .lst (natV (g.take tb.length))) hsl
    have nsl : sl ≠ se := fun e => by
      subst e
      rw [hse4] at hsl
      cases hsl
    refine ⟨sl, rfl, ⟨_, SqL.of upd_same⟩, ?_⟩
    have hsl5 : (upd H4 sl (.lst (natV (g.take tb.length)))) sl = some (.lst (natV (g.take tb.length))) := upd_same
    have hse5 := s5 _ _ hse4
    generalize upd H4 sl (.lst (natV (g.take tb.length))) = H5 at *
    refine for_list (xs := natV (g.take tb.length)) (fun i σ H6 => ∃ v9, σ = [some (.ref t), some (.int ((tb.length : Nat) : Int)), some (.int ((m : Nat) : Int)), some (.ref q), v4, v5, v6, v7, some (.ref se), v9] ∧ H6 se = some (.lst (natV (dd ((g.take tb.length).take i)))) ∧ ∀ b o, H5 b = some o → b ≠ se → H6 b = some o)
      ⟨none, rfl, hse5, fun b o e _ => e⟩ (fun i σ H6 _ ⟨_, _, _, h⟩ => SqL.of (h _ _ hsl5 nsl)) ?_ ?_
    · rintro i x σ H6 hi ⟨v9, rfl, hse6, fr⟩
      have hi : (natV (g.take tb.length))[i]? = some x := hi
      unfold natV at hi
      rw [List.getElem?_map] at hi
      obtain ⟨y, hy, rfl⟩ := Option.map_eq_some_iff.mp hi
      have hil := (List.getElem?_eq_some_iff.mp hy).1
      have hdl := dd_len (g.take tb.length) i
      refine ⟨_, rfl, _, rfl, se, _, rfl, .inl (SqL.of hse6), rfl, flat_nat _, _, rfl, ?_⟩
      rw [if_pos rfl, inV_nat]
      by_cases c : y ∈ dd ((g.take tb.length).take i)
      · rw [decide_eq_true c]
        refine iteF ⟨_, rfl, ?_, fr⟩
        rw [take_snoc hy, dd_snoc, if_pos c]
        exact hse6
      · rw [decide_eq_false c]
        refine iteT ⟨_, rfl, .inl ⟨rfl, _, SqL.of hse6⟩, _, rfl, se, _, _, rfl, rfl, hse6, Evl.sz_lt (by rw [List.length_map]; omega), ?_⟩
        refine ⟨_, rfl, ?_, fun b o e h => by rw [upd_ne h]; exact fr b o e h⟩
        rw [take_snoc hy, dd_snoc, if_neg c, upd_same]
        unfold natV
        rw [List.map_append]
        rfl
    · rintro σ H6 ⟨v9, rfl, hse6, fr⟩
      have e : (natV (g.take tb.length)).length = (g.take tb.length).length := List.length_map _
      rw [e, List.take_length, ← ddg] at hse6
      exact ⟨v9, rfl, hse6, fun b o e2 => fr b o (s5 _ _ (s4 _ _ e2)) (ne_of_none e2 hse0)⟩
  rintro σ H5 ⟨v9, rfl, hse5, s5⟩
  have hq5 := s5 _ _ hq3
  have s05 := s3.trans s5
  have inn : ∀ l : List Nat, (∀ x ∈ l, x ∈ g) → ∀ x ∈ l, x ∈ dd g := fun l h x hx => by
    have := (dd_mem g g.length (Nat.le_refl _) x).mpr (by rw [List.take_length]; exact h x hx)
    rwa [List.take_length] at this
  have cg : canonL g = g.map fun x => (dd g).idxOf x := rfl
  -- both lists
  have step : ∀ (l : List Nat) (i y : Nat) (σ : L2.St) (H7 : Hp) (D : Addr) (Q' : VK), l[i]? = some y → (∀ x ∈ l, x ∈ g) → σ[8]? = some (some (.ref se)) → σ[9]? = some (some (.int (y : Int))) → H7 se = some (.lst (natV (dd g))) → Q' (.int (((dd g).idxOf y : Nat) : Int)) H7 → tBM K "list" (rIndex K) (tVar 8) (tCons (tVar 9) tNil) σ H7 Q' := fun l i y σ H7 D Q' hy hl h8 h9 hse7 q' => by
    obtain ⟨z, z1, z2, z3⟩ := idx_has (inn l hl y (List.mem_of_getElem? hy))
    exact ⟨_, h8, .inl ⟨rfl, _, SqL.of hse7⟩, _, h9, se, _, _, _, z, rfl, rfl, SqL.of hse7, rfl, flat_nat _, z1, z2, z3, q'⟩
  have nextL : ∀ (l : List Nat) (i y : Nat), l[i]? = some y → natV ((l.map fun x => (dd g).idxOf x).take i) ++ [V.int (((dd g).idxOf y : Nat) : Int)] = natV ((l.map fun x => (dd g).idxOf x).take (i + 1)) := fun l i y hy => by
    rw [take_snoc (x := (dd g).idxOf y) (by rw [List.getElem?_map, hy]; rfl)]
    unfold natV
    rw [List.map_append]
    rfl
  refine ⟨_, rfl, _, rfl, _, rfl, q, _, rfl, SqL.of hq5, fun sl hsl => ?_⟩
  rw [cut_to, natV_take]
  have s6 := same_new (o := .lst (natV (g.take tb.length))) hsl
  have hsl6 : (upd H5 sl (.lst (natV (g.take tb.length)))) sl = some (.lst (natV (g.take tb.length))) := upd_same
  generalize upd H5 sl (.lst (natV (g.take tb.length))) = H6 at *
  refine ⟨sl, rfl, ⟨_, SqL.of hsl6⟩, fun D hD => ?_⟩
  refine lc_list (xs := natV (g.take tb.length)) (fun i H7 => H7 D = some (.lst (natV (((g.take tb.length).map fun x => (dd g).idxOf x).take i))) ∧ Same H6 H7) ⟨upd_same, same_new hD⟩ (fun i H7 _ h => SqL.of (h.2 _ _ hsl6)) ?_ ?_
  · rintro i x H7 hi ⟨hD7, s7⟩
    have hi : (natV (g.take tb.length))[i]? = some x := hi
    unfold natV at hi
    rw [List.getElem?_map] at hi
    obtain ⟨y, hy, rfl⟩ := Option.map_eq_some_iff.mp hi
    have hil := (List.getElem?_eq_some_iff.mp hy).1
    refine ⟨rfl, tyes ?_⟩
    refine step _ i y _ _ D _ hy (fun x hx => List.mem_of_mem_take hx) rfl rfl ((s5.trans s6).trans s7 |> fun s => s7 _ _ (s6 _ _ hse5)) ⟨_, hD7, Evl.sz_lt (by rw [List.length_map, List.length_take]; omega), ?_, Same.off s7 hD⟩
    rw [upd_same, nextL _ i y hy]
  rintro H7 ⟨hD7, s7⟩
  have tkl2 : (natV (g.take tb.length)).length = tb.length := by
    unfold natV
    rw [List.length_map, tkl]
  rw [tkl2, List.take_of_length_le (by rw [List.length_map, tkl]; exact Nat.le_refl _)] at hD7
  have hq7 := s7 _ _ (s6 _ _ hq5)
  refine ⟨_, rfl, _, rfl, _, rfl, q, _, rfl, SqL.of hq7, fun sl2 hsl2 => ?_⟩
  rw [cut_from, natV_drop]
  have s8 := same_new (o := .lst (natV (g.drop tb.length))) hsl2
  have hsl8 : (upd H7 sl2 (.lst (natV (g.drop tb.length)))) sl2 = some (.lst (natV (g.drop tb.length))) := upd_same
  generalize upd H7 sl2 (.lst (natV (g.drop tb.length))) = H8 at *
  refine ⟨sl2, rfl, ⟨_, SqL.of hsl8⟩, fun D2 hD2 => ?_⟩
  refine lc_list (xs := natV (g.drop tb.length)) (fun i H9 => H9 D2 = some (.lst (natV (((g.drop tb.length).map fun x => (dd g).idxOf x).take i))) ∧ Same H8 H9) ⟨upd_same, same_new hD2⟩ (fun i H9 _ h => SqL.of (h.2 _ _ hsl8)) ?_ ?_
  · rintro i x H9 hi ⟨hD9, s9⟩
    have hi : (natV (g.drop tb.length))[i]? = some x := hi
    unfold natV at hi
    rw [List.getElem?_map] at hi
    obtain ⟨y, hy, rfl⟩ := Option.map_eq_some_iff.mp hi
    have hil := (List.getElem?_eq_some_iff.mp hy).1
    rw [List.length_drop] at hil
    refine ⟨rfl, tyes ?_⟩
    refine step _ i y _ _ D2 _ hy (fun x hx => List.mem_of_mem_drop hx) rfl rfl (s9 _ _ (s8 _ _ (s7 _ _ (s6 _ _ hse5)))) ⟨_, hD9, Evl.sz_lt (by rw [List.length_map, List.length_take, List.length_map, List.length_drop]; omega), ?_, Same.off s9 hD2⟩
    rw [upd_same, nextL _ i y hy]
  rintro H9 ⟨hD9, s9⟩
  have e9 : (natV (g.drop tb.length)).length = (g.drop tb.length).length := List.length_map _
  rw [e9, List.take_of_length_le (by rw [List.length_map]; exact Nat.le_refl _)] at hD9
  refine ⟨(by show 2 ≤ sizeLine; decide), fun p hp => ?_⟩
  have sp := same_new (o := .tup [V.ref D, V.ref D2]) hp
  have s09 := (((s05.trans s6).trans s7).trans s8).trans s9
  have hDD : D ≠ D2 := fun e => by
    subst e
    rw [s8 _ _ hD7] at hD2
    cases hD2
  refine k p D D2 _ (s09.free hp) ((s05.trans s6).free hD) ((((s05.trans s6).trans s7).trans s8).free hD2) hDD upd_same ?_ ?_ (s09.trans sp)
  · rw [← canon, cg, ← List.map_take]
    exact sp _ _ (s9 _ _ (s8 _ _ hD7))
  · rw [← canon, cg, ← List.map_drop]
    exact sp _ _ hD9
end
end Nm
set_option maxRecDepth 100000
set_option maxHeartbeats 4000000
/-! tables that are built row by row -/
namespace Nm
open PySem L2
/-- a list of rows that are tuples -/
def RowsAt (H : Hp) (D : Addr) (as : List Addr) (tb : List (List Int)) : Prop := H D = some (.lst (as.map V.ref)) ∧ as.length = tb.length ∧ ∀ (k : Nat) (p : Addr) (r : List Int), as[k]? = some p → tb[k]? = some r → H p = some (.tup (r.map V.int))
theorem RowsAt.nil {H : Hp} {D : Addr} : RowsAt (upd H D (.lst [])) D [] [] := ⟨upd_same, rfl, fun k p r h => by simp at h⟩
theorem RowsAt.nil' {H : Hp} {D : Addr} (h : H D = some (.lst [])) : RowsAt H D [] [] := ⟨h, rfl, fun k p r h => by simp at h⟩
theorem RowsAt.same {H H' : Hp} {D : Addr} {as : List Addr} {tb : List (List Int)} (h : RowsAt H D as tb) (s : Same H H') : RowsAt H' D as tb := ⟨s _ _ h.1, h.2.1, fun k p r h1 h2 => s _ _ (h.2.2 k p r h1 h2)⟩
theorem RowsAt.add {H : Hp} {D p : Addr} {as : List Addr} {tb : List (List Int)} {r : List Int} (h : RowsAt H D as tb) (hp : H p = some (.tup (r.map V.int))) : RowsAt (upd H D (.lst (as.map V.ref ++ [V.ref p]))) D (as ++ [p]) (tb ++ [r]) := by
  obtain ⟨h1, h2, h3⟩ := h
  have ne : ∀ q xs, H q = some (.tup xs) → q ≠ D := fun q xs e z => by
    subst z
    rw [h1] at e
    cases e
  refine ⟨by rw [upd_same, List.map_append]; rfl, by rw [List.length_append, List.length_append, h2]; rfl, fun k q r' hq hr => ?_⟩
  by_cases c : k < as.length
  · rw [List.getElem?_append_left c] at hq
    rw [List.getElem?_append_left (by omega)] at hr
    have := h3 k q r' hq hr
    rw [upd_ne (ne _ _ this)]
    exact this
  · have hk := (List.getElem?_eq_some_iff.mp hq).1
    rw [List.length_append, List.length_singleton] at hk
    have e : k = as.length := by omega
    subst e
    rw [List.getElem?_append_right (Nat.le_refl _), Nat.sub_self] at hq
    rw [List.getElem?_append_right (by omega), h2, Nat.sub_self] at hr
    cases hq
    cases hr
    rw [upd_ne (ne _ _ hp)]
    exact hp
theorem RowsAt.addI {H : Hp} {D p : Addr} {as : List Addr} {tb : List (List Int)} {r : List Int} {i : Nat} (h : RowsAt H D as (tb.take i)) (hr : tb[i]? = some r) (hp : H p = some (.tup (r.map V.int))) : RowsAt (upd H D (.lst (as.map V.ref ++ [V.ref p]))) D (as ++ [p]) (tb.take (i + 1)) := by
  have e : tb.take (i + 1) = tb.take i ++ [r] := by
    rw [List.take_add_one, hr]
    rfl
  rw [e]
  exact h.add hp
theorem RowsAt.tbl {H : Hp} {D t : Addr} {as : List Addr} {tb : List (List Int)} (h : RowsAt H D as tb) (ht : H t = some (.tup (as.map V.ref))) : TblAt H t tb := ⟨as, ht, h.2.1, h.2.2⟩
theorem RowsAt.len {H : Hp} {D : Addr} {as : List Addr} {tb : List (List Int)} (h : RowsAt H D as tb) : (as.map V.ref).length = tb.length := by rw [List.length_map, h.2.1]
/-- tuple(a list) -/
def rTupL (K : PySem.W.Frag) : List V → Hp → VK → Prop := fun xs H Q => ∃ p ys, xs = [.ref p] ∧ SqL K H p ys ∧ ∀ l, H l = none → Q (.ref l) (upd H l (.tup ys))
section
variable {X : Cx}
theorem call_tupL : CallR X (.type "tuple") (rTupL X.K) := fun pins s σ H xs us Q I r h => by
  obtain ⟨p, ys, e, h1, h2⟩ := h
  exact call_tuple_of pins s σ H xs us Q I r ⟨p, ys, e, .inl ⟨h1, h2⟩⟩
def rInt1 : List V → Hp → VK → Prop := fun xs H Q => (∃ i, xs = [.int i] ∧ Q (.int i) H) ∨ ∃ k, xs = [.bl k] ∧ Q (.int (if k then 1 else 0)) H
theorem call_int1' : CallR X (.type "int") rInt1 := call_int1
end
structure TxtR (mg : Str → Option Value) : Prop extends TxtP mg where
  int : mg "int" = none
  sum : mg "sum" = none
section
variable {P : Program} {w : World} {K : PySem.W.Frag} {mg : Str → Option Value} {base : Heap}
/-! ### _law_times, by 1 -/
def spTimes : Sp := fun vs H Q _ => ∃ (t : Addr) (tb : List (List Int)) (m : Nat), vs = [.ref t, .int 1] ∧ TblAt H t tb ∧ TblOk tb m ∧
  ∀ (p : Addr) (H' : Hp), TblAt H' p tb → Same H H' → Q (.ref p) H'
abbrev nTi : List Str := ["_law_weighed", "_law_number", "_law_row", "_law_entry"]
theorem scTi : FnScope nTi ["_law_weighed", "_law_number"] (defScope sTimes) := ⟨rfl, rfl, rfl, by decide +kernel, rfl, by decide +kernel, by decide +kernel⟩
abbrev coTi : Scope := { kind := .function, names := [(".0", .local), ("_law_row", .local), ("tuple", .globalImplicit), ("_law_number", .cell)], isGenerator := false, isCoroutine := false }
abbrev eTi (K : PySem.W.Frag) : TE := tLc (iTup K (tVar 2)) (gName 3) tYes (tOp (rI CMul fun i j => .int (i * j)) (tVar 3) (tVar 1)) [3]
theorem ok_times {f : Addr} {fd : FuncData} (F : Fun K "_law_times" "_law_times" sTimes f fd) (T : TxtR mg) : FnOk P w K mg base CX0 1 f fd ["_law_weighed", "_law_number"] spTimes := by
  refine F.ok scTi (fun vs H Q E h => ?_) (fun cdv A outer s H vs Q E hr h => ?_)
  · obtain ⟨_, _, _, rfl, _⟩ := h
    rfl
  obtain ⟨t, tb, m, rfl, ⟨ts, ht, htl, hts⟩, ok, k⟩ := h
  refine ⟨_, pss_one (ps_ret (pe_callTy call_tupL (by rfl) T.tuple (by decide +kernel) (pa_cons
      (pe_lc (own := [("_law_row", 2)]) (g := gName 2) (tt := tYes) (te := tCB (rTupL K) (tCons (eTi K) tNil)) rfl scTi.nd (pi_tup (pv 0)) (blkOk_by (N := nTi) (sc := defScope sTimes) (by decide +kernel))
        (fun _ _ _ _ _ => pg_name (i := 2) scTi.nd rfl (Or.inl rfl)) (fun _ _ _ _ _ => pts_nil)
        (fun _ _ _ _ _ => by
          refine pe_callTy call_tupL ?z (by exact T.tuple) (by decide +kernel) (pa_cons ?y pa_nil)
          case z => rfl
          case y =>
            refine pe_lc (own := [("_law_entry", 3)]) (g := gName 3) (tt := tYes) (te := tOp (rI CMul fun i j => .int (i * j)) (tVar 3) (tVar 1)) rfl scTi.nd ?a ?b ?c ?d ?e
            case a => exact pi_tup (pv 2)
            case b => exact (blkOk_by (N := nTi) (sc := coTi) (by decide +kernel))
            case c => intro _ _ _ _ _; exact pg_name (i := 3) scTi.nd rfl (.inl rfl)
            case d => intro _ _ _ _ _; exact pts_nil
            case e => intro _ _ _ _ _; exact pe_op op_mul (pv 3) (pv 1))) pa_nil))), ?_⟩
  have n8 := ok.n8
  have m8 := ok.m8
  refine ⟨_, rfl, t, rfl, ⟨_, SqT.of ht⟩, fun D hD => ?_⟩
  refine lc_it (walk_tup (xs := ts.map V.ref)) (fun i H1 => ∃ as, RowsAt H1 D as (tb.take i) ∧ Same H H1) ⟨[], RowsAt.nil, same_new hD⟩ (fun i H1 _ ⟨_, _, s⟩ => SqT.of (s _ _ ht)) ?_ ?_
  · rintro i x H2 H1 hi ⟨as, R, s1⟩ ⟨rfl, hx⟩
    rw [List.length_map] at hi
    rw [List.getElem?_map] at hx
    obtain ⟨a, ha, rfl⟩ := Option.map_eq_some_iff.mp hx
    obtain ⟨r, hr⟩ : ∃ r, tb[i]? = some r := ⟨_, List.getElem?_eq_getElem (by omega)⟩
    have hHa := hts i a r ha hr
    have hrm := ok.rm r (List.mem_of_getElem? hr)
    refine ⟨rfl, tyes ?_⟩
    refine ⟨_, rfl, a, rfl, ⟨_, SqT.of (s1 _ _ hHa)⟩, fun D2 hD2 => ?_⟩
    refine lc_it (walk_tup (xs := r.map V.int)) (fun j H3 => H3 D2 = some (.lst ((r.take j).map V.int)) ∧ Same H1 H3) ⟨upd_same, same_new hD2⟩ (fun j H3 _ h => SqT.of (h.2 _ _ (s1 _ _ hHa))) ?_ ?_
    · rintro j y H4 H3 hj ⟨hD3, s3⟩ ⟨rfl, hy⟩
      rw [List.getElem?_map] at hy
      obtain ⟨z, hz, rfl⟩ := Option.map_eq_some_iff.mp hy
      refine ⟨rfl, tyes ?_⟩
      refine ⟨_, rfl, _, rfl, _, _, rfl, rfl, .inr ⟨by decide, by decide⟩, _, hD3, Evl.sz_lt (by rw [List.length_map, List.length_take]; omega), ?_, Same.off s3 hD2⟩
      rw [upd_same, List.take_add_one, hz, List.map_append]
      show some (HO.lst (_ ++ [V.int (z * 1)])) = _
      rw [Int.mul_one]
      rfl
    · rintro H3 ⟨hD3, s3⟩
      rw [List.length_map, List.take_length] at hD3
      refine ⟨D2, _, rfl, SqL.of hD3, fun p hp => ?_⟩
      have s4 := s3.trans (same_new (o := .tup (r.map V.int)) hp)
      have R4 := (R.same s4)
      have hl : (as.map V.ref).length ≤ 8 := by rw [R.len, List.length_take]; omega
      exact ⟨_, R4.1, Evl.sz_lt (by omega), as ++ [p], R4.addI hr upd_same, Same.off (s1.trans s4) hD⟩
  · rintro H1 ⟨as, R, s1⟩
    rw [List.length_map, htl, List.take_length] at R
    refine ⟨D, _, rfl, SqL.of R.1, fun p hp => ?_⟩
    have s2 := same_new (o := .tup (as.map V.ref)) hp
    exact k p _ ((R.same s2).tbl upd_same) (s1.trans s2)
end
end Nm
set_option maxRecDepth 100000
set_option maxHeartbeats 4000000
/-! _law_by_base, _law_behind_due -/
namespace Nm
open PySem L2
def bbT (a b : List Nat) : List (List Int) := a.map fun p => b.map fun q => if p = q then 1 else 0
def prodT (t1 t2 : List (List Int)) (m : Nat) : List (List Int) := t1.map fun r => (List.range m).map fun q => ((List.range t2.length).map fun k => r.getD k 0 * (t2.getD k []).getD q 0).sum
section
variable {P : Program} {w : World} {K : PySem.W.Frag} {mg : Str → Option Value} {base : Heap}
def spBB : Sp := fun vs H Q _ => ∃ (l1 l2 : Addr) (a b : List Nat), vs = [.ref l1, .ref l2] ∧ H l1 = some (.lst (natV a)) ∧ H l2 = some (.lst (natV b)) ∧ a.length ≤ 8 ∧ b.length ≤ 8 ∧
  ∀ (p : Addr) (H' : Hp), TblAt H' p (bbT a b) → Same H H' → Q (.ref p) H'
abbrev nBB : List Str := ["_law_one", "_law_other", "_law_p", "_law_q"]
theorem scBB : FnScope nBB ["_law_one", "_law_other"] (defScope sByBase) := ⟨rfl, rfl, rfl, by decide +kernel, rfl, by decide +kernel, by decide +kernel⟩
abbrev coBB : Scope := { kind := .function, names := [(".0", .local), ("_law_p", .cell), ("tuple", .globalImplicit), ("_law_other", .cell)], isGenerator := false, isCoroutine := false }
abbrev eBB (K : PySem.W.Frag) : TE := tLc (iList K (tVar 1)) (gName 3) tYes (tCB rInt1 (tCons (tOp rEq (tVar 2) (tVar 3)) tNil)) [3]
theorem ok_bb {f : Addr} {fd : FuncData} (F : Fun K "_law_by_base" "_law_by_base" sByBase f fd) (T : TxtR mg) : FnOk P w K mg base CX0 1 f fd ["_law_one", "_law_other"] spBB := by
  refine F.ok scBB (fun vs H Q E h => ?_) (fun cdv A outer s H vs Q E hr h => ?_)
  · obtain ⟨_, _, _, _, rfl, _⟩ := h
    rfl
  obtain ⟨l1, l2, a, b, rfl, h1, h2, a8, b8, k⟩ := h
  refine ⟨_, pss_one (ps_ret (pe_callTy call_tupL (by rfl) T.tuple (by decide +kernel) (pa_cons
      (pe_lc (own := [("_law_p", 2)]) (g := gName 2) (tt := tYes) (te := tCB (rTupL K) (tCons (eBB K) tNil)) rfl scBB.nd (pi_list (pv 0)) (blkOk_by (N := nBB) (sc := defScope sByBase) (by decide +kernel))
        (fun _ _ _ _ _ => pg_name (i := 2) scBB.nd rfl (Or.inr rfl)) (fun _ _ _ _ _ => pts_nil)
        (fun _ _ _ _ _ => by
          refine pe_callTy call_tupL ?z (by exact T.tuple) (by decide +kernel) (pa_cons ?y pa_nil)
          case z => rfl
          case y =>
            refine pe_lc (own := [("_law_q", 3)]) (g := gName 3) (tt := tYes) (te := tCB rInt1 (tCons (tOp rEq (tVar 2) (tVar 3)) tNil)) rfl scBB.nd ?a ?b ?c ?d ?e
            case a => exact pi_list (pv 1)
            case b => exact (blkOk_by (N := nBB) (sc := coBB) (by decide +kernel))
            case c => intro _ _ _ _ _; exact pg_name (i := 3) scBB.nd rfl (.inl rfl)
            case d => intro _ _ _ _ _; exact pts_nil
            case e =>
              intro _ _ _ _ _
              refine pe_callTy call_int1' ?f (by exact T.int) (by decide +kernel) (pa_cons (pe_cmpR op_eq (pv 2) (pv 3) (nomark _)) pa_nil)
              case f => rfl)) pa_nil))), ?_⟩
  refine ⟨_, rfl, l1, rfl, ⟨_, SqL.of h1⟩, fun D hD => ?_⟩
  refine lc_it (walk_list (xs := natV a)) (fun i H1 => ∃ as, RowsAt H1 D as ((bbT a b).take i) ∧ Same H H1) ⟨[], RowsAt.nil, same_new hD⟩ (fun i H1 _ ⟨_, _, s⟩ => SqL.of (s _ _ h1)) ?_ ?_
  · rintro i x H2 H1 hi ⟨as, R, s1⟩ ⟨rfl, hx⟩
    unfold natV at hx
    rw [List.getElem?_map] at hx
    obtain ⟨y, hy, rfl⟩ := Option.map_eq_some_iff.mp hx
    have hil := (List.getElem?_eq_some_iff.mp hy).1
    refine ⟨rfl, tyes ?_⟩
    refine ⟨_, rfl, l2, rfl, ⟨_, SqL.of (s1 _ _ h2)⟩, fun D2 hD2 => ?_⟩
    refine lc_it (walk_list (xs := natV b)) (fun j H3 => H3 D2 = some (.lst (((b.take j).map fun q => if y = q then (1 : Int) else 0).map V.int)) ∧ Same H1 H3) ⟨upd_same, same_new hD2⟩ (fun j H3 _ h => SqL.of (h.2 _ _ (s1 _ _ h2))) ?_ ?_
    · rintro j v H4 H3 hj ⟨hD3, s3⟩ ⟨rfl, hv⟩
      unfold natV at hv
      rw [List.getElem?_map] at hv
      obtain ⟨z, hz, rfl⟩ := Option.map_eq_some_iff.mp hv
      refine ⟨rfl, tyes ?_⟩
      refine ⟨_, rfl, _, rfl, rfl, .inr ⟨_, rfl, _, hD3, Evl.sz_lt (by rw [List.length_map, List.length_map, List.length_take]; omega), ?_, Same.off s3 hD2⟩⟩
      rw [upd_same, List.take_add_one, hz, List.map_append, List.map_append]
      have e : decide (V.int (y : Int) = V.int (z : Int)) = decide (y = z) := by
        by_cases c : y = z
        · rw [c, decide_eq_true rfl, decide_eq_true rfl]
        · rw [decide_eq_false c, decide_eq_false (fun q => c (by have := V.int.inj q; omega))]
      rw [e]
      show some (HO.lst (_ ++ [V.int (if decide (y = z) = true then 1 else 0)])) = some (HO.lst (_ ++ [V.int (if y = z then 1 else 0)]))
      by_cases c : y = z
      · rw [decide_eq_true c, if_pos rfl, if_pos c]
      · rw [decide_eq_false c, if_neg (by decide), if_neg c]
    · rintro H3 ⟨hD3, s3⟩
      have lb : (natV b).length = b.length := List.length_map _
      rw [lb, List.take_length] at hD3
      refine ⟨D2, _, rfl, SqL.of hD3, fun p hp => ?_⟩
      have s4 := s3.trans (same_new (o := .tup ((b.map fun q => if y = q then (1 : Int) else 0).map V.int)) hp)
      have R4 := R.same s4
      have hl : (as.map V.ref).length ≤ 8 := by rw [R.len, List.length_take]; unfold bbT; rw [List.length_map]; omega
      exact ⟨_, R4.1, Evl.sz_lt (by omega), as ++ [p], R4.addI (by unfold bbT; rw [List.getElem?_map, hy]; rfl) upd_same, Same.off (s1.trans s4) hD⟩
  · rintro H1 ⟨as, R, s1⟩
    have la : (natV a).length = (bbT a b).length := by unfold natV bbT; rw [List.length_map, List.length_map]
    rw [la, List.take_length] at R
    refine ⟨D, _, rfl, SqL.of R.1, fun p hp => ?_⟩
    have s2 := same_new (o := .tup (as.map V.ref)) hp
    exact k p _ ((R.same s2).tbl upd_same) (s1.trans s2)
/-! ### _law_behind_due -/
def spBh : Sp := fun vs H Q _ => ∃ (p1 p2 : Addr) (t1 t2 : List (List Int)) (m : Nat), vs = [.ref p1, .ref p2] ∧ TblAt H p1 t1 ∧ TblAt H p2 t2 ∧ TblOk t1 t2.length ∧ TblOk t2 m ∧ (∀ r ∈ t1, ∀ x ∈ r, 0 ≤ x ∧ x ≤ 1000) ∧
  ∀ (p : Addr) (H' : Hp), TblAt H' p (prodT t1 t2 m) → Same H H' → Q (.ref p) H'
abbrev nBh : List Str := ["_law_first", "_law_last", "_law_found", "_law_row", "_law_q", "_law_k"]
theorem scBh : FnScope nBh ["_law_first", "_law_last"] (defScope sBehind) := ⟨rfl, rfl, rfl, by decide +kernel, rfl, by decide +kernel, by decide +kernel⟩
abbrev coBh : Scope := { kind := .function, names := [(".0", .local), ("_law_q", .cell), ("sum", .globalImplicit), ("range", .globalImplicit), ("len", .globalImplicit), ("_law_last", .cell), ("_law_row", .cell)], isGenerator := false, isCoroutine := false }
abbrev mBh (K : PySem.W.Frag) : TE := tOp (rI CMul fun i j => .int (i * j)) (tOp (rIxT K) (tVar 3) (tVar 5)) (tOp (rIxT K) (tOp (rIxT K) (tVar 1) (tVar 5)) (tVar 4))
abbrev rLenS (K : PySem.W.Frag) : List V → Hp → VK → Prop := fun xs H Q => ∃ p ys, xs = [.ref p] ∧ (SqL K H p ys ∨ SqT K H p ys) ∧ Q (.int ys.length) H
abbrev eBh (K : PySem.W.Frag) : TE := tLc (iRng1 (tCons (tCB (rLenS K) (tCons (tVar 1) tNil)) tNil)) (gName 5) tYes (mBh K) [5]
theorem ok_bh {f : Addr} {fd : FuncData} (F : Fun K "_law_behind_due" "_law_behind_due" sBehind f fd) (T : TxtR mg) : FnOk P w K mg base CX0 1 f fd ["_law_first", "_law_last"] spBh := by
  refine F.ok scBh (fun vs H Q E h => ?_) (fun cdv A outer s H vs Q E hr h => ?_)
  · obtain ⟨_, _, _, _, _, rfl, _⟩ := h
    rfl
  obtain ⟨p1, p2, t1, t2, m, rfl, ⟨as1, hp1, hl1, hs1⟩, ⟨as2, hp2, hl2, hs2⟩, ok1, ok2, sm, k⟩ := h
  refine ⟨_, Evl.pss_cut (ps_set (i := 2) scBh.nd rfl (Or.inl rfl) (pe_lst pa_nil))
    (Evl.pss_cut (ps_for PassesOwn.never rfl (pi_tup (pv 0)) (pg_name (i := 3) scBh.nd rfl (Or.inr rfl))
      (pss_one (ps_expr (pe_bm PySem.F.plainAttrs_list PySem.F.slot_list_append PySem.F.type_list_append mt_append (pv 2) (pa_cons (pe_callTy call_tupL (by rfl) T.tuple (by decide +kernel) (pa_cons
        (pe_lc (own := [("_law_q", 4)]) (g := gName 4) (tt := tYes) (te := tCB (rSum K) (tCons (eBh K) tNil)) rfl scBh.nd (pi_range1 (by rfl) T.range (pa_cons (pe_callB call_len_seq (by rfl) T.len PySem.boot_len (pa_cons (pe_ix ix_tup (pv 1) pe_int (fun _ _ => rfl)) pa_nil)) pa_nil)) (blkOk_by (N := nBh) (sc := defScope sBehind) (by decide +kernel))
          (fun _ _ _ _ _ => pg_name (i := 4) scBh.nd rfl (Or.inr rfl)) (fun _ _ _ _ _ => pts_nil)
          (fun _ _ _ _ _ => by
            refine pe_callB (cr_sum rfl) ?z (by exact T.sum) (by decide +kernel) (pa_cons ?y pa_nil)
            case z => rfl
            case y =>
              refine pe_lc (own := [("_law_k", 5)]) (g := gName 5) (tt := tYes) (te := mBh K) rfl scBh.nd ?a ?b ?c ?d ?e
              case a => exact pi_range1 (by rfl) T.range (pa_cons (pe_callB call_len_seq (by rfl) T.len PySem.boot_len (pa_cons (pv 1) pa_nil)) pa_nil)
              case b => exact (blkOk_by (N := nBh) (sc := coBh) (by decide +kernel))
              case c => intro _ _ _ _ _; exact pg_name (i := 5) scBh.nd rfl (.inl rfl)
              case d => intro _ _ _ _ _; exact pts_nil
              case e => intro _ _ _ _ _; exact pe_op op_mul (pe_ix ix_tup (pv 3) (pv 5) (fun _ _ => rfl)) (pe_ix ix_tup (pe_ix ix_tup (pv 1) (pv 5) (fun _ _ => rfl)) (pv 4) (fun _ _ => rfl)))) pa_nil)) pa_nil)))))
    (pss_one (ps_ret (pe_callTy call_tupL (by rfl) T.tuple (by decide +kernel) (pa_cons (pv 2) pa_nil))))), ?_⟩
  have n1 := ok1.n1
  have n8 := ok1.n8
  have q1 := ok2.n1
  have q8 := ok2.n8
  have m8 := ok2.m8
  have row2 : ∀ (k : Nat), k < t2.length → ∃ (b : Addr) (r : List Int), as2[k]? = some b ∧ t2[k]? = some r ∧ r.length = m ∧ H b = some (.tup (r.map V.int)) := fun k hk => by
    obtain ⟨b, hb⟩ : ∃ b, as2[k]? = some b := ⟨_, List.getElem?_eq_getElem (by omega)⟩
    have hr := List.getElem?_eq_getElem hk
    exact ⟨b, _, hb, hr, ok2.rm _ (List.mem_of_getElem? hr), hs2 k b _ hb hr⟩
  obtain ⟨b0, r0, hb0, hr0, hrm0, hHb0⟩ := row2 0 (by omega)
  have pl : (prodT t1 t2 m).length = t1.length := List.length_map _
  refine ⟨fun σ H1 => ∃ D, σ = [some (.ref p1), some (.ref p2), some (.ref D), none, none, none] ∧ H D = none ∧ H1 D = some (.lst []) ∧ Same H H1, ?_, ?_⟩
  · exact ⟨(by show 0 ≤ sizeLine; decide), fun D hD => ⟨D, rfl, hD, upd_same, same_new hD⟩⟩
  rintro σ H1 ⟨D, rfl, hD0, hD1, s1⟩
  refine ⟨fun σ H2 => ∃ v3 as, σ = [some (.ref p1), some (.ref p2), some (.ref D), v3, none, none] ∧ RowsAt H2 D as (prodT t1 t2 m) ∧ Same H H2, ?_, ?_⟩
  · refine ⟨_, rfl, p1, rfl, ⟨_, SqT.of (s1 _ _ hp1)⟩, ?_⟩
    refine for_it (walk_tup (xs := as1.map V.ref)) (fun i σ H2 => ∃ v3 as, σ = [some (.ref p1), some (.ref p2), some (.ref D), v3, none, none] ∧ RowsAt H2 D as ((prodT t1 t2 m).take i) ∧ Same H H2)
      ⟨none, [], rfl, RowsAt.nil' hD1, s1⟩ (fun i σ H2 _ ⟨_, _, _, _, s⟩ => SqT.of (s _ _ hp1)) ?_ ?_
    · rintro i x σ H3 H2 hi ⟨v3, as, rfl, R, s2⟩ ⟨rfl, hx⟩
      rw [List.length_map] at hi
      rw [List.getElem?_map] at hx
      obtain ⟨a, ha, rfl⟩ := Option.map_eq_some_iff.mp hx
      obtain ⟨r, hr⟩ : ∃ r, t1[i]? = some r := ⟨_, List.getElem?_eq_getElem (by omega)⟩
      have hHa := hs1 i a r ha hr
      have hrm := ok1.rm r (List.mem_of_getElem? hr)
      have hrs := sm r (List.mem_of_getElem? hr)
      have hPi : (prodT t1 t2 m)[i]? = some ((List.range m).map fun q => ((List.range t2.length).map fun k => r.getD k 0 * (t2.getD k []).getD q 0).sum) := by
        unfold prodT
        rw [List.getElem?_map, hr]
        rfl
      generalize hF : (fun q => ((List.range t2.length).map fun k => r.getD k 0 * (t2.getD k []).getD q 0).sum) = F at hPi
      have hl0 : (r0.map V.int).length = m := by rw [List.length_map, hrm0]
      have hl2' : (as2.map V.ref).length = t2.length := by rw [List.length_map, hl2]
      refine ⟨_, rfl, .inl ⟨rfl, _, SqL.of R.1⟩, ?_⟩
      refine ⟨_, rfl, p2, _, _, V.ref b0, rfl, rfl, SqT.of (s2 _ _ hp2), atI_nat (j := 0) (by rw [List.getElem?_map, hb0]; rfl), b0, _, rfl, .inr (SqT.of (s2 _ _ hHb0)), _, rfl, by rw [hl0]; omega, by rw [hl0]; omega, fun D2 hD2 => ?_⟩
      rw [hl0]
      refine lc_range (lo := 0) (n := ((m : Nat) : Int).toNat) (fun q H4 => H4 D2 = some (.lst (((List.range q).map F).map V.int)) ∧ Same H2 H4) ⟨upd_same, same_new hD2⟩ ?_ ?_
      · rintro q H4 hq ⟨hD24, s4⟩
        rw [Int.toNat_natCast] at hq
        rw [show (0 : Int) + ((q : Nat) : Int) = ((q : Nat) : Int) from Int.zero_add _]
        have s04 := s2.trans s4
        refine ⟨rfl, tyes ?_⟩
        refine ⟨_, rfl, p2, _, rfl, .inr (SqT.of (s04 _ _ hp2)), _, rfl, by rw [hl2']; omega, by rw [hl2']; omega, fun D3 hD3 => ?_⟩
        rw [hl2']
        refine lc_range (lo := 0) (n := ((t2.length : Nat) : Int).toNat) (fun k H5 => H5 D3 = some (.lst (((List.range k).map fun k => r.getD k 0 * (t2.getD k []).getD q 0).map V.int)) ∧ Same H4 H5) ⟨upd_same, same_new hD3⟩ ?_ ?_
        · rintro k H5 hk ⟨hD35, s5⟩
          rw [Int.toNat_natCast] at hk
          rw [show (0 : Int) + ((k : Nat) : Int) = ((k : Nat) : Int) from Int.zero_add _]
          have s05 := s04.trans s5
          obtain ⟨b, r2, hb, hr2, hrm2, hHb⟩ := row2 k hk
          have hrk : r[k]? = some (r.getD k 0) := by
            rw [List.getD_eq_getElem?_getD, List.getElem?_eq_getElem (by omega)]
            rfl
          have hr2q : r2[q]? = some (r2.getD q 0) := by
            rw [List.getD_eq_getElem?_getD, List.getElem?_eq_getElem (by omega)]
            rfl
          have t2k : t2.getD k [] = r2 := by
            rw [List.getD_eq_getElem?_getD, hr2]
            rfl
          have hsz := hrs _ (List.mem_of_getElem? hrk)
          refine ⟨rfl, tyes ?_⟩
          refine ⟨_, rfl, _, rfl, a, _, _, V.int (r.getD k 0), rfl, rfl, SqT.of (s05 _ _ hHa), atI_nat (by rw [List.getElem?_map, hrk]; rfl), _, rfl, _, rfl, p2, _, _, V.ref b, rfl, rfl, SqT.of (s05 _ _ hp2), atI_nat (by rw [List.getElem?_map, hb]; rfl), _, rfl, b, _, _, V.int (r2.getD q 0), rfl, rfl, SqT.of (s05 _ _ hHb), atI_nat (by rw [List.getElem?_map, hr2q]; rfl), _, _, rfl, rfl, .inl ⟨by omega, by omega⟩, ?_⟩
          refine ⟨_, hD35, Evl.sz_lt (by rw [List.length_map, List.length_map, List.length_range]; omega), ?_, Same.off s5 hD3⟩
          rw [upd_same, List.range_succ, List.map_append, List.map_append]
          show some (HO.lst (_ ++ [V.int (r.getD k 0 * r2.getD q 0)])) = some (HO.lst (_ ++ [V.int (r.getD k 0 * (t2.getD k []).getD q 0)]))
          rw [t2k]
        · rintro H5 ⟨hD35, s5⟩
          rw [Int.toNat_natCast] at hD35
          refine ⟨D3, _, rfl, SqL.of hD35, _, s5 _ _ hD24, Evl.sz_lt (by rw [List.length_map, List.length_map, List.length_range]; omega), ?_, Same.off (s4.trans s5) hD2⟩
          rw [upd_same, List.range_succ, List.map_append, List.map_append]
          show some (HO.lst (_ ++ [V.int _])) = some (HO.lst (_ ++ [V.int (F q)]))
          rw [← hF]
      · rintro H4 ⟨hD24, s4⟩
        rw [Int.toNat_natCast] at hD24
        refine ⟨D2, _, rfl, SqL.of hD24, fun p hp => ?_⟩
        have s5 := s4.trans (same_new (o := .tup (((List.range m).map F).map V.int)) hp)
        have R5 := R.same s5
        have hl : (as.map V.ref).length ≤ 8 := by rw [R.len, List.length_take]; omega
        refine ⟨D, _, _, rfl, rfl, R5.1, Evl.sz_lt (by omega), ?_⟩
        exact ⟨_, as ++ [p], rfl, R5.addI hPi upd_same, Same.off (s2.trans s5) hD0⟩
    · rintro σ H2 ⟨v3, as, rfl, R, s2⟩
      rw [List.length_map, hl1, ← pl, List.take_length] at R
      exact ⟨v3, as, rfl, R, s2⟩
  rintro σ H2 ⟨v3, as, rfl, R, s2⟩
  refine ⟨_, rfl, D, _, rfl, SqL.of R.1, fun p hp => ?_⟩
  have s3 := same_new (o := .tup (as.map V.ref)) hp
  exact k p _ ((R.same s3).tbl upd_same) (s2.trans s3)
end
end Nm
set_option maxRecDepth 100000
set_option maxHeartbeats 4000000
namespace Nm
open PySem L2
def nameN (k : Nat) : Str := ("n" : Str) ++ ((toString (k : Int) : String) : Str)
theorem nameN_w : ∀ k < 100, isWordB (nameN k) = true := by decide +kernel
theorem nameN_nd : ((List.range 100).map nameN).Nodup := by decide +kernel
section
variable {κ : Type} [DecidableEq κ]
theorem val_none_of {kvs : List (κ × V)} {k : κ} (h : k ∉ kvs.map (·.1)) : valV kvs k = none := by
  cases e : valV kvs k with
  | none => rfl
  | some v => exact absurd (valV_in e) h
end
theorem merge_nd : ∀ {kvs acc : List (Key × V)}, ((acc ++ kvs).map (·.1)).Nodup → mergeK acc kvs = acc ++ kvs
  | [], acc, _ => (List.append_nil _).symm
  | kv :: r, acc, h => by
    show mergeK (putK acc kv.1 kv.2) r = acc ++ kv :: r
    have hn : kv.1 ∉ acc.map (·.1) := fun hm => by
      rw [List.map_append, List.nodup_append] at h
      exact h.2.2 kv.1 hm kv.1 (by simp) rfl
    rw [putK_new _ (val_none_of hn)]
    have e : acc ++ kv :: r = (acc ++ [(kv.1, kv.2)]) ++ r := by simp
    rw [e] at h ⊢
    exact merge_nd h
def natOf : V → Nat
  | .int x => x.toNat
  | _ => 0
theorem perm_nat {ys : List V} {l : List Nat} (h : ys.Perm (natV l)) : ∃ zs : List Nat, ys = natV zs ∧ zs.Perm l := by
  refine ⟨ys.map natOf, ?_, ?_⟩
  · unfold natV
    rw [List.map_map]
    conv => lhs; rw [← List.map_id ys]
    refine List.map_congr_left fun v hv => ?_
    obtain ⟨x, _, rfl⟩ := List.mem_map.mp (h.subset hv)
    rfl
  · have := h.map natOf
    unfold natV at this
    rw [List.map_map] at this
    have e : l.map (natOf ∘ fun (i : Nat) => V.int (i : Int)) = l := by
      conv => rhs; rw [← List.map_id l]
      rfl
    rw [e] at this
    exact this
theorem nameN_len : ∀ k : Nat, k < 100 → ("n" : Str).length + ((toString (k : Int) : String) : Str).length ≤ 100 := by decide +kernel
theorem log_small {i : Nat} (h : i < 1000) : (0 + (i : Int)).natAbs.log2 < 1920 := by
  have e : (0 + (i : Int)).natAbs = i := by omega
  rw [e]
  have := Nat.log2_le_self i
  omega
/-- the pairs (place, seat) -/
def seatKV (od : List Nat) (i : Nat) : List (Key × V) := (od.zipIdx.take i).map fun p => (Sum.inl (p.1 : Int), V.int (p.2 : Int))
theorem seat_keys (od : List Nat) : (seatKV od od.length).map (·.1) = od.map fun (x : Nat) => (Sum.inl (x : Int) : Key) := by
  unfold seatKV
  rw [List.take_of_length_le (by simp), List.map_map]
  have : od = od.zipIdx.map (·.1) := by simp
  conv => rhs; rw [this]
  rw [List.map_map]
  rfl
theorem seat_nd {od : List Nat} (h : od.Nodup) : ((seatKV od od.length).map (·.1)).Nodup := by
  rw [seat_keys]
  refine List.Pairwise.map _ (fun a b hab => ?_) h
  exact fun e => hab (by have := Sum.inl.inj e; omega)
theorem seat_mem {od : List Nat} {j x : Nat} (h : od[j]? = some x) : ((Sum.inl (x : Int) : Key), V.int (j : Int)) ∈ seatKV od od.length := by
  unfold seatKV
  rw [List.take_of_length_le (by simp)]
  refine List.mem_map.mpr ⟨(x, j), ?_, rfl⟩
  rw [List.mem_zipIdx_iff_getElem?]
  exact h
theorem seat_step {od : List Nat} {i x : Nat} (h : od[i]? = some x) : seatKV od (i + 1) = seatKV od i ++ [(Sum.inl (x : Int), V.int (i : Int))] := by
  unfold seatKV
  have e : od.zipIdx[i]? = some (x, i) := by simp [h]
  rw [List.take_add_one, e, List.map_append]
  rfl
theorem paired_snoc {α β : Type} {F : α → β → Prop} : ∀ {l : List α} {m : List β} {a : α} {b : β}, Paired F l m → F a b → Paired F (l ++ [a]) (m ++ [b])
  | _, _, _, _, .nil, h => .cons h .nil
  | _, _, _, _, .cons r t, h => .cons r (paired_snoc t h)
structure TxtD (mg : Str → Option Value) : Prop extends TxtC mg where
  dict : mg "dict" = none
  enumerate : mg "enumerate" = none
  str : mg "str" = none
section
variable {P : Program} {w : World} {K : PySem.W.Frag} {mg : Str → Option Value} {base : Heap}
/-! ### _law_seated -/
def spSeated : Sp := fun vs H Q _ => ∃ (s c wd a b t ld : Addr) (cl : List Str) (m : Nat) (kvs : List (List Key × V)) (led : List Nat), vs = [.ref s, .ref wd, .ref ld] ∧ Src H s c ∧ H wd = some (.dK (worldD a b t)) ∧ wd ≠ s ∧ H b = some (.lst (cl.map V.str)) ∧ b ≠ c ∧ H t = some (.dT kvs) ∧ H ld = some (.lst (natV led)) ∧ ld ≠ c ∧
  cl.length = led.length ∧ (∀ x ∈ cl, isWordB x = true) ∧ 1 ≤ led.length ∧ led.length ≤ 100 ∧ kvs.length ≤ 4000 ∧ Ties led.length m kvs ∧
  ∀ (r wd' a' b' t' ld' : Addr) (nm cl' : List Str) (kvs' : List (List Key × V)) (led' : List Nat) (H' : Hp), H wd' = none → H a' = none → H b' = none → H t' = none → H ld' = none → H' r = some (.tup [.ref wd', .ref ld']) → WorldOk H' s c wd' a' b' t' nm cl' kvs' → nm.length = led.length → Ties nm.length m kvs' → kvs'.length ≤ 4000 →
    H' ld' = some (.lst (natV led')) → led'.length = led.length → (∀ x, x ∈ led' ↔ x ∈ led) → Src H' s c → Kp s c H H' → Q (.ref r) H'
abbrev nSeat : List Str := ["_law_source", "_law_world", "_law_led", "_law_order", "_law_names", "_law_seats", "_law_ties", "_law_one", "_law_other", "_law_kind", "_law_spot", "_law_colours", "_law_k", "_law_new", "_law_old"]
theorem scSeat : FnScope nSeat ["_law_source", "_law_world", "_law_led"] (defScope sSeated) := ⟨rfl, rfl, rfl, by decide +kernel, rfl, by decide +kernel, by decide +kernel⟩
theorem ok_seat {f : Addr} {fd : FuncData} (F : Fun K "_law_seated" "_law_seated" sSeated f fd) (T : TxtD mg) (Ga : Def P w K mg base "_law_any_order" ["_law_source", "_law_items"] 2 (spAny K)) : FnOk P w K mg base CX0 3 f fd ["_law_source", "_law_world", "_law_led"] spSeated := by
  obtain ⟨fa, fda, Ga, ma, ka, ba⟩ := Ga.ex
  refine F.ok scSeat (fun vs H Q E h => ?_) (fun cdv A outer s H vs Q E hr h => ?_)
  · obtain ⟨_, _, _, _, _, _, _, _, _, _, _, rfl, _⟩ := h
    rfl
  · obtain ⟨sa, ca, wd, a, b, t, ld, cl, m, kvs, led, rfl, S, hwd, nws, hb, nbc, ht, hld, nlc, hcl, hcw, hn1, hn2, hkl, ti, k⟩ := h
    have hu := hu_of hr
    refine ⟨_, Evl.pss_cut (ps_set (i := 3) scSeat.nd rfl (Or.inl rfl) (pe_call Ga hr (by rfl) ma ka ba .nil pass0 (pa_cons (pv 0) (pa_cons (pe_listRg rfl (by rfl) T.list (prg_1 (by rfl) T.range (pe_callB call_len_seq (by rfl) T.len PySem.boot_len (pa_cons (pv 2) pa_nil)))) pa_nil))))
      (Evl.pss_cut (ps_set (i := 4) scSeat.nd rfl (Or.inl rfl) (pe_call Ga hr (by rfl) ma ka ba .nil pass0 (pa_cons (pv 0) (pa_cons (pe_lc (own := [("_law_k", 12)]) (g := gName 12) (tt := tYes) rfl scSeat.nd (pi_range1 (by rfl) T.range (pa_cons (pe_callB call_len_seq (by rfl) T.len PySem.boot_len (pa_cons (pv 2) pa_nil)) pa_nil))
          (blkOk_by (N := nSeat) (sc := defScope sSeated) (by decide +kernel)) (fun _ _ _ _ _ => pg_name (i := 12) scSeat.nd rfl (Or.inl rfl)) (fun _ _ _ _ _ => pts_nil)
          (fun _ _ _ _ _ => pe_op op_add_str pe_str (pe_callTy call_str_int (by rfl) T.str (by decide +kernel) (pa_cons (pv 12) pa_nil)))) pa_nil))))
      (Evl.pss_cut (ps_set (i := 5) scSeat.nd rfl (Or.inl rfl) (pe_callTy (call_dictP rfl) (by rfl) T.dict (by decide +kernel) (pa_cons (pe_lc (own := [("_law_new", 13), ("_law_old", 14)]) (g := gTup K 2 (gCons (gName 13) (gCons (gName 14) gNil))) (tt := tYes) rfl scSeat.nd (pi_enum (by rfl) T.enumerate (pa_cons (pv 3) pa_nil))
          (blkOk_by (N := nSeat) (sc := defScope sSeated) (by decide +kernel)) (fun _ _ _ _ _ => pg_tup rfl (pgs_cons (pg_name (i := 13) scSeat.nd rfl (Or.inl rfl)) (pgs_cons (pg_name (i := 14) scSeat.nd rfl (Or.inl rfl)) pgs_nil))) (fun _ _ _ _ _ => pts_nil)
          (fun _ _ _ _ _ => pe_tup (pa_cons (pv 14) (pa_cons (pv 13) pa_nil)))) pa_nil)))
      (pss_cons (ps_set (i := 6) scSeat.nd rfl (Or.inl rfl) pe_dnewT)
      (Evl.pss_cut (ps_for PassesOwn.never rfl (pi_list (pe_callB cr_sortedR (by rfl) T.sorted (by decide +kernel) (pa_cons (pe_callTy (call_list_dT rfl) (by rfl) T.list (by decide +kernel) (pa_cons (pe_dget hu (pv 1) pe_str (fun _ _ => rfl)) pa_nil)) pa_nil)))
          (pg_tup rfl (pgs_cons (pg_name (i := 7) scSeat.nd rfl (.inl rfl)) (pgs_cons (pg_name (i := 8) scSeat.nd rfl (.inl rfl)) (pgs_cons (pg_name (i := 9) scSeat.nd rfl (.inl rfl)) pgs_nil))))
        (pss_cons (ps_set (i := 10) scSeat.nd rfl (Or.inl rfl) (pe_callB cr_sorted (by rfl) T.sorted (by decide +kernel) (pa_cons (pe_lst (pa_cons (pe_dget hu (pv 5) (pv 7) (fun _ _ => rfl)) (pa_cons (pe_dget hu (pv 5) (pv 8) (fun _ _ => rfl)) pa_nil))) pa_nil)))
        (pss_one (ps_dput hu (pv 6) (pe_tup (pa_cons (pe_ix ix_list (pv 10) pe_int (fun _ _ => rfl)) (pa_cons (pe_ix ix_list (pv 10) pe_int (fun _ _ => rfl)) (pa_cons (pv 9) pa_nil)))) (pe_dget hu (pe_dget hu (pv 1) pe_str (fun _ _ => rfl)) (pe_tup (pa_cons (pv 7) (pa_cons (pv 8) (pa_cons (pv 9) pa_nil)))) (fun _ _ => rfl)) rfl))))
      (Evl.pss_cut (ps_setLc (i := 11) (own := [("_law_old", 14)]) (g := gName 14) (tt := tYes) (te := tOp (rIxL K) (tDGet (tVar 1) (tC (.str "colours"))) (tVar 14)) rfl scSeat.nd rfl rfl (sw_true rfl rfl rfl (by decide +kernel)) (pi_list (pv 3))
          (blkOk_by (N := nSeat) (sc := defScope sSeated) (by decide +kernel)) (fun _ _ _ _ _ => pg_name (i := 14) scSeat.nd rfl (Or.inl rfl)) (fun _ _ _ _ _ => pts_nil)
          (fun _ _ _ _ _ => by exact pe_ix ix_list (pe_dget hu (pv 1) pe_str (fun _ _ => rfl)) (pv 14) (fun _ _ => rfl)))
      (pss_one (ps_ret (pe_tup (pa_cons (pe_disp (pps_cons pe_str (pv 4) (pps_cons pe_str (pv 11) (pps_cons pe_str (pv 6) pps_nil))) (by rfl) (by rfl) (fun z => by cases z) (by decide)) (pa_cons
          (pe_lc (own := [("_law_old", 14)]) (g := gName 14) (tt := tYes) (te := tOp (rIxL K) (tVar 2) (tVar 14)) rfl scSeat.nd (pi_list (pv 3))
          (blkOk_by (N := nSeat) (sc := defScope sSeated) (by decide +kernel)) (fun _ _ _ _ _ => pg_name (i := 14) scSeat.nd rfl (Or.inl rfl)) (fun _ _ _ _ _ => pts_nil)
          (fun _ _ _ _ _ => by exact pe_ix ix_list (pv 2) (pv 14) (fun _ _ => rfl))) pa_nil)))))))))), ?_⟩
    generalize hN : led.length = N at *
    -- order
    refine ⟨fun σ H1 => ∃ o od, σ = [some (.ref sa), some (.ref wd), some (.ref ld), some (.ref o), none, none, none, none, none, none, none, none, none, none, none] ∧ H o = none ∧ H1 o = some (.lst (natV od)) ∧ od.Perm (List.range N) ∧ Src H1 sa ca ∧ Kp sa ca H H1, ?_, ?_⟩
    · refine ⟨_, rfl, _, rfl, ld, _, rfl, .inl (SqL.of hld), _, rfl, RgOk.of_le (by omega) (by rw [List.length_map]; omega) (by omega) (by omega), fun q hq => ?_⟩
      refine ⟨sa, ca, q, _, rfl, S.new hq, SqL.of upd_same, by rw [List.length_map, hN, rgV_nat]; simp; omega, fun p ys H1 hp pm hpl S1 kp1 => ?_⟩
      rw [List.length_map, hN, rgV_nat] at pm
      obtain ⟨od, rfl, po⟩ := perm_nat pm
      have hq' : H p = none := (same_new hq).free hp
      exact ⟨p, od, rfl, hq', hpl, po, S1, (Kp.same (same_new hq)).trans kp1⟩
    rintro σ H1 ⟨o, od, rfl, ho0, ho, po, S1, kp1⟩
    have hol : od.length = N := by rw [po.length_eq]; simp
    obtain ⟨nos, noc⟩ := S.ne ho0
    obtain ⟨cs0, l0, m0, t0, S0⟩ := id S
    have nls : ld ≠ sa := ne_of hld S0.ds (by intro z; cases z)
    have nbs : b ≠ sa := ne_of hb S0.ds (by intro z; cases z)
    have nts : t ≠ sa := ne_of ht S0.ds (by intro z; cases z)
    have ntc : t ≠ ca := ne_of ht S0.dc (by intro z; cases z)
    have nwc : wd ≠ ca := ne_of hwd S0.dc (by intro z; cases z)
    have hld1 := kp1 _ _ hld nls nlc
    -- names
    refine ⟨fun σ H2 => ∃ na nm, σ = [some (.ref sa), some (.ref wd), some (.ref ld), some (.ref o), some (.ref na), none, none, none, none, none, none, none, none, none, none] ∧ H na = none ∧ H2 na = some (.lst (List.map V.str nm)) ∧ nm.Perm ((List.range N).map nameN) ∧ Src H2 sa ca ∧ Kp sa ca H1 H2, ?_, ?_⟩
    · refine ⟨_, rfl, _, rfl, ld, _, rfl, .inl (SqL.of hld1), _, rfl, by rw [List.length_map]; omega, by rw [List.length_map]; omega, fun D hD => ?_⟩
      rw [List.length_map, hN]
      refine lc_range (lo := 0) (n := N) (fun i H2 => H2 D = some (.lst (((List.range i).map nameN).map V.str)) ∧ Same H1 H2) ⟨upd_same, same_new hD⟩ ?_ ?_
      · rintro i H2 hi ⟨hD2, s2⟩
        refine ⟨rfl, tyes ?_⟩
        have hl := nameN_len i (by omega)
        refine ⟨_, rfl, _, rfl, log_small (by omega), _, _, rfl, rfl, ?_, _, hD2, Evl.sz_lt (by simp; omega), ?_, ?_⟩
        · rw [Int.zero_add]
          exact Evl.sz_of (by omega)
        · rw [upd_same, List.range_succ, List.map_append, List.map_append, Int.zero_add]
          rfl
        · intro b o e
          rw [upd_ne (ne_of_none e hD)]
          exact s2 b o e
      · rintro H2 ⟨hD2, s2⟩
        refine ⟨sa, ca, D, _, rfl, S1.same s2, SqL.of hD2, by simp; omega, fun p ys H3 hp pm hpl S3 kp3 => ?_⟩
        obtain ⟨nm, rfl, pn⟩ := perm_str pm
        have hp0 : H p = none := kp1.free S1 (s2.free hp)
        exact ⟨p, nm, rfl, hp0, hpl, pn, S3, (Kp.same s2).trans kp3⟩
    rintro σ H2 ⟨na, nm, rfl, hna0, hna, pn, S2, kp2⟩
    have hnl : nm.length = N := by rw [pn.length_eq]; simp
    obtain ⟨nns, nnc⟩ := S.ne hna0
    have ho2 := kp2 _ _ ho nos noc
    have kp02 := kp1.trans kp2
    -- seats
    refine ⟨fun σ H3 => ∃ se, σ = [some (.ref sa), some (.ref wd), some (.ref ld), some (.ref o), some (.ref na), some (.ref se), none, none, none, none, none, none, none, none, none] ∧ H3 se = some (.dK (seatKV od od.length)) ∧ Same H2 H3, ?_, ?_⟩
    · refine ⟨_, rfl, o, _, rfl, SqL.of ho2, fun D hD => ?_⟩
      refine lc_it (walk_enum (xs := natV od)) (fun i H3 => ∃ ps : List Addr, H3 D = some (.lst (ps.map V.ref)) ∧ ps.length = i ∧ Paired (fun p kv => H3 p = some (.tup [kV kv.1, kv.2])) ps (seatKV od i) ∧ Same H2 H3) ⟨[], upd_same, rfl, .nil, same_new hD⟩ (fun i H3 _ ⟨_, _, _, _, h⟩ => SqL.of (h _ _ ho2)) ?_ ?_
      · rintro i x H3 H4 hi ⟨ps, hD3, hpl, pr, s3⟩ ⟨T, x1, y1, rfl, hT, rfl, e1, e2⟩
        rw [List.length_map] at hi
        have e2 : (natV od)[i]? = some y1 := e2
        rw [List.getElem?_map] at e2
        obtain ⟨y0, hy0, rfl⟩ := Option.map_eq_some_iff.mp e2
        cases e1
        refine ⟨T, _, rfl, SqT.of upd_same, rfl, _, _, rfl, _, _, rfl, rfl, rfl, tyes ?_⟩
        refine ⟨_, rfl, _, rfl, (by show 2 ≤ sizeLine; decide), fun u hu => ?_⟩
        have sT := same_new (o := .tup [V.int (i : Nat), V.int (y0 : Int)]) hT
        have su := same_new (o := .tup [V.int (y0 : Int), V.int (i : Nat)]) hu
        have sTu := sT.trans su
        have nDu : u ≠ D := fun e => by subst e; rw [sT _ _ hD3] at hu; cases hu
        refine ⟨_, sTu _ _ hD3, Evl.sz_lt (by rw [List.length_map]; omega), ps ++ [u], by rw [upd_same, List.map_append]; rfl, by simp [hpl], ?_, ?_⟩
        · rw [seat_step hy0]
          refine paired_snoc (Paired.mapP pr fun p kv h => ?_) ?_
          · rw [upd_ne (ne_of h hD3 (by intro z; cases z))]
            exact sTu _ _ h
          · rw [upd_ne nDu]
            exact upd_same
        · intro b ob e
          rw [upd_ne (ne_of_none e hD)]
          exact sTu _ _ (s3 b ob e)
      · rintro H3 ⟨ps, hD3, hpl, pr, s3⟩
        rw [List.length_map] at pr
        refine ⟨D, ps, seatKV od od.length, rfl, SqL.of hD3, Paired.mapP pr fun p kv h => SqT.of h, fun p hp => ?_⟩
        have nd : ((seatKV od od.length).map (·.1)).Nodup := seat_nd (po.nodup_iff.mpr List.nodup_range)
        refine ⟨p, rfl, ?_, s3.trans (same_new hp)⟩
        rw [upd_same, merge_nd (acc := []) (by simpa using nd)]
        rfl
    rintro σ H3 ⟨se, rfl, hse, s3⟩
    intro t2 ht2
    have s4 := same_new (o := .dT []) ht2
    have s24 := s3.trans s4
    have S4 := S2.same s24
    have kp04 : Kp sa ca H (upd H3 t2 (.dT [])) := kp02.trans (Kp.same s24)
    have h20 : H t2 = none := kp02.free S2 (s3.free ht2)
    obtain ⟨n2s, n2c⟩ := S.ne h20
    have hwd4 := kp04 _ _ hwd nws nwc
    have hb4 := kp04 _ _ hb nbs nbc
    have ht4 := kp04 _ _ ht nts ntc
    have hld4 := kp04 _ _ hld nls nlc
    have ho4 := s24 _ _ ho2
    have hna4 := s24 _ _ hna
    have hse4 := s4 _ _ hse
    have h24 : (upd H3 t2 (.dT [])) t2 = some (.dT []) := upd_same
    have ntt : t2 ≠ t := fun e => by subst e; rw [h20] at ht; cases ht
    generalize upd H3 t2 (.dT []) = H4 at *
    -- the ties
    refine ⟨fun σ H5 => ∃ v7 v8 v9 v10 kv2, σ = [some (.ref sa), some (.ref wd), some (.ref ld), some (.ref o), some (.ref na), some (.ref se), some (.ref t2), v7, v8, v9, v10, none, none, none, none] ∧ H5 t2 = some (.dT kv2) ∧ Ties N m kv2 ∧ kv2.length ≤ 4000 ∧ (∀ b o, H4 b = some o → b ≠ t2 → H5 b = some o), ?_, ?_⟩
    · refine ⟨_, rfl, wd, _, rfl, dg_ties hwd4, t, kvs, rfl, .inl ht4, fun l bs hl hk => ?_⟩
      obtain ⟨kl, hbl⟩ := keyL_of hk
      have kl2 := kl.same (same_new (o := .lst (bs.map V.ref)) hl)
      obtain ⟨so1, so2⟩ := sort_ties kl2 ti
      refine ⟨l, _, _, rfl, SqL.of upd_same, so1, so2, fun ys p pm hp => ?_⟩
      have s5 := (same_new (o := .lst (bs.map V.ref)) hl).trans (same_new (o := .lst ys) hp)
      have kly : KeyL (upd (upd H4 l (.lst (bs.map V.ref))) p (.lst ys)) kvs ys := fun y hy => (kl.same s5) y (pm.subset hy)
      have hpp : (upd (upd H4 l (.lst (bs.map V.ref))) p (.lst ys)) p = some (.lst ys) := upd_same
      have hyl : ys.length ≤ 4000 := by rw [pm.length_eq, List.length_map]; omega
      have np2 : p ≠ t2 := fun e => by subst e; rw [same_new hl _ _ h24] at hp; cases hp
      generalize upd (upd H4 l (.lst (bs.map V.ref))) p (.lst ys) = H5 at *
      refine ⟨p, rfl, ⟨_, SqL.of hpp⟩, ?_⟩
      refine for_list (xs := ys) (fun i σ H6 => ∃ v7 v8 v9 v10 kv2, σ = [some (.ref sa), some (.ref wd), some (.ref ld), some (.ref o), some (.ref na), some (.ref se), some (.ref t2), v7, v8, v9, v10, none, none, none, none] ∧ H6 t2 = some (.dT kv2) ∧ Ties N m kv2 ∧ kv2.length ≤ i ∧ (∀ b o, H5 b = some o → b ≠ t2 → H6 b = some o))
        ⟨none, none, none, none, [], rfl, s5 _ _ h24, Ties.nil N m, Nat.le_refl _, fun b o e _ => e⟩ (fun i σ H6 _ ⟨_, _, _, _, _, _, _, _, _, h⟩ => SqL.of (h _ _ hpp np2)) ?_ ?_
      · rintro i y σ H6 hi ⟨v7, v8, v9, v10, kv2, rfl, h26, ti6, hl6, kp6⟩
        have hil := (List.getElem?_eq_some_iff.mp hi).1
        obtain ⟨b1, i1, j1, x1, kd1, rfl, hb1, hmem, hij, hjn, hkw, hx1, hx2⟩ := kly.tie ti (List.mem_of_getElem? hi)
        have stay : ∀ b o, H4 b = some o → b ≠ t2 → H6 b = some o := fun b o e h => kp6 b o (s5 _ _ e) h
        have nb12 : b1 ≠ t2 := ne_of hb1 (s5 _ _ h24) (by intro z; cases z)
        have hb6 := kp6 _ _ hb1 nb12
        have hse6 := stay _ _ hse4 (ne_of hse4 h24 (by intro z; cases z))
        have hwd6 := stay _ _ hwd4 (ne_of hwd4 h24 (by intro z; cases z))
        have ht6 := stay _ _ ht4 ntt.symm
        have seat : ∀ x < N, ∃ j, od[j]? = some x ∧ j < N ∧ valV (seatKV od od.length) (Sum.inl (x : Int) : Key) = some (V.int (j : Int)) := fun x hx => by
          obtain ⟨j, hj⟩ := List.getElem?_of_mem (po.mem_iff.mpr (List.mem_range.mpr hx))
          have hjl := (List.getElem?_eq_some_iff.mp hj).1
          exact ⟨j, hj, by omega, val_of_mem (seat_nd (po.nodup_iff.mpr List.nodup_range)) (seat_mem hj)⟩
        obtain ⟨u1, hu1, hu1n, hv1⟩ := seat i1 (by omega)
        obtain ⟨u2, hu2, hu2n, hv2⟩ := seat j1 hjn
        have hne : u1 ≠ u2 := fun e => by subst e; rw [hu1] at hu2; have := Option.some.inj hu2; omega
        refine ⟨b1, _, rfl, SqT.of hb6, rfl, _, _, rfl, _, _, rfl, _, _, rfl, rfl, ?_⟩
        refine ⟨_, rfl, _, rfl, se, _, rfl, (by rw [← hv1]; exact DGet.k (k := Sum.inl (i1 : Int)) hse6), _, rfl, _, rfl, se, _, rfl, (by rw [← hv2]; exact DGet.k (k := Sum.inl (j1 : Int)) hse6), (by show 2 ≤ sizeLine; decide), fun l1 hl1 => ?_⟩
        refine ⟨l1, [(u1 : Int), (u2 : Int)], rfl, SqL.of upd_same, (by show 2 < 64; decide), fun ns sp pms srt hsp => ?_⟩
        obtain ⟨n0, n1, rfl, h01, h1N⟩ : ∃ n0 n1 : Nat, ns = [(n0 : Int), (n1 : Int)] ∧ n0 < n1 ∧ n1 < N := by
          have hl2 : ns.length = 2 := pms.length_eq
          match ns, hl2 with
          | [z0, z1], _ =>
            have hle : z0 ≤ z1 := by simpa using srt
            have h0 := pms.mem_iff.mp (show z0 ∈ [z0, z1] by simp)
            have h1 := pms.mem_iff.mp (show z1 ∈ [z0, z1] by simp)
            have h2 := pms.mem_iff.mpr (show (u1 : Int) ∈ [(u1 : Int), (u2 : Int)] by simp)
            have h3 := pms.mem_iff.mpr (show (u2 : Int) ∈ [(u1 : Int), (u2 : Int)] by simp)
            simp at h0 h1 h2 h3
            refine ⟨z0.toNat, z1.toNat, ?_, by omega, by omega⟩
            rw [Int.toNat_of_nonneg (by omega), Int.toNat_of_nonneg (by omega)]
        have s7 := (same_new (o := .lst ([(u1 : Int), (u2 : Int)].map V.int)) hl1).trans (same_new (o := .lst ([(n0 : Int), (n1 : Int)].map V.int)) hsp)
        have hsp7 : (upd (upd H6 l1 (.lst ([(u1 : Int), (u2 : Int)].map V.int))) sp (.lst ([(n0 : Int), (n1 : Int)].map V.int))) sp = some (.lst [V.int (n0 : Int), V.int (n1 : Int)]) := upd_same
        refine ⟨_, rfl, wd, _, rfl, dg_ties (s7 _ _ hwd6), _, rfl, _, rfl, _, rfl, (by show 3 ≤ sizeLine; decide), fun q1 hq1 => ?_⟩
        have s8 := s7.trans (same_new (o := .tup [V.int (i1 : Int), V.int (j1 : Int), V.str kd1]) hq1)
        refine ⟨t, V.int (x1 : Int), rfl, (by rw [← val_of_mem ti.nd hmem]; exact DGet.t (k := [Sum.inl (i1 : Int), Sum.inl (j1 : Int), Sum.inr kd1]) (s8 _ _ ht6) upd_same), ?_⟩
        have hsp8 := same_new (o := .tup [V.int (i1 : Int), V.int (j1 : Int), V.str kd1]) hq1 _ _ hsp7
        refine ⟨_, rfl, _, rfl, sp, _, 0, V.int (n0 : Int), rfl, rfl, SqL.of hsp8, atI_nat (j := 0) rfl, _, rfl, sp, _, 1, V.int (n1 : Int), rfl, rfl, SqL.of hsp8, atI_nat (j := 1) rfl, _, rfl, (by show 3 ≤ sizeLine; decide), fun q2 hq2 => ?_⟩
        have s9 := s8.trans (same_new (o := .tup [V.int (n0 : Int), V.int (n1 : Int), V.str kd1]) hq2)
        refine ⟨t2, _, rfl, DPut.t (k := [Sum.inl (n0 : Int), Sum.inl (n1 : Int), Sum.inr kd1]) (s9 _ _ h26) upd_same (Evl.sz_lt (by omega)), ?_⟩
        refine ⟨_, _, _, _, _, rfl, upd_same, ti6.put ⟨n0, n1, kd1, rfl, h01, h1N, hkw⟩ hx1 hx2, by have := length_putK kv2 [Sum.inl (n0 : Int), Sum.inl (n1 : Int), Sum.inr kd1] (V.int (x1 : Int)); omega, fun b o e h => ?_⟩
        rw [upd_ne h]
        exact s9 _ _ (kp6 b o e h)
      · rintro σ H6 ⟨v7, v8, v9, v10, kv2, rfl, h26, ti6, hl6, kp6⟩
        exact ⟨v7, v8, v9, v10, kv2, rfl, h26, ti6, by omega, fun b o e h => kp6 b o (s5 _ _ e) h⟩
    rintro σ H5 ⟨v7, v8, v9, v10, kv2, rfl, h25, ti5, hl5, kp5⟩
    have S5 : Src H5 sa ca := by
      obtain ⟨cs, l, m, tt, S4⟩ := S4
      exact ⟨cs, l, m, tt, ⟨kp5 _ _ S4.ds n2s.symm, kp5 _ _ S4.dc n2c.symm, S4.nn, S4.len, S4.l0, S4.m0, S4.m1, S4.t0⟩⟩
    have kp05 : Kp sa ca H H5 := fun b o e h1 h2 => kp5 b o (kp04 b o e h1 h2) (ne_of_none e h20)
    have hwd5 := kp5 _ _ hwd4 (ne_of hwd4 h24 (by intro z; cases z))
    have hb5 := kp5 _ _ hb4 (ne_of hb4 h24 (by intro z; cases z))
    have hld5 := kp5 _ _ hld4 (ne_of hld4 h24 (by intro z; cases z))
    have ho5 := kp5 _ _ ho4 (ne_of ho4 h24 (by intro z; cases z))
    have hna5 := kp5 _ _ hna4 (ne_of hna4 h24 (by intro z; cases z))
    have odN : ∀ x ∈ od, x < N := fun x hx => List.mem_range.mp (po.mem_iff.mp hx)
    -- colours
    refine ⟨fun σ H6 => ∃ bc cl2, σ = [some (.ref sa), some (.ref wd), some (.ref ld), some (.ref o), some (.ref na), some (.ref se), some (.ref t2), v7, v8, v9, v10, some (.ref bc), none, none, none] ∧ H bc = none ∧ H6 bc = some (.lst (List.map V.str cl2)) ∧ cl2.length = N ∧ (∀ x ∈ cl2, isWordB x = true) ∧ Same H5 H6, ?_, ?_⟩
    · refine ⟨_, rfl, o, rfl, ⟨_, SqL.of ho5⟩, fun D hD => ?_⟩
      refine lc_list (xs := natV od) (fun i H6 => ∃ cl2, H6 D = some (.lst (List.map V.str cl2)) ∧ cl2.length = i ∧ (∀ x ∈ cl2, isWordB x = true) ∧ Same H5 H6) ⟨[], upd_same, rfl, (fun x hx => (List.not_mem_nil hx).elim), same_new hD⟩ (fun i H6 _ ⟨_, _, _, _, h⟩ => SqL.of (h _ _ ho5)) ?_ ?_
      · rintro i x H6 hi ⟨cl2, hD6, hcl2, hcw2, s6⟩
        have hil := (List.getElem?_eq_some_iff.mp hi).1
        rw [List.length_map] at hil
        rw [List.getElem?_map] at hi
        obtain ⟨y0, hy0, rfl⟩ := Option.map_eq_some_iff.mp hi
        have hyN := odN y0 (List.mem_of_getElem? hy0)
        obtain ⟨cy, hcy⟩ : ∃ cy, cl[y0]? = some cy := ⟨_, List.getElem?_eq_getElem (by omega)⟩
        refine ⟨rfl, tyes ?_⟩
        refine ⟨_, rfl, wd, _, rfl, dg_colours (s6 _ _ hwd5), _, rfl, b, _, _, V.str cy, rfl, rfl, SqL.of (s6 _ _ hb5), atI_nat (by rw [List.getElem?_map, hcy]; rfl), ?_⟩
        refine ⟨_, hD6, Evl.sz_lt (by rw [List.length_map]; omega), cl2 ++ [cy], by rw [upd_same, List.map_append]; rfl, by simp [hcl2], ?_, ?_⟩
        · intro x hx
          rcases List.mem_append.mp hx with z | z
          · exact hcw2 x z
          · rw [List.mem_singleton] at z
            subst z
            exact hcw _ (List.mem_of_getElem? hcy)
        · intro b o e
          rw [upd_ne (ne_of_none e hD)]
          exact s6 b o e
      · rintro H6 ⟨cl2, hD6, hcl2, hcw2, s6⟩
        rw [List.length_map] at hcl2
        exact ⟨D, cl2, rfl, kp05.free S5 hD, hD6, by omega, hcw2, s6⟩
    rintro σ H6 ⟨bc, cl2, rfl, hbc0, hbc, hcl2, hcw2, s6⟩
    have S6 := S5.same s6
    have kp06 := kp05.trans (Kp.same s6)
    obtain ⟨nbs', nbc'⟩ := S.ne hbc0
    -- the answer
    intro p hp
    have sp := same_new (o := .dK []) hp
    have hp0 : H p = none := kp06.free S6 hp
    obtain ⟨nps, npc⟩ := S.ne hp0
    refine ⟨_, rfl, _, rfl, _, rfl, upd_same, worldD na bc t2, rfl, (by show 3 ≤ 15; decide), ?_⟩
    rw [merge_wd]
    have hna6 := s6 _ _ hna5
    have h26 := s6 _ _ h25
    have npn : p ≠ na := fun e => by subst e; rw [hna6] at hp; cases hp
    have npb : p ≠ bc := fun e => by subst e; rw [hbc] at hp; cases hp
    have np2 : p ≠ t2 := fun e => by subst e; rw [h26] at hp; cases hp
    have ud : ∀ b o, H6 b = some o → (upd (upd H6 p (.dK [])) p (.dK (worldD na bc t2))) b = some o := fun b o e => by
      rw [upd_ne (ne_of_none e hp), upd_ne (ne_of_none e hp)]
      exact e
    have hpp : (upd (upd H6 p (.dK [])) p (.dK (worldD na bc t2))) p = some (.dK (worldD na bc t2)) := upd_same
    have s7 : Same H6 (upd (upd H6 p (.dK [])) p (.dK (worldD na bc t2))) := ud
    generalize upd (upd H6 p (.dK [])) p (.dK (worldD na bc t2)) = H7 at *
    refine ⟨_, rfl, o, rfl, ⟨_, SqL.of (s7 _ _ (s6 _ _ ho5))⟩, fun D hD => ?_⟩
    have S7 := S6.same s7
    have kp07 := kp06.trans (Kp.same s7)
    have hD0 : H D = none := kp07.free S7 hD
    refine lc_list (xs := natV od) (fun i H8 => ∃ led', H8 D = some (.lst (natV led')) ∧ led'.length = i ∧ led' = (od.take i).map (fun y => led.getD y 0) ∧ Same H7 H8) ⟨[], upd_same, rfl, rfl, same_new hD⟩ (fun i H8 _ ⟨_, _, _, _, h⟩ => SqL.of (h _ _ (s7 _ _ (s6 _ _ ho5)))) ?_ ?_
    · rintro i x H8 hi ⟨led', hD8, hll, hlm, s8⟩
      have hil := (List.getElem?_eq_some_iff.mp hi).1
      rw [List.length_map] at hil
      rw [List.getElem?_map] at hi
      obtain ⟨y0, hy0, rfl⟩ := Option.map_eq_some_iff.mp hi
      have hyN := odN y0 (List.mem_of_getElem? hy0)
      obtain ⟨ly, hly⟩ : ∃ ly, led[y0]? = some ly := ⟨_, List.getElem?_eq_getElem (by omega)⟩
      refine ⟨rfl, tyes ?_⟩
      refine ⟨_, rfl, _, rfl, ld, _, _, V.int (ly : Int), rfl, rfl, SqL.of (s8 _ _ (s7 _ _ (s6 _ _ hld5))), atI_nat (by rw [List.getElem?_map, hly]; rfl), ?_⟩
      refine ⟨_, hD8, Evl.sz_lt (by rw [List.length_map]; omega), led' ++ [ly], by unfold natV; rw [upd_same, List.map_append]; rfl, by simp [hll], ?_, ?_⟩
      · rw [List.take_add_one, hy0, List.map_append, hlm]
        show _ = _ ++ [led.getD y0 0]
        rw [List.getD_eq_getElem?_getD, hly]
        rfl
      · intro b o e
        rw [upd_ne (ne_of_none e hD)]
        exact s8 b o e
    · rintro H8 ⟨led', hD8, hll, hlm, s8⟩
      replace hlm : ∀ x, x ∈ led' ↔ x ∈ led := fun x => by
        rw [List.take_of_length_le (by rw [List.length_map]; omega)] at hlm
        rw [hlm, List.mem_map]
        constructor
        · rintro ⟨y, hy, rfl⟩
          have hyN := odN y hy
          rw [List.getD_eq_getElem?_getD, List.getElem?_eq_getElem (show y < led.length by omega)]
          exact List.getElem_mem _
        · intro hx
          obtain ⟨y, hy⟩ := List.getElem?_of_mem hx
          have hyl := (List.getElem?_eq_some_iff.mp hy).1
          refine ⟨y, po.mem_iff.mpr (List.mem_range.mpr (by omega)), ?_⟩
          rw [List.getD_eq_getElem?_getD, hy]
          rfl
      rw [List.length_map] at hll
      refine ⟨(by show 2 ≤ sizeLine; decide), fun r hr => ?_⟩
      have s9 := s8.trans (same_new (o := .tup [.ref p, .ref D]) hr)
      have kp09 := kp07.trans (Kp.same s9)
      refine k r p na bc t2 D nm cl2 kv2 led' _ hp0 hna0 hbc0 h20 hD0 upd_same ⟨s9 _ _ hpp, s9 _ _ (s7 _ _ hna6), s9 _ _ (s7 _ _ hbc), s9 _ _ (s7 _ _ h26), ⟨nps, npc⟩, ⟨nns, nnc⟩, ⟨nbs', nbc'⟩, ⟨n2s, n2c⟩, ?_, ?_, hcw2, by omega, by omega⟩ (by omega) (by rw [hnl]; exact ti5) hl5 (same_new hr _ _ hD8) (by omega) hlm (S7.same s9) kp09
      · refine pn.nodup_iff.mpr (List.Sublist.nodup (List.Sublist.map nameN ?_) nameN_nd)
        exact List.range_sublist.mpr hn2
      · intro x hx
        obtain ⟨y, hy, rfl⟩ := List.mem_map.mp (pn.mem_iff.mp hx)
        exact nameN_w y (by have := List.mem_range.mp hy; omega)
end
end Nm
set_option maxRecDepth 100000
set_option maxHeartbeats 4000000
namespace Nm
open PySem L2
theorem Ties.mono {n m m' : Nat} {kvs : List (List Key × V)} (h : Ties n m kvs) (e : m ≤ m') : Ties n m' kvs := ⟨h.key, fun kv hm => by
  obtain ⟨x, a, b, c⟩ := h.val kv hm
  exact ⟨x, a, b, by omega⟩, h.nd⟩
def SeatsOk (kvS : List (List Key × V)) (led : List Nat) (ok : Nat → Nat → Prop) : Prop := ∀ p u, ok p u → ∃ idx : Nat, led[idx]? = some p ∧ valV kvS [Sum.inl (p : Int), Sum.inl (u : Int)] = some (V.int (idx : Int))
theorem SeatsOk.put {kvS : List (List Key × V)} {led : List Nat} {ok ok' : Nat → Nat → Prop} (h : SeatsOk kvS led ok) {i j : Nat} (e : ∀ p u, ok' p u → ok p u ∨ (p = i ∧ u = j)) :
    SeatsOk (putK kvS [Sum.inl (i : Int), Sum.inl (j : Int)] (V.int (led.length : Int))) (led ++ [i]) ok' := by
  intro p u hp
  rw [valV_put]
  by_cases hk : ([Sum.inl (p : Int), Sum.inl (u : Int)] : List Key) = [Sum.inl (i : Int), Sum.inl (j : Int)]
  · rw [if_pos hk]
    have hpi : p = i := by
      have := Sum.inl.inj (List.cons.inj hk).1
      omega
    exact ⟨led.length, by rw [hpi]; simp, rfl⟩
  · rw [if_neg hk]
    rcases e p u hp with z | ⟨z1, z2⟩
    · obtain ⟨idx, h1, h2⟩ := h p u z
      exact ⟨idx, by rw [List.getElem?_append_left (List.getElem?_eq_some_iff.mp h1).1]; exact h1, h2⟩
    · subst z1 z2
      exact absurd rfl hk
section
variable {κ : Type} [DecidableEq κ]
theorem mem_of_val : ∀ {kvs : List (κ × V)} {k : κ} {v : V}, valV kvs k = some v → (k, v) ∈ kvs
  | [], _, _, h => by cases h
  | kv :: r, k, v, h => by
    by_cases e : kv.1 = k
    · rw [valV_pos e] at h
      cases h
      subst e
      exact List.mem_cons_self
    · rw [valV_neg e] at h
      exact List.mem_cons_of_mem _ (mem_of_val h)
end
theorem two_sorted {ns : List Int} {u1 u2 N : Nat} (pms : ns.Perm [(u1 : Int), (u2 : Int)]) (srt : ns.Pairwise (· ≤ ·)) (hne : u1 ≠ u2) (h1 : u1 < N) (h2 : u2 < N) : ∃ n0 n1 : Nat, ns = [(n0 : Int), (n1 : Int)] ∧ n0 < n1 ∧ n1 < N := by
  have hl2 : ns.length = 2 := pms.length_eq
  match ns, hl2 with
  | [z0, z1], _ =>
    have hle : z0 ≤ z1 := by simpa using srt
    have h0 := pms.mem_iff.mp (show z0 ∈ [z0, z1] by simp)
    have h1 := pms.mem_iff.mp (show z1 ∈ [z0, z1] by simp)
    have h2 := pms.mem_iff.mpr (show (u1 : Int) ∈ [(u1 : Int), (u2 : Int)] by simp)
    have h3 := pms.mem_iff.mpr (show (u2 : Int) ∈ [(u1 : Int), (u2 : Int)] by simp)
    simp at h0 h1 h2 h3
    refine ⟨z0.toNat, z1.toNat, ?_, by omega, by omega⟩
    rw [Int.toNat_of_nonneg (by omega), Int.toNat_of_nonneg (by omega)]
section
variable {P : Program} {w : World} {K : PySem.W.Frag} {mg : Str → Option Value} {base : Heap}
def spPick0 : Sp := fun vs H Q _ => ∃ (s : Addr) (n : Int), vs = [.ref s, .int n] ∧ n < 2 ∧ Q (.int 0) H
/-- pick, of 0 too -/
def spPickZ : Sp := fun vs H Q E => spPick vs H Q E ∨ spPick0 vs H Q E
theorem ok_pickZ {f : Addr} {fd : FuncData} (F : Fun K "_law_pick" "_law_pick" sPick f fd) (T : TxtA mg) : FnOk P w K mg base CX0 1 f fd ["_law_source", "_law_many"] spPickZ := by
  have h0 : FnOk P w K mg base CX0 1 f fd ["_law_source", "_law_many"] spPick0 := by
    refine F.ok scPick (fun vs H Q E h => ?_) (fun cdv A outer s H vs Q E hr h => ?_)
    · obtain ⟨p, n, rfl, _⟩ := h
      rfl
    · obtain ⟨sa, n, rfl, n1, k⟩ := h
      have hu := hu_of hr
      refine ⟨_, pss_cons (ps_if (pt_cmpR op_lt (pv 1) pe_int (nomark _)) (pss_one (ps_ret pe_int)) pss_nil)
        (pss_cons (ps_set (i := 2) scPick.nd rfl (Or.inl rfl) (pe_dget hu (pv 0) pe_str (fun _ _ => rfl)))
        (Evl.pss_cut (ps_while PassesOwn.never (PW.pt (pw_and (pt_cmpR op_lt (pe_dget hu (pv 0) pe_str (fun _ _ => rfl)) pe_int (nomark _)) (pw_and1 (pt_cmpR op_gt (pe_callB call_len_seq (by rfl) T.len PySem.boot_len (pa_cons (pv 2) pa_nil)) pe_int (nomark _)))))
          (pss_one (ps_dput hu (pv 0) pe_str (pe_bm0 PySem.F.plainAttrs_list PySem.F.slot_list_pop PySem.F.type_list_pop mt_pop (pv 2)) rfl)))
        (pss_cons (ps_set (i := 3) scPick.nd rfl (Or.inl rfl) (pe_dget hu (pv 0) pe_str (fun _ _ => rfl)))
        (pss_cons (ps_if (pt_cmpR op_gt (pv 3) pe_int (nomark _))
          (pss_cons (ps_dput hu (pv 0) pe_str (pe_op op_fdiv (pv 3) (pv 1)) rfl) (pss_one (ps_ret (pe_op op_mod (pe_callTy call_int1 (by rfl) T.int (by decide +kernel) (pa_cons (pv 3) pa_nil)) (pv 1))))) pss_nil)
        (pss_cons (ps_dput hu (pv 0) pe_str (pe_op op_add (pe_dget hu (pv 0) pe_str (fun _ _ => rfl)) pe_int) rfl)
        (pss_cons (ps_set (i := 4) scPick.nd rfl (Or.inl rfl) (pe_dget hu (pv 0) pe_str (fun _ _ => rfl)))
        (pss_cons (ps_set (i := 5) scPick.nd rfl (Or.inl rfl) (pe_op op_mod (pe_callTy call_int1 (by rfl) T.int (by decide +kernel) (pa_cons (pe_op op_add (pe_dget hu (pv 0) pe_str (fun _ _ => rfl)) (pe_op op_mul (pv 4) pe_int)) pa_nil)) pe_int))
        (pss_cons (ps_set (i := 5) scPick.nd rfl (Or.inl rfl) (pe_op op_mod (pe_callTy call_int1 (by rfl) T.int (by decide +kernel) (pa_cons (pe_op op_add (pe_op op_mul (pv 5) (pv 5)) (pe_op op_mul (pv 4) pe_int)) pa_nil)) pe_int))
        (pss_one (ps_ret (pe_op op_mod (pe_callTy call_int1 (by rfl) T.int (by decide +kernel) (pa_cons (pe_op op_fdiv (pv 5) pe_int) pa_nil)) (pv 1)))))))))))), ?_⟩
      refine ⟨_, rfl, _, _, rfl, rfl, _, rfl, ?_⟩
      have : decide (n < 2) = true := decide_eq_true n1
      show (if decide (n < 2) = true then _ else _)
      rw [if_pos this]
      exact k
  have h1 := ok_pick (P := P) (w := w) (base := base) F T
  exact ⟨fun vs H Q E h => h.elim (h1.len vs H Q E) (h0.len vs H Q E), fun A outer s H args us vs Q E hr he hb hv h => h.elim (h1.run A outer s H args us vs Q E hr he hb hv) (h0.run A outer s H args us vs Q E hr he hb hv)⟩
/-! ### _law_over -/
/-- how long it can be, when all counts are equal -/
def LedK (_n : Nat) (ns led : List Nat) (b : Nat → Nat) : Prop := ∀ c0, (∀ x ∈ ns, x = c0) → led.length ≤ b c0
def spOver : Sp := fun vs H Q _ => ∃ (s c wd a b t nu : Addr) (nm cl : List Str) (kvs : List (List Key × V)) (ns : List Nat), vs = [.ref s, .ref wd, .ref nu] ∧ Src H s c ∧ WorldOk H s c wd a b t nm cl kvs ∧ Ties nm.length 2 kvs ∧ kvs.length ≤ 300 ∧ nm.length ≤ 10 ∧ H nu = some (.lst (natV ns)) ∧ nu ≠ c ∧ nm.length ≤ ns.length ∧ (∀ x ∈ ns, x ≤ 5) ∧
  (∀ ps, PartsRel nm.length kvs ps → ∃ p ∈ ps, ∃ x, ns[p]? = some x ∧ 1 ≤ x) ∧
  ∀ (r wd' a' b' t' ld' : Addr) (nm' cl' : List Str) (kvs' : List (List Key × V)) (led' : List Nat) (H' : Hp), H wd' = none → H a' = none → H b' = none → H t' = none → H ld' = none → H' r = some (.tup [.ref wd', .ref ld']) → WorldOk H' s c wd' a' b' t' nm' cl' kvs' → nm'.length ≤ 100 → Ties nm'.length 4000 kvs' → kvs'.length ≤ 4000 →
    H' ld' = some (.lst (natV led')) → led'.length = nm'.length → (∀ x ∈ led', x < nm.length) → LedK nm.length ns led' (fun c => c * nm.length) → (∀ p < nm.length, (∀ c0, (∀ x ∈ ns, x = c0) → 1 ≤ c0) → (∀ x ∈ ns, ∀ y ∈ ns, x = y) → p ∈ led') → Src H' s c → Kp s c H H' → Q (.ref r) H'
abbrev nOver : List Str := ["_law_source", "_law_world", "_law_numbers", "_law_parts_here", "_law_led", "_law_seats", "_law_ties", "_law_p", "_law_part", "_law_u", "_law_one", "_law_other", "_law_kind", "_law_many", "_law_unit", "_law_turn", "_law_spot", "_law_key", "_law_colours"]
theorem scOver : FnScope nOver ["_law_source", "_law_world", "_law_numbers"] (defScope sOver) := ⟨rfl, rfl, rfl, by decide +kernel, rfl, by decide +kernel, by decide +kernel⟩
abbrev stO (sa wd nu pa ld se t2 : Addr) (v7 v8 v9 v10 v11 v12 v13 v14 v15 v16 v17 v18 : Option V) : L2.St := [some (.ref sa), some (.ref wd), some (.ref nu), some (.ref pa), some (.ref ld), some (.ref se), some (.ref t2), v7, v8, v9, v10, v11, v12, v13, v14, v15, v16, v17, v18]
theorem ok_over {f : Addr} {fd : FuncData} (F : Fun K "_law_over" "_law_over" sOver f fd) (T : TxtD mg) (Gz : Def P w K mg base "_law_pick" ["_law_source", "_law_many"] 1 spPickZ) (Gq : Def P w K mg base "_law_parts" ["_law_world"] 1 spParts)
    (Gs : Def P w K mg base "_law_seated" ["_law_source", "_law_world", "_law_led"] 3 spSeated) : FnOk P w K mg base CX0 4 f fd ["_law_source", "_law_world", "_law_numbers"] spOver := by
  obtain ⟨fp, fdp, Gp, mp, kp, bp⟩ := Gz.ex
  obtain ⟨fq, fdq, Gq, mq, kq, bq⟩ := Gq.ex
  obtain ⟨fs, fds, Gs, ms, ks, bs⟩ := Gs.ex
  refine F.ok scOver (fun vs H Q E h => ?_) (fun cdv A outer s H vs Q E hr h => ?_)
  · obtain ⟨_, _, _, _, _, _, _, _, _, _, _, rfl, _⟩ := h
    rfl
  · obtain ⟨sa, ca, wd, a, b, t, nu, nm, cl, kvs, ns, rfl, S, W, ti, hkl, hn10, hnu, nnc, hnsl, hns10, hone, k⟩ := h
    have hu := hu_of hr
    have hr1 := hr.mono (by decide : 1 ≤ 3)
    refine ⟨_, Evl.pss_cut (ps_asg (pe_tup (pa_cons (pe_call Gq hr1 (by rfl) mq kq bq .nil pass0 (pa_cons (pv 1) pa_nil)) (pa_cons (pe_lst pa_nil) (pa_cons pe_dnewT (pa_cons pe_dnewT pa_nil))))) (pg_tup rfl (pgs_cons (pg_name (i := 3) scOver.nd rfl (.inl rfl)) (pgs_cons (pg_name (i := 4) scOver.nd rfl (.inl rfl)) (pgs_cons (pg_name (i := 5) scOver.nd rfl (.inl rfl)) (pgs_cons (pg_name (i := 6) scOver.nd rfl (.inl rfl)) pgs_nil))))))
      (Evl.pss_cut (ps_for PassesOwn.never rfl (pi_enum (by rfl) T.enumerate (pa_cons (pv 3) pa_nil)) (pg_tup rfl (pgs_cons (pg_name (i := 7) scOver.nd rfl (.inl rfl)) (pgs_cons (pg_name (i := 8) scOver.nd rfl (.inl rfl)) pgs_nil)))
        (pss_one (ps_for PassesOwn.never rfl (pi_range1 (by rfl) T.range (pa_cons (pe_ix ix_list (pv 2) (pv 8) (fun _ _ => rfl)) pa_nil)) (pg_name (i := 9) scOver.nd rfl (Or.inl rfl))
          (pss_cons (ps_dput hu (pv 5) (pe_tup (pa_cons (pv 7) (pa_cons (pv 9) pa_nil))) (pe_callB call_len_seq (by rfl) T.len PySem.boot_len (pa_cons (pv 4) pa_nil)) rfl)
          (pss_one (ps_expr (pe_bm PySem.F.plainAttrs_list PySem.F.slot_list_append PySem.F.type_list_append mt_append (pv 4) (pa_cons (pv 7) pa_nil))))))))
      (Evl.pss_cut (ps_for PassesOwn.never rfl (pi_list (pe_callB cr_sortedR (by rfl) T.sorted (by decide +kernel) (pa_cons (pe_callTy (call_list_dT rfl) (by rfl) T.list (by decide +kernel) (pa_cons (pe_dget hu (pv 1) pe_str (fun _ _ => rfl)) pa_nil)) pa_nil)))
          (pg_tup rfl (pgs_cons (pg_name (i := 10) scOver.nd rfl (.inl rfl)) (pgs_cons (pg_name (i := 11) scOver.nd rfl (.inl rfl)) (pgs_cons (pg_name (i := 12) scOver.nd rfl (.inl rfl)) pgs_nil))))
        (pss_cons (ps_set (i := 13) scOver.nd rfl (Or.inl rfl) (pe_ix ix_list (pv 2) (pe_ix ix_list (pv 3) (pv 10) (fun _ _ => rfl)) (fun _ _ => rfl)))
        (pss_one (ps_for PassesOwn.never rfl (pi_range1 (by rfl) T.range (pa_cons (pe_dget hu (pe_dget hu (pv 1) pe_str (fun _ _ => rfl)) (pe_tup (pa_cons (pv 10) (pa_cons (pv 11) (pa_cons (pv 12) pa_nil)))) (fun _ _ => rfl)) pa_nil)) (pg_name (i := 14) scOver.nd rfl (Or.inl rfl))
          (Evl.pss_cut (ps_set (i := 15) scOver.nd rfl (Or.inl rfl) (pe_call Gp hr1 (by rfl) mp kp bp .nil pass0 (pa_cons (pv 0) (pa_cons (pv 13) pa_nil))))
          (pss_one (ps_for PassesOwn.never rfl (pi_range1 (by rfl) T.range (pa_cons (pv 13) pa_nil)) (pg_name (i := 9) scOver.nd rfl (Or.inl rfl))
            (pss_cons (ps_set (i := 16) scOver.nd rfl (Or.inl rfl) (pe_callB cr_sorted (by rfl) T.sorted (by decide +kernel) (pa_cons (pe_lst (pa_cons (pe_dget hu (pv 5) (pe_tup (pa_cons (pv 10) (pa_cons (pv 9) pa_nil))) (fun _ _ => rfl)) (pa_cons (pe_dget hu (pv 5) (pe_tup (pa_cons (pv 11) (pa_cons (pe_op op_mod (pe_callTy call_int1 (by rfl) T.int (by decide +kernel) (pa_cons (pe_op op_add (pv 9) (pv 15)) pa_nil)) (pv 13)) pa_nil))) (fun _ _ => rfl)) pa_nil))) pa_nil)))
            (pss_cons (ps_set (i := 17) scOver.nd rfl (Or.inl rfl) (pe_tup (pa_cons (pe_ix ix_list (pv 16) pe_int (fun _ _ => rfl)) (pa_cons (pe_ix ix_list (pv 16) pe_int (fun _ _ => rfl)) (pa_cons (pv 12) pa_nil)))))
            (pss_one (ps_dput hu (pv 6) (pv 17) (pe_op op_add (pe_dget2 hu (pv 6) (pv 17) pe_int ⟨rfl, rfl, rfl, rfl⟩) pe_int) rfl)))))))))))
      (Evl.pss_cut (ps_setLc (i := 18) (own := [("_law_p", 7)]) (g := gName 7) (tt := tYes) (te := tOp (rIxL K) (tDGet (tVar 1) (tC (.str "colours"))) (tVar 7)) rfl scOver.nd rfl rfl (sw_true rfl rfl rfl (by decide +kernel)) (pi_list (pv 4))
          (blkOk_by (N := nOver) (sc := defScope sOver) (by decide +kernel)) (fun _ _ _ _ _ => pg_name (i := 7) scOver.nd rfl (Or.inl rfl)) (fun _ _ _ _ _ => pts_nil)
          (fun _ _ _ _ _ => by exact pe_ix ix_list (pe_dget hu (pv 1) pe_str (fun _ _ => rfl)) (pv 7) (fun _ _ => rfl)))
      (pss_one (ps_ret (pe_call Gs hr (by rfl) ms ks bs .nil pass0 (pa_cons (pv 0) (pa_cons (pe_disp (pps_cons pe_str (pv 4) (pps_cons pe_str (pv 18) (pps_cons pe_str (pv 6) pps_nil))) (by rfl) (by rfl) (fun z => by cases z) (by decide)) (pa_cons (pv 4) pa_nil))))))))), ?_⟩
    generalize hn : nm.length = n at *
    refine ⟨fun σ H2 => ∃ pa ps ld se t2, σ = stO sa wd nu pa ld se t2 none none none none none none none none none none none none ∧ (H pa = none ∧ H ld = none ∧ H se = none ∧ H t2 = none ∧ pa ≠ ld ∧ se ≠ t2) ∧ H2 pa = some (.lst (natV ps)) ∧ ps.length = n ∧ (∀ x ∈ ps, x < n) ∧
        (∀ (i j : Nat) (kd : Str) (v : V), ([Sum.inl (i : Int), Sum.inl (j : Int), Sum.inr kd], v) ∈ kvs → ps[i]? = ps[j]?) ∧ PartsRel n kvs ps ∧ H2 ld = some (.lst []) ∧ H2 se = some (.dT []) ∧ H2 t2 = some (.dT []) ∧ Same H H2, ?_, ?_⟩
    · refine ⟨_, rfl, wd, a, b, t, _, 2, kvs, rfl, W.d, W.hn, W.ht, by rw [List.length_map]; omega, by omega, by rw [List.length_map, hn]; exact ti, fun pa ps H1 hpa0 hpa hpl hpn hpe hpr s1 => ?_⟩
      rw [List.length_map, hn] at hpl hpn hpr
      refine ⟨(by show 0 ≤ sizeLine; decide), fun ld hld => ?_⟩
      intro se hse t2 ht2
      refine ⟨(by show 4 ≤ sizeLine; decide), fun tp htp => ?_⟩
      obtain ⟨n1, hse1⟩ := nx hse
      obtain ⟨n2, ht2'⟩ := nx ht2
      obtain ⟨n3, ht21⟩ := nx ht2'
      have a1 := same_new (o := .lst []) hld
      have a2 := same_new (o := .dT []) hse
      have a3 := same_new (o := .dT []) ht2
      have a4 := same_new (o := .tup [V.ref pa, V.ref ld, V.ref se, V.ref t2]) htp
      refine ⟨tp, _, rfl, SqT.of upd_same, rfl, _, _, rfl, _, _, rfl, _, _, rfl, _, _, rfl, rfl, ?_⟩
      exact ⟨pa, ps, ld, se, t2, rfl, ⟨hpa0, s1.free hld, s1.free hse1, s1.free ht21, ne_of_none hpa hld, n2.symm⟩, a4 _ _ (a3 _ _ (a2 _ _ (a1 _ _ hpa))), hpl, hpn, hpe, hpr, a4 _ _ (a3 _ _ (a2 _ _ upd_same)), a4 _ _ (a3 _ _ upd_same), a4 _ _ upd_same, (((s1.trans a1).trans a2).trans a3).trans a4⟩
    rintro σ H2 ⟨pa, ps, ld, se, t2, rfl, ⟨hpa0, hld0, hse0, ht20, npl, nst⟩, hpa, hpl, hpn, hpe, hpr, hld, hse, ht2, s2⟩
    have W2 := W.same s2
    have S2 := S.same s2
    have hnu2 := s2 _ _ hnu
    obtain ⟨nls, nlc⟩ := S.ne hld0
    obtain ⟨nes, nec⟩ := S.ne hse0
    obtain ⟨n2s, n2c⟩ := S.ne ht20
    obtain ⟨nps, npc⟩ := S.ne hpa0
    have nnl : nu ≠ ld := fun e => by subst e; rw [hld0] at hnu; cases hnu
    have nne : nu ≠ se := ne_of hnu2 hse (by intro z; cases z)
    have npe : pa ≠ se := ne_of hpa hse (by intro z; cases z)
    have nle : ld ≠ se := ne_of hld hse (by intro z; cases z)
    -- seats
    refine ⟨fun σ H3 => ∃ v7 v8 v9 led kvS, σ = stO sa wd nu pa ld se t2 v7 v8 v9 none none none none none none none none none ∧ H3 ld = some (.lst (natV led)) ∧ H3 se = some (.dT kvS) ∧ (∀ x ∈ led, x < n) ∧ led.length ≤ 100 ∧ 1 ≤ led.length ∧ LedK n ns led (fun c => c * n) ∧
        SeatsOk kvS led (fun p u => ∃ q c, ps[p]? = some q ∧ ns[q]? = some c ∧ u < c) ∧ (∀ b o, H2 b = some o → b ≠ ld → b ≠ se → H3 b = some o), ?_, ?_⟩
    · refine ⟨_, rfl, pa, _, rfl, SqL.of hpa, ?_⟩
      refine for_it (walk_enum (xs := natV ps)) (fun i σ H3 => ∃ v7 v8 v9 led kvS, σ = stO sa wd nu pa ld se t2 v7 v8 v9 none none none none none none none none none ∧ H3 ld = some (.lst (natV led)) ∧ H3 se = some (.dT kvS) ∧ (∀ x ∈ led, x < n) ∧ led.length ≤ 10 * i ∧ kvS.length ≤ led.length ∧ LedK n ns led (fun c => c * i) ∧
          SeatsOk kvS led (fun p u => p < i ∧ ∃ q c, ps[p]? = some q ∧ ns[q]? = some c ∧ u < c) ∧ (∀ b o, H2 b = some o → b ≠ ld → b ≠ se → H3 b = some o))
        ⟨none, none, none, [], [], rfl, hld, hse, (fun x hx => (List.not_mem_nil hx).elim), by simp, Nat.le_refl _, fun c0 _ => Nat.zero_le _, fun p u h => by omega, fun b o e _ _ => e⟩ (fun i σ H3 _ ⟨_, _, _, _, _, _, _, _, _, _, _, _, _, h⟩ => SqL.of (h _ _ hpa npl npe)) ?_ ?_
      · rintro i x σ H3 H4 hi ⟨v7, v8, v9, led, kvS, rfl, hld3, hse3, hln, hll, hkS, hLK, hS, fr3⟩ ⟨T, x1, y1, rfl, hT, rfl, e1, e2⟩
        rw [List.length_map] at hi
        have e2 : (natV ps)[i]? = some y1 := e2
        rw [List.getElem?_map] at e2
        obtain ⟨q, hq, rfl⟩ := Option.map_eq_some_iff.mp e2
        cases e1
        have hqn := hpn q (List.mem_of_getElem? hq)
        obtain ⟨c, hc⟩ : ∃ c, ns[q]? = some c := ⟨_, List.getElem?_eq_getElem (by omega)⟩
        have hc10 := hns10 c (List.mem_of_getElem? hc)
        have sT := same_new (o := .tup [V.int (i : Nat), V.int (q : Int)]) hT
        have nTl : T ≠ ld := fun e => by subst e; rw [hld3] at hT; cases hT
        have nTe : T ≠ se := fun e => by subst e; rw [hse3] at hT; cases hT
        refine ⟨T, _, rfl, SqT.of upd_same, rfl, _, _, rfl, _, _, rfl, rfl, ?_⟩
        refine ⟨_, rfl, _, rfl, nu, _, _, V.int (c : Int), rfl, rfl, SqL.of (sT _ _ (fr3 _ _ hnu2 nnl nne)), atI_nat (by rw [List.getElem?_map, hc]; rfl), _, rfl, by omega, by omega, ?_⟩
        refine for_range (lo := 0) (n := (c : Int).toNat) (fun j σ H5 => ∃ v9 led kvS, σ = stO sa wd nu pa ld se t2 (some (.int (i : Nat))) (some (.int (q : Int))) v9 none none none none none none none none none ∧ H5 ld = some (.lst (natV led)) ∧ H5 se = some (.dT kvS) ∧ (∀ x ∈ led, x < n) ∧ led.length ≤ 10 * i + j ∧ kvS.length ≤ led.length ∧ LedK n ns led (fun c => c * i + j) ∧
            SeatsOk kvS led (fun p u => (p < i ∧ ∃ q c, ps[p]? = some q ∧ ns[q]? = some c ∧ u < c) ∨ (p = i ∧ u < j)) ∧ (∀ b o, H2 b = some o → b ≠ ld → b ≠ se → H5 b = some o))
          ⟨v9, led, kvS, rfl, sT _ _ hld3, sT _ _ hse3, hln, by omega, hkS, fun c0 h0 => Nat.le_trans (hLK c0 h0) (Nat.le_add_right _ _), fun p u h => hS p u (h.resolve_right (by omega)), fun b o e h1 h2 => sT _ _ (fr3 b o e h1 h2)⟩ ?_ ?_
        · rintro j σ H5 hj ⟨v9, led, kvS, rfl, hld5, hse5, hln, hll, hkS, hLK, hS, fr5⟩
          have hj' : j < c := by omega
          refine ⟨_, rfl, ld, _, rfl, .inl (SqL.of hld5), _, rfl, _, rfl, _, rfl, (by show 2 ≤ sizeLine; decide), fun u hu => ?_⟩
          have su := same_new (o := .tup [V.int (i : Nat), V.int (0 + (j : Int))]) hu
          refine ⟨se, _, rfl, DPut.t (k := [Sum.inl ((i : Nat) : Int), Sum.inl (0 + (j : Int))]) (su _ _ hse5) upd_same (Evl.sz_lt (by omega)), ?_⟩
          have nul : u ≠ ld := fun e => by subst e; rw [hld5] at hu; cases hu
          have hld6 : (upd (upd H5 u (.tup [V.int (i : Nat), V.int (0 + (j : Int))])) se (.dT (putK kvS [Sum.inl ((i : Nat) : Int), Sum.inl (0 + (j : Int))] (V.int ((natV led).length : Int))))) ld = some (.lst (natV led)) := by rw [upd_ne nle]; exact su _ _ hld5
          refine ⟨_, rfl, .inl ⟨rfl, _, SqL.of hld6⟩, _, rfl, ld, _, _, rfl, rfl, hld6, Evl.sz_lt (by rw [List.length_map]; omega), ?_⟩
          refine ⟨_, led ++ [i], _, rfl, by unfold natV; rw [upd_same, List.map_append]; rfl, by rw [upd_ne nle.symm, upd_same], ?_, by simp; omega, ?_, ?_, ?_, ?_⟩
          · intro x hx
            rcases List.mem_append.mp hx with z | z
            · exact hln x z
            · rw [List.mem_singleton] at z
              omega
          · have := length_putK kvS [Sum.inl ((i : Nat) : Int), Sum.inl (0 + (j : Int))] (V.int ((natV led).length : Int))
            simp only [List.length_append, List.length_singleton]
            omega
          · intro c0 h0
            have h1 : led.length ≤ c0 * i + j := hLK c0 h0
            show (led ++ [i]).length ≤ c0 * i + (j + 1)
            rw [List.length_append, List.length_singleton]
            exact Nat.succ_le_succ h1
          · rw [Int.zero_add, List.length_map]
            exact hS.put fun p u h => by
              rcases h with h | ⟨h1, h2⟩
              · exact .inl (.inl h)
              · by_cases e : u = j
                · exact .inr ⟨h1, e⟩
                · exact .inl (.inr ⟨h1, by omega⟩)
          · intro b o e h1 h2
            rw [upd_ne h1, upd_ne h2]
            exact su _ _ (fr5 b o e h1 h2)
        · rintro σ H5 ⟨v9, led, kvS, rfl, hld5, hse5, hln, hll, hkS, hLK, hS, fr5⟩
          refine ⟨_, _, v9, led, kvS, rfl, hld5, hse5, hln, by omega, hkS, fun c0 h0 => ?_, fun p u h => hS p u ?_, fr5⟩
          · have h1 := hLK c0 h0
            have h2 := h0 c (List.mem_of_getElem? hc)
            show led.length ≤ c0 * (i + 1)
            rw [Nat.mul_succ]
            have h1 : led.length ≤ c0 * i + (c : Int).toNat := h1
            omega
          obtain ⟨h1, q', c', h2, h3, h4⟩ := h
          by_cases e : p = i
          · subst e
            rw [hq] at h2
            cases h2
            rw [hc] at h3
            cases h3
            exact .inr ⟨rfl, by omega⟩
          · exact .inl ⟨by omega, q', c', h2, h3, h4⟩
      · rintro σ H3 ⟨v7, v8, v9, led, kvS, rfl, hld3, hse3, hln, hll, hkS, hLK, hS, fr3⟩
        rw [List.length_map] at hll hS
        have hS' : SeatsOk kvS led (fun p u => ∃ q c, ps[p]? = some q ∧ ns[q]? = some c ∧ u < c) := fun p u h => hS p u ⟨by obtain ⟨q, c, h1, _⟩ := h; exact (List.getElem?_eq_some_iff.mp h1).1, h⟩
        refine ⟨v7, v8, v9, led, kvS, rfl, hld3, hse3, hln, by omega, ?_, fun c0 h0 => ?_, hS', fr3⟩
        rotate_left
        · have h1 := hLK c0 h0
          rw [List.length_map, hpl] at h1
          exact h1
        obtain ⟨p, hp, x, hx, hx1⟩ := hone ps hpr
        obtain ⟨idx, hidx⟩ := List.getElem?_of_mem hp
        obtain ⟨z, hz, _⟩ := hS' idx 0 ⟨p, x, hidx, hx, by omega⟩
        have := (List.getElem?_eq_some_iff.mp hz).1
        omega
    rintro σ H3 ⟨v7, v8, v9, led, kvS, rfl, hld3, hse3, hln, hl100, hl1, hLK, hS, fr3⟩
    have S3 : Src H3 sa ca := by
      obtain ⟨cs, l, m, tt, S2⟩ := S2
      exact ⟨cs, l, m, tt, ⟨fr3 _ _ S2.ds nls.symm nes.symm, fr3 _ _ S2.dc nlc.symm nec.symm, S2.nn, S2.len, S2.l0, S2.m0, S2.m1, S2.t0⟩⟩
    have fr03 : ∀ b o, H b = some o → H3 b = some o := fun b o e => fr3 _ _ (s2 _ _ e) (ne_of_none e hld0) (ne_of_none e hse0)
    have W3 := W.same fr03
    have hnu3 := fr03 _ _ hnu
    have hpa3 := fr3 _ _ hpa npl npe
    have nt2l : t2 ≠ ld := (ne_of hld ht2 (by intro z; cases z)).symm
    have ht23 := fr3 _ _ ht2 nt2l nst.symm
    have npt2 : pa ≠ t2 := ne_of hpa ht2 (by intro z; cases z)
    have nut2 : nu ≠ t2 := ne_of hnu2 ht2 (by intro z; cases z)
    have ntt2 : t ≠ t2 := ne_of_none W.ht ht20
    have nus : nu ≠ sa := by
      obtain ⟨cs, l, m, tt, S0⟩ := S
      exact ne_of hnu S0.ds (by intro z; cases z)
    generalize hNN : led.length = N at *
    -- ties
    refine ⟨fun σ H6 => ∃ v9 v10 v11 v12 v13 v14 v15 v16 v17 kv2, σ = stO sa wd nu pa ld se t2 v7 v8 v9 v10 v11 v12 v13 v14 v15 v16 v17 none ∧ H6 t2 = some (.dT kv2) ∧ Ties N 4000 kv2 ∧ kv2.length ≤ 4000 ∧ Src H6 sa ca ∧ Kp3 sa ca t2 H3 H6, ?_, ?_⟩
    · refine ⟨_, rfl, wd, _, rfl, dg_ties W3.d, t, kvs, rfl, .inl W3.ht, fun l bs hl hk => ?_⟩
      obtain ⟨kl, hbl⟩ := keyL_of hk
      have kl2 := kl.same (same_new (o := .lst (bs.map V.ref)) hl)
      obtain ⟨so1, so2⟩ := sort_ties kl2 ti
      refine ⟨l, _, _, rfl, SqL.of upd_same, so1, so2, fun ys p pm hp => ?_⟩
      have s5 := (same_new (o := .lst (bs.map V.ref)) hl).trans (same_new (o := .lst ys) hp)
      have kly : KeyL (upd (upd H3 l (.lst (bs.map V.ref))) p (.lst ys)) kvs ys := fun y hy => (kl.same s5) y (pm.subset hy)
      have hpp : (upd (upd H3 l (.lst (bs.map V.ref))) p (.lst ys)) p = some (.lst ys) := upd_same
      have hyl : ys.length ≤ 300 := by rw [pm.length_eq, List.length_map]; omega
      have hp3 : H3 p = none := (same_new hl).free hp
      have np2 : p ≠ t2 := fun e => by subst e; rw [ht23] at hp3; cases hp3
      obtain ⟨nps', npc'⟩ := S3.ne hp3
      have S5 := S3.same s5
      generalize upd (upd H3 l (.lst (bs.map V.ref))) p (.lst ys) = H5 at *
      refine ⟨p, rfl, ⟨_, SqL.of hpp⟩, ?_⟩
      refine for_list (xs := ys) (fun i σ H6 => ∃ v9 v10 v11 v12 v13 v14 v15 v16 v17 kv2, σ = stO sa wd nu pa ld se t2 v7 v8 v9 v10 v11 v12 v13 v14 v15 v16 v17 none ∧ H6 t2 = some (.dT kv2) ∧ Ties N (10 * i) kv2 ∧ kv2.length ≤ 10 * i ∧ Src H6 sa ca ∧ Kp3 sa ca t2 H5 H6)
        ⟨v9, none, none, none, none, none, none, none, none, [], rfl, s5 _ _ ht23, Ties.nil N _, Nat.zero_le _, S5, Kp3.refl H5⟩ (fun i σ H6 _ ⟨_, _, _, _, _, _, _, _, _, _, _, _, _, _, _, h⟩ => SqL.of (h _ _ hpp nps' npc' np2)) ?_ ?_
      · rintro i y σ H6 hi ⟨v9, v10, v11, v12, v13, v14, v15, v16, v17, kv2, rfl, h26, ti6, hl6, S6, kp6⟩
        have hil := (List.getElem?_eq_some_iff.mp hi).1
        obtain ⟨b1, i1, j1, x1, kd1, rfl, hb1, hmem, hij, hjn, hkw, hx1, hx2⟩ := kly.tie ti (List.mem_of_getElem? hi)
        have stay : ∀ b o, H3 b = some o → b ≠ sa → b ≠ ca → b ≠ t2 → H6 b = some o := fun b o e h1 h2 h3 => kp6 b o (s5 _ _ e) h1 h2 h3
        have hb6 : H6 b1 = some (.tup [.int (i1 : Int), .int (j1 : Int), .str kd1]) := by
          obtain ⟨cs, l', m, tt, S5'⟩ := S5
          exact kp6 _ _ hb1 (ne_of hb1 S5'.ds (by intro z; cases z)) (ne_of hb1 S5'.dc (by intro z; cases z)) (ne_of hb1 (s5 _ _ ht23) (by intro z; cases z))
        obtain ⟨q, hq⟩ : ∃ q, ps[i1]? = some q := ⟨_, List.getElem?_eq_getElem (by omega)⟩
        have hq2 : ps[j1]? = some q := by rw [← hpe i1 j1 kd1 _ hmem]; exact hq
        have hqn := hpn q (List.mem_of_getElem? hq)
        obtain ⟨c, hc⟩ : ∃ c, ns[q]? = some c := ⟨_, List.getElem?_eq_getElem (by omega)⟩
        have hc10 := hns10 c (List.mem_of_getElem? hc)
        refine ⟨b1, _, rfl, SqT.of hb6, rfl, _, _, rfl, _, _, rfl, _, _, rfl, rfl, ?_⟩
        refine ⟨_, rfl, _, rfl, _, rfl, pa, _, _, V.int (q : Int), rfl, rfl, SqL.of (stay _ _ hpa3 nps npc npt2), atI_nat (by rw [List.getElem?_map, hq]; rfl), nu, _, _, V.int (c : Int), rfl, rfl, SqL.of (stay _ _ hnu3 nus nnc nut2), atI_nat (by rw [List.getElem?_map, hc]; rfl), ?_⟩
        have hwd6 := stay _ _ W3.d W3.ds.1 W3.ds.2 (ne_of W3.d ht23 (by intro z; cases z))
        have ht6 := stay _ _ W3.ht W3.ts.1 W3.ts.2 ntt2
        refine ⟨_, rfl, wd, _, rfl, dg_ties hwd6, _, rfl, _, rfl, _, rfl, (by show 3 ≤ sizeLine; decide), fun q1 hq1 => ?_⟩
        have s7 := same_new (o := .tup [V.int (i1 : Int), V.int (j1 : Int), V.str kd1]) hq1
        refine ⟨t, V.int (x1 : Int), rfl, (by rw [← val_of_mem ti.nd hmem]; exact DGet.t (k := [Sum.inl (i1 : Int), Sum.inl (j1 : Int), Sum.inr kd1]) (s7 _ _ ht6) upd_same), _, rfl, by omega, by omega, ?_⟩
        refine for_range (lo := 0) (n := (x1 : Int).toNat) (fun un σ H7 => ∃ v9 v14 v15 v16 v17 kv2, σ = stO sa wd nu pa ld se t2 v7 v8 v9 (some (.int (i1 : Int))) (some (.int (j1 : Int))) (some (.str kd1)) (some (.int (c : Int))) v14 v15 v16 v17 none ∧ H7 t2 = some (.dT kv2) ∧ Ties N (10 * i + 5 * un) kv2 ∧ kv2.length ≤ 10 * i + 5 * un ∧ Src H7 sa ca ∧ Kp3 sa ca t2 H5 H7)
          ⟨v9, v14, v15, v16, v17, kv2, rfl, s7 _ _ h26, ti6.mono (by omega), by omega, S6.same s7, kp6.kp (Kp.same s7)⟩ ?_ ?_
        · rintro un σ H7 hun ⟨v9, v14, v15, v16, v17, kv2, rfl, h27, ti7, hl7, S7, kp7⟩
          have hun' : un < x1 := by omega
          refine ⟨fun σ H8 => ∃ tu : Nat, σ = stO sa wd nu pa ld se t2 v7 v8 v9 (some (.int (i1 : Int))) (some (.int (j1 : Int))) (some (.str kd1)) (some (.int (c : Int))) (some (.int (0 + (un : Int)))) (some (.int (tu : Int))) v16 v17 none ∧ (1 ≤ c → tu < c) ∧ H8 t2 = some (.dT kv2) ∧ Src H8 sa ca ∧ Kp3 sa ca t2 H5 H8, ?_, ?_⟩
          · refine ⟨_, rfl, _, rfl, ?_⟩
            by_cases hc0 : 1 ≤ c
            · refine .inl ⟨sa, ca, _, rfl, S7, by omega, by omega, fun kk H8 k0 k1 S8 kp8 => ?_⟩
              refine ⟨kk.toNat, ?_, fun _ => by omega, kp8 _ _ h27 n2s n2c, S8, kp7.kp kp8⟩
              rw [Int.toNat_of_nonneg k0]
              rfl
            · exact .inr ⟨sa, _, rfl, by omega, 0, rfl, fun h => absurd h hc0, h27, S7, kp7⟩
          rintro σ H8 ⟨tu, rfl, htu, h28, S8, kp8⟩
          refine ⟨_, rfl, _, rfl, by omega, by omega, ?_⟩
          refine for_range (lo := 0) (n := (c : Int).toNat) (fun wu σ H9 => ∃ v9 v16 v17 kv2, σ = stO sa wd nu pa ld se t2 v7 v8 v9 (some (.int (i1 : Int))) (some (.int (j1 : Int))) (some (.str kd1)) (some (.int (c : Int))) (some (.int (0 + (un : Int)))) (some (.int (tu : Int))) v16 v17 none ∧ H9 t2 = some (.dT kv2) ∧ Ties N (10 * i + 5 * un + wu) kv2 ∧ kv2.length ≤ 10 * i + 5 * un + wu ∧ Src H9 sa ca ∧ Kp3 sa ca t2 H5 H9)
            ⟨v9, v16, v17, kv2, rfl, h28, ti7, hl7, S8, kp8⟩ ?_ ?_
          · rintro wu σ H9 hwu ⟨v9, v16, v17, kv2, rfl, h29, ti9, hl9, S9, kp9⟩
            have hwc : wu < c := by omega
            have stay9 : ∀ b o, H3 b = some o → b ≠ sa → b ≠ ca → b ≠ t2 → H9 b = some o := fun b o e h1 h2 h3 => kp9 b o (s5 _ _ e) h1 h2 h3
            have hse9 := stay9 _ _ hse3 nes nec nst
            obtain ⟨u1, hu1, hv1⟩ := hS i1 wu ⟨q, c, hq, hc, hwc⟩
            have hmod : ∃ z : Nat, (0 + (wu : Int) + (tu : Int)) % (c : Int) = (z : Int) ∧ z < c := by
              have h1 := Int.emod_nonneg (0 + (wu : Int) + (tu : Int)) (show (c : Int) ≠ 0 by omega)
              have h2 := Int.emod_lt_of_pos (0 + (wu : Int) + (tu : Int)) (show (0 : Int) < c by omega)
              exact ⟨((0 + (wu : Int) + (tu : Int)) % (c : Int)).toNat, by rw [Int.toNat_of_nonneg h1], by omega⟩
            obtain ⟨z, hz, hzc⟩ := hmod
            obtain ⟨u2, hu2, hv2⟩ := hS j1 z ⟨q, c, hq2, hc, hzc⟩
            have hu1N := (List.getElem?_eq_some_iff.mp hu1).1
            have hu2N := (List.getElem?_eq_some_iff.mp hu2).1
            have hne : u1 ≠ u2 := fun e => by subst e; rw [hu1] at hu2; have := Option.some.inj hu2; omega
            refine ⟨_, rfl, _, rfl, _, rfl, (by show 2 ≤ sizeLine; decide), fun q2 hq2' => ?_⟩
            have s10 := same_new (o := .tup [V.int (i1 : Int), V.int (0 + (wu : Int))]) hq2'
            refine ⟨se, V.int (u1 : Int), rfl, (by rw [← hv1]; refine DGet.t (k := [Sum.inl (i1 : Int), Sum.inl (wu : Int)]) (s10 _ _ hse9) ?_; rw [upd_same, Int.zero_add]; rfl), ?_⟩
            refine ⟨_, rfl, _, rfl, _, rfl, _, rfl, _, _, rfl, rfl, .inl ⟨_, rfl, _, rfl, _, _, rfl, rfl, by show (0 : Int) < c; omega, (by show 2 ≤ sizeLine; decide), fun q3 hq3 => ?_⟩⟩
            have s11 := s10.trans (same_new (o := .tup [V.int (j1 : Int), V.int ((0 + (wu : Int) + (tu : Int)) % (c : Int))]) hq3)
            refine ⟨se, V.int (u2 : Int), rfl, (by rw [← hv2]; refine DGet.t (k := [Sum.inl (j1 : Int), Sum.inl (z : Int)]) (s11 _ _ hse9) ?_; rw [upd_same]; show some (HO.tup [V.int (j1 : Int), V.int ((0 + (wu : Int) + (tu : Int)) % (c : Int))]) = _; rw [hz]; rfl), (by show 2 ≤ sizeLine; decide), fun l1 hl1 => ?_⟩
            refine ⟨l1, [(u1 : Int), (u2 : Int)], rfl, SqL.of upd_same, (by show 2 < 64; decide), fun ns' sp pms srt hsp => ?_⟩
            obtain ⟨n0, n1, rfl, h01, h1N⟩ := two_sorted pms srt hne (by omega : u1 < N) (by omega)
            have s12 := (s11.trans (same_new (o := .lst ([(u1 : Int), (u2 : Int)].map V.int)) hl1)).trans (same_new (o := .lst ([(n0 : Int), (n1 : Int)].map V.int)) hsp)
            refine ⟨_, rfl, sp, _, 0, V.int (n0 : Int), rfl, rfl, SqL.of upd_same, atI_nat (j := 0) rfl, _, rfl, sp, _, 1, V.int (n1 : Int), rfl, rfl, SqL.of upd_same, atI_nat (j := 1) rfl, _, rfl, (by show 3 ≤ sizeLine; decide), fun kt hkt => ?_⟩
            have s13 := s12.trans (same_new (o := .tup [V.int (n0 : Int), V.int (n1 : Int), V.str kd1]) hkt)
            have h213 := s13 _ _ h29
            refine ⟨_, rfl, t2, rfl, .inr ⟨kv2, .inl h213⟩, _, rfl, valV kv2 [Sum.inl (n0 : Int), Sum.inl (n1 : Int), Sum.inr kd1], DGet.t (k := [Sum.inl (n0 : Int), Sum.inl (n1 : Int), Sum.inr kd1]) h213 upd_same, ?_⟩
            obtain ⟨x, hx, hxm⟩ : ∃ x : Nat, (valV kv2 [Sum.inl (n0 : Int), Sum.inl (n1 : Int), Sum.inr kd1]).getD (V.int 0) = V.int (x : Int) ∧ x ≤ 10 * i + 5 * un + wu := by
              cases e : valV kv2 [Sum.inl (n0 : Int), Sum.inl (n1 : Int), Sum.inr kd1] with
              | none => exact ⟨0, rfl, Nat.zero_le _⟩
              | some v =>
                obtain ⟨x, h1, _, h3⟩ := ti9.val _ (mem_of_val e)
                exact ⟨x, h1, h3⟩
            rw [hx]
            refine ⟨_, _, rfl, rfl, _, rfl, _, rfl, t2, _, rfl, DPut.t (k := [Sum.inl (n0 : Int), Sum.inl (n1 : Int), Sum.inr kd1]) h213 upd_same (Evl.sz_lt (by omega)), ?_⟩
            refine ⟨_, _, _, putK kv2 [Sum.inl (n0 : Int), Sum.inl (n1 : Int), Sum.inr kd1] (V.int ((x + 1 : Nat) : Int)), rfl, upd_same, (ti9.mono (by omega)).put ⟨n0, n1, kd1, rfl, h01, h1N, hkw⟩ (by omega) (by omega), by have := length_putK kv2 [Sum.inl (n0 : Int), Sum.inl (n1 : Int), Sum.inr kd1] (V.int ((x + 1 : Nat) : Int)); omega, (S9.same s13).upd n2s n2c, (kp9.kp (Kp.same s13)).put⟩
          · rintro σ H9 ⟨v9, v16, v17, kv2, rfl, h29, ti9, hl9, S9, kp9⟩
            exact ⟨v9, _, _, v16, v17, kv2, rfl, h29, ti9.mono (by omega), by omega, S9, kp9⟩
        · rintro σ H7 ⟨v9, v14, v15, v16, v17, kv2, rfl, h27, ti7, hl7, S7, kp7⟩
          exact ⟨v9, _, _, _, _, v14, v15, v16, v17, kv2, rfl, h27, ti7.mono (by omega), by omega, S7, kp7⟩
      · rintro σ H6 ⟨v9, v10, v11, v12, v13, v14, v15, v16, v17, kv2, rfl, h26, ti6, hl6, S6, kp6⟩
        exact ⟨v9, v10, v11, v12, v13, v14, v15, v16, v17, kv2, rfl, h26, ti6.mono (by omega), by omega, S6, fun b o e h1 h2 h3 => kp6 b o (s5 _ _ e) h1 h2 h3⟩
    rintro σ H6 ⟨v9, v10, v11, v12, v13, v14, v15, v16, v17, kv2, rfl, h26, ti6, hl6, S6, kp6⟩
    have st6 : ∀ b o, H3 b = some o → b ≠ sa → b ≠ ca → b ≠ t2 → H6 b = some o := kp6
    have nlt2 : ld ≠ t2 := nt2l.symm
    have hld6 := kp6 _ _ hld3 nls nlc nlt2
    have W6d := kp6 _ _ W3.d W3.ds.1 W3.ds.2 (ne_of W3.d ht23 (by intro z; cases z))
    have W6c := kp6 _ _ W3.hc W3.bs.1 W3.bs.2 (ne_of W3.hc ht23 (by intro z; cases z))
    have kp06 : Kp sa ca H H6 := fun b o e h1 h2 => kp6 b o (fr03 b o e) h1 h2 (ne_of_none e ht20)
    -- colours
    refine ⟨fun σ H7 => ∃ bc cl2, σ = stO sa wd nu pa ld se t2 v7 v8 v9 v10 v11 v12 v13 v14 v15 v16 v17 (some (.ref bc)) ∧ H6 bc = none ∧ H7 bc = some (.lst (List.map V.str cl2)) ∧ cl2.length = N ∧ (∀ x ∈ cl2, isWordB x = true) ∧ Same H6 H7, ?_, ?_⟩
    · refine ⟨_, rfl, ld, rfl, ⟨_, SqL.of hld6⟩, fun D hD => ?_⟩
      refine lc_list (xs := natV led) (fun i H7 => ∃ cl2, H7 D = some (.lst (List.map V.str cl2)) ∧ cl2.length = i ∧ (∀ x ∈ cl2, isWordB x = true) ∧ Same H6 H7) ⟨[], upd_same, rfl, (fun x hx => (List.not_mem_nil hx).elim), same_new hD⟩ (fun i H7 _ ⟨_, _, _, _, h⟩ => SqL.of (h _ _ hld6)) ?_ ?_
      · rintro i x H7 hi ⟨cl2, hD7, hcl2, hcw2, s7⟩
        have hil := (List.getElem?_eq_some_iff.mp hi).1
        rw [List.length_map] at hil
        rw [List.getElem?_map] at hi
        obtain ⟨y0, hy0, rfl⟩ := Option.map_eq_some_iff.mp hi
        have hyN := hln y0 (List.mem_of_getElem? hy0)
        have hcn := W.cn
        obtain ⟨cy, hcy⟩ : ∃ cy, cl[y0]? = some cy := ⟨_, List.getElem?_eq_getElem (by omega)⟩
        refine ⟨rfl, tyes ?_⟩
        refine ⟨_, rfl, wd, _, rfl, dg_colours (s7 _ _ W6d), _, rfl, b, _, _, V.str cy, rfl, rfl, SqL.of (s7 _ _ W6c), atI_nat (by rw [List.getElem?_map, hcy]; rfl), ?_⟩
        refine ⟨_, hD7, Evl.sz_lt (by rw [List.length_map]; omega), cl2 ++ [cy], by rw [upd_same, List.map_append]; rfl, by simp [hcl2], ?_, ?_⟩
        · intro x hx
          rcases List.mem_append.mp hx with z | z
          · exact hcw2 x z
          · rw [List.mem_singleton] at z
            subst z
            exact W.cw _ (List.mem_of_getElem? hcy)
        · intro b o e
          rw [upd_ne (ne_of_none e hD)]
          exact s7 b o e
      · rintro H7 ⟨cl2, hD7, hcl2, hcw2, s7⟩
        rw [List.length_map] at hcl2
        exact ⟨D, cl2, rfl, hD, hD7, by omega, hcw2, s7⟩
    rintro σ H7 ⟨bc, cl2, rfl, hbc6, hbc, hcl2, hcw2, s7⟩
    have S7 := S6.same s7
    have hbc0 : H bc = none := kp06.free S6 hbc6
    obtain ⟨nbs, nbc⟩ := S.ne hbc0
    refine ⟨_, rfl, ?_⟩
    intro p hp
    have sp := same_new (o := .dK []) hp
    obtain ⟨nps', npc'⟩ := S7.ne hp
    refine ⟨_, rfl, _, rfl, _, rfl, upd_same, worldD ld bc t2, rfl, (by show 3 ≤ 15; decide), ?_⟩
    rw [merge_wd]
    have s8 : Same H7 (upd (upd H7 p (.dK [])) p (.dK (worldD ld bc t2))) := fun b o e => by
      rw [upd_ne (ne_of_none e hp), upd_ne (ne_of_none e hp)]
      exact e
    have hpp : (upd (upd H7 p (.dK [])) p (.dK (worldD ld bc t2))) p = some (.dK (worldD ld bc t2)) := upd_same
    have kp08 : Kp sa ca H (upd (upd H7 p (.dK [])) p (.dK (worldD ld bc t2))) := (kp06.trans (Kp.same s7)).trans (Kp.same s8)
    generalize upd (upd H7 p (.dK [])) p (.dK (worldD ld bc t2)) = H8 at *
    have S8 := S7.same s8
    refine ⟨_, rfl, sa, ca, p, ld, bc, t2, ld, cl2, 4000, kv2, led, rfl, S8, hpp, nps', s8 _ _ hbc, nbc, s8 _ _ (s7 _ _ h26), s8 _ _ (s7 _ _ hld6), nlc, by omega, hcw2, by omega, by omega, hl6, by rw [hNN]; exact ti6, ?_⟩
    intro r wd' a' b' t' ld' nm' cl' kvs' led' H' z1 z2 z3 z4 z5 hr' W' hl' ti' hk' hld' hll' hlm S' kp'
    refine k r wd' a' b' t' ld' nm' cl' kvs' led' H' (kp08.free S8 z1) (kp08.free S8 z2) (kp08.free S8 z3) (kp08.free S8 z4) (kp08.free S8 z5) hr' W' (by omega) ti' hk' hld' (by omega) (fun x hx => hln x ((hlm x).mp hx)) (fun c0 h0 => by have h1 : led.length ≤ c0 * n := hLK c0 h0; show led'.length ≤ c0 * n; omega) (fun p hp hc1 heq => (hlm p).mpr ?_) S' (kp08.trans kp')
    obtain ⟨q, hq⟩ : ∃ q, ps[p]? = some q := ⟨_, List.getElem?_eq_getElem (by omega)⟩
    have hqn := hpn q (List.mem_of_getElem? hq)
    obtain ⟨c, hc⟩ : ∃ c, ns[q]? = some c := ⟨_, List.getElem?_eq_getElem (by omega)⟩
    have c1 := hc1 c (fun x hx => heq x hx c (List.mem_of_getElem? hc))
    obtain ⟨idx, h1, _⟩ := hS p 0 ⟨q, c, hq, hc, by omega⟩
    exact List.mem_of_getElem? h1
end
end Nm
set_option maxRecDepth 100000
set_option maxHeartbeats 4000000
/-! _law_ring, _law_blocks -/
namespace Nm
open PySem L2
def ringT (a b : List Nat) (n : Nat) : List (List Int) := a.map fun p => b.map fun q => (if q = p then 1 else 0) + (if q = (p + 1) % n then 1 else 0)
def blT (t1 t2 : List (List Int)) (m1 m2 : Nat) : List (List Int) := (t1.map fun r => r ++ List.replicate m2 0) ++ t2.map fun r => List.replicate m1 0 ++ r
theorem ifnat (y z : Nat) : (if decide (V.int (y : Int) = V.int (z : Int)) = true then (1 : Int) else 0) = if y = z then 1 else 0 := by
  by_cases c : y = z
  · rw [c, decide_eq_true rfl, if_pos rfl, if_pos rfl]
  · rw [decide_eq_false (fun q => c (by have := V.int.inj q; omega)), if_neg (by decide), if_neg c]
section
variable {P : Program} {w : World} {K : PySem.W.Frag} {mg : Str → Option Value} {base : Heap}
def spRi : Sp := fun vs H Q _ => ∃ (s c : Addr) (n : Nat), vs = [.ref s, .int (n : Int)] ∧ Src H s c ∧ 1 ≤ n ∧ n ≤ 8 ∧
  ∀ (p : Addr) (a b : List Nat) (H' : Hp), H p = none → a.Perm (List.range n) → b.Perm (List.range n) → TblAt H' p (ringT a b n) → Src H' s c → Kp s c H H' → Q (.ref p) H'
abbrev nRi : List Str := ["_law_source", "_law_many", "_law_rows", "_law_columns", "_law_found", "_law_p", "_law_q"]
theorem scRi : FnScope nRi ["_law_source", "_law_many"] (defScope sRing) := ⟨rfl, rfl, rfl, by decide +kernel, rfl, by decide +kernel, by decide +kernel⟩
abbrev mRi : TE := tOp (rI0 fun i j => .int (i + j)) (tCB rInt1 (tCons (tOp rEq (tVar 6) (tVar 5)) tNil)) (tCB rInt1 (tCons (tOp rEq (tVar 6) (tOp (rI (fun _ j => 0 < j) fun i j => .int (i % j)) (tCB rInt1 (tCons (tOp (rI0 fun i j => .int (i + j)) (tVar 5) (tC (.int 1))) tNil)) (tVar 1))) tNil))
theorem ok_ring {f : Addr} {fd : FuncData} (F : Fun K "_law_ring" "_law_ring" sRing f fd) (T : TxtR mg) (Ga : Def P w K mg base "_law_any_order" ["_law_source", "_law_items"] 2 (spAny K)) : FnOk P w K mg base CX0 3 f fd ["_law_source", "_law_many"] spRi := by
  obtain ⟨fa, fda, Ga, ma, ka, ba⟩ := Ga.ex
  refine F.ok scRi (fun vs H Q E h => ?_) (fun cdv A outer s H vs Q E hr h => ?_)
  · obtain ⟨_, _, _, rfl, _⟩ := h
    rfl
  obtain ⟨sa, ca, n, rfl, S, n1, n8, k⟩ := h
  refine ⟨_, Evl.pss_cut (ps_par (i := 2) (j := 3) (by rfl) scRi.nd rfl rfl (by decide) rfl rfl (pa_cons (pe_call Ga hr (by rfl) ma ka ba .nil pass0 (pa_cons (pv 0) (pa_cons (pe_listRg rfl (by rfl) T.list (prg_1 (by rfl) T.range (pv 1))) pa_nil))) (pa_cons (pe_call Ga hr (by rfl) ma ka ba .nil pass0 (pa_cons (pv 0) (pa_cons (pe_listRg rfl (by rfl) T.list (prg_1 (by rfl) T.range (pv 1))) pa_nil))) pa_nil)) (by rfl))
    (Evl.pss_cut (ps_set (i := 4) scRi.nd rfl (Or.inl rfl) (pe_lst pa_nil))
    (Evl.pss_cut (ps_for PassesOwn.never rfl (pi_list (pv 2)) (pg_name (i := 5) scRi.nd rfl (Or.inr rfl))
      (pss_one (ps_expr (pe_bm PySem.F.plainAttrs_list PySem.F.slot_list_append PySem.F.type_list_append mt_append (pv 4) (pa_cons (pe_callTy call_tupL (by rfl) T.tuple (by decide +kernel) (pa_cons
        (pe_lc (own := [("_law_q", 6)]) (g := gName 6) (tt := tYes) (te := mRi) rfl scRi.nd (pi_list (pv 3)) (blkOk_by (N := nRi) (sc := defScope sRing) (by decide +kernel))
          (fun _ _ _ _ _ => pg_name (i := 6) scRi.nd rfl (Or.inl rfl)) (fun _ _ _ _ _ => pts_nil)
          (fun _ _ _ _ _ => by
            refine pe_op op_add (pe_callTy call_int1' ?a (by exact T.int) (by decide +kernel) (pa_cons (pe_cmpR op_eq (pv 6) (pv 5) (nomark _)) pa_nil)) (pe_callTy call_int1' ?b (by exact T.int) (by decide +kernel) (pa_cons (pe_cmpR op_eq (pv 6) (pe_op op_mod (pe_callTy call_int1' ?c (by exact T.int) (by decide +kernel) (pa_cons (pe_op op_add (pv 5) pe_int) pa_nil)) (pv 1)) (nomark _)) pa_nil))
            all_goals rfl)) pa_nil)) pa_nil)))))
    (pss_one (ps_ret (pe_callTy call_tupL (by rfl) T.tuple (by decide +kernel) (pa_cons (pv 4) pa_nil)))))), ?_⟩
  refine ⟨fun σ H1 => ∃ ro co a b, σ = [some (.ref sa), some (.int (n : Int)), some (.ref ro), some (.ref co), none, none, none] ∧ H1 ro = some (.lst (natV a)) ∧ H1 co = some (.lst (natV b)) ∧ a.Perm (List.range n) ∧ b.Perm (List.range n) ∧ Src H1 sa ca ∧ Kp sa ca H H1, ?_, ?_⟩
  · refine ⟨_, rfl, _, rfl, _, rfl, RgOk.of_le (by omega) (by omega) (by omega) (by omega), fun q hq => ?_⟩
    rw [rgV_nat]
    refine ⟨sa, ca, q, _, rfl, S.new hq, SqL.of upd_same, by simp; omega, fun ro ys H1 hp pm hpl S1 kp1 => ?_⟩
    have pm' : ys.Perm (natV (List.range n)) := pm
    obtain ⟨a, rfl, pa⟩ := Nm.perm_nat pm'
    have hro : H ro = none := (same_new hq).free hp
    obtain ⟨nrs, nrc⟩ := S.ne hro
    have kp01 := (Kp.same (same_new (o := .lst (natV (List.range n))) hq)).trans kp1
    refine ⟨_, rfl, _, rfl, _, rfl, RgOk.of_le (by omega) (by omega) (by omega) (by omega), fun q2 hq2 => ?_⟩
    rw [rgV_nat]
    refine ⟨sa, ca, q2, _, rfl, S1.new hq2, SqL.of upd_same, by simp; omega, fun co ys H2 hp2 pm2 hpl2 S2 kp2 => ?_⟩
    have pm2' : ys.Perm (natV (List.range n)) := pm2
    obtain ⟨b, rfl, pb⟩ := Nm.perm_nat pm2'
    have kp12 := (Kp.same (same_new (o := .lst (natV (List.range n))) hq2)).trans kp2
    exact ⟨_, _, rfl, ro, co, a, b, rfl, kp12 _ _ hpl nrs nrc, hpl2, pa, pb, S2, kp01.trans kp12⟩
  rintro σ H1 ⟨ro, co, a, b, rfl, hro, hco, pa, pb, S1, kp1⟩
  have al : a.length = n := by rw [pa.length_eq, List.length_range]
  have bl : b.length = n := by rw [pb.length_eq, List.length_range]
  have rl : (ringT a b n).length = n := by unfold ringT; rw [List.length_map, al]
  refine ⟨fun σ H2 => ∃ D, σ = [some (.ref sa), some (.int (n : Int)), some (.ref ro), some (.ref co), some (.ref D), none, none] ∧ H1 D = none ∧ H2 D = some (.lst []) ∧ Same H1 H2, ?_, ?_⟩
  · exact ⟨(by show 0 ≤ sizeLine; decide), fun D hD => ⟨D, rfl, hD, upd_same, same_new hD⟩⟩
  rintro σ H2 ⟨D, rfl, hD0, hD2, s2⟩
  refine ⟨fun σ H3 => ∃ v5 as, σ = [some (.ref sa), some (.int (n : Int)), some (.ref ro), some (.ref co), some (.ref D), v5, none] ∧ RowsAt H3 D as (ringT a b n) ∧ Same H1 H3, ?_, ?_⟩
  · refine ⟨_, rfl, ro, rfl, ⟨_, SqL.of (s2 _ _ hro)⟩, ?_⟩
    refine for_it (walk_list (xs := natV a)) (fun i σ H3 => ∃ v5 as, σ = [some (.ref sa), some (.int (n : Int)), some (.ref ro), some (.ref co), some (.ref D), v5, none] ∧ RowsAt H3 D as ((ringT a b n).take i) ∧ Same H1 H3)
      ⟨none, [], rfl, RowsAt.nil' hD2, s2⟩ (fun i σ H3 _ ⟨_, _, _, _, s⟩ => SqL.of (s _ _ hro)) ?_ ?_
    · rintro i x σ H4 H3 hi ⟨v5, as, rfl, R, s3⟩ ⟨rfl, hx⟩
      unfold natV at hx
      rw [List.getElem?_map] at hx
      obtain ⟨p, hp, rfl⟩ := Option.map_eq_some_iff.mp hx
      have hil := (List.getElem?_eq_some_iff.mp hp).1
      have hRi : (ringT a b n)[i]? = some (b.map fun q => (if q = p then (1 : Int) else 0) + (if q = (p + 1) % n then 1 else 0)) := by
        unfold ringT
        rw [List.getElem?_map, hp]
        rfl
      generalize hF : (fun q => (if q = p then (1 : Int) else 0) + (if q = (p + 1) % n then 1 else 0)) = F at hRi
      refine ⟨_, rfl, .inl ⟨rfl, _, SqL.of R.1⟩, ?_⟩
      refine ⟨_, rfl, co, rfl, ⟨_, SqL.of (s3 _ _ hco)⟩, fun D2 hD2 => ?_⟩
      refine lc_it (walk_list (xs := natV b)) (fun j H5 => H5 D2 = some (.lst (((b.take j).map F).map V.int)) ∧ Same H3 H5) ⟨upd_same, same_new hD2⟩ (fun j H5 _ h => SqL.of (h.2 _ _ (s3 _ _ hco))) ?_ ?_
      · rintro j v H6 H5 hj ⟨hD5, s5⟩ ⟨rfl, hv⟩
        unfold natV at hv
        rw [List.getElem?_map] at hv
        obtain ⟨q, hq, rfl⟩ := Option.map_eq_some_iff.mp hv
        refine ⟨rfl, tyes ?_⟩
        refine ⟨_, rfl, _, rfl, rfl, .inr ⟨_, rfl, _, rfl, _, rfl, _, _, rfl, rfl, .inl ⟨_, rfl, _, rfl, _, _, rfl, rfl, by omega, ?_⟩⟩⟩
        refine ⟨rfl, .inr ⟨_, rfl, _, _, rfl, rfl, ?_⟩⟩
        refine ⟨_, hD5, Evl.sz_lt (by rw [List.length_map, List.length_map, List.length_take]; omega), ?_, Same.off s5 hD2⟩
        rw [upd_same, List.take_add_one, hq, List.map_append, List.map_append]
        have e3 : ((p : Int) + 1) % (n : Int) = (((p + 1) % n : Nat) : Int) := by
          rw [Int.natCast_emod, Int.natCast_add]
          rfl
        show some (HO.lst (_ ++ [V.int ((if decide (V.int (q : Int) = V.int (p : Int)) = true then (1 : Int) else 0) + (if decide (V.int (q : Int) = V.int (((p : Int) + 1) % (n : Int))) = true then (1 : Int) else 0))])) = some (HO.lst (_ ++ [V.int (F q)]))
        rw [e3, ifnat, ifnat, ← hF]
      · rintro H5 ⟨hD5, s5⟩
        have lb : (natV b).length = b.length := List.length_map _
        rw [lb, List.take_length] at hD5
        refine ⟨D2, _, rfl, SqL.of hD5, fun p hp => ?_⟩
        have s6 := s5.trans (same_new (o := .tup ((b.map F).map V.int)) hp)
        have R6 := R.same s6
        have hl : (as.map V.ref).length ≤ 8 := by rw [R.len, List.length_take]; omega
        refine ⟨D, _, _, rfl, rfl, R6.1, Evl.sz_lt (by omega), ?_⟩
        exact ⟨_, as ++ [p], rfl, R6.addI hRi upd_same, Same.off (s3.trans s6) hD0⟩
    · rintro σ H3 ⟨v5, as, rfl, R, s3⟩
      have la : (natV a).length = (ringT a b n).length := by rw [rl]; unfold natV; rw [List.length_map, al]
      rw [la, List.take_length] at R
      exact ⟨v5, as, rfl, R, s3⟩
  rintro σ H3 ⟨v5, as, rfl, R, s3⟩
  refine ⟨_, rfl, D, _, rfl, SqL.of R.1, fun p hp => ?_⟩
  have s4 := same_new (o := .tup (as.map V.ref)) hp
  exact k p a b _ (kp1.free S1 (s3.free hp)) pa pb ((R.same s4).tbl upd_same) (S1.same (s3.trans s4)) (kp1.trans (Kp.same (s3.trans s4)))
end
end Nm
set_option maxRecDepth 100000
set_option maxHeartbeats 4000000
/-! _law_blocks, _law_base, _law_bound_over -/
namespace Nm
open PySem L2
theorem rep0 (k : Nat) : (List.replicate ((k : Int).toNat) [V.int 0]).flatten = (List.replicate k (0 : Int)).map V.int := by
  rw [Int.toNat_natCast, List.flatten_replicate_singleton, List.map_replicate]
section
variable {P : Program} {w : World} {K : PySem.W.Frag} {mg : Str → Option Value} {base : Heap}
def spBl : Sp := fun vs H Q _ => ∃ (p1 p2 : Addr) (t1 t2 : List (List Int)) (m1 m2 : Nat), vs = [.ref p1, .ref p2] ∧ TblAt H p1 t1 ∧ TblAt H p2 t2 ∧ TblOk t1 m1 ∧ TblOk t2 m2 ∧ 2 ≤ m1 ∧ 2 ≤ m2 ∧
  ∀ (p : Addr) (H' : Hp), TblAt H' p (blT t1 t2 m1 m2) → Same H H' → Q (.ref p) H'
abbrev nBl : List Str := ["_law_first", "_law_last", "_law_rows", "_law_row"]
theorem scBl : FnScope nBl ["_law_first", "_law_last"] (defScope sBlocks) := ⟨rfl, rfl, rfl, by decide +kernel, rfl, by decide +kernel, by decide +kernel⟩
abbrev zBl (K : PySem.W.Frag) (i : Nat) : TE := tOp (rRepT K) (tTup (tCons (tC (.int 0)) tNil)) (tCB (rLenS K) (tCons (tOp (rIxT K) (tVar i) (tC (.int 0))) tNil))
theorem ok_blocks {f : Addr} {fd : FuncData} (F : Fun K "_law_blocks" "_law_blocks" sBlocks f fd) (T : TxtR mg) : FnOk P w K mg base CX0 1 f fd ["_law_first", "_law_last"] spBl := by
  refine F.ok scBl (fun vs H Q E h => ?_) (fun cdv A outer s H vs Q E hr h => ?_)
  · obtain ⟨_, _, _, _, _, _, rfl, _⟩ := h
    rfl
  obtain ⟨p1, p2, t1, t2, m1, m2, rfl, ⟨as1, hp1, hl1, hs1⟩, ⟨as2, hp2, hl2, hs2⟩, ok1, ok2, a2, b2, k⟩ := h
  refine ⟨_, Evl.pss_cut (ps_setLc (i := 2) (own := [("_law_row", 3)]) (g := gName 3) (tt := tYes) (te := tOp (rCatT K) (tVar 3) (zBl K 1)) rfl scBl.nd rfl rfl (sw_true rfl rfl rfl (by decide +kernel)) (pi_tup (pv 0)) (blkOk_by (N := nBl) (sc := defScope sBlocks) (by decide +kernel))
        (fun _ _ _ _ _ => pg_name (i := 3) scBl.nd rfl (Or.inl rfl)) (fun _ _ _ _ _ => pts_nil)
        (fun _ _ _ _ _ => by
          refine pe_op op_catT (pv 3) (pe_op op_repT (pe_tup (pa_cons pe_int pa_nil)) (pe_callB call_len_seq ?z1 (by exact T.len) PySem.boot_len (pa_cons (pe_ix ix_tup (pv 1) pe_int (fun _ _ => rfl)) pa_nil)))
          case z1 => rfl))
    (pss_one (ps_ret (pe_callTy call_tupL (by rfl) T.tuple (by decide +kernel) (pa_cons (pe_op op_cat (pv 2)
      (pe_lc (own := [("_law_row", 3)]) (g := gName 3) (tt := tYes) (te := tOp (rCatT K) (zBl K 0) (tVar 3)) rfl scBl.nd (pi_tup (pv 1)) (blkOk_by (N := nBl) (sc := defScope sBlocks) (by decide +kernel))
        (fun _ _ _ _ _ => pg_name (i := 3) scBl.nd rfl (Or.inl rfl)) (fun _ _ _ _ _ => pts_nil)
        (fun _ _ _ _ _ => by
          refine pe_op op_catT (pe_op op_repT (pe_tup (pa_cons pe_int pa_nil)) (pe_callB call_len_seq ?z2 (by exact T.len) PySem.boot_len (pa_cons (pe_ix ix_tup (pv 0) pe_int (fun _ _ => rfl)) pa_nil))) (pv 3)
          case z2 => rfl))) pa_nil)))), ?_⟩
  have n1 := ok1.n1
  have n8 := ok1.n8
  have q1 := ok2.n1
  have q8 := ok2.n8
  have m8 := ok1.m8
  have m8' := ok2.m8
  have row1 : ∀ (k : Nat), k < t1.length → ∃ (b : Addr) (r : List Int), as1[k]? = some b ∧ t1[k]? = some r ∧ r.length = m1 ∧ H b = some (.tup (r.map V.int)) := fun k hk => by
    obtain ⟨b, hb⟩ : ∃ b, as1[k]? = some b := ⟨_, List.getElem?_eq_getElem (by omega)⟩
    have hr := List.getElem?_eq_getElem hk
    exact ⟨b, _, hb, hr, ok1.rm _ (List.mem_of_getElem? hr), hs1 k b _ hb hr⟩
  have row2 : ∀ (k : Nat), k < t2.length → ∃ (b : Addr) (r : List Int), as2[k]? = some b ∧ t2[k]? = some r ∧ r.length = m2 ∧ H b = some (.tup (r.map V.int)) := fun k hk => by
    obtain ⟨b, hb⟩ : ∃ b, as2[k]? = some b := ⟨_, List.getElem?_eq_getElem (by omega)⟩
    have hr := List.getElem?_eq_getElem hk
    exact ⟨b, _, hb, hr, ok2.rm _ (List.mem_of_getElem? hr), hs2 k b _ hb hr⟩
  obtain ⟨b1, r1, hb1, hr1, hrm1, hHb1⟩ := row1 0 (by omega)
  obtain ⟨b2, r2, hb2, hr2, hrm2, hHb2⟩ := row2 0 (by omega)
  have l1 : (r1.map V.int).length = m1 := by rw [List.length_map, hrm1]
  have l2 : (r2.map V.int).length = m2 := by rw [List.length_map, hrm2]
  have z (k : Nat) (r : List Int) : r.map V.int ++ (List.replicate ((k : Int).toNat) [V.int 0]).flatten = (r ++ List.replicate k 0).map V.int := by rw [rep0, List.map_append]
  have z' (k : Nat) (r : List Int) : (List.replicate ((k : Int).toNat) [V.int 0]).flatten ++ r.map V.int = (List.replicate k 0 ++ r).map V.int := by rw [rep0, List.map_append]
  refine ⟨fun σ H1 => ∃ D as, σ = [some (.ref p1), some (.ref p2), some (.ref D), none] ∧ RowsAt H1 D as (t1.map fun r => r ++ List.replicate m2 0) ∧ Same H H1, ?_, ?_⟩
  · refine ⟨_, rfl, p1, rfl, ⟨_, SqT.of hp1⟩, fun D hD => ?_⟩
    refine lc_it (walk_tup (xs := as1.map V.ref)) (fun i H1 => ∃ as, RowsAt H1 D as ((t1.map fun r => r ++ List.replicate m2 0).take i) ∧ Same H H1) ⟨[], RowsAt.nil, same_new hD⟩ (fun i H1 _ ⟨_, _, s⟩ => SqT.of (s _ _ hp1)) ?_ ?_
    · rintro i x H2 H1 hi ⟨as, R, s1⟩ ⟨rfl, hx⟩
      rw [List.length_map] at hi
      rw [List.getElem?_map] at hx
      obtain ⟨a, ha, rfl⟩ := Option.map_eq_some_iff.mp hx
      obtain ⟨r, hr⟩ : ∃ r, t1[i]? = some r := ⟨_, List.getElem?_eq_getElem (by omega)⟩
      have hHa := hs1 i a r ha hr
      have hrm := ok1.rm r (List.mem_of_getElem? hr)
      have rne : r.map V.int ≠ [] := fun e => by
        have h := congrArg List.length e
        rw [List.length_map, hrm] at h
        exact absurd h (by show ¬ m1 = 0; omega)
      refine ⟨rfl, tyes ?_⟩
      refine ⟨_, rfl, (by show 1 ≤ sizeLine; decide), fun u hu => ?_⟩
      have su := same_new (o := .tup [V.int 0]) hu
      have s2 := s1.trans su
      refine ⟨_, rfl, p2, _, _, V.ref b2, rfl, rfl, SqT.of (s2 _ _ hp2), atI_nat (j := 0) (by rw [List.getElem?_map, hb2]; rfl), b2, _, rfl, .inr (SqT.of (s2 _ _ hHb2)), u, _, _, rfl, rfl, SqT.of upd_same, (fun e => by cases e), by rw [l2]; omega, by rw [l2]; omega, (by show 1 ≤ 1000; decide), fun v hv => ?_⟩
      rw [l2]
      have sv := same_new (o := .tup (List.replicate ((m2 : Int).toNat) [V.int 0]).flatten) hv
      have hv2 : (upd (upd H1 u (.tup [V.int 0])) v (.tup (List.replicate ((m2 : Int).toNat) [V.int 0]).flatten)) v = some (.tup (List.replicate ((m2 : Int).toNat) [V.int 0]).flatten) := upd_same
      have ln : (List.replicate ((m2 : Int).toNat) [V.int 0]).flatten.length = m2 := by rw [rep0, List.length_map, List.length_replicate]
      have nn : (List.replicate ((m2 : Int).toNat) [V.int 0]).flatten ≠ [] := fun e => by
        rw [e] at ln
        simp at ln
        omega
      refine ⟨a, v, _, _, rfl, rfl, SqT.of (sv _ _ (su _ _ (s1 _ _ hHa))), SqT.of hv2, rne, ?_, fun e => absurd e nn, fun _ p hp => ?_⟩
      · rw [ln, List.length_map]
        exact Evl.sz_of (by omega)
      have s4 := (su.trans sv).trans (same_new (o := .tup (r.map V.int ++ (List.replicate ((m2 : Int).toNat) [V.int 0]).flatten)) hp)
      have R4 := R.same s4
      have hl : (as.map V.ref).length ≤ 8 := by rw [R.len, List.length_take, List.length_map]; omega
      exact ⟨_, R4.1, Evl.sz_lt (by omega), as ++ [p], R4.addI (by rw [List.getElem?_map, hr]; rfl) (by rw [upd_same, z]), Same.off (s1.trans s4) hD⟩
    · rintro H1 ⟨as, R, s1⟩
      rw [List.length_map, hl1, List.take_of_length_le (by rw [List.length_map]; exact Nat.le_refl _)] at R
      exact ⟨D, as, rfl, R, s1⟩
  rintro σ H1 ⟨D, as, rfl, R, s1⟩
  refine ⟨_, rfl, _, rfl, p2, rfl, ⟨_, SqT.of (s1 _ _ hp2)⟩, fun D2 hD2 => ?_⟩
  refine lc_it (walk_tup (xs := as2.map V.ref)) (fun i H2 => ∃ bs, RowsAt H2 D2 bs ((t2.map fun r => List.replicate m1 0 ++ r).take i) ∧ Same H1 H2) ⟨[], RowsAt.nil, same_new hD2⟩ (fun i H2 _ ⟨_, _, s⟩ => SqT.of (s _ _ (s1 _ _ hp2))) ?_ ?_
  · rintro i x H3 H2 hi ⟨bs, R2, s2⟩ ⟨rfl, hx⟩
    rw [List.length_map] at hi
    rw [List.getElem?_map] at hx
    obtain ⟨a, ha, rfl⟩ := Option.map_eq_some_iff.mp hx
    obtain ⟨r, hr⟩ : ∃ r, t2[i]? = some r := ⟨_, List.getElem?_eq_getElem (by omega)⟩
    have hHa := hs2 i a r ha hr
    have hrm := ok2.rm r (List.mem_of_getElem? hr)
    have rne : r.map V.int ≠ [] := fun e => by
      have h := congrArg List.length e
      rw [List.length_map, hrm] at h
      exact absurd h (by show ¬ m2 = 0; omega)
    have s02 := s1.trans s2
    refine ⟨rfl, tyes ?_⟩
    refine ⟨(by show 1 ≤ sizeLine; decide), fun u hu => ?_⟩
    have su := same_new (o := .tup [V.int 0]) hu
    have s3 := s02.trans su
    refine ⟨_, rfl, p1, _, _, V.ref b1, rfl, rfl, SqT.of (s3 _ _ hp1), atI_nat (j := 0) (by rw [List.getElem?_map, hb1]; rfl), b1, _, rfl, .inr (SqT.of (s3 _ _ hHb1)), u, _, _, rfl, rfl, SqT.of upd_same, (fun e => by cases e), by rw [l1]; omega, by rw [l1]; omega, (by show 1 ≤ 1000; decide), fun v hv => ?_⟩
    rw [l1]
    have sv := same_new (o := .tup (List.replicate ((m1 : Int).toNat) [V.int 0]).flatten) hv
    have hv2 : (upd (upd H2 u (.tup [V.int 0])) v (.tup (List.replicate ((m1 : Int).toNat) [V.int 0]).flatten)) v = some (.tup (List.replicate ((m1 : Int).toNat) [V.int 0]).flatten) := upd_same
    have ln : (List.replicate ((m1 : Int).toNat) [V.int 0]).flatten.length = m1 := by rw [rep0, List.length_map, List.length_replicate]
    have nn : (List.replicate ((m1 : Int).toNat) [V.int 0]).flatten ≠ [] := fun e => by
      rw [e] at ln
      exact absurd ln (by show ¬ 0 = m1; omega)
    refine ⟨_, rfl, v, a, _, _, rfl, rfl, SqT.of hv2, SqT.of (sv _ _ (su _ _ (s02 _ _ hHa))), nn, ?_, fun e => absurd e rne, fun _ p hp => ?_⟩
    · rw [ln, List.length_map]
      exact Evl.sz_of (by omega)
    have s4 := (su.trans sv).trans (same_new (o := .tup ((List.replicate ((m1 : Int).toNat) [V.int 0]).flatten ++ r.map V.int)) hp)
    have R4 := R2.same s4
    have hl : (bs.map V.ref).length ≤ 8 := by rw [R2.len, List.length_take, List.length_map]; omega
    exact ⟨_, R4.1, Evl.sz_lt (by omega), bs ++ [p], R4.addI (by rw [List.getElem?_map, hr]; rfl) (by rw [upd_same, z']), Same.off (s2.trans s4) hD2⟩
  rintro H2 ⟨bs, R2, s2⟩
  rw [List.length_map, hl2, List.take_of_length_le (by rw [List.length_map]; exact Nat.le_refl _)] at R2
  have R1 := R.same s2
  have la := R1.len
  have lb := R2.len
  rw [List.length_map] at la lb
  rw [List.length_map] at la lb
  refine ⟨D, D2, _, _, rfl, rfl, R1.1, R2.1, Evl.sz_of (by rw [List.length_map, List.length_map]; omega), fun q hq => ?_⟩
  have sq := same_new (o := .lst (as.map V.ref ++ bs.map V.ref)) hq
  have Rq : RowsAt (upd H2 q (.lst (as.map V.ref ++ bs.map V.ref))) q (as ++ bs) (blT t1 t2 m1 m2) := by
    refine ⟨by rw [upd_same, List.map_append], ?_, fun k p r hk hr => ?_⟩
    · unfold blT
      rw [List.length_append, List.length_append, List.length_map, List.length_map]
      omega
    · unfold blT at hr
      by_cases c : k < as.length
      · rw [List.getElem?_append_left c] at hk
        rw [List.getElem?_append_left (by rw [List.length_map]; omega)] at hr
        exact sq _ _ (R1.2.2 k p r hk hr)
      · rw [List.getElem?_append_right (by omega)] at hk
        rw [List.getElem?_append_right (by rw [List.length_map]; omega), List.length_map, ← la] at hr
        exact sq _ _ (R2.2.2 _ p r hk hr)
  refine ⟨q, _, rfl, SqL.of Rq.1, fun p hp => ?_⟩
  have sp := same_new (o := .tup ((as ++ bs).map V.ref)) hp
  exact k p _ ((Rq.same sp).tbl upd_same) (((s1.trans s2).trans sq).trans sp)
end
end Nm
set_option maxRecDepth 100000
set_option maxHeartbeats 4000000
/-! _law_base, _law_bound_over -/
namespace Nm
open PySem L2
theorem stepP_ok {n : Nat} (h1 : 1 ≤ n) (ps : List Nat) (k : List Key) (hl : ps.length = n) (hp : ∀ x ∈ ps, x < n) : (stepP ps k).length = n ∧ ∀ x ∈ stepP ps k, x < n := by
  have g : ∀ i : Nat, (ps[i]?).getD 0 < n := fun i => by
    cases e : ps[i]? with
    | none => exact h1
    | some y => exact hp y (List.mem_of_getElem? e)
  unfold stepP
  split
  · refine ⟨by rw [List.length_map, hl], fun x hx => ?_⟩
    obtain ⟨y, hy, rfl⟩ := List.mem_map.mp hx
    split
    · exact g _
    · exact hp y hy
  · exact ⟨hl, hp⟩
theorem foldP_ok {n : Nat} (h1 : 1 ≤ n) : ∀ (ks : List (List Key)) (ps : List Nat), ps.length = n → (∀ x ∈ ps, x < n) → (ks.foldl stepP ps).length = n ∧ ∀ x ∈ ks.foldl stepP ps, x < n
  | [], ps, hl, hp => ⟨hl, hp⟩
  | k :: ks, ps, hl, hp => by
    obtain ⟨a, b⟩ := stepP_ok h1 ps k hl hp
    exact foldP_ok h1 ks _ a b
theorem PartsRel.ok {n : Nat} {kvs : List (List Key × V)} {ps : List Nat} (h1 : 1 ≤ n) (h : PartsRel n kvs ps) : ps.length = n ∧ ∀ x ∈ ps, x < n := by
  obtain ⟨ks, _, _, rfl⟩ := h
  exact foldP_ok h1 ks _ List.length_range fun x hx => List.mem_range.mp hx
structure TxtS (mg : Str → Option Value) : Prop extends TxtR mg where
  max : mg "max" = none
section
variable {P : Program} {w : World} {K : PySem.W.Frag} {mg : Str → Option Value} {base : Heap}
def spBase : Sp := fun vs H Q _ => ∃ (s c : Addr), vs = [.ref s] ∧ Src H s c ∧
  ∀ (wd a b t : Addr) (nm cl : List Str) (kvs : List (List Key × V)) (H' : Hp), H wd = none → H a = none → H b = none → H t = none → WorldOk H' s c wd a b t nm cl kvs → nm.length ≤ 2 → Ties nm.length 2 kvs → kvs.length ≤ 300 → Src H' s c → Kp s c H H' → Q (.ref wd) H'
theorem scBase : FnScope ["_law_source"] ["_law_source"] (defScope sBase) := ⟨rfl, rfl, rfl, by decide +kernel, rfl, by decide +kernel, by decide +kernel⟩
theorem ok_base {f : Addr} {fd : FuncData} (F : Fun K "_law_base" "_law_base" sBase f fd) (Gd : Def P w K mg base "_law_draw_world" ["_law_source", "_law_most"] 3 spDraw) : FnOk P w K mg base CX0 4 f fd ["_law_source"] spBase := by
  obtain ⟨fa, fda, Ga, ma, ka, ba⟩ := Gd.ex
  refine F.ok scBase (fun vs H Q E h => ?_) (fun cdv A outer s H vs Q E hr h => ?_)
  · obtain ⟨_, _, rfl, _⟩ := h
    rfl
  obtain ⟨sa, ca, rfl, S, k⟩ := h
  refine ⟨_, pss_one (ps_ret (pe_call Ga hr (by rfl) ma ka ba .nil pass0 (pa_cons (pv 0) (pa_cons pe_int pa_nil)))), ?_⟩
  exact ⟨_, rfl, sa, ca, 2, rfl, S, by decide, by decide, fun wd a b t nm cl kvs H' z1 z2 z3 z4 W nl ti kl S' kp => k wd a b t nm cl kvs H' z1 z2 z3 z4 W (by omega) ti kl S' kp⟩
def spBo : Sp := fun vs H Q _ => ∃ (s c wd a b t : Addr) (nm cl : List Str) (kvs : List (List Key × V)), vs = [.ref s, .ref wd, .int 5] ∧ Src H s c ∧ WorldOk H s c wd a b t nm cl kvs ∧ Ties nm.length 2 kvs ∧ kvs.length ≤ 300 ∧ nm.length ≤ 2 ∧
  ∀ (r wd' ld' : Addr) (led : List Nat) (H' : Hp), H ld' = none → H' r = some (.tup [.ref wd', .ref ld']) → H' ld' = some (.lst (natV led)) → 1 ≤ led.length → led.length ≤ 5 → (∀ x, x ∈ led ↔ x < nm.length) → Src H' s c → Kp s c H H' → Q (.ref r) H'
abbrev nBo : List Str := ["_law_source", "_law_ground", "_law_most", "_law_many"]
theorem scBo : FnScope nBo ["_law_source", "_law_ground", "_law_most"] (defScope sBoundOver) := ⟨rfl, rfl, rfl, by decide +kernel, rfl, by decide +kernel, by decide +kernel⟩
theorem ok_bo {f : Addr} {fd : FuncData} (F : Fun K "_law_bound_over" "_law_bound_over" sBoundOver f fd) (T : TxtS mg) (Gp : Def P w K mg base "_law_pick" ["_law_source", "_law_many"] 1 spPick) (Go : Def P w K mg base "_law_over" ["_law_source", "_law_world", "_law_numbers"] 4 spOver) : FnOk P w K mg base CX0 5 f fd ["_law_source", "_law_ground", "_law_most"] spBo := by
  obtain ⟨fp, fdp, Gp, mp, kp, bp⟩ := Gp.ex
  obtain ⟨fo, fdo, Go, mo, ko, bo⟩ := Go.ex
  refine F.ok scBo (fun vs H Q E h => ?_) (fun cdv A outer s H vs Q E hr h => ?_)
  · obtain ⟨_, _, _, _, _, _, _, _, _, rfl, _⟩ := h
    rfl
  obtain ⟨sa, ca, wd, a, b, t, nm, cl, kvs, rfl, S, W, ti, kl, n2, k⟩ := h
  have hu := hu_of hr
  have hr1 := hr.mono (by decide : 1 ≤ 4)
  refine ⟨_, Evl.pss_cut (ps_set (i := 3) scBo.nd rfl (Or.inl rfl) (pe_op op_add pe_int (pe_call Gp hr1 (by rfl) mp kp bp .nil pass0 (pa_cons (pv 0) (pa_cons (pe_callB (call_max2 rfl) (by rfl) T.max (by decide +kernel) (pa_cons pe_int (pa_cons (pe_op op_fdiv (pv 2) (pe_callB call_len_seq (by rfl) T.len PySem.boot_len (pa_cons (pe_dget hu (pv 1) pe_str (fun _ _ => rfl)) pa_nil))) pa_nil))) pa_nil)))))
    (pss_one (ps_ret (pe_call Go hr (by rfl) mo ko bo .nil pass0 (pa_cons (pv 0) (pa_cons (pv 1) (pa_cons (pe_op op_rep (pe_lst (pa_cons (pv 3) pa_nil)) (pe_callB call_len_seq (by rfl) T.len PySem.boot_len (pa_cons (pe_dget hu (pv 1) pe_str (fun _ _ => rfl)) pa_nil))) pa_nil)))))), ?_⟩
  have n1 := W.n1
  have lm : (nm.map V.str).length = nm.length := List.length_map _
  refine ⟨fun σ H1 => ∃ c : Nat, σ = [some (.ref sa), some (.ref wd), some (.int 5), some (.int (c : Int))] ∧ 1 ≤ c ∧ c * nm.length ≤ 5 ∧ Src H1 sa ca ∧ Kp sa ca H H1, ?_, ?_⟩
  · refine ⟨_, rfl, _, rfl, _, rfl, wd, _, rfl, dg_names W.d, a, _, rfl, .inl (SqL.of W.hn), _, _, rfl, rfl, ⟨by rw [lm]; omega, by rw [lm]; omega⟩, _, _, rfl, ?_⟩
    rw [lm]
    have b5 : (if (5 : Int) / (nm.length : Int) > 1 then (5 : Int) / (nm.length : Int) else 1) * (nm.length : Int) ≤ 5 ∧ 1 ≤ (if (5 : Int) / (nm.length : Int) > 1 then (5 : Int) / (nm.length : Int) else 1) ∧ (if (5 : Int) / (nm.length : Int) > 1 then (5 : Int) / (nm.length : Int) else 1) ≤ 5 := by
      have : nm.length = 1 ∨ nm.length = 2 := by omega
      rcases this with e | e <;> rw [e] <;> decide
    generalize (if (5 : Int) / (nm.length : Int) > 1 then (5 : Int) / (nm.length : Int) else 1) = mx at b5 ⊢
    refine ⟨sa, ca, mx, rfl, S, by omega, by omega, fun kk H1 k0 k1 S1 kp1 => ⟨_, _, rfl, rfl, (1 + kk).toNat, ?_, by omega, ?_, S1, kp1⟩⟩
    · rw [Int.toNat_of_nonneg (by omega)]
      rfl
    · have h1 : (1 + kk).toNat ≤ mx.toNat := by omega
      have h2 := Nat.mul_le_mul_right nm.length h1
      have h3 : ((mx.toNat * nm.length : Nat) : Int) ≤ 5 := by
        rw [Int.natCast_mul, Int.toNat_of_nonneg (by omega)]
        exact b5.1
      omega
  rintro σ H1 ⟨c, rfl, c1, c5, S1, kp1⟩
  have W1 := W.kp kp1
  refine ⟨_, rfl, _, rfl, _, rfl, (by show 1 ≤ sizeLine; decide), fun l hl => ?_⟩
  have sl := same_new (o := .lst [V.int (c : Int)]) hl
  refine ⟨_, rfl, wd, _, rfl, dg_names (sl _ _ W1.d), a, _, rfl, .inl (SqL.of (sl _ _ W1.hn)), l, _, _, rfl, rfl, upd_same, by rw [lm]; omega, by rw [lm]; omega, by rw [lm]; exact Evl.sz_of (by simp; omega), fun nu hnu => ?_⟩
  rw [lm, Int.toNat_natCast, List.flatten_replicate_singleton]
  have sn := sl.trans (same_new (o := .lst (List.replicate nm.length (V.int (c : Int)))) hnu)
  have hnu2 : (upd (upd H1 l (.lst [V.int (c : Int)])) nu (.lst (List.replicate nm.length (V.int (c : Int))))) nu = some (.lst (natV (List.replicate nm.length c))) := by
    rw [upd_same]
    unfold natV
    rw [List.map_replicate]
  have hnu1 : H1 nu = none := sl.free hnu
  obtain ⟨_, nnc⟩ := S1.ne hnu1
  generalize upd (upd H1 l (.lst [V.int (c : Int)])) nu (.lst (List.replicate nm.length (V.int (c : Int)))) = H2 at *
  have kp2 : Kp sa ca H H2 := kp1.trans (Kp.same sn)
  have S2 := S1.same sn
  have c5' : c ≤ 5 := by
    have := Nat.mul_le_mul_left c n1
    omega
  have rall : ∀ x ∈ List.replicate nm.length c, x = c := fun x hx => List.eq_of_mem_replicate hx
  refine ⟨sa, ca, wd, a, b, t, nu, nm, cl, kvs, List.replicate nm.length c, rfl, S2, W1.same sn, ti, kl, by omega, hnu2, nnc, by rw [List.length_replicate]; exact Nat.le_refl _, fun x hx => by rw [rall x hx]; exact c5', fun ps hps => ?_, ?_⟩
  · obtain ⟨pl, pn⟩ := hps.ok n1
    obtain ⟨p, hp⟩ : ∃ p, ps[0]? = some p := ⟨_, List.getElem?_eq_getElem (by omega)⟩
    have hpm := List.mem_of_getElem? hp
    exact ⟨p, hpm, c, by rw [List.getElem?_replicate, if_pos (pn p hpm)], c1⟩
  intro r wd' a' b' t' ld' nm' cl' kvs' led' H' z1 z2 z3 z4 z5 hr' W' hl' ti' hk' hld' hll' hlm hLK hall S' kp'
  have h5 : led'.length ≤ c * nm.length := hLK c rall
  have all : ∀ x, x ∈ led' ↔ x < nm.length := fun x => ⟨hlm x, fun hx => hall x hx (fun c0 h0 => by
    have := h0 c (List.mem_replicate.mpr ⟨by omega, rfl⟩)
    omega) (fun y hy z hz => by rw [rall y hy, rall z hz])⟩
  have h1 : 1 ≤ led'.length := List.length_pos_of_mem ((all 0).mpr (by omega))
  exact k r wd' ld' led' H' (kp2.free S2 z5) hr' hld' h1 (by omega) all S' (kp2.trans kp')
end
end Nm
set_option maxRecDepth 100000
set_option maxHeartbeats 4000000
/-! the tables of the law: their shape, and that each column has an entry above 0 -/
namespace Nm
open PySem L2
structure Tb (tb : List (List Int)) (m : Nat) : Prop where
  ok : TblOk tb m
  cp : ColPos tb m
theorem getD_of {α : Type} {l : List α} {d x : α} {j : Nat} (h : l[j]? = some x) : l.getD j d = x := by
  rw [List.getD_eq_getElem?_getD, h]
  rfl
theorem tb_bb {a b : List Nat} (a1 : 1 ≤ a.length) (a8 : a.length ≤ 8) (b8 : b.length ≤ 8) (h : ∀ x ∈ b, x ∈ a) : Tb (bbT a b) b.length := by
  refine ⟨⟨fun r hr => ?_, ?_, ?_, b8⟩, fun j hj => ?_⟩
  · obtain ⟨p, _, rfl⟩ := List.mem_map.mp hr
    rw [List.length_map]
  · unfold bbT
    rw [List.length_map]
    exact a1
  · unfold bbT
    rw [List.length_map]
    exact a8
  · have hb := List.getElem?_eq_getElem hj
    obtain ⟨p, hp⟩ := List.getElem?_of_mem (h _ (List.getElem_mem hj))
    refine ⟨p, _, by unfold bbT; rw [List.getElem?_map, hp]; rfl, ?_⟩
    rw [getD_of (x := (1 : Int)) (by rw [List.getElem?_map, hb]; show some (if b[j] = b[j] then (1 : Int) else 0) = _; rw [if_pos rfl])]
    decide
theorem bb_01 {a b : List Nat} : ∀ r ∈ bbT a b, ∀ x ∈ r, 0 ≤ x ∧ x ≤ 1000 := fun r hr x hx => by
  obtain ⟨p, _, rfl⟩ := List.mem_map.mp hr
  obtain ⟨q, _, rfl⟩ := List.mem_map.mp hx
  split <;> decide
theorem sum_nn : ∀ {l : List Int}, (∀ x ∈ l, 0 ≤ x) → 0 ≤ l.sum
  | [], _ => by simp
  | x :: l, h => by
    rw [List.sum_cons]
    have := h x List.mem_cons_self
    have := sum_nn fun y hy => h y (List.mem_cons_of_mem _ hy)
    omega
theorem sum_pos : ∀ {l : List Int} {y : Int}, (∀ x ∈ l, 0 ≤ x) → y ∈ l → 0 < y → 0 < l.sum
  | x :: l, y, h, hy, h0 => by
    rw [List.sum_cons]
    have h1 := h x List.mem_cons_self
    have h2 := fun z hz => h z (List.mem_cons_of_mem x hz)
    rcases List.mem_cons.mp hy with rfl | e
    · have := sum_nn h2
      omega
    · have := sum_pos h2 e h0
      omega
theorem bb_getD {a b : List Nat} (p q : Nat) : 0 ≤ ((bbT a b).getD p []).getD q 0 := by
  rw [List.getD_eq_getElem?_getD (l := bbT a b)]
  cases e : (bbT a b)[p]? with
  | none => exact Int.le_refl 0
  | some r =>
    show 0 ≤ r.getD q 0
    rw [List.getD_eq_getElem?_getD]
    cases e2 : r[q]? with
    | none => decide
    | some x => exact (bb_01 r (List.mem_of_getElem? e) x (List.mem_of_getElem? e2)).1
theorem tb_prod {a b c : List Nat} (a1 : 1 ≤ a.length) (a8 : a.length ≤ 8) (c8 : c.length ≤ 8) (h1 : ∀ x ∈ b, x ∈ a) (h2 : ∀ x ∈ c, x ∈ b) : Tb (prodT (bbT a b) (bbT b c) c.length) c.length := by
  refine ⟨⟨fun r hr => ?_, ?_, ?_, c8⟩, fun j hj => ?_⟩
  · obtain ⟨p, _, rfl⟩ := List.mem_map.mp hr
    rw [List.length_map, List.length_range]
  · unfold prodT bbT
    rw [List.length_map, List.length_map]
    exact a1
  · unfold prodT bbT
    rw [List.length_map, List.length_map]
    exact a8
  · have hc := List.getElem?_eq_getElem hj
    obtain ⟨k, hk⟩ := List.getElem?_of_mem (h2 _ (List.getElem_mem hj))
    have hkl := (List.getElem?_eq_some_iff.mp hk).1
    obtain ⟨p, hp⟩ := List.getElem?_of_mem (h1 _ (List.mem_of_getElem? hk))
    have ea : (bbT a b)[p]? = some (b.map fun q => if c[j] = q then (1 : Int) else 0) := by
      unfold bbT
      rw [List.getElem?_map, hp]
      rfl
    have eb : (bbT b c)[k]? = some (c.map fun q => if c[j] = q then (1 : Int) else 0) := by
      unfold bbT
      rw [List.getElem?_map, hk]
      rfl
    have lb : (bbT b c).length = b.length := List.length_map _
    have n1 : ∀ x y, 0 ≤ ((bbT a b).getD x []).getD y 0 := bb_getD
    have n2 : ∀ x y, 0 ≤ ((bbT b c).getD x []).getD y 0 := bb_getD
    generalize bbT a b = t1 at *
    generalize bbT b c = t2 at *
    refine ⟨p, (List.range c.length).map fun q => ((List.range t2.length).map fun k => (b.map fun q => if c[j] = q then (1 : Int) else 0).getD k 0 * (t2.getD k []).getD q 0).sum, by unfold prodT; rw [List.getElem?_map, ea]; rfl, ?_⟩
    rw [getD_of (by rw [List.getElem?_map, List.getElem?_range hj]; rfl)]
    refine sum_pos (y := 1) (fun x hx => ?_) ?_ (by decide)
    · obtain ⟨k', hk', rfl⟩ := List.mem_map.mp hx
      have := n1 p k'
      rw [getD_of ea] at this
      exact Int.mul_nonneg this (n2 _ _)
    · refine List.mem_map.mpr ⟨k, List.mem_range.mpr (by omega), ?_⟩
      rw [getD_of (x := (1 : Int)) (by rw [List.getElem?_map, hk]; show some (if c[j] = c[j] then (1 : Int) else 0) = _; rw [if_pos rfl]), getD_of eb, getD_of (x := (1 : Int)) (by rw [List.getElem?_map, hc]; show some (if c[j] = c[j] then (1 : Int) else 0) = _; rw [if_pos rfl])]
      rfl
theorem tb_ring {a b : List Nat} {n : Nat} (n1 : 1 ≤ n) (n8 : n ≤ 8) (pa : a.Perm (List.range n)) (pb : b.Perm (List.range n)) : Tb (ringT a b n) n := by
  have al : a.length = n := by rw [pa.length_eq, List.length_range]
  have bl : b.length = n := by rw [pb.length_eq, List.length_range]
  refine ⟨⟨fun r hr => ?_, ?_, ?_, n8⟩, fun j hj => ?_⟩
  · obtain ⟨p, _, rfl⟩ := List.mem_map.mp hr
    rw [List.length_map, bl]
  · unfold ringT
    rw [List.length_map]
    omega
  · unfold ringT
    rw [List.length_map]
    omega
  · have hjb : j < b.length := by omega
    have hb := List.getElem?_eq_getElem hjb
    obtain ⟨p, hp⟩ := List.getElem?_of_mem (pa.mem_iff.mpr (pb.mem_iff.mp (List.getElem_mem hjb)))
    refine ⟨p, _, by unfold ringT; rw [List.getElem?_map, hp]; rfl, ?_⟩
    rw [getD_of (by rw [List.getElem?_map, hb]; rfl)]
    show 0 < (if b[j] = b[j] then (1 : Int) else 0) + (if b[j] = (b[j] + 1) % n then 1 else 0)
    rw [if_pos rfl]
    split <;> decide
theorem tb_bl {t1 t2 : List (List Int)} {m1 m2 : Nat} (T1 : Tb t1 m1) (T2 : Tb t2 m2) (hn : t1.length + t2.length ≤ 8) (hm : m1 + m2 ≤ 8) : Tb (blT t1 t2 m1 m2) (m1 + m2) := by
  refine ⟨⟨fun r hr => ?_, ?_, ?_, hm⟩, fun j hj => ?_⟩
  · rcases List.mem_append.mp hr with h | h
    · obtain ⟨r0, h0, rfl⟩ := List.mem_map.mp h
      rw [List.length_append, List.length_replicate, T1.ok.rm r0 h0]
    · obtain ⟨r0, h0, rfl⟩ := List.mem_map.mp h
      rw [List.length_append, List.length_replicate, T2.ok.rm r0 h0]
  · unfold blT
    rw [List.length_append, List.length_map]
    have := T1.ok.n1
    omega
  · unfold blT
    rw [List.length_append, List.length_map, List.length_map]
    exact hn
  · by_cases c : j < m1
    · obtain ⟨p, r, hr, h0⟩ := T1.cp j c
      have hpl := (List.getElem?_eq_some_iff.mp hr).1
      have hrl := T1.ok.rm r (List.mem_of_getElem? hr)
      refine ⟨p, r ++ List.replicate m2 0, by unfold blT; rw [List.getElem?_append_left (by rw [List.length_map]; exact hpl), List.getElem?_map, hr]; rfl, ?_⟩
      rw [List.getD_eq_getElem?_getD, List.getElem?_append_left (by omega), ← List.getD_eq_getElem?_getD]
      exact h0
    · obtain ⟨p, r, hr, h0⟩ := T2.cp (j - m1) (by omega)
      refine ⟨t1.length + p, List.replicate m1 0 ++ r, by unfold blT; rw [List.getElem?_append_right (by rw [List.length_map]; omega), List.length_map, Nat.add_sub_cancel_left, List.getElem?_map, hr]; rfl, ?_⟩
      rw [List.getD_eq_getElem?_getD, List.getElem?_append_right (by rw [List.length_replicate]; omega), List.length_replicate, ← List.getD_eq_getElem?_getD]
      exact h0
end Nm
set_option maxRecDepth 100000
set_option maxHeartbeats 4000000
/-! repr of lists, tuples and dicts, where no repr is under way -/
namespace Nm
open PySem PySem.Spec PyProof.Rows L2
/-- a key as a datum -/
def keyD : Key → PyData
  | .inl i => .int i
  | .inr z => .str z
mutual
/-- the value shows this datum -/
inductive Sh (H : Hp) : V → PyData → Prop
  | non : Sh H .non .none
  | bl (b : Bool) : Sh H (.bl b) (.bool b)
  | int (i : Int) : Sh H (.int i) (.int i)
  | str (z : Str) : Sh H (.str z) (.str z)
  | lst {a : Addr} {xs : List V} {ds : List PyData} (e : H a = some (.lst xs)) (h : ShAll H xs ds) : Sh H (.ref a) (.list ds)
  | tup {a : Addr} {xs : List V} {ds : List PyData} (e : H a = some (.tup xs)) (h : ShAll H xs ds) : Sh H (.ref a) (.tuple ds)
inductive ShAll (H : Hp) : List V → List PyData → Prop
  | nil : ShAll H [] []
  | cons {x : V} {d : PyData} {xs : List V} {ds : List PyData} (h : Sh H x d) (t : ShAll H xs ds) : ShAll H (x :: xs) (d :: ds)
end
section
variable {H H' : Hp}
mutual
theorem Sh.ext {x : V} {d : PyData} (s : ∀ b o, H b = some o → H' b = some o) : Sh H x d → Sh H' x d
  | .non => .non
  | .bl b => .bl b
  | .int i => .int i
  | .str z => .str z
  | .lst e h => .lst (s _ _ e) (ShAll.ext s h)
  | .tup e h => .tup (s _ _ e) (ShAll.ext s h)
theorem ShAll.ext {xs : List V} {ds : List PyData} (s : ∀ b o, H b = some o → H' b = some o) : ShAll H xs ds → ShAll H' xs ds
  | .nil => .nil
  | .cons h t => .cons (Sh.ext s h) (ShAll.ext s t)
end
end
section
variable {X : Cx} {pins : List (Addr × Obj)} {σ : L2.St} {H : Hp} {s : Shared}
mutual
theorem sh_reads (I : Inv X pins σ H s) {x : V} {d : PyData} {u : Value} (r : RelV x u) : Sh H x d → ∃ as, Reads s.heap u d as
  | .non => by
    cases (show u = Value.none from r)
    exact ⟨_, .none⟩
  | .bl b => by
    cases (show u = Value.bool b from r)
    exact ⟨_, .bool b⟩
  | .int i => by
    obtain ⟨t, rfl⟩ := (show ∃ t, u = Value.int i t from r)
    exact ⟨_, .int i t⟩
  | .str z => by
    obtain ⟨t, rfl⟩ := (show ∃ t, u = Value.str z t from r)
    exact ⟨_, .str z t⟩
  | .lst (a := a) e h => by
    cases (show u = Value.ref a from r)
    obtain ⟨its, rv, p, hz⟩ := I.list (SqL.of e)
    obtain ⟨o, n, ho, hc, hd, hdat⟩ := p
    obtain ⟨as, ra⟩ := sh_readsAll I (us := its) rv h
    exact ⟨_, .list ho hc hdat (by simpa using ra)⟩
  | .tup (a := a) e h => by
    cases (show u = Value.ref a from r)
    obtain ⟨its, rv, p, hz⟩ := I.tuple (SqT.of e)
    obtain ⟨o, ho, hc, n, hdat⟩ := p
    obtain ⟨as, ra⟩ := sh_readsAll I (us := its) rv h
    exact ⟨_, .tuple ho hc hdat (by simpa using ra)⟩
theorem sh_readsAll (I : Inv X pins σ H s) {xs : List V} {ds : List PyData} {us : List Value} (r : Vals xs us) : ShAll H xs ds → ∃ as, ReadsAll s.heap us ds as
  | .nil => by
    cases r
    exact ⟨_, .nil⟩
  | .cons h t => by
    cases r with
    | cons r1 r2 =>
      obtain ⟨as, ra⟩ := sh_reads I r1 h
      obtain ⟨bs, rb⟩ := sh_readsAll I r2 t
      exact ⟨_, .cons ra rb⟩
end
/-- repr(x) of a list or a tuple: the text that shows it -/
def rRepr : List V → Hp → VK → Prop := fun xs H Q => ∃ (a : Addr) (d : PyData), xs = [.ref a] ∧ Sh H (.ref a) d ∧ d.showable = true ∧ d.hasDict = false ∧ d.depth ≤ 50 ∧ d.shown.length ≤ sizeLine ∧ Q (.str d.shown) H
theorem call_repr (hg : X.A.guards = some []) (hu : X.A.units + 64 < cLine) : CallR X (.builtin "repr") rRepr := by
  intro pins s σ H xs us Q I r h
  obtain ⟨a, d, rfl, hs, h1, h2, h3, h4, q⟩ := h
  obtain ⟨u, rfl, ru⟩ := vals1 r
  obtain ⟨as, hr⟩ := sh_reads I ru hs
  obtain rfl : u = Value.ref a := ru
  exact repr_of_reads' hr h1 (fun z => by rw [h2] at z; cases z) hg (by omega) (fun _ _ e => e) (fun h' u tk k => ⟨.str d.shown, H, I.kept (t' := tk) k, ⟨u, rfl⟩, q⟩) h4
end
end Nm
set_option maxRecDepth 100000
set_option maxHeartbeats 4000000
/-! the text of two lists of numbers -/
namespace Nm
open PySem PySem.Spec PyProof.Rows L2
def dNat (l : List Nat) : List PyData := l.map fun (x : Nat) => PyData.int (x : Int)
theorem int_short {i : Int} (h : i.natAbs.log2 < 1000) : (PyData.shown (.int i)).length ≤ 1010 := by
  have e := PySem.int_text_length_le (a := i) (k := 1000) (by decide) h
  show (Str.ofString (toString i)).length ≤ 1010
  rw [PySem.ofString_length]
  omega
theorem nat_sh {H : Hp} : ∀ (l : List Nat), ShAll H (natV l) (dNat l)
  | [] => .nil
  | x :: l => .cons (.int _) (nat_sh l)
theorem nat_log {x : Nat} (h : x ≤ 100) : (x : Int).natAbs.log2 < 1000 := by
  have e : (x : Int).natAbs = x := by omega
  rw [e]
  have := Nat.log2_le_self x
  omega
theorem nat_all : ∀ {l : List Nat}, (∀ x ∈ l, x ≤ 100) → PyData.showableAll (dNat l) = true ∧ PyData.hasDictAll (dNat l) = false ∧ PyData.depthAll (dNat l) ≤ 5 ∧ PyData.leavesShortAll 1010 (dNat l) = true ∧ PyData.bulkAll (dNat l) ≤ 2 * l.length
  | [], _ => ⟨rfl, rfl, by simp [dNat, PyData.depthAll], rfl, by simp [dNat, PyData.bulkAll]⟩
  | x :: l, h => by
    obtain ⟨a1, a2, a3, a4, a5⟩ := nat_all (l := l) fun y hy => h y (List.mem_cons_of_mem _ hy)
    have hx := nat_log (h x List.mem_cons_self)
    have e : dNat (x :: l) = PyData.int (x : Int) :: dNat l := rfl
    have b1 : PyData.showable (.int (x : Int)) = true := decide_eq_true (show (x : Int).natAbs.log2 < 1920 by omega)
    have b4 : PyData.leavesShort 1010 (.int (x : Int)) = true := decide_eq_true (int_short hx)
    rw [e]
    refine ⟨?_, ?_, ?_, ?_, ?_⟩
    · simp only [PyData.showableAll, b1, a1, Bool.and_self]
    · simp only [PyData.hasDictAll, a2, Bool.or_false]
      rfl
    · simp only [PyData.depthAll]
      have : PyData.depth (.int (x : Int)) ≤ 5 := by simp [PyData.depth]
      omega
    · simp only [PyData.leavesShortAll, b4, a4, Bool.and_self]
    · simp only [PyData.bulkAll, List.length_cons]
      have : PyData.bulk (.int (x : Int)) ≤ 1 := by simp [PyData.bulk]
      omega
def dTwo (l1 l2 : List Nat) : PyData := .tuple [.list (dNat l1), .list (dNat l2)]
theorem two_sh {H : Hp} {p a b : Addr} {l1 l2 : List Nat} (hp : H p = some (.tup [.ref a, .ref b])) (ha : H a = some (.lst (natV l1))) (hb : H b = some (.lst (natV l2))) : Sh H (.ref p) (dTwo l1 l2) :=
  .tup hp (.cons (.lst ha (nat_sh l1)) (.cons (.lst hb (nat_sh l2)) .nil))
theorem two_ok {l1 l2 : List Nat} (h1 : ∀ x ∈ l1, x ≤ 100) (h2 : ∀ x ∈ l2, x ≤ 100) (n1 : l1.length ≤ 100) (n2 : l2.length ≤ 100) : (dTwo l1 l2).showable = true ∧ (dTwo l1 l2).hasDict = false ∧ (dTwo l1 l2).depth ≤ 50 ∧ (dTwo l1 l2).shown.length ≤ sizeLine := by
  obtain ⟨a1, a2, a3, a4, a5⟩ := nat_all h1
  obtain ⟨b1, b2, b3, b4, b5⟩ := nat_all h2
  unfold dTwo
  refine ⟨?_, ?_, ?_, ?_⟩
  · simp only [PyData.showable, PyData.showableAll, a1, b1, Bool.and_self]
  · simp only [PyData.hasDict, PyData.hasDictAll, a2, b2, Bool.or_self]
  · simp only [PyData.depth, PyData.depthAll]
    omega
  · have h3 := PyData.shown_le_bulk 1010 (by decide) (PyData.tuple [.list (dNat l1), .list (dNat l2)]) (by simp only [PyData.leavesShort, PyData.leavesShortAll, a4, b4, Bool.and_self])
    have h4 : (PyData.tuple [.list (dNat l1), .list (dNat l2)]).bulk ≤ 2000 := by
      simp only [PyData.bulk, PyData.bulkAll]
      omega
    have h5 : (1010 + 2) * (PyData.tuple [.list (dNat l1), .list (dNat l2)]).bulk ≤ 1012 * 2000 := Nat.mul_le_mul_left _ h4
    rw [sizeLine_eq]
    omega
end Nm
set_option maxRecDepth 100000
set_option maxHeartbeats 4000000
/-! the end of a law whose promise is told at the caller alone (so that no repr is under way) -/
namespace Nm
open PySem PySem.Spec PyProof.Rows L2 LamX
/-- the promise at the caller -/
def RunC (P : Program) (w : World) (K : PySem.W.Frag) (mg : Str → Option Value) (base : Heap) (CX : CXT) (fa : Addr) (fd : FuncData) (x : Str) (sp : Sp) : Prop :=
  ∀ (s : Shared) (H : Hp) (u : Value) (v : V) (Q : VK) (E : XK), Env0 P w K mg base callerA [] s H → BindsTo s fd ⟨[u], []⟩ [(x, u)] → RelV v u → sp [v] H Q E → codeAny (model P w) callerA (.call (.ref fa) ⟨[u], []⟩) (CR CX [] P w H s Q E) s
/-- the heap at the law's call: the tables, and the script where it is not written -/
def hpL (K : PySem.W.Frag) (cs : List (Addr × Addr)) (a : Addr) (vs : List Value) (ns : List Int) : Hp := fun b =>
  if b ∈ cs.map (·.2) then some (.tbl #[]) else if b = a ∧ K.lookup a = none then some (.frz { cls := .type "list", data := .seq vs.toArray } (.lst (ns.map V.int))) else none
section
variable {P : Program} {w : World} {K : PySem.W.Frag} {mg mb : Str → Option Value} {CX : CXT} {fa a : Addr} {cs : List (Addr × Addr)} {fd : FuncData} {x : Str} {sp : Sp} {s : Shared} {vs : List Value} {ns : List Int}
theorem hpL_tab {b : Addr} (h : b ∈ cs.map (·.2)) : hpL K cs a vs ns b = some (.tbl #[]) := if_pos h
theorem hpL_or (b : Addr) : hpL K cs a vs ns b = none ∨ (b ∈ cs.map (·.2) ∧ hpL K cs a vs ns b = some (.tbl #[])) ∨ (b ∉ cs.map (·.2) ∧ b = a ∧ K.lookup a = none ∧ hpL K cs a vs ns b = some (.frz { cls := .type "list", data := .seq vs.toArray } (.lst (ns.map V.int)))) := by
  by_cases h1 : b ∈ cs.map (·.2)
  · exact .inr (.inl ⟨h1, if_pos h1⟩)
  · by_cases h2 : b = a ∧ K.lookup a = none
    · exact .inr (.inr ⟨h1, h2.1, h2.2, (if_neg h1).trans (if_pos h2)⟩)
    · exact .inl ((if_neg h1).trans (if_neg h2))
theorem law_callG (KX : K.In s.heap) (hns : s.heap.Ns mainGlobals mg) (hb : s.heap.Ns builtinsNs mb) (hbb : ∀ x : Str, x ≠ "__name__" → mb x = bootBuiltins x) (hlim : s.heap.NoLimit) (hg : s.gens = #[])
    (hT : ∀ p ∈ cs, s.heap.get? p.2 = some { cls := .none, data := .fields #[] }) (nT : ∀ p ∈ cs, K.lookup p.2 = none) (C : ∀ p ∈ cs, PySem.W.CodeHd s.heap p.1 p.2)
    (hbm : ∃ (bm : Addr) (ob : Obj), mg "__builtins__" = some (.ref bm) ∧ bm ≠ builtinsNs ∧ s.heap.get? bm = some ob ∧ ob.cls = .type "module" ∧ ob.dict = some builtinsNs ∧ ob.data = .plain)
    (ha : s.heap.get? a = some { cls := .type "list", data := .seq vs.toArray }) (hi : IntsAre vs ns) (hl : ns.length ≤ sizeLine)
    (F : ∀ base : Heap, K.In base → base.Ns mainGlobals mg → (∀ p ∈ cs, TabB base mg p.1 p.2) → RunC P w K mg base CX fa fd x sp) (hbind : ∀ (s : Shared) (u : Value), BindsTo s fd ⟨[u], []⟩ [(x, u)])
    (hsp : ∀ H : Hp, (∀ p ∈ cs, H p.2 = some (.tbl #[])) → SqL K H a (ns.map V.int) → sp [.ref a] H (fun v _ => v = .bl true) fun _ _ _ => False)
    (hCX : ∀ H e s', CX [] H s (fun _ _ _ => False) e s' → False) :
    codeAny (model P w) callerA (.call (.ref fa) ⟨[.ref a], []⟩) (fun r s' => r = .ok (.ret (.bool true)) ∧ OldK s.heap s'.heap ∧ s'.os = s.os ∧ AllBare s'.gens) s := by
  have rv := vals_ints hi
  have tabAt : ∀ {b : Addr}, b ∈ cs.map (·.2) → s.heap.get? b = some { cls := .none, data := .fields #[] } ∧ K.lookup b = none := fun {b} hb => by
    obtain ⟨p, hp, rfl⟩ := List.mem_map.mp hb
    exact ⟨hT p hp, nT p hp⟩
  have inT : ∀ p ∈ cs, p.2 ∈ cs.map (·.2) := fun p hp => List.mem_map.mpr ⟨p, hp, rfl⟩
  generalize hH : hpL K cs a vs ns = H
  have orH : ∀ b, H b = none ∨ (b ∈ cs.map (·.2) ∧ H b = some (.tbl #[])) ∨ (b ∉ cs.map (·.2) ∧ b = a ∧ K.lookup a = none ∧ H b = some (.frz { cls := .type "list", data := .seq vs.toArray } (.lst (ns.map V.int)))) := by
    rw [← hH]
    exact hpL_or
  have tabH : ∀ p ∈ cs, H p.2 = some (.tbl #[]) := fun p hp => by
    rw [← hH]
    exact hpL_tab (inT p hp)
  -- what is tracked is no dict and nothing that is written
  have free : ∀ {b : Addr} {o : Obj}, s.heap.get? b = some o → (∀ vs n, o.data ≠ .seq vs n) → o.data ≠ .fields #[] → H b = none := fun {b o} e n1 n2 => by
    rcases orH b with z | ⟨z, _⟩ | ⟨_, z, _, _⟩
    · exact z
    · rw [(tabAt z).1] at e
      cases e
      exact absurd rfl n2
    · rw [z, ha] at e
      cases e
      exact absurd rfl (n1 _ _)
  have freeD : ∀ {b : Addr} {o : Obj} {es : Array DictEntry} {ep : Nat}, s.heap.get? b = some o → o.data = .dict es ep → H b = none := fun e q => free e (fun _ _ z => by rw [q] at z; cases z) fun z => by rw [q] at z; cases z
  have freeK : ∀ {b : Addr} {o : Obj}, K.lookup b = some o → H b = none := fun {b o} e => by
    rcases orH b with z | ⟨z, _⟩ | ⟨_, z, z2, _⟩
    · exact z
    · rw [(tabAt z).2] at e
      cases e
    · rw [z, z2] at e
      cases e
  have under : ∀ {b : Addr} {o : Obj}, s.heap.get? b = some o → H b = none → (hidT s.heap H).get? b = some o := fun e n => hidT_get e n
  have nsU : ∀ {b : Addr} {m : Str → Option Value}, s.heap.Ns b m → (hidT s.heap H).Ns b m := fun {b m} ⟨o, es, ep, e, q, r⟩ => ⟨o, es, ep, under e (freeD e q), q, r⟩
  have KU : K.In (hidT s.heap H) := fun b o e => under (KX b o e) (freeK e)
  have ok : HOk P w H s.heap := fun b o z => by
    rcases orH b with q | ⟨q, q'⟩ | ⟨_, q, _, q'⟩
    · rw [q] at z
      cases z
    · rw [q'] at z
      cases z
      exact (tabAt q).1
    · rw [q'] at z
      cases z
      subst q
      exact ⟨ha, by rw [List.length_map]; exact hl, vs, _, rv, ha⟩
  have sq : SqL K H a (ns.map V.int) := by
    cases hk : K.lookup a with
    | some o =>
      have e := KX a o hk
      rw [ha] at e
      cases e
      exact .inr ⟨_, vs.toArray, _, hk, rfl, rfl, rfl, by rw [List.size_toArray, hi.length]; exact hl, by simpa using rv⟩
    | none =>
      refine .inl (.inr ⟨{ cls := .type "list", data := .seq vs.toArray }, ?_⟩)
      rcases orH a with z | ⟨z, _⟩ | ⟨_, _, _, z⟩
      · rw [← hH] at z
        unfold hpL at z
        split at z
        · cases z
        · rw [if_pos ⟨rfl, hk⟩] at z
          cases z
      · have := (tabAt z).1
        rw [ha] at this
        cases this
      · exact z
  have mod : L2.Mod K mg (hidT s.heap H) := ⟨KU, nsU hns, ⟨mb, nsU hb, hbb⟩, let ⟨mc, h1, h2⟩ := hlim; ⟨mc, nsU h1, h2⟩⟩
  have TB : ∀ p ∈ cs, TabB (hidT s.heap H) mg p.1 p.2 := fun p hp => by
    obtain ⟨oG, esG, epG, eG, dG, _⟩ := id hns
    refine ⟨?_, ?_, fun z => ?_⟩
    · obtain ⟨o, us, file, tf, flags, tg, inF, text, tt, e1, r1, r2, r3, r⟩ := C p hp
      refine ⟨o, us, file, tf, flags, tg, inF, text, tt, under e1 (free e1 (fun _ _ z => by rw [r2] at z; cases z) fun z => ?_), r1, r2, r3, r⟩
      rw [r2] at z
      cases z
      simp at r3
    · obtain ⟨bm, ob, b1, b2, b3, b4, b5, b6⟩ := hbm
      refine ⟨bm, ob, b1, b2, fun q => ?_, fun q => ?_, under b3 (free b3 (fun _ _ z => by rw [b6] at z; cases z) fun z => by rw [b6] at z; cases z), b4, b5, b6⟩
      · rw [q, eG] at b3
        cases b3
        rw [dG] at b6
        cases b6
      · rw [q, hT p hp] at b3
        cases b3
        cases b6
    · rw [z, hT p hp] at eG
      cases eG
      cases dG
  have e0 : Env0 P w K mg (hidT s.heap H) callerA [] s H := ⟨rfl, mod, fun b o e => of_hidT e, Nat.le_of_eq (hidT_size _ _), trivial, fun b z => absurd (show b ∈ ([] : List Addr) from z) (by simp), ok, .of_eq hg⟩
  refine codeAny_mono (F _ KU (nsU hns) TB s H (.ref a) (.ref a) _ _ e0 (hbind s (.ref a)) rfl (hsp H tabH sq)) fun r s' h => ?_
  cases r with
  | error e => exact (hCX H e s' h).elim
  | ok fl =>
    cases fl with
    | next => exact False.elim h
    | brk => exact False.elim h
    | cont => exact False.elim h
    | ret u =>
      obtain ⟨v, H', os, bare, un, ok', r', q⟩ := h
      obtain rfl : v = .bl true := q
      obtain rfl : u = Value.bool true := r'
      have grown : ∀ p ∈ cs, ∃ more : Array Value, s'.heap.get? p.2 = some { cls := .none, data := .fields more } := fun p hp => by
        obtain ⟨more, z⟩ := un.tbls p.2 #[] (tabH p hp)
        exact ⟨_, ok' p.2 _ z⟩
      have rest : ∀ b o, b ∉ cs.map (·.2) → s.heap.get? b = some o → s'.heap.get? b = some o := fun b o nb e => by
        rcases orH b with z | ⟨z, _⟩ | ⟨_, _, _, z⟩
        · exact un.keep b o e z (by intro y; exact absurd (show b ∈ ([] : List Addr) from y) (by simp)) (by simp)
        · exact absurd z nb
        · obtain ⟨e1, _⟩ := ok b _ z
          obtain ⟨e2, _⟩ := ok' b _ (un.frzs b _ _ z)
          rw [e] at e1
          cases e1
          exact e2
      refine ⟨rfl, ⟨fun b o e => ?_, fun b o e => ?_⟩, os, bare⟩
      · by_cases hm : b ∈ cs.map (·.2)
        · obtain ⟨p, hp, rfl⟩ := List.mem_map.mp hm
          obtain ⟨more, hq⟩ := grown p hp
          rw [hT p hp] at e
          cases e
          exact .inr (.inl ⟨((C p hp).tab (hT p hp)).isCodeTable, rfl, #[], more, rfl, by rw [Array.empty_append]; exact hq⟩)
        · exact .inl (rest b o hm e)
      · by_cases hm : b ∈ cs.map (·.2)
        · obtain ⟨p, hp, rfl⟩ := List.mem_map.mp hm
          obtain ⟨more, hq⟩ := grown p hp
          exact ⟨_, hq⟩
        · exact ⟨o, rest b o hm e⟩
end
/-- what is known of the law's promise at the head's heap h, told at the caller -/
def LawAtG (l : PySem.W.OpenLaw) (w : World) (K : PySem.W.Frag) (CX : CXT) (n : Nat) (x : Str) (mg : Str → Option Value) (fa : Addr) (h : Heap) : Prop :=
  ∃ (fd : FuncData) (cs : List (Addr × Addr)) (sp : Sp), (∀ p ∈ cs, h.get? p.2 = some { cls := .none, data := .fields #[] }) ∧ (∀ p ∈ cs, K.lookup p.2 = none) ∧ (∀ p ∈ cs, PySem.W.CodeHd h p.1 p.2) ∧ (∀ (s : Shared) (u : Value), BindsTo s fd ⟨[u], []⟩ [(x, u)]) ∧
    (∀ (H : Hp) (a : Addr) (ns : List Int), ns.length ≤ n → (∀ p ∈ cs, H p.2 = some (.tbl #[])) → SqL K H a (ns.map V.int) → sp [.ref a] H (fun v _ => v = .bl true) fun _ _ _ => False) ∧
    ∀ base : Heap, K.In base → base.Ns mainGlobals mg → (∀ p ∈ cs, TabB base mg p.1 p.2) → RunC l.prog w K mg base CX fa fd x sp
theorem walk_G {l : PySem.W.OpenLaw} {n : Nat} {q : Program} {loose : List Str} {XP : (Str → Option Value) → Heap → Prop} {YP : World → Heap → Prop} {d : DefRec} {K : Params → PySem.W.Frag} {CX : World → CXT} {x : Str}
    (hn : l.most = some n) (hn2 : n ≤ sizeLine) (hdf : d.params.defaults = []) (hrec : ((recsOf q).any fun e => e.name == d.name) = true) (hY : ∀ (w : World) (h : Heap), YP w h → (K w.params).In h)
    (F : ∀ (w : World) (mg : Str → Option Value) (fa : Addr) (h : Heap), YP w h → (K w.params).In h → h.Ns mainGlobals mg → mg d.name = some (.ref fa) → OwnTab (K w.params) fa h → LawAtG l w (K w.params) (CX w) n x mg fa h)
    (hCX : ∀ (w : World) (H : Hp) (s : Shared) (e : Value) (s' : Shared), CX w [] H s (fun _ _ _ => False) e s' → False) :
    PySem.W.WalkO q loose XP YP l.row.toRowW d [] (fun f vs => PySem.call f vs) := by
  refine Att.attach_callB hn hdf fun w s₀ s₁ mg mb fa o pm cd doc a vs ns G Y ho hd hcd hmg hobj hints hlen _ hg => ?_
  have KX := hY w _ Y
  have own : OwnTab (K w.params) fa s₁.heap := fun c T o1 fd1 e dd us sl q1 q2 q3 q4 q5 => by
    obtain ⟨dL, hm, hnm⟩ := List.any_eq_true.mp hrec
    obtain ⟨fa', of, fdf, cf, Tf, p1, p2, p3, p4, _, p6⟩ := G.T.tab dL hm
    rw [beq_iff_eq.mp hnm, hmg] at p1
    cases p1
    have there := KX _ _ q1
    rw [there] at p2
    cases p2
    rw [q2] at p3
    cases p3
    rw [q3] at p4
    cases p4
    obtain ⟨⟨oc, ws, f1, _, f3, f4⟩, fT⟩ := p6
    have code := KX _ _ q4
    rw [code] at f1
    cases f1
    cases f3
    rw [q5] at f4
    cases f4
    exact fT
  obtain ⟨fd, cs, sp, hT, nT, C, hb, hsp, hF⟩ := F w mg fa _ Y KX G.T.g hmg own
  exact law_callG KX G.T.g G.T.b G.T.builtins G.T.nolimit hg hT nT C G.T.bmain hobj hints (Nat.le_trans hlen hn2) hF hb (fun H hH hS => hsp H a ns hlen hH hS) fun H e s' => hCX w H s₁ e s'
/-- a def's promise at the caller, from its body there -/
theorem runC_of {P : Program} {w : World} {K : PySem.W.Frag} {mg : Str → Option Value} {base : Heap} {CX : CXT} {f : Addr} {fd : FuncData} {x : Str} {st : Stmt} {qual : Str} {N : List Str} {sp : Sp} {nm : Str} (F : Fun K nm qual st f fd) (S : FnScope N [x] (defScope st))
    (hbody : ∀ (cdv : Value) (s : Shared) (H : Hp) (v : V) (Q : VK) (E : XK), (∃ oc od kV doc pm an ct osl, K.lookup f = some ⟨oc, od, .func (PySem.W.fnOf nm qual (defArgs st) (defBody st) (defScope st) .none kV doc pm an cdv ct), osl⟩) → sp [v] H Q E →
      ∃ t, PSs (cxOf CX P w K mg base N qual (defScope st) f cdv callerA [] s H E) (defBody st) t ∧ t { nx := fun _ H' => Q .non H', rt := Q } (start N [v]) H) : RunC P w K mg base CX f fd x sp := by
  obtain ⟨oc, od, kV, doc, pm, an, cdv, ct, osl, rfl, lk, hcd⟩ := F.ex
  intro s H u v Q E e0 hb r hsp
  have hr : Room 1 callerA := ⟨rfl, by decide +kernel, by decide +kernel⟩
  exact run_ofS (k := 0) (ps := [x]) (us := [u]) (vs := [v]) lk hcd S hr e0 hb (.cons r .nil) rfl fun _ => hbody cdv s H v Q E ⟨oc, od, kV, doc, pm, an, ct, osl, lk⟩ hsp
end Nm
set_option maxRecDepth 100000
set_option maxHeartbeats 4000000
/-! != of two dicts of lists of texts, the same ones; repr of a bool -/
namespace Nm
open PySem PySem.Spec PyProof.Rows L2
section
variable {X : Cx} {pins : List (Addr × Obj)} {σ : L2.St} {H : Hp} {s : Shared}
theorem strs_hit {A : Around} : ∀ {zs : List Str} {us ws : List Value}, Vals (zs.map V.str) us → Vals (zs.map V.str) ws → us.length = ws.length ∧ ∀ j (h1 : j < us.length) (h2 : j < ws.length), SeqAt.EqAt A s us[j] ws[j] true
  | [], _, _, .nil, .nil => ⟨rfl, fun j h1 => absurd h1 (Nat.not_lt_zero j)⟩
  | z :: zs, _, _, .cons r t, .cons r' t' => by
    obtain ⟨e, k⟩ := strs_hit t t'
    refine ⟨by simp [e], fun j h1 h2 => ?_⟩
    cases j with
    | zero => exact eqAt_same r r' rfl
    | succ j => exact k j (Nat.lt_of_succ_lt_succ h1) (Nat.lt_of_succ_lt_succ h2)
/-- two lists of the same texts -/
theorem lists_hit (I : Inv X pins σ H s) {A : Around} (hu : A.units < cLine) {u v : Addr} {zs : List Str} (hu' : H u = some (.lst (zs.map V.str))) (hv : H v = some (.lst (zs.map V.str))) : SeqAt.EqAt A s (.ref u) (.ref v) true := by
  by_cases e : u = v
  · subst e
    exact SeqAt.EqAt.same _
  obtain ⟨us, r1, p1, _⟩ := I.list (SqL.of hu')
  obtain ⟨ws, r2, p2, _⟩ := I.list (SqL.of hv)
  obtain ⟨sz, items⟩ := strs_hit (s := s) (A := A.in1) r1 r2
  have z := SeqAt.RcAt.lists (A := A) (e := fun _ => true) p1.isList p2.isList (by simpa using sz) hu fun j h1 h2 => by simpa using items j (by simpa using h1) (by simpa using h2)
  rw [show ((List.range us.toArray.size).all fun _ => true) = true from List.all_eq_true.mpr fun _ _ => rfl] at z
  exact SeqAt.EqAt.of_refs e z
/-- each key leads to a list of the same texts -/
def SameLists (H : Hp) (ks ls : List (Key × V)) : Prop := ks.length = ls.length ∧ ∀ p ∈ ks, ∃ (u v : Addr) (zs : List Str), p.2 = V.ref u ∧ valV ls p.1 = some (V.ref v) ∧ H u = some (.lst (zs.map V.str)) ∧ H v = some (.lst (zs.map V.str))
theorem dict_hits (I : Inv X pins σ H s) {A : Around} (hu : A.units < cLine) {ls : List (Key × V)} {vb : List (Key × Value)} (rb : KV ls vb) : ∀ {ks : List (Key × V)} {va : List (Key × Value)}, KV ks va →
    (∀ p ∈ ks, ∃ (u v : Addr) (zs : List Str), p.2 = V.ref u ∧ valV ls p.1 = some (V.ref v) ∧ H u = some (.lst (zs.map V.str)) ∧ H v = some (.lst (zs.map V.str))) → PySem.W.KeqHits A s vb va true := by
  intro ks va ra
  unfold KV at ra
  induction ra with
  | nil => exact fun _ => .nil
  | @cons p q ps qs h t ih =>
    intro hp
    obtain ⟨e1, e2⟩ := h
    obtain ⟨u, v, zs, ep, ev, hu1, hv1⟩ := hp p List.mem_cons_self
    have there : RelO (some (V.ref v)) (valueAt vb p.1) := by rw [← ev]; exact rb.val p.1
    obtain ⟨y, hy, ry⟩ := there.some_of
    obtain ⟨key, z⟩ := q
    obtain rfl : p.1 = key := e1
    rw [ep] at e2
    cases (show z = Value.ref u from e2)
    cases (show y = Value.ref v from ry)
    exact PySem.W.KeqHits.hit (b := true) (e := true) hy (lists_hit I hu hu1 hv1) (ih fun p' m => hp p' (List.mem_cons_of_mem _ m))
def rNeL : R2 := fun x y H Q => ∃ a b ks ls, x = V.ref a ∧ y = V.ref b ∧ H a = some (.dK ks) ∧ H b = some (.dK ls) ∧ SameLists H ks ls ∧ Q (.bl false) H
theorem op_neL (hu : X.A.units + 1 < cLine) : OpR X (compareOp .NotEq) rNeL := by
  intro pins s σ H x y v u Q I rx ry h
  obtain ⟨a, b, ks, ls, rfl, rfl, ha, hb, ⟨len, each⟩, q⟩ := h
  cases (show v = Value.ref a from rx)
  cases (show u = Value.ref b from ry)
  obtain ⟨_, ya, va, ra, da⟩ := (show ObjOk X.prog X.w H s.heap a (.dK ks) from I.hok a _ ha)
  obtain ⟨_, yb, vb, rb, db⟩ := (show ObjOk X.prog X.w H s.heap b (.dK ls) from I.hok b _ hb)
  have same : va.length = vb.length := by rw [← ra.length, ← rb.length]; exact len
  refine PySem.W.keq_ne (knd := mixKind X.prog X.w) (r := true) ya yb da db (by omega) (fun _ => dict_hits I (A := X.A.in1) (show X.A.units + 1 < cLine from hu) rb ra each) ?_
  rw [same]
  exact ⟨.bl false, H, I, by show Value.bool (!(vb.length == vb.length && true)) = Value.bool false; simp, q⟩
/-- repr of a bool -/
theorem call_reprB : CallR X (.builtin "repr") (fun xs H Q => ∃ b : Bool, xs = [.bl b] ∧ Q (.str (if b then "True" else "False")) H) := by
  intro pins s σ H xs us Q I r h
  obtain ⟨b, rfl, q⟩ := h
  cases r with
  | cons r t =>
    cases t
    cases (show _ = Value.bool b from r)
    exact PySem.P.repr_of_bool ⟨.str (if b then "True" else "False"), H, I.tok _, ⟨_, rfl⟩, q⟩
end
end Nm
set_option maxRecDepth 100000
set_option maxHeartbeats 4000000
/-! != of two lists of the same texts -/
namespace Nm
open PySem PySem.Spec PyProof.Rows L2
section
variable {X : Cx}
def rNeS (K : PySem.W.Frag) : R2 := fun x y H Q => ∃ (a b : Addr) (zs : List Str), x = V.ref a ∧ y = V.ref b ∧ SqL K H a (zs.map V.str) ∧ SqL K H b (zs.map V.str) ∧ Q (.bl false) H
theorem op_neS (hu : X.A.units + 1 < cLine) : OpR X (compareOp .NotEq) (rNeS X.K) := by
  intro pins s σ H x y v u Q I rx ry h
  obtain ⟨a, b, zs, rfl, rfl, ha, hb, q⟩ := h
  cases (show v = Value.ref a from rx)
  cases (show u = Value.ref b from ry)
  obtain ⟨us, r1, p1, _⟩ := I.list ha
  obtain ⟨ws, r2, p2, _⟩ := I.list hb
  obtain ⟨sz, items⟩ := strs_hit (s := s) (A := X.A.in1) r1 r2
  have z := SeqAt.RcNeAt.lists (A := X.A) (e := fun _ => true) p1.isList p2.isList (by simpa using sz) (by omega) fun j h1 h2 => by simpa using items j (by simpa using h1) (by simpa using h2)
  rw [show ((List.range us.toArray.size).all fun _ => true) = true from List.all_eq_true.mpr fun _ _ => rfl] at z
  exact z X.prog X.w X.xe (EP X pins σ Q) ⟨.bl false, H, I, rfl, q⟩
end
end Nm
set_option maxRecDepth 100000
set_option maxHeartbeats 4000000
/-! != of two things that are equal: two Nones, two lists of the same numbers and texts -/
namespace Nm
open PySem PySem.Spec PyProof.Rows L2
section
variable {X : Cx} {s : Shared}
theorem flat_hit {A : Around} : ∀ {xs : List V} {us ws : List Value}, (∀ x ∈ xs, flatB x = true) → Vals xs us → Vals xs ws → us.length = ws.length ∧ ∀ j (h1 : j < us.length) (h2 : j < ws.length), SeqAt.EqAt A s us[j] ws[j] true
  | [], _, _, _, .nil, .nil => ⟨rfl, fun j h1 => absurd h1 (Nat.not_lt_zero j)⟩
  | x :: xs, _, _, hf, .cons r t, .cons r' t' => by
    obtain ⟨e, k⟩ := flat_hit (A := A) (fun y hy => hf y (List.mem_cons_of_mem _ hy)) t t'
    refine ⟨by simp [e], fun j h1 h2 => ?_⟩
    cases j with
    | zero => exact eqAt_same r r' (hf x List.mem_cons_self)
    | succ j => exact k j (Nat.lt_of_succ_lt_succ h1) (Nat.lt_of_succ_lt_succ h2)
def rNeF (K : PySem.W.Frag) : R2 := fun x y H Q => (x = .non ∧ y = .non ∧ Q (.bl false) H) ∨ ∃ (a b : Addr) (xs : List V), x = V.ref a ∧ y = V.ref b ∧ SqL K H a xs ∧ SqL K H b xs ∧ (∀ x ∈ xs, flatB x = true) ∧ Q (.bl false) H
theorem op_neF (hu : X.A.units + 1 < cLine) : OpR X (compareOp .NotEq) (rNeF X.K) := by
  intro pins s σ H x y v u Q I rx ry h
  rcases h with ⟨rfl, rfl, q⟩ | ⟨a, b, xs, rfl, rfl, ha, hb, hf, q⟩
  · exact op_ne pins s σ H _ _ v u Q I rx ry ⟨rfl, q⟩
  · cases (show v = Value.ref a from rx)
    cases (show u = Value.ref b from ry)
    obtain ⟨us, r1, p1, _⟩ := I.list ha
    obtain ⟨ws, r2, p2, _⟩ := I.list hb
    obtain ⟨sz, items⟩ := flat_hit (s := s) (A := X.A.in1) hf r1 r2
    have z := SeqAt.RcNeAt.lists (A := X.A) (e := fun _ => true) p1.isList p2.isList (by simpa using sz) (by omega) fun j h1 h2 => by simpa using items j (by simpa using h1) (by simpa using h2)
    rw [show ((List.range us.toArray.size).all fun _ => true) = true from List.all_eq_true.mpr fun _ _ => rfl] at z
    exact z X.prog X.w X.xe (EP X pins σ Q) ⟨.bl false, H, I, rfl, q⟩
end
end Nm
set_option maxRecDepth 100000
set_option maxHeartbeats 8000000
/-! the law -/
namespace Nm
open PySem PySem.Spec PyProof.Rows L2 LamX
theorem ne_same {x : V} {A B : Prop} (h : B) : if (!decide (x = x)) = true then A else B := by
  rw [decide_eq_true rfl]
  exact h
theorem TblAt.kp {H H' : Hp} {s c t : Addr} {tb : List (List Int)} (h : TblAt H t tb) (S : Src H s c) (k : Kp s c H H') : TblAt H' t tb := h.ext fun b xs e => by
  obtain ⟨cs, l, m, tt, S⟩ := S
  exact k _ _ e (ne_of e S.ds (by intro z; cases z)) (ne_of e S.dc (by intro z; cases z))
theorem TblAt.put {H : Hp} {t so : Addr} {tb : List (List Int)} {xs ys : List V} (h : TblAt H t tb) (e : H so = some (.lst xs)) : TblAt (upd H so (.lst ys)) t tb := h.ext fun b zs z => by
  rw [upd_ne (ne_of z e (by intro q; cases q))]
  exact z
/-- a lot: how a web over the ground leads -/
structure Lot (k : Nat) (H : Hp) (s c l : Addr) (led : List Nat) : Prop where
  at_ : H l = some (.lst (natV led))
  n1 : 1 ≤ led.length
  n5 : led.length ≤ 5
  all : ∀ x, x ∈ led ↔ x < k
  ns : l ≠ s
  nc : l ≠ c
theorem Lot.kp {k : Nat} {H H' : Hp} {s c l : Addr} {led : List Nat} (L : Lot k H s c l led) (e : Kp s c H H') : Lot k H' s c l led := ⟨e _ _ L.at_ L.ns L.nc, L.n1, L.n5, L.all, L.ns, L.nc⟩
theorem Lot.same {k : Nat} {H H' : Hp} {s c l : Addr} {led : List Nat} (L : Lot k H s c l led) (e : Same H H') : Lot k H' s c l led := L.kp (Kp.same e)
theorem canon_le {f : List Nat} {n : Nat} (h : f.length ≤ n) : ∀ x ∈ canonL f, x ≤ n := fun x hx => by
  obtain ⟨y, _, rfl⟩ := List.mem_map.mp hx
  have h1 := List.idxOf_le_length (l := dd f) (a := y)
  have h2 := dd_len f f.length
  rw [List.take_length] at h2
  omega
theorem flatB_nat (l : List Nat) : ∀ x ∈ natV l, flatB x = true := fun x hx => by
  obtain ⟨n, _, rfl⟩ := List.mem_map.mp hx
  rfl
structure TxtV (mg : Str → Option Value) : Prop extends TxtS mg where
  repr : mg "repr" = none
section
variable {P : Program} {w : World} {K : PySem.W.Frag} {mg : Str → Option Value} {base : Heap}
def spLaw43 (K : PySem.W.Frag) : Sp := fun vs H Q _ => ∃ (a : Addr) (ns : List Int), vs = [.ref a] ∧ SqL K H a (ns.map V.int) ∧ ns.length ≤ 63 ∧ ∀ H', Q (.bl true) H'
abbrev nL43 : List Str := ["_law_script", "_law_source", "_law_time", "_law_ground", "_law_lots", "_law_first", "_law_last", "_law_many", "_law_some", "_law_two", "_law_weighed", "_law_told", "_law_side"]
theorem scL43 : FnScope nL43 ["_law_script"] (defScope sLaw) := ⟨rfl, rfl, rfl, by decide +kernel, rfl, by decide +kernel, by decide +kernel⟩
theorem run_law43 {f : Addr} {fd : FuncData} (F : Fun K "law" "law" sLaw f fd) (T : TxtV mg)
    (Gs : Def P w K mg base "_law_open_cells" ["_law_script"] 1 (spOpen K)) (Gp : Def P w K mg base "_law_pick" ["_law_source", "_law_many"] 1 spPick) (Gb : Def P w K mg base "_law_base" ["_law_source"] 4 spBase) (Go : Def P w K mg base "_law_bound_over" ["_law_source", "_law_ground", "_law_most"] 5 spBo)
    (Gy : Def P w K mg base "_law_by_base" ["_law_one", "_law_other"] 1 spBB) (Gh : Def P w K mg base "_law_behind_due" ["_law_first", "_law_last"] 1 spBh) (Gr : Def P w K mg base "_law_ring" ["_law_source", "_law_many"] 3 spRi) (Gl : Def P w K mg base "_law_blocks" ["_law_first", "_law_last"] 1 spBl)
    (Gt : Def P w K mg base "_law_times" ["_law_weighed", "_law_number"] 1 spTimes) (Gc : Def P w K mg base "colours_of" ["table"] 2 spColours) (Gq : Def P w K mg base "_law_pieces" ["_law_weighed"] 1 spPieces) :
    RunC P w K mg base CX0 f fd "_law_script" (spLaw43 K) := by
  refine runC_of F scL43 fun cdv s H v Q E hcd hsp => ?_
  have hr : Room 8 (callerA.deeper (envOfC "law" (defScope sLaw) s.heap.objs.size f cdv)) := Room.deeper (k := 8) ⟨rfl, by decide +kernel, by decide +kernel⟩ _
  have hu := hu_of hr
  have hg : (cxOf CX0 P w K mg base nL43 "law" (defScope sLaw) f cdv callerA [] s H E).nox.A.guards = some [] := rfl
  obtain ⟨fs, fds, Gs, ms, ks, bs⟩ := Gs.ex
  obtain ⟨fp, fdp, Gp, mp, kp, bp⟩ := Gp.ex
  obtain ⟨fb, fdb, Gb, mb, kb, bb⟩ := Gb.ex
  obtain ⟨fo, fdo, Go, mo, ko, bo⟩ := Go.ex
  obtain ⟨fy, fdy, Gy, my, ky, bY⟩ := Gy.ex
  obtain ⟨fh, fdh, Gh, mh, kh, bh⟩ := Gh.ex
  obtain ⟨fr, fdr, Gr, mr, kr, br⟩ := Gr.ex
  obtain ⟨fl, fdl, Gl, ml, kl, bl⟩ := Gl.ex
  obtain ⟨ft, fdt, Gt, mt, kt, bt⟩ := Gt.ex
  obtain ⟨fc, fdc, Gc, mc, kc, bc⟩ := Gc.ex
  obtain ⟨fq, fdq, Gq, mq, kq, bq⟩ := Gq.ex
  obtain ⟨sa, ns, hv, hs, hn, k⟩ := hsp
  cases hv
  refine ⟨_, PSs.nox (pss_cons (ps_set (i := 1) scL43.nd rfl (Or.inr rfl) (pe_call Gs (hr.mono (by decide)) (by rfl) ms ks bs .nil pass0 (pa_cons (pv 0) pa_nil)))
    (pss_cons (ps_for PassesOwn.never rfl (pi_range1 (by rfl) T.range (pa_cons pe_int pa_nil)) (pg_name (i := 2) scL43.nd rfl (Or.inl rfl))
      (pss_cons (ps_set (i := 3) scL43.nd rfl (Or.inr rfl) (pe_call Gb (hr.mono (by decide)) (by rfl) mb kb bb .nil pass0 (pa_cons (pv 1) pa_nil)))
      (Evl.pss_cut (ps_setLc (i := 4) (own := [("_law_side", 12)]) (g := gName 12) (tt := tYes) (te := tOp (rIxT K) (tCall spBo [] E0 (tCons (tVar 1) (tCons (tVar 3) (tCons (tC (.int 5)) tNil)))) (tC (.int 1))) rfl scL43.nd rfl rfl (sw_true rfl rfl rfl (by decide +kernel)) (pi_range1 (by rfl) T.range (pa_cons pe_int pa_nil)) (blkOk_by (N := nL43) (sc := defScope sLaw) (by decide +kernel))
          (fun _ _ _ _ _ => pg_name (i := 12) scL43.nd rfl (Or.inl rfl)) (fun _ _ _ _ _ => pts_nil)
          (fun _ _ _ _ _ => by exact pe_ix ix_tup (pe_call Go (hr.mono (by decide)) (by rfl) mo ko bo .nil pass0 (pa_cons (pv 1) (pa_cons (pv 3) (pa_cons pe_int pa_nil)))) pe_int (fun _ _ => rfl)))
      (Evl.pss_cut (ps_par (i := 5) (j := 6) (by rfl) scL43.nd rfl rfl (by decide) rfl rfl (pa_cons (pe_call Gy (hr.mono (by decide)) (by rfl) my ky bY .nil pass0 (pa_cons (pe_ix ix_list (pv 4) pe_int (fun _ _ => rfl)) (pa_cons (pe_ix ix_list (pv 4) pe_int (fun _ _ => rfl)) pa_nil)))
          (pa_cons (pe_call Gy (hr.mono (by decide)) (by rfl) my ky bY .nil pass0 (pa_cons (pe_ix ix_list (pv 4) pe_int (fun _ _ => rfl)) (pa_cons (pe_ix ix_list (pv 4) pe_int (fun _ _ => rfl)) pa_nil))) pa_nil)) (by rfl))
      (Evl.pss_cut (ps_set (i := 7) scL43.nd rfl (Or.inl rfl) (pe_op op_add pe_int (pe_call Gp (hr.mono (by decide)) (by rfl) mp kp bp .nil pass0 (pa_cons (pv 1) (pa_cons pe_int pa_nil)))))
      (Evl.pss_cut (ps_set (i := 8) scL43.nd rfl (Or.inl rfl) (pe_lst (pa_cons (pv 5) (pa_cons (pv 6) (pa_cons (pe_call Gh (hr.mono (by decide)) (by rfl) mh kh bh .nil pass0 (pa_cons (pv 5) (pa_cons (pv 6) pa_nil))) (pa_cons (pe_call Gr (hr.mono (by decide)) (by rfl) mr kr br .nil pass0 (pa_cons (pv 1) (pa_cons (pv 7) pa_nil))) pa_nil))))))
      (Evl.pss_cut (ps_set (i := 9) scL43.nd rfl (Or.inl rfl) (pe_op op_add pe_int (pe_call Gp (hr.mono (by decide)) (by rfl) mp kp bp .nil pass0 (pa_cons (pv 1) (pa_cons pe_int pa_nil)))))
      (Evl.pss_cut (ps_expr (pe_bm PySem.F.plainAttrs_list PySem.F.slot_list_append PySem.F.type_list_append mt_append (pv 8) (pa_cons (pe_call Gl (hr.mono (by decide)) (by rfl) ml kl bl .nil pass0 (pa_cons (pe_call Gr (hr.mono (by decide)) (by rfl) mr kr br .nil pass0 (pa_cons (pv 1) (pa_cons (pv 9) pa_nil)))
          (pa_cons (pe_call Gt (hr.mono (by decide)) (by rfl) mt kt bt .nil pass0 (pa_cons (pe_call Gr (hr.mono (by decide)) (by rfl) mr kr br .nil pass0 (pa_cons (pv 1) (pa_cons (pe_op op_sub pe_int (pv 9)) pa_nil))) (pa_cons pe_int pa_nil))) pa_nil))) pa_nil)))
      (pss_one (ps_for PassesOwn.never rfl (pi_list (pv 8)) (pg_name (i := 10) scL43.nd rfl (Or.inl rfl))
        (Evl.pss_cut (ps_set (i := 11) scL43.nd rfl (Or.inl rfl) (pe_call Gc (hr.mono (by decide)) (by rfl) mc kc bc .nil pass0 (pa_cons (pv 10) pa_nil)))
        (Evl.pss_cut (ps_if (pt_cmpR op_ne (pe_callB (call_repr hg hr.units) (by rfl) T.repr (by decide +kernel) (pa_cons (pv 11) pa_nil)) (pe_callB (call_repr hg hr.units) (by rfl) T.repr (by decide +kernel) (pa_cons (pe_call Gq (hr.mono (by decide)) (by rfl) mq kq bq .nil pass0 (pa_cons (pv 10) pa_nil)) pa_nil)) (nomark _)) (pss_one (ps_ret pe_bl)) pss_nil)
        (Evl.pss_cut (ps_expr (pe_bm PySem.F.plainAttrs_list PySem.F.slot_list_append PySem.F.type_list_append mt_append (pe_ix ix_tup (pv 11) pe_int (fun _ _ => rfl)) (pa_cons pe_int pa_nil)))
        (pss_one (ps_if (PW.pt (pw_or (pt_cmpR (op_neF hu) (pe_ix ix_tup (pv 11) pe_int (fun _ _ => rfl)) (pe_ix ix_tup (pe_call Gq (hr.mono (by decide)) (by rfl) mq kq bq .nil pass0 (pa_cons (pv 10) pa_nil)) pe_int (fun _ _ => rfl)) (nomark _))
          (pw_or1 (pt_cmpR op_ne (pe_callB (call_repr hg hr.units) (by rfl) T.repr (by decide +kernel) (pa_cons (pe_call Gc (hr.mono (by decide)) (by rfl) mc kc bc .nil pass0 (pa_cons (pv 10) pa_nil)) pa_nil)) (pe_callB (call_repr hg hr.units) (by rfl) T.repr (by decide +kernel) (pa_cons (pe_call Gq (hr.mono (by decide)) (by rfl) mq kq bq .nil pass0 (pa_cons (pv 10) pa_nil)) pa_nil)) (nomark _))))) (pss_one (ps_ret pe_bl)) pss_nil)))))))))))))))
    (pss_one (ps_ret pe_bl)))), ?_⟩
  refine ⟨_, rfl, sa, ns, rfl, hs, hn, fun s0 c0 H1 _ _ S1 s1 => ?_⟩
  refine ⟨_, rfl, by decide, by decide, ?_⟩
  refine for_range (lo := 0) (n := 4) (fun i σ H2 => Src H2 s0 c0 ∧ ∃ v2 v3 v4 v5 v6 v7 v8 v9 v10 v11, σ = [some (.ref sa), some (.ref s0), v2, v3, v4, v5, v6, v7, v8, v9, v10, v11, none]) ⟨S1, none, none, none, none, none, none, none, none, none, none, rfl⟩ ?_ ?_
  · rintro i σ H2 hi ⟨S2, v2, v3, v4, v5, v6, v7, v8, v9, v10, v11, rfl⟩
    refine ⟨_, rfl, s0, c0, rfl, S2, fun wd a b t nm cl kvs H3 _ _ _ _ W3 n2 ti3 kl3 S3 kp3 => ?_⟩
    -- the three lots
    refine ⟨fun σ H4 => ∃ D l0 l1 l2 a0 a1 a2, σ = [some (.ref sa), some (.ref s0), some (.int (0 + (i : Int))), some (.ref wd), some (.ref D), v5, v6, v7, v8, v9, v10, v11, none] ∧ H4 D = some (.lst [.ref l0, .ref l1, .ref l2]) ∧ Lot nm.length H4 s0 c0 l0 a0 ∧ Lot nm.length H4 s0 c0 l1 a1 ∧ Lot nm.length H4 s0 c0 l2 a2 ∧ Src H4 s0 c0, ?_, ?_⟩
    · refine ⟨_, rfl, by decide, by decide, fun D hD => ?_⟩
      obtain ⟨nDs, nDc⟩ := S3.ne hD
      refine lc_range (lo := 0) (n := 3) (fun j H4 => ∃ ls : List Addr, ls.length = j ∧ H4 D = some (.lst (ls.map V.ref)) ∧ (∀ l ∈ ls, l ≠ D ∧ ∃ led, Lot nm.length H4 s0 c0 l led) ∧ Src H4 s0 c0 ∧ Kp s0 c0 H3 H4) ⟨[], rfl, upd_same, fun l hl => (List.not_mem_nil hl).elim, S3.new hD, Kp.same (same_new hD)⟩ ?_ ?_
      · rintro j H4 hj ⟨ls, hlj, hD4, hls, S4, kp4⟩
        refine ⟨rfl, tyes ?_⟩
        refine ⟨_, rfl, _, rfl, s0, c0, wd, a, b, t, nm, cl, kvs, rfl, S4, W3.kp kp4, ti3, kl3, n2, fun r wd' ld' led H5 hld0 hr5 hld5 g1 g5 gx S5 kp5 => ?_⟩
        obtain ⟨nls, nlc⟩ := S4.ne hld0
        have nlD : ld' ≠ D := fun e => by
          subst e
          rw [hD4] at hld0
          cases hld0
        refine ⟨r, _, _, V.ref ld', rfl, rfl, SqT.of hr5, atI_nat (j := 1) rfl, ?_⟩
        have hD5 := kp5 _ _ hD4 nDs nDc
        refine ⟨_, hD5, Evl.sz_lt (by rw [List.length_map]; omega), ls ++ [ld'], by rw [List.length_append, hlj]; rfl, by rw [upd_same, List.map_append]; rfl, fun l hl => ?_, S5.upd nDs nDc, (kp4.trans kp5).off hD⟩
        rcases List.mem_append.mp hl with z | z
        · obtain ⟨nD, led', L⟩ := hls l z
          have L5 := L.kp kp5
          exact ⟨nD, led', by rw [upd_ne nD]; exact L5.at_, L5.n1, L5.n5, L5.all, L5.ns, L5.nc⟩
        · rw [List.mem_singleton] at z
          subst z
          exact ⟨nlD, led, by rw [upd_ne nlD]; exact hld5, g1, g5, gx, nls, nlc⟩
      · rintro H4 ⟨ls, hlj, hD4, hls, S4, kp4⟩
        match ls, hlj, hD4, hls with
        | [l0, l1, l2], _, hD4, hls =>
          obtain ⟨_, a0, L0⟩ := hls l0 (by simp)
          obtain ⟨_, a1, L1⟩ := hls l1 (by simp)
          obtain ⟨_, a2, L2⟩ := hls l2 (by simp)
          exact ⟨D, l0, l1, l2, a0, a1, a2, rfl, hD4, L0, L1, L2, S4⟩
    rintro σ H4 ⟨D, l0, l1, l2, a0, a1, a2, rfl, hD4, L0, L1, L2, S4⟩
    have m10 : ∀ x ∈ a1, x ∈ a0 := fun x hx => (L0.all x).mpr ((L1.all x).mp hx)
    have m21 : ∀ x ∈ a2, x ∈ a1 := fun x hx => (L1.all x).mpr ((L2.all x).mp hx)
    have p0 := L0.n1
    have p1 := L1.n1
    have p2 := L2.n1
    have q0 := L0.n5
    have q1 := L1.n5
    have q2 := L2.n5
    have T1 := tb_bb p0 (by omega) (by omega) m10
    have T2 := tb_bb p1 (by omega) (by omega) m21
    have T3 := tb_prod p0 (by omega) (by omega) m10 m21
    -- by the base
    refine ⟨fun σ H5 => ∃ f1 f2, σ = [some (.ref sa), some (.ref s0), some (.int (0 + (i : Int))), some (.ref wd), some (.ref D), some (.ref f1), some (.ref f2), v7, v8, v9, v10, v11, none] ∧ TblAt H5 f1 (bbT a0 a1) ∧ TblAt H5 f2 (bbT a1 a2) ∧ Src H5 s0 c0, ?_, ?_⟩
    · refine ⟨_, rfl, D, _, _, V.ref l0, rfl, rfl, SqL.of hD4, atI_nat (j := 0) rfl, _, rfl, D, _, _, V.ref l1, rfl, rfl, SqL.of hD4, atI_nat (j := 1) rfl, l0, l1, a0, a1, rfl, L0.at_, L1.at_, by omega, by omega, fun f1 H5 tb1 s5 => ?_⟩
      refine ⟨_, rfl, D, _, _, V.ref l1, rfl, rfl, SqL.of (s5 _ _ hD4), atI_nat (j := 1) rfl, _, rfl, D, _, _, V.ref l2, rfl, rfl, SqL.of (s5 _ _ hD4), atI_nat (j := 2) rfl, l1, l2, a1, a2, rfl, s5 _ _ L1.at_, s5 _ _ L2.at_, by omega, by omega, fun f2 H6 tb2 s6 => ?_⟩
      exact ⟨_, _, rfl, f1, f2, rfl, tb1.same s6, tb2, S4.same (s5.trans s6)⟩
    rintro σ H5 ⟨f1, f2, rfl, tb1, tb2, S5⟩
    refine ⟨fun σ H6 => ∃ n : Nat, 2 ≤ n ∧ n ≤ 5 ∧ σ = [some (.ref sa), some (.ref s0), some (.int (0 + (i : Int))), some (.ref wd), some (.ref D), some (.ref f1), some (.ref f2), some (.int (n : Int)), v8, v9, v10, v11, none] ∧ TblAt H6 f1 (bbT a0 a1) ∧ TblAt H6 f2 (bbT a1 a2) ∧ Src H6 s0 c0, ?_, ?_⟩
    · refine ⟨_, rfl, s0, c0, 4, rfl, S5, by decide, by decide, fun kk H6 k0 k1 S6 kp6 => ⟨_, _, rfl, rfl, (2 + kk).toNat, by omega, by omega, ?_, tb1.kp S5 kp6, tb2.kp S5 kp6, S6⟩⟩
      rw [Int.toNat_of_nonneg (by omega)]
      rfl
    rintro σ H6 ⟨n, n2', n5, rfl, tb1, tb2, S6⟩
    refine ⟨fun σ H7 => ∃ so f3 f4 ra rb, a0.length = a0.length ∧ ra.Perm (List.range n) ∧ rb.Perm (List.range n) ∧ σ = [some (.ref sa), some (.ref s0), some (.int (0 + (i : Int))), some (.ref wd), some (.ref D), some (.ref f1), some (.ref f2), some (.int (n : Int)), some (.ref so), v9, v10, v11, none] ∧ H7 so = some (.lst [.ref f1, .ref f2, .ref f3, .ref f4]) ∧ so ≠ s0 ∧ so ≠ c0 ∧ TblAt H7 f1 (bbT a0 a1) ∧ TblAt H7 f2 (bbT a1 a2) ∧ TblAt H7 f3 (prodT (bbT a0 a1) (bbT a1 a2) a2.length) ∧ TblAt H7 f4 (ringT ra rb n) ∧ Src H7 s0 c0, ?_, ?_⟩
    · have lbb : (bbT a1 a2).length = a1.length := List.length_map _
      refine ⟨_, rfl, _, rfl, _, rfl, _, rfl, f1, f2, bbT a0 a1, bbT a1 a2, a2.length, rfl, tb1, tb2, by rw [lbb]; exact T1.ok, T2.ok, bb_01, fun f3 H7 tb3 s7 => ?_⟩
      have S7 := S6.same s7
      refine ⟨_, rfl, _, rfl, s0, c0, n, rfl, S7, by omega, by omega, fun f4 ra rb H8 _ pra prb tb4 S8 kp8 => ?_⟩
      refine ⟨(by show 4 ≤ sizeLine; decide), fun so hso => ?_⟩
      have sso := same_new (o := .lst [V.ref f1, V.ref f2, V.ref f3, V.ref f4]) hso
      obtain ⟨x1, x2⟩ := S8.ne hso
      exact ⟨so, f3, f4, ra, rb, rfl, pra, prb, rfl, upd_same, x1, x2, ((tb1.same s7).kp S7 kp8).same sso, ((tb2.same s7).kp S7 kp8).same sso, (tb3.kp S7 kp8).same sso, tb4.same sso, S8.same sso⟩
    rintro σ H7 ⟨so, f3, f4, ra, rb, _, pra, prb, rfl, hso7, nss, nsc, tb1, tb2, tb3, tb4, S7⟩
    have T4 := tb_ring (by omega) (by omega) pra prb
    refine ⟨fun σ H8 => ∃ n' : Nat, 2 ≤ n' ∧ n' ≤ 3 ∧ σ = [some (.ref sa), some (.ref s0), some (.int (0 + (i : Int))), some (.ref wd), some (.ref D), some (.ref f1), some (.ref f2), some (.int (n : Int)), some (.ref so), some (.int (n' : Int)), v10, v11, none] ∧ H8 so = some (.lst [.ref f1, .ref f2, .ref f3, .ref f4]) ∧ TblAt H8 f1 (bbT a0 a1) ∧ TblAt H8 f2 (bbT a1 a2) ∧ TblAt H8 f3 (prodT (bbT a0 a1) (bbT a1 a2) a2.length) ∧ TblAt H8 f4 (ringT ra rb n) ∧ Src H8 s0 c0, ?_, ?_⟩
    · refine ⟨_, rfl, s0, c0, 2, rfl, S7, by decide, by decide, fun kk H8 k0 k1 S8 kp8 => ⟨_, _, rfl, rfl, (2 + kk).toNat, by omega, by omega, ?_, kp8 _ _ hso7 nss nsc, tb1.kp S7 kp8, tb2.kp S7 kp8, tb3.kp S7 kp8, tb4.kp S7 kp8, S8⟩⟩
      rw [Int.toNat_of_nonneg (by omega)]
      rfl
    rintro σ H8 ⟨n', n2'', n3, rfl, hso8, tb1, tb2, tb3, tb4, S8⟩
    refine ⟨fun σ H9 => ∃ f5 t5 m5, Tb t5 m5 ∧ σ = [some (.ref sa), some (.ref s0), some (.int (0 + (i : Int))), some (.ref wd), some (.ref D), some (.ref f1), some (.ref f2), some (.int (n : Int)), some (.ref so), some (.int (n' : Int)), v10, v11, none] ∧ H9 so = some (.lst [.ref f1, .ref f2, .ref f3, .ref f4, .ref f5]) ∧ TblAt H9 f1 (bbT a0 a1) ∧ TblAt H9 f2 (bbT a1 a2) ∧ TblAt H9 f3 (prodT (bbT a0 a1) (bbT a1 a2) a2.length) ∧ TblAt H9 f4 (ringT ra rb n) ∧ TblAt H9 f5 t5 ∧ Src H9 s0 c0, ?_, ?_⟩
    · have e5 : (5 : Int) - (n' : Int) = ((5 - n' : Nat) : Int) := by omega
      refine ⟨_, rfl, .inl ⟨rfl, _, SqL.of hso8⟩, ?_⟩
      refine ⟨_, rfl, _, rfl, s0, c0, n', rfl, S8, by omega, by omega, fun g1 c1 c2 H9 _ pc1 pc2 tg1 S9 kp9 => ?_⟩
      refine ⟨_, rfl, _, rfl, _, _, rfl, rfl, s0, c0, 5 - n', by show [V.ref s0, V.int ((5 : Int) - (n' : Int))] = _; rw [e5], S9, by omega, by omega, fun g2 d1 d2 H10 _ pd1 pd2 tg2 S10 kp10 => ?_⟩
      have U1 := tb_ring (by omega) (by omega) pc1 pc2
      have U2 := tb_ring (by omega) (by omega) pd1 pd2
      have z1 : (ringT c1 c2 n').length = n' := by unfold ringT; rw [List.length_map, pc1.length_eq, List.length_range]
      have z2 : (ringT d1 d2 (5 - n')).length = 5 - n' := by unfold ringT; rw [List.length_map, pd1.length_eq, List.length_range]
      refine ⟨g2, _, 5 - n', rfl, tg2, U2.ok, fun g3 H11 tg3 s11 => ?_⟩
      refine ⟨g1, g3, _, _, n', 5 - n', rfl, (tg1.kp S9 kp10).same s11, tg3, U1.ok, U2.ok, by omega, by omega, fun f5 H12 tg5 s12 => ?_⟩
      have s1012 := s11.trans s12
      have kpA := (kp9.trans kp10).trans (Kp.same s1012)
      have hso12 := kpA _ _ hso8 nss nsc
      refine ⟨so, _, _, rfl, rfl, hso12, Evl.sz_lt (by show 4 < 100000; decide), f5, _, _, tb_bl U1 U2 (by omega) (by omega), rfl, by rw [upd_same]; rfl, ?_, ?_, ?_, ?_, ?_, (S10.same s1012).upd nss nsc⟩
      · exact ((tb1.kp S8 (kp9.trans kp10)).same s1012).put hso12
      · exact ((tb2.kp S8 (kp9.trans kp10)).same s1012).put hso12
      · exact ((tb3.kp S8 (kp9.trans kp10)).same s1012).put hso12
      · exact ((tb4.kp S8 (kp9.trans kp10)).same s1012).put hso12
      · exact tg5.put hso12
    rintro σ H9 ⟨f5, t5, m5, T5, rfl, hso9, tb1, tb2, tb3, tb4, tb5, S9⟩
    have every : ∀ x ∈ [V.ref f1, .ref f2, .ref f3, .ref f4, .ref f5], ∃ (t : Addr) (tb : List (List Int)) (m : Nat), x = V.ref t ∧ TblAt H9 t tb ∧ Tb tb m := fun x hx => by
      simp only [List.mem_cons, List.not_mem_nil, or_false] at hx
      rcases hx with rfl | rfl | rfl | rfl | rfl
      · exact ⟨_, _, _, rfl, tb1, T1⟩
      · exact ⟨_, _, _, rfl, tb2, T2⟩
      · exact ⟨_, _, _, rfl, tb3, T3⟩
      · exact ⟨_, _, _, rfl, tb4, T4⟩
      · exact ⟨_, _, _, rfl, tb5, T5⟩
    refine ⟨_, rfl, so, rfl, ⟨_, SqL.of hso9⟩, ?_⟩
    refine for_list (xs := [V.ref f1, .ref f2, .ref f3, .ref f4, .ref f5]) (fun j σ H' => ∃ v10 v11, σ = [some (.ref sa), some (.ref s0), some (.int (0 + (i : Int))), some (.ref wd), some (.ref D), some (.ref f1), some (.ref f2), some (.int (n : Int)), some (.ref so), some (.int (n' : Int)), v10, v11, none] ∧ Same H9 H')
      ⟨v10, v11, rfl, Same.refl _⟩ (fun j σ H' _ ⟨_, _, _, s⟩ => SqL.of (s _ _ hso9)) ?_ ?_
    · rintro j x σ H10 hj ⟨v10, v11, rfl, s10⟩
      obtain ⟨t, tb, m, rfl, htb, TT⟩ := every x (List.mem_of_getElem? hj)
      have tb10 := htb.same s10
      obtain ⟨f0, cl0⟩ := cl_some TT.ok
      have fnd := cl0.fnd TT.ok
      have n8 := TT.ok.n8
      have m8 := TT.ok.m8
      have fl0 := cl0.len
      have cle := canon_le (f := f0) (n := 100) (by omega)
      have cll : (canonL f0).length = f0.length := List.length_map _
      generalize hA : (canonL f0).take tb.length = A
      generalize hB : (canonL f0).drop tb.length = B
      have ok2 := two_ok (l1 := A) (l2 := B) (fun x hx => cle x (List.mem_of_mem_take (by rw [hA]; exact hx))) (fun x hx => cle x (List.mem_of_mem_drop (by rw [hB]; exact hx))) (by rw [← hA, List.length_take]; omega) (by rw [← hB, List.length_drop]; omega)
      obtain ⟨o1, o2, o3, o4⟩ := ok2
      have Al : A.length ≤ 100 := by rw [← hA, List.length_take]; omega
      -- what is told
      refine ⟨fun σ H11 => ∃ p a b, σ = [some (.ref sa), some (.ref s0), some (.int (0 + (i : Int))), some (.ref wd), some (.ref D), some (.ref f1), some (.ref f2), some (.int (n : Int)), some (.ref so), some (.int (n' : Int)), some (.ref t), some (.ref p), none] ∧ H11 p = some (.tup [.ref a, .ref b]) ∧ H11 a = some (.lst (natV A)) ∧ H11 b = some (.lst (natV B)) ∧ H10 a = none ∧ a ≠ b ∧ Same H10 H11, ?_, ?_⟩
      · refine ⟨_, rfl, t, tb, m, f0, rfl, tb10, TT.ok, fnd, fun p a b H11 hp ha hb hab hpp hla hlb s11 => ?_⟩
        exact ⟨p, a, b, rfl, hpp, by rw [← hA]; exact hla, by rw [← hB]; exact hlb, ha, hab, s11⟩
      rintro σ H11 ⟨p, a, b, rfl, hp, ha, hb, ha0, hab, s11⟩
      have tb11 := tb10.same s11
      refine ⟨fun σ H12 => σ = [some (.ref sa), some (.ref s0), some (.int (0 + (i : Int))), some (.ref wd), some (.ref D), some (.ref f1), some (.ref f2), some (.int (n : Int)), some (.ref so), some (.int (n' : Int)), some (.ref t), some (.ref p), none] ∧ Same H11 H12, ?_, ?_⟩
      · refine ⟨_, rfl, p, dTwo A B, rfl, two_sh hp ha hb, o1, o2, o3, o4, ?_⟩
        refine ⟨_, rfl, t, tb, m, f0, rfl, tb11, TT.ok, TT.cp, fnd, fun p' a' b' H12 _ _ _ _ hpp hla hlb s12 => ?_⟩
        refine ⟨p', dTwo A B, rfl, two_sh hpp (by rw [← hA]; exact hla) (by rw [← hB]; exact hlb), o1, o2, o3, o4, rfl, _, rfl, ne_same ⟨rfl, s12⟩⟩
      rintro σ H12 ⟨rfl, s12⟩
      refine ⟨fun σ H13 => σ = [some (.ref sa), some (.ref s0), some (.int (0 + (i : Int))), some (.ref wd), some (.ref D), some (.ref f1), some (.ref f2), some (.int (n : Int)), some (.ref so), some (.int (n' : Int)), some (.ref t), some (.ref p), none] ∧ H13 p = some (.tup [.ref a, .ref b]) ∧ H13 b = some (.lst (natV B)) ∧ Same H10 H13, ?_, ?_⟩
      · refine ⟨_, rfl, p, _, _, V.ref a, rfl, rfl, SqT.of (s12 _ _ hp), atI_nat (j := 0) rfl, .inl ⟨rfl, _, SqL.of (s12 _ _ ha)⟩, a, _, _, rfl, rfl, s12 _ _ ha, Evl.sz_lt (by rw [List.length_map]; omega), rfl, ?_, ?_, Same.off (s11.trans s12) ha0⟩
        · rw [upd_ne (ne_of hp ha (by intro z; cases z))]
          exact s12 _ _ hp
        · rw [upd_ne hab.symm]
          exact s12 _ _ hb
      rintro σ H13 ⟨rfl, hp13, hb13, s13⟩
      have tb13 := tb10.same s13
      refine ⟨_, rfl, p, _, _, V.ref b, rfl, rfl, SqT.of hp13, atI_nat (j := 1) rfl, ?_⟩
      refine ⟨_, rfl, t, tb, m, f0, rfl, tb13, TT.ok, TT.cp, fnd, fun p' a' b' H14 _ _ _ _ hpp hla hlb s14 => ?_⟩
      refine ⟨p', _, _, V.ref b', rfl, rfl, SqT.of hpp, atI_nat (j := 1) rfl, .inr ⟨b, b', _, rfl, rfl, SqL.of (s14 _ _ hb13), SqL.of (by rw [← hB]; exact hlb), flatB_nat _, false, rfl, iteF ?_⟩⟩
      have tb14 := tb13.same s14
      refine ⟨_, rfl, t, tb, m, f0, rfl, tb14, TT.ok, fnd, fun p2 a2 b2 H15 _ _ _ _ hpp2 hla2 hlb2 s15 => ?_⟩
      refine ⟨p2, dTwo A B, rfl, two_sh hpp2 (by rw [← hA]; exact hla2) (by rw [← hB]; exact hlb2), o1, o2, o3, o4, ?_⟩
      refine ⟨_, rfl, t, tb, m, f0, rfl, tb14.same s15, TT.ok, TT.cp, fnd, fun p3 a3 b3 H16 _ _ _ _ hpp3 hla3 hlb3 s16 => ?_⟩
      refine ⟨p3, dTwo A B, rfl, two_sh hpp3 (by rw [← hA]; exact hla3) (by rw [← hB]; exact hlb3), o1, o2, o3, o4, rfl, _, rfl, ne_same ⟨_, _, rfl, (((s10.trans s13).trans s14).trans s15).trans s16⟩⟩
    · rintro σ H10 ⟨v10, v11, rfl, s10⟩
      exact ⟨S9.same s10, _, _, _, _, _, _, _, _, _, _, rfl⟩
  · rintro σ H2 ⟨S2, v2, v3, v4, v5, v6, v7, v8, v9, v10, v11, rfl⟩
    exact k _
end
end Nm
set_option maxRecDepth 100000
set_option maxHeartbeats 8000000
/-! what the top has written, and the law -/
namespace Nm
open PySem PySem.Spec PyProof.Rows L2 LamX
section
variable {P : Program} {w : World} {K : PySem.W.Frag} {mg : Str → Option Value} {base : Heap}
theorem def_mk {x : Str} {ps : List Str} {k : Nat} {sp : Sp} {f : Addr} {fd : FuncData} (G : FnOk P w K mg base CX0 k f fd ps sp) (a : mg x = some (.ref f)) (kp : PySem.W.keepIn K (.ref f) = true) (b : Binds K fd ps []) : Def P w K mg base x ps k sp := ⟨f, fd, G, a, kp, b⟩
end
theorem all_mk {l : PySem.W.OpenLaw} {w : World} {K : PySem.W.Frag} {h : Heap} {mg : Str → Option Value} {fa : Addr} (X : K.In h) (G : h.Ns mainGlobals mg) (hfa : mg "law" = some (.ref fa))
    {f_re : Addr} {kV_re dc_re pm_re cd_re ct_re : Value} {an_re : Option Addr} {oc_re : Value} {od_re : Option Addr} {sl_re : Array (Option Value)} (a_re : PySem.W.nsIn K mainGlobals "reached_from" = some (some (.ref f_re))) (l_re : K.lookup f_re = some ⟨oc_re, od_re, .func (PySem.W.fnOf "reached_from" "reached_from" (defArgs sReached) (defBody sReached) (defScope sReached) .none kV_re dc_re pm_re an_re cd_re ct_re), sl_re⟩) (c_re : PySem.W.codeIn K cd_re "reached_from" = true) (k_re : PySem.W.keepIn K (.ref f_re) = true)
    {f_tu : Addr} {kV_tu dc_tu pm_tu cd_tu ct_tu : Value} {an_tu : Option Addr} {oc_tu : Value} {od_tu : Option Addr} {sl_tu : Array (Option Value)} (a_tu : PySem.W.nsIn K mainGlobals "turned_over" = some (some (.ref f_tu))) (l_tu : K.lookup f_tu = some ⟨oc_tu, od_tu, .func (PySem.W.fnOf "turned_over" "turned_over" (defArgs sTurned) (defBody sTurned) (defScope sTurned) .none kV_tu dc_tu pm_tu an_tu cd_tu ct_tu), sl_tu⟩) (c_tu : PySem.W.codeIn K cd_tu "turned_over" = true) (k_tu : PySem.W.keepIn K (.ref f_tu) = true)
    {f_cs : Addr} {kV_cs dc_cs pm_cs cd_cs ct_cs : Value} {an_cs : Option Addr} {oc_cs : Value} {od_cs : Option Addr} {sl_cs : Array (Option Value)} (a_cs : PySem.W.nsIn K mainGlobals "colours_of" = some (some (.ref f_cs))) (l_cs : K.lookup f_cs = some ⟨oc_cs, od_cs, .func (PySem.W.fnOf "colours_of" "colours_of" (defArgs sColours) (defBody sColours) (defScope sColours) .none kV_cs dc_cs pm_cs an_cs cd_cs ct_cs), sl_cs⟩) (c_cs : PySem.W.codeIn K cd_cs "colours_of" = true) (k_cs : PySem.W.keepIn K (.ref f_cs) = true)
    {f_oc : Addr} {kV_oc dc_oc pm_oc cd_oc ct_oc : Value} {an_oc : Option Addr} {oc_oc : Value} {od_oc : Option Addr} {sl_oc : Array (Option Value)} (a_oc : PySem.W.nsIn K mainGlobals "_law_open_cells" = some (some (.ref f_oc))) (l_oc : K.lookup f_oc = some ⟨oc_oc, od_oc, .func (PySem.W.fnOf "_law_open_cells" "_law_open_cells" (defArgs sOpenCells) (defBody sOpenCells) (defScope sOpenCells) .none kV_oc dc_oc pm_oc an_oc cd_oc ct_oc), sl_oc⟩) (c_oc : PySem.W.codeIn K cd_oc "_law_open_cells" = true) (k_oc : PySem.W.keepIn K (.ref f_oc) = true)
    {f_pk : Addr} {kV_pk dc_pk pm_pk cd_pk ct_pk : Value} {an_pk : Option Addr} {oc_pk : Value} {od_pk : Option Addr} {sl_pk : Array (Option Value)} (a_pk : PySem.W.nsIn K mainGlobals "_law_pick" = some (some (.ref f_pk))) (l_pk : K.lookup f_pk = some ⟨oc_pk, od_pk, .func (PySem.W.fnOf "_law_pick" "_law_pick" (defArgs sPick) (defBody sPick) (defScope sPick) .none kV_pk dc_pk pm_pk an_pk cd_pk ct_pk), sl_pk⟩) (c_pk : PySem.W.codeIn K cd_pk "_law_pick" = true) (k_pk : PySem.W.keepIn K (.ref f_pk) = true)
    {f_ao : Addr} {kV_ao dc_ao pm_ao cd_ao ct_ao : Value} {an_ao : Option Addr} {oc_ao : Value} {od_ao : Option Addr} {sl_ao : Array (Option Value)} (a_ao : PySem.W.nsIn K mainGlobals "_law_any_order" = some (some (.ref f_ao))) (l_ao : K.lookup f_ao = some ⟨oc_ao, od_ao, .func (PySem.W.fnOf "_law_any_order" "_law_any_order" (defArgs sAnyOrder) (defBody sAnyOrder) (defScope sAnyOrder) .none kV_ao dc_ao pm_ao an_ao cd_ao ct_ao), sl_ao⟩) (c_ao : PySem.W.codeIn K cd_ao "_law_any_order" = true) (k_ao : PySem.W.keepIn K (.ref f_ao) = true)
    {f_ch : Addr} {kV_ch dc_ch pm_ch cd_ch ct_ch : Value} {an_ch : Option Addr} {oc_ch : Value} {od_ch : Option Addr} {sl_ch : Array (Option Value)} (a_ch : PySem.W.nsIn K mainGlobals "_law_choice_of" = some (some (.ref f_ch))) (l_ch : K.lookup f_ch = some ⟨oc_ch, od_ch, .func (PySem.W.fnOf "_law_choice_of" "_law_choice_of" (defArgs sChoiceOf) (defBody sChoiceOf) (defScope sChoiceOf) .none kV_ch dc_ch pm_ch an_ch cd_ch ct_ch), sl_ch⟩) (c_ch : PySem.W.codeIn K cd_ch "_law_choice_of" = true) (k_ch : PySem.W.keepIn K (.ref f_ch) = true)
    {f_sh : Addr} {kV_sh dc_sh pm_sh cd_sh ct_sh : Value} {an_sh : Option Addr} {oc_sh : Value} {od_sh : Option Addr} {sl_sh : Array (Option Value)} (a_sh : PySem.W.nsIn K mainGlobals "_law_shape_pairs" = some (some (.ref f_sh))) (l_sh : K.lookup f_sh = some ⟨oc_sh, od_sh, .func (PySem.W.fnOf "_law_shape_pairs" "_law_shape_pairs" (defArgs sShapePairs) (defBody sShapePairs) (defScope sShapePairs) .none kV_sh dc_sh pm_sh an_sh cd_sh ct_sh), sl_sh⟩) (c_sh : PySem.W.codeIn K cd_sh "_law_shape_pairs" = true) (k_sh : PySem.W.keepIn K (.ref f_sh) = true)
    {f_dw : Addr} {kV_dw dc_dw pm_dw cd_dw ct_dw : Value} {an_dw : Option Addr} {oc_dw : Value} {od_dw : Option Addr} {sl_dw : Array (Option Value)} (a_dw : PySem.W.nsIn K mainGlobals "_law_draw_world" = some (some (.ref f_dw))) (l_dw : K.lookup f_dw = some ⟨oc_dw, od_dw, .func (PySem.W.fnOf "_law_draw_world" "_law_draw_world" (defArgs sDrawWorld) (defBody sDrawWorld) (defScope sDrawWorld) .none kV_dw dc_dw pm_dw an_dw cd_dw ct_dw), sl_dw⟩) (c_dw : PySem.W.codeIn K cd_dw "_law_draw_world" = true) (k_dw : PySem.W.keepIn K (.ref f_dw) = true)
    {f_pa : Addr} {kV_pa dc_pa pm_pa cd_pa ct_pa : Value} {an_pa : Option Addr} {oc_pa : Value} {od_pa : Option Addr} {sl_pa : Array (Option Value)} (a_pa : PySem.W.nsIn K mainGlobals "_law_parts" = some (some (.ref f_pa))) (l_pa : K.lookup f_pa = some ⟨oc_pa, od_pa, .func (PySem.W.fnOf "_law_parts" "_law_parts" (defArgs sParts) (defBody sParts) (defScope sParts) .none kV_pa dc_pa pm_pa an_pa cd_pa ct_pa), sl_pa⟩) (c_pa : PySem.W.codeIn K cd_pa "_law_parts" = true) (k_pa : PySem.W.keepIn K (.ref f_pa) = true)
    {f_se : Addr} {kV_se dc_se pm_se cd_se ct_se : Value} {an_se : Option Addr} {oc_se : Value} {od_se : Option Addr} {sl_se : Array (Option Value)} (a_se : PySem.W.nsIn K mainGlobals "_law_seated" = some (some (.ref f_se))) (l_se : K.lookup f_se = some ⟨oc_se, od_se, .func (PySem.W.fnOf "_law_seated" "_law_seated" (defArgs sSeated) (defBody sSeated) (defScope sSeated) .none kV_se dc_se pm_se an_se cd_se ct_se), sl_se⟩) (c_se : PySem.W.codeIn K cd_se "_law_seated" = true) (k_se : PySem.W.keepIn K (.ref f_se) = true)
    {f_ov : Addr} {kV_ov dc_ov pm_ov cd_ov ct_ov : Value} {an_ov : Option Addr} {oc_ov : Value} {od_ov : Option Addr} {sl_ov : Array (Option Value)} (a_ov : PySem.W.nsIn K mainGlobals "_law_over" = some (some (.ref f_ov))) (l_ov : K.lookup f_ov = some ⟨oc_ov, od_ov, .func (PySem.W.fnOf "_law_over" "_law_over" (defArgs sOver) (defBody sOver) (defScope sOver) .none kV_ov dc_ov pm_ov an_ov cd_ov ct_ov), sl_ov⟩) (c_ov : PySem.W.codeIn K cd_ov "_law_over" = true) (k_ov : PySem.W.keepIn K (.ref f_ov) = true)
    {f_ti : Addr} {kV_ti dc_ti pm_ti cd_ti ct_ti : Value} {an_ti : Option Addr} {oc_ti : Value} {od_ti : Option Addr} {sl_ti : Array (Option Value)} (a_ti : PySem.W.nsIn K mainGlobals "_law_times" = some (some (.ref f_ti))) (l_ti : K.lookup f_ti = some ⟨oc_ti, od_ti, .func (PySem.W.fnOf "_law_times" "_law_times" (defArgs sTimes) (defBody sTimes) (defScope sTimes) .none kV_ti dc_ti pm_ti an_ti cd_ti ct_ti), sl_ti⟩) (c_ti : PySem.W.codeIn K cd_ti "_law_times" = true) (k_ti : PySem.W.keepIn K (.ref f_ti) = true)
    {f_bh : Addr} {kV_bh dc_bh pm_bh cd_bh ct_bh : Value} {an_bh : Option Addr} {oc_bh : Value} {od_bh : Option Addr} {sl_bh : Array (Option Value)} (a_bh : PySem.W.nsIn K mainGlobals "_law_behind_due" = some (some (.ref f_bh))) (l_bh : K.lookup f_bh = some ⟨oc_bh, od_bh, .func (PySem.W.fnOf "_law_behind_due" "_law_behind_due" (defArgs sBehind) (defBody sBehind) (defScope sBehind) .none kV_bh dc_bh pm_bh an_bh cd_bh ct_bh), sl_bh⟩) (c_bh : PySem.W.codeIn K cd_bh "_law_behind_due" = true) (k_bh : PySem.W.keepIn K (.ref f_bh) = true)
    {f_bo : Addr} {kV_bo dc_bo pm_bo cd_bo ct_bo : Value} {an_bo : Option Addr} {oc_bo : Value} {od_bo : Option Addr} {sl_bo : Array (Option Value)} (a_bo : PySem.W.nsIn K mainGlobals "_law_bound_over" = some (some (.ref f_bo))) (l_bo : K.lookup f_bo = some ⟨oc_bo, od_bo, .func (PySem.W.fnOf "_law_bound_over" "_law_bound_over" (defArgs sBoundOver) (defBody sBoundOver) (defScope sBoundOver) .none kV_bo dc_bo pm_bo an_bo cd_bo ct_bo), sl_bo⟩) (c_bo : PySem.W.codeIn K cd_bo "_law_bound_over" = true) (k_bo : PySem.W.keepIn K (.ref f_bo) = true)
    {f_ba : Addr} {kV_ba dc_ba pm_ba cd_ba ct_ba : Value} {an_ba : Option Addr} {oc_ba : Value} {od_ba : Option Addr} {sl_ba : Array (Option Value)} (a_ba : PySem.W.nsIn K mainGlobals "_law_base" = some (some (.ref f_ba))) (l_ba : K.lookup f_ba = some ⟨oc_ba, od_ba, .func (PySem.W.fnOf "_law_base" "_law_base" (defArgs sBase) (defBody sBase) (defScope sBase) .none kV_ba dc_ba pm_ba an_ba cd_ba ct_ba), sl_ba⟩) (c_ba : PySem.W.codeIn K cd_ba "_law_base" = true) (k_ba : PySem.W.keepIn K (.ref f_ba) = true)
    {f_bb : Addr} {kV_bb dc_bb pm_bb cd_bb ct_bb : Value} {an_bb : Option Addr} {oc_bb : Value} {od_bb : Option Addr} {sl_bb : Array (Option Value)} (a_bb : PySem.W.nsIn K mainGlobals "_law_by_base" = some (some (.ref f_bb))) (l_bb : K.lookup f_bb = some ⟨oc_bb, od_bb, .func (PySem.W.fnOf "_law_by_base" "_law_by_base" (defArgs sByBase) (defBody sByBase) (defScope sByBase) .none kV_bb dc_bb pm_bb an_bb cd_bb ct_bb), sl_bb⟩) (c_bb : PySem.W.codeIn K cd_bb "_law_by_base" = true) (k_bb : PySem.W.keepIn K (.ref f_bb) = true)
    {f_pi : Addr} {kV_pi dc_pi pm_pi cd_pi ct_pi : Value} {an_pi : Option Addr} {oc_pi : Value} {od_pi : Option Addr} {sl_pi : Array (Option Value)} (a_pi : PySem.W.nsIn K mainGlobals "_law_pieces" = some (some (.ref f_pi))) (l_pi : K.lookup f_pi = some ⟨oc_pi, od_pi, .func (PySem.W.fnOf "_law_pieces" "_law_pieces" (defArgs sPieces) (defBody sPieces) (defScope sPieces) .none kV_pi dc_pi pm_pi an_pi cd_pi ct_pi), sl_pi⟩) (c_pi : PySem.W.codeIn K cd_pi "_law_pieces" = true) (k_pi : PySem.W.keepIn K (.ref f_pi) = true)
    {f_ri : Addr} {kV_ri dc_ri pm_ri cd_ri ct_ri : Value} {an_ri : Option Addr} {oc_ri : Value} {od_ri : Option Addr} {sl_ri : Array (Option Value)} (a_ri : PySem.W.nsIn K mainGlobals "_law_ring" = some (some (.ref f_ri))) (l_ri : K.lookup f_ri = some ⟨oc_ri, od_ri, .func (PySem.W.fnOf "_law_ring" "_law_ring" (defArgs sRing) (defBody sRing) (defScope sRing) .none kV_ri dc_ri pm_ri an_ri cd_ri ct_ri), sl_ri⟩) (c_ri : PySem.W.codeIn K cd_ri "_law_ring" = true) (k_ri : PySem.W.keepIn K (.ref f_ri) = true)
    {f_bl : Addr} {kV_bl dc_bl pm_bl cd_bl ct_bl : Value} {an_bl : Option Addr} {oc_bl : Value} {od_bl : Option Addr} {sl_bl : Array (Option Value)} (a_bl : PySem.W.nsIn K mainGlobals "_law_blocks" = some (some (.ref f_bl))) (l_bl : K.lookup f_bl = some ⟨oc_bl, od_bl, .func (PySem.W.fnOf "_law_blocks" "_law_blocks" (defArgs sBlocks) (defBody sBlocks) (defScope sBlocks) .none kV_bl dc_bl pm_bl an_bl cd_bl ct_bl), sl_bl⟩) (c_bl : PySem.W.codeIn K cd_bl "_law_blocks" = true) (k_bl : PySem.W.keepIn K (.ref f_bl) = true)
    {f_la : Addr} {kV_la dc_la pm_la cd_la ct_la : Value} {an_la : Option Addr} {oc_la : Value} {od_la : Option Addr} {sl_la : Array (Option Value)} (a_la : PySem.W.nsIn K mainGlobals "law" = some (some (.ref f_la))) (l_la : K.lookup f_la = some ⟨oc_la, od_la, .func (PySem.W.fnOf "law" "law" (defArgs sLaw) (defBody sLaw) (defScope sLaw) .none kV_la dc_la pm_la an_la cd_la ct_la), sl_la⟩) (c_la : PySem.W.codeIn K cd_la "law" = true) (k_la : PySem.W.keepIn K (.ref f_la) = true)
    (z_len : PySem.W.nsIn K mainGlobals "len" = some none)
    (z_int : PySem.W.nsIn K mainGlobals "int" = some none)
    (z_list : PySem.W.nsIn K mainGlobals "list" = some none)
    (z_range : PySem.W.nsIn K mainGlobals "range" = some none)
    (z_abs : PySem.W.nsIn K mainGlobals "abs" = some none)
    (z_sorted : PySem.W.nsIn K mainGlobals "sorted" = some none)
    (z_dict : PySem.W.nsIn K mainGlobals "dict" = some none)
    (z_enumerate : PySem.W.nsIn K mainGlobals "enumerate" = some none)
    (z_str : PySem.W.nsIn K mainGlobals "str" = some none)
    (z_max : PySem.W.nsIn K mainGlobals "max" = some none)
    (z_sum : PySem.W.nsIn K mainGlobals "sum" = some none)
    (z_zip : PySem.W.nsIn K mainGlobals "zip" = some none)
    (z_tuple : PySem.W.nsIn K mainGlobals "tuple" = some none)
    (z_repr : PySem.W.nsIn K mainGlobals "repr" = some none)
    : LawAtG l w K CX0 63 "_law_script" mg fa h := by
  have e := hfa.symm.trans (PySem.W.mg_of X G a_la)
  cases e
  have none_ := fun {x : Str} (z : PySem.W.nsIn K mainGlobals x = some none) => PySem.W.mg_none_of X G z
  have TA : TxtA mg := ⟨none_ z_len, none_ z_int⟩
  have TB : TxtB mg := ⟨TA, none_ z_list, none_ z_range, none_ z_abs⟩
  have TC : TxtC mg := ⟨TB, none_ z_sorted⟩
  have TD : TxtD mg := ⟨TC, none_ z_dict, none_ z_enumerate, none_ z_str⟩
  have TZ : TxtZ mg := ⟨none_ z_zip, none_ z_tuple⟩
  have TQ : TxtQ mg := ⟨TZ, none_ z_len, none_ z_range, none_ z_enumerate⟩
  have TP : TxtP mg := ⟨TQ, none_ z_list⟩
  have TR : TxtR mg := ⟨TP, none_ z_int, none_ z_sum⟩
  have TS : TxtS mg := ⟨TR, none_ z_max⟩
  have TV : TxtV mg := ⟨TS, none_ z_repr⟩
  have F_re := fun_mk (st := sReached) l_re c_re k_re
  have b_re := F_re.binds (ps := ["start", "near"]) fun _ _ _ _ _ _ us hl => match us, hl with | [_, _], _ => rfl
  have m_re := PySem.W.mg_of X G a_re
  have F_tu := fun_mk (st := sTurned) l_tu c_tu k_tu
  have b_tu := F_tu.binds (ps := ["table"]) fun _ _ _ _ _ _ us hl => match us, hl with | [_], _ => rfl
  have m_tu := PySem.W.mg_of X G a_tu
  have F_cs := fun_mk (st := sColours) l_cs c_cs k_cs
  have b_cs := F_cs.binds (ps := ["table"]) fun _ _ _ _ _ _ us hl => match us, hl with | [_], _ => rfl
  have m_cs := PySem.W.mg_of X G a_cs
  have F_oc := fun_mk (st := sOpenCells) l_oc c_oc k_oc
  have b_oc := F_oc.binds (ps := ["_law_script"]) fun _ _ _ _ _ _ us hl => match us, hl with | [_], _ => rfl
  have m_oc := PySem.W.mg_of X G a_oc
  have F_pk := fun_mk (st := sPick) l_pk c_pk k_pk
  have b_pk := F_pk.binds (ps := ["_law_source", "_law_many"]) fun _ _ _ _ _ _ us hl => match us, hl with | [_, _], _ => rfl
  have m_pk := PySem.W.mg_of X G a_pk
  have F_ao := fun_mk (st := sAnyOrder) l_ao c_ao k_ao
  have b_ao := F_ao.binds (ps := ["_law_source", "_law_items"]) fun _ _ _ _ _ _ us hl => match us, hl with | [_, _], _ => rfl
  have m_ao := PySem.W.mg_of X G a_ao
  have F_ch := fun_mk (st := sChoiceOf) l_ch c_ch k_ch
  have b_ch := F_ch.binds (ps := ["_law_source", "_law_items"]) fun _ _ _ _ _ _ us hl => match us, hl with | [_, _], _ => rfl
  have m_ch := PySem.W.mg_of X G a_ch
  have F_sh := fun_mk (st := sShapePairs) l_sh c_sh k_sh
  have b_sh := F_sh.binds (ps := ["_law_source", "_law_count"]) fun _ _ _ _ _ _ us hl => match us, hl with | [_, _], _ => rfl
  have m_sh := PySem.W.mg_of X G a_sh
  have F_dw := fun_mk (st := sDrawWorld) l_dw c_dw k_dw
  have b_dw := F_dw.binds (ps := ["_law_source", "_law_most"]) fun _ _ _ _ _ _ us hl => match us, hl with | [_, _], _ => rfl
  have m_dw := PySem.W.mg_of X G a_dw
  have F_pa := fun_mk (st := sParts) l_pa c_pa k_pa
  have b_pa := F_pa.binds (ps := ["_law_world"]) fun _ _ _ _ _ _ us hl => match us, hl with | [_], _ => rfl
  have m_pa := PySem.W.mg_of X G a_pa
  have F_se := fun_mk (st := sSeated) l_se c_se k_se
  have b_se := F_se.binds (ps := ["_law_source", "_law_world", "_law_led"]) fun _ _ _ _ _ _ us hl => match us, hl with | [_, _, _], _ => rfl
  have m_se := PySem.W.mg_of X G a_se
  have F_ov := fun_mk (st := sOver) l_ov c_ov k_ov
  have b_ov := F_ov.binds (ps := ["_law_source", "_law_world", "_law_numbers"]) fun _ _ _ _ _ _ us hl => match us, hl with | [_, _, _], _ => rfl
  have m_ov := PySem.W.mg_of X G a_ov
  have F_ti := fun_mk (st := sTimes) l_ti c_ti k_ti
  have b_ti := F_ti.binds (ps := ["_law_weighed", "_law_number"]) fun _ _ _ _ _ _ us hl => match us, hl with | [_, _], _ => rfl
  have m_ti := PySem.W.mg_of X G a_ti
  have F_bh := fun_mk (st := sBehind) l_bh c_bh k_bh
  have b_bh := F_bh.binds (ps := ["_law_first", "_law_last"]) fun _ _ _ _ _ _ us hl => match us, hl with | [_, _], _ => rfl
  have m_bh := PySem.W.mg_of X G a_bh
  have F_bo := fun_mk (st := sBoundOver) l_bo c_bo k_bo
  have b_bo := F_bo.binds (ps := ["_law_source", "_law_ground", "_law_most"]) fun _ _ _ _ _ _ us hl => match us, hl with | [_, _, _], _ => rfl
  have m_bo := PySem.W.mg_of X G a_bo
  have F_ba := fun_mk (st := sBase) l_ba c_ba k_ba
  have b_ba := F_ba.binds (ps := ["_law_source"]) fun _ _ _ _ _ _ us hl => match us, hl with | [_], _ => rfl
  have m_ba := PySem.W.mg_of X G a_ba
  have F_bb := fun_mk (st := sByBase) l_bb c_bb k_bb
  have b_bb := F_bb.binds (ps := ["_law_one", "_law_other"]) fun _ _ _ _ _ _ us hl => match us, hl with | [_, _], _ => rfl
  have m_bb := PySem.W.mg_of X G a_bb
  have F_pi := fun_mk (st := sPieces) l_pi c_pi k_pi
  have b_pi := F_pi.binds (ps := ["_law_weighed"]) fun _ _ _ _ _ _ us hl => match us, hl with | [_], _ => rfl
  have m_pi := PySem.W.mg_of X G a_pi
  have F_ri := fun_mk (st := sRing) l_ri c_ri k_ri
  have b_ri := F_ri.binds (ps := ["_law_source", "_law_many"]) fun _ _ _ _ _ _ us hl => match us, hl with | [_, _], _ => rfl
  have m_ri := PySem.W.mg_of X G a_ri
  have F_bl := fun_mk (st := sBlocks) l_bl c_bl k_bl
  have b_bl := F_bl.binds (ps := ["_law_first", "_law_last"]) fun _ _ _ _ _ _ us hl => match us, hl with | [_, _], _ => rfl
  have m_bl := PySem.W.mg_of X G a_bl
  have F_la := fun_mk (st := sLaw) l_la c_la k_la
  refine ⟨PySem.W.fnOf "law" "law" (defArgs sLaw) (defBody sLaw) (defScope sLaw) .none kV_la dc_la pm_la an_la cd_la ct_la, [], spLaw43 K, fun p hp => (List.not_mem_nil hp).elim, fun p hp => (List.not_mem_nil hp).elim, fun p hp => (List.not_mem_nil hp).elim, (fun s v => .of_eq rfl), fun H a ns hl hT hS => ⟨a, ns, rfl, hS, hl, fun _ => rfl⟩, fun base _ _ tb => ?_⟩
  have G_pk := def_mk (ok_pick (P := l.prog) (w := w) (base := base) F_pk TA) m_pk k_pk b_pk
  have G_pz := def_mk (ok_pickZ (P := l.prog) (w := w) (base := base) F_pk TA) m_pk k_pk b_pk
  have G_ao := def_mk (ok_any F_ao TB G_pk) m_ao k_ao b_ao
  have G_ch := def_mk (ok_choice F_ch TB G_pk) m_ch k_ch b_ch
  have G_oc := def_mk (ok_open (P := l.prog) (w := w) (base := base) F_oc TB) m_oc k_oc b_oc
  have G_sh := def_mk (ok_shape F_sh TB G_pk) m_sh k_sh b_sh
  have G_dw := def_mk (ok_draw F_dw TB G_pk G_ao G_sh G_ch) m_dw k_dw b_dw
  have G_pa := def_mk (ok_parts (P := l.prog) (w := w) (base := base) F_pa TC) m_pa k_pa b_pa
  have G_se := def_mk (ok_seat F_se TD G_ao) m_se k_se b_se
  have G_ov := def_mk (ok_over F_ov TD G_pz G_pa G_se) m_ov k_ov b_ov
  have G_re := def_mk (ok_reach (P := l.prog) (w := w) (base := base) F_re) m_re k_re b_re
  have G_tu := def_mk (ok_turned (P := l.prog) (w := w) (base := base) F_tu TZ) m_tu k_tu b_tu
  have G_cs := def_mk (ok_colours F_cs TQ G_tu G_re) m_cs k_cs b_cs
  have G_ti := def_mk (ok_times (P := l.prog) (w := w) (base := base) F_ti TR) m_ti k_ti b_ti
  have G_bh := def_mk (ok_bh (P := l.prog) (w := w) (base := base) F_bh TR) m_bh k_bh b_bh
  have G_bo := def_mk (ok_bo F_bo TS G_pk G_ov) m_bo k_bo b_bo
  have G_ba := def_mk (ok_base F_ba G_dw) m_ba k_ba b_ba
  have G_bb := def_mk (ok_bb (P := l.prog) (w := w) (base := base) F_bb TR) m_bb k_bb b_bb
  have G_pi := def_mk (ok_pieces (P := l.prog) (w := w) (base := base) F_pi TP) m_pi k_pi b_pi
  have G_ri := def_mk (ok_ring F_ri TR G_ao) m_ri k_ri b_ri
  have G_bl := def_mk (ok_blocks (P := l.prog) (w := w) (base := base) F_bl TR) m_bl k_bl b_bl
  exact run_law43 F_la TV G_oc G_pk G_ba G_bo G_bb G_bh G_ri G_bl G_ti G_cs G_pi
end Nm
open PySem PySem.W PyProof.Rows in
set_option maxRecDepth 100000 in
set_option maxHeartbeats 0 in
theorem PySem.Challenge.cw_namelessly_k43_colours_of_tables_holds : PySem.Challenge.rw_namelessly_k43_colours_of_tables.Holds := by
  w_on; o_law; k_head; (case hw => w_witness2)
  k_fill
  refine Nm.walk_G (l := PySem.Challenge.rw_namelessly_k43_colours_of_tables) (n := 63) (x := "_law_script") (CX := fun _ => L2.CX0) rfl (by decide) rfl (by decide +kernel) (fun w h Y => PySem.W.kIn_of Y) ?F (fun _ _ _ _ _ z => z)
  case F =>
    intro w mg fa h _ KX G hmg own
    refine' Nm.all_mk KX G hmg ?a_re ?l_re ?c_re ?k_re ?a_tu ?l_tu ?c_tu ?k_tu ?a_cs ?l_cs ?c_cs ?k_cs ?a_oc ?l_oc ?c_oc ?k_oc ?a_pk ?l_pk ?c_pk ?k_pk ?a_ao ?l_ao ?c_ao ?k_ao ?a_ch ?l_ch ?c_ch ?k_ch ?a_sh ?l_sh ?c_sh ?k_sh ?a_dw ?l_dw ?c_dw ?k_dw ?a_pa ?l_pa ?c_pa ?k_pa ?a_se ?l_se ?c_se ?k_se ?a_ov ?l_ov ?c_ov ?k_ov ?a_ti ?l_ti ?c_ti ?k_ti ?a_bh ?l_bh ?c_bh ?k_bh ?a_bo ?l_bo ?c_bo ?k_bo ?a_ba ?l_ba ?c_ba ?k_ba ?a_bb ?l_bb ?c_bb ?k_bb ?a_pi ?l_pi ?c_pi ?k_pi ?a_ri ?l_ri ?c_ri ?k_ri ?a_bl ?l_bl ?c_bl ?k_bl ?a_la ?l_la ?c_la ?k_la ?z_len ?z_int ?z_list ?z_range ?z_abs ?z_sorted ?z_dict ?z_enumerate ?z_str ?z_max ?z_sum ?z_zip ?z_tuple ?z_repr
    (case a_re => k_is)
    (case l_re => k_is)
    (case c_re => k_is)
    (case k_re => k_is)
    (case a_tu => k_is)
    (case l_tu => k_is)
    (case c_tu => k_is)
    (case k_tu => k_is)
    (case a_cs => k_is)
    (case l_cs => k_is)
    (case c_cs => k_is)
    (case k_cs => k_is)
    (case a_oc => k_is)
    (case l_oc => k_is)
    (case c_oc => k_is)
    (case k_oc => k_is)
    (case a_pk => k_is)
    (case l_pk => k_is)
    (case c_pk => k_is)
    (case k_pk => k_is)
    (case a_ao => k_is)
    (case l_ao => k_is)
    (case c_ao => k_is)
    (case k_ao => k_is)
    (case a_ch => k_is)
    (case l_ch => k_is)
    (case c_ch => k_is)
    (case k_ch => k_is)
    (case a_sh => k_is)
    (case l_sh => k_is)
    (case c_sh => k_is)
    (case k_sh => k_is)
    (case a_dw => k_is)
    (case l_dw => k_is)
    (case c_dw => k_is)
    (case k_dw => k_is)
    (case a_pa => k_is)
    (case l_pa => k_is)
    (case c_pa => k_is)
    (case k_pa => k_is)
    (case a_se => k_is)
    (case l_se => k_is)
    (case c_se => k_is)
    (case k_se => k_is)
    (case a_ov => k_is)
    (case l_ov => k_is)
    (case c_ov => k_is)
    (case k_ov => k_is)
    (case a_ti => k_is)
    (case l_ti => k_is)
    (case c_ti => k_is)
    (case k_ti => k_is)
    (case a_bh => k_is)
    (case l_bh => k_is)
    (case c_bh => k_is)
    (case k_bh => k_is)
    (case a_bo => k_is)
    (case l_bo => k_is)
    (case c_bo => k_is)
    (case k_bo => k_is)
    (case a_ba => k_is)
    (case l_ba => k_is)
    (case c_ba => k_is)
    (case k_ba => k_is)
    (case a_bb => k_is)
    (case l_bb => k_is)
    (case c_bb => k_is)
    (case k_bb => k_is)
    (case a_pi => k_is)
    (case l_pi => k_is)
    (case c_pi => k_is)
    (case k_pi => k_is)
    (case a_ri => k_is)
    (case l_ri => k_is)
    (case c_ri => k_is)
    (case k_ri => k_is)
    (case a_bl => k_is)
    (case l_bl => k_is)
    (case c_bl => k_is)
    (case k_bl => k_is)
    (case a_la => k_is)
    (case l_la => k_is)
    (case c_la => k_is)
    (case k_la => k_is)
    (case z_len => k_is)
    (case z_int => k_is)
    (case z_list => k_is)
    (case z_range => k_is)
    (case z_abs => k_is)
    (case z_sorted => k_is)
    (case z_dict => k_is)
    (case z_enumerate => k_is)
    (case z_str => k_is)
    (case z_max => k_is)
    (case z_sum => k_is)
    (case z_zip => k_is)
    (case z_tuple => k_is)
    (case z_repr => k_is)
