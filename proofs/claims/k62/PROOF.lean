import PyProof.Rows.All
import Wide.All
import OpenK.AllK
import Wide.FinOn
import PyProof.EqAt
import PyProof.EqKinds
import PyProof.TupleCall
import HandS.ForMost
import HandS.IsInst
import HandS.Flow
import HandS.Walk
import HandS.CallLocal
import HandS.NoneIn
import HandS.TupAny
import HandS.Zip
import HandS.StrMore
import Wide.Txt
import HandS.Zip0
import HandS.More
import PyProof.AutoSeq1
import HandS.Replace
import PyProof.StrLawsIn
import PyProof.NeData
import PyProof.Rows.IntBool
import HandS.Defaults
import HandS.MakeKwOnly
import HandS.HeadHook3
import PySem.Challenge.RW_callwarrant_k62_modules_told_apart
set_option Elab.async false
set_option linter.all false
set_option maxRecDepth 100000
set_option maxHeartbeats 4000000
namespace Cw
open PySem PySem.Spec PyProof.Rows L2
def topS (i : Nat) : Stmt := PySem.Challenge.pw_callwarrant_k62_modules_told_apart.main.body.getD i (.Pass ⟨0, 0, 0, 0⟩)
abbrev sNum : Stmt := topS 37
theorem scNum : FnScope ["script", "row", "cell", "left", "k", "mixed"] ["script"] (defScope sNum) := ⟨rfl, rfl, rfl, by decide +kernel, rfl, by decide +kernel, by decide +kernel⟩
theorem same_upd {H : Hp} {p : Addr} {o : HO} (h : H p = none) : Same H (upd H p o) := fun b x e => by
  rw [upd_ne (ne_of_none e h)]
  exact e
/-- H' keeps what H tracks, p (new to H) apart -/
theorem same_mut {H H' : Hp} {p : Addr} {o : HO} (s : Same H H') (h : H p = none) : Same H (upd H' p o) := fun b x e => by
  rw [upd_ne (ne_of_none e h)]
  exact s b x e
def spNum (K : PySem.W.Frag) : Sp := fun vs H Q _ => ∃ (a : Addr) (ns : List Int), vs = [.ref a] ∧ SqL K H a (ns.map V.int) ∧ ns.length ≤ 63 ∧
  ∀ H' p (row : List Int), Same H H' → H p = none → H' p = some (.lst (row.map V.int)) → row ≠ [] → row.length ≤ 4000 → Q (.ref p) H'
section
variable {P : Program} {w : World} {K : PySem.W.Frag} {mg : Str → Option Value} {base : Heap}
theorem ok_num {f : Addr} {fd : FuncData} {k : Nat} (F : Fun K "_law_numbers" "_law_numbers" sNum f fd) (mr : mg "range" = none) (mi : mg "int" = none) (ml : mg "len" = none) : FnOk P w K mg base CX0 (k + 1) f fd ["script"] (spNum K) := by
  refine F.ok scNum (fun vs H Q E h => ?_) (fun cdv A outer s H vs Q E hr h => ?_)
  · obtain ⟨a, ns, rfl, _⟩ := h
    rfl
  · obtain ⟨a, ns, rfl, hS, hlen, q⟩ := h
    refine ⟨_, pss_cons (ps_set (i := 1) scNum.nd rfl (.inl rfl) (pe_lst pa_nil))
      (pss_cons (ps_for PassesOwn.never rfl (pi_list (pe_slice sl_list (pv 0) po_none (po_some pe_int))) (pg_name (i := 2) scNum.nd rfl (.inl rfl))
        (pss_one (ps_if (pt_cmpR op_ge (pv 2) (pe_op op_pow pe_int pe_int) (nomark _))
          (pss_cons (ps_set (i := 3) scNum.nd rfl (.inl rfl) (pv 2))
            (pss_one (ps_for PassesOwn.never rfl (pi_range1 rfl mr (pa_cons pe_int pa_nil)) (pg_name (i := 4) scNum.nd rfl (.inl rfl))
              (pss_cons (ps_if (pt_cmpR op_eq (pv 3) pe_int (nomark _)) (pss_one ps_break) pss_nil)
              (pss_cons (ps_expr (pe_bm PySem.F.plainAttrs_list PySem.F.slot_list_append PySem.F.type_list_append mt_append (pv 1) (pa_cons (pe_op op_mod (pe_callTy call_int1 (by rfl) mi (by decide +kernel) (pa_cons (pv 3) pa_nil)) pe_int) pa_nil)))
              (pss_one (ps_set (i := 3) scNum.nd rfl (.inl rfl) (pe_op op_fdiv (pv 3) pe_int))))))))
          (pss_one (ps_for PassesOwn.never rfl (pi_range1 rfl mr (pa_cons pe_int pa_nil)) (pg_name (i := 4) scNum.nd rfl (.inl rfl))
              (pss_cons (ps_set (i := 5) scNum.nd rfl (.inl rfl) (pe_op op_mod (pe_callTy call_int1 (by rfl) mi (by decide +kernel) (pa_cons (pe_op op_add (pe_op op_add (pe_op op_mul (pv 2) pe_int) (pe_op op_mul (pv 4) pe_int)) pe_int) pa_nil)) pe_int))
              (pss_one (ps_expr (pe_bm PySem.F.plainAttrs_list PySem.F.slot_list_append PySem.F.type_list_append mt_append (pv 1) (pa_cons (pe_op op_mod (pe_callTy call_int1 (by rfl) mi (by decide +kernel) (pa_cons (pe_op op_add (pe_op op_mul (pv 5) pe_int) (pv 4)) pa_nil)) pe_int) pa_nil))))))))))
      (pss_cons (ps_if (pt_cmpR op_eq (pe_callB call_len_seq (by rfl) ml PySem.boot_len (pa_cons (pv 1) pa_nil)) pe_int (nomark _)) (pss_one (ps_expr (pe_bm PySem.F.plainAttrs_list PySem.F.slot_list_append PySem.F.type_list_append mt_append (pv 1) (pa_cons pe_int pa_nil)))) pss_nil)
      (pss_one (ps_ret (pv 1))))), ?_⟩
    refine ⟨Nat.zero_le _, fun o no => ?_⟩
    have s1 : Same H (upd H o (.lst [])) := same_upd no
    have cut : ∃ ms : List Int, cutV (ns.map V.int) none (some 63) = ms.map V.int ∧ ms.length ≤ 63 :=
      ⟨_, by unfold cutV; rw [← List.map_drop, ← List.map_take], by rw [List.length_take, List.length_drop]; omega⟩
    obtain ⟨ms, ems, lms⟩ := cut
    refine ⟨.ref a, rfl, 63, rfl, a, ns.map V.int, rfl, s1.seq hS, fun c nc => ?_⟩
    rw [ems]
    have oc : o ≠ c := fun z => by rw [← z, upd_same] at nc; cases nc
    have nc0 : H c = none := by rw [upd_ne (Ne.symm oc)] at nc; exact nc
    refine ⟨c, rfl, ⟨_, .inl (.inl upd_same)⟩, for_list (xs := ms.map V.int)
      (fun i σ H' => ∃ c2 c3 c4 c5, σ = [some (.ref a), some (.ref o), c2, c3, c4, c5] ∧ ∃ row : List Int, Same H H' ∧ H' c = some (.lst (ms.map V.int)) ∧ H' o = some (.lst (row.map V.int)) ∧ row.length ≤ 60 * i)
      ⟨none, none, none, none, rfl, [], same_mut s1 nc0, upd_same, by rw [upd_ne oc]; exact upd_same, Nat.le_refl _⟩
      (fun i σ H' _ hp => by obtain ⟨_, _, _, _, _, _, _, e, _⟩ := hp; exact .inl (.inl e)) ?_ ?_⟩
    · rintro i x σ H' hx ⟨c2, c3, c4, c5, rfl, row, sm, hc, ho, hl⟩
      have hi : i < 63 := by
        have := (List.getElem?_eq_some_iff.mp hx).1
        rw [List.length_map] at this
        omega
      obtain ⟨z, rfl⟩ : ∃ z, x = V.int z := by
        rw [List.getElem?_map] at hx
        cases e : ms[i]? with
        | none => rw [e] at hx; cases hx
        | some z => rw [e] at hx; exact ⟨z, (Option.some.inj hx).symm⟩
      refine ⟨_, rfl, 10, 18, rfl, rfl, ⟨by decide, by decide, by decide⟩, z, _, rfl, rfl, _, rfl, ite2 (fun _ => ?_) (fun _ => ?_)⟩
      · refine ⟨_, rfl, 60, rfl, by decide, by decide, for_range (lo := 0) (n := 60)
          (fun j σ H2 => ∃ l c4 c5, σ = [some (.ref a), some (.ref o), some (.int z), some (.int l), c4, c5] ∧ ∃ row : List Int, Same H H2 ∧ H2 c = some (.lst (ms.map V.int)) ∧ H2 o = some (.lst (row.map V.int)) ∧ row.length ≤ 60 * i + j)
          ⟨z, _, _, rfl, row, sm, hc, ho, hl⟩ ?_ ?_⟩
        · rintro j σ H2 hj ⟨l, d4, d5, rfl, row2, sm2, hc2, ho2, hl2⟩
          refine ⟨_, rfl, rfl, _, rfl, ite2 (fun _ => ?_) (fun _ => ?_)⟩
          · exact ⟨_, _, _, _, rfl, row2, sm2, hc2, ho2, by omega⟩
          · refine ⟨.ref o, rfl, .inl ⟨rfl, _, .inl (.inl ho2)⟩, .int l, rfl, .inl ⟨l, rfl, l, 997, rfl, rfl, by show (0 : Int) < 997; decide, o, _, _, rfl, rfl, ho2, ?_, ?_⟩⟩
            · rw [List.length_map]
              exact Nat.lt_of_lt_of_le (show row2.length < 4000 by omega) (by decide)
            · refine ⟨_, rfl, l, 997, rfl, rfl, ⟨by decide, by decide⟩, ?_⟩
              exact ⟨_, _, _, rfl, row2 ++ [l % 997], same_mut sm2 no, by rw [upd_ne (Ne.symm oc)]; exact hc2, by rw [upd_same, List.map_append]; rfl, by rw [List.length_append]; show row2.length + 1 ≤ _; omega⟩
        · rintro σ H2 ⟨l, d4, d5, rfl, row2, sm2, hc2, ho2, hl2⟩
          exact ⟨_, _, _, _, rfl, row2, sm2, hc2, ho2, by omega⟩
      · refine ⟨4, rfl, by decide, by decide, for_range (lo := 0) (n := 4)
          (fun j σ H2 => ∃ c3 c4 c5, σ = [some (.ref a), some (.ref o), some (.int z), c3, c4, c5] ∧ ∃ row : List Int, Same H H2 ∧ H2 c = some (.lst (ms.map V.int)) ∧ H2 o = some (.lst (row.map V.int)) ∧ row.length ≤ 60 * i + j)
          ⟨_, _, _, rfl, row, sm, hc, ho, hl⟩ ?_ ?_⟩
        · rintro j σ H2 hj ⟨d3, d4, d5, rfl, row2, sm2, hc2, ho2, hl2⟩
          refine ⟨_, rfl, z, 48271, rfl, rfl, .inr (by decide), _, rfl, _, 69621, rfl, rfl, .inr (by decide), _, _, rfl, rfl, _, _, rfl, rfl, .inl ⟨_, rfl, _, 2147483647, rfl, rfl, by show (0 : Int) < 2147483647; decide, ?_⟩⟩
          refine ⟨.ref o, rfl, .inl ⟨rfl, _, .inl (.inl ho2)⟩, _, rfl, _, 16807, rfl, rfl, .inr (by decide), _, rfl, _, _, rfl, rfl, .inl ⟨_, rfl, _, 2147483629, rfl, rfl, by show (0 : Int) < 2147483629; decide, o, _, _, rfl, rfl, ho2, ?_, ?_⟩⟩
          · rw [List.length_map]
            exact Nat.lt_of_lt_of_le (show row2.length < 4000 by omega) (by decide)
          · exact ⟨_, _, _, rfl, row2 ++ [_], same_mut sm2 no, by rw [upd_ne (Ne.symm oc)]; exact hc2, by rw [upd_same, List.map_append]; rfl, by rw [List.length_append]; show row2.length + 1 ≤ _; omega⟩
        · rintro σ H2 ⟨d3, d4, d5, rfl, row2, sm2, hc2, ho2, hl2⟩
          exact ⟨_, _, _, _, rfl, row2, sm2, hc2, ho2, by omega⟩
    · rintro σ H' ⟨c2, c3, c4, c5, rfl, row, sm, hc, ho, hl⟩
      rw [List.length_map] at hl
      refine ⟨.ref o, rfl, o, _, rfl, .inl (.inl (.inl ho)), rfl, _, rfl, ite2 (fun e => ?_) (fun e => ?_)⟩
      · refine ⟨.ref o, rfl, .inl ⟨rfl, _, .inl (.inl ho)⟩, o, _, _, rfl, rfl, ho, ?_, ?_⟩
        · rw [List.length_map]
          exact Nat.lt_of_lt_of_le (show row.length < 4000 by omega) (by decide)
        · exact ⟨.ref o, rfl, q _ o (row ++ [0]) (same_mut sm no) no (by rw [upd_same, List.map_append]; rfl) (by simp) (by rw [List.length_append]; show row.length + 1 ≤ _; omega)⟩
      · refine ⟨.ref o, rfl, q _ o row sm no ho (fun z => ?_) (by omega)⟩
        subst z
        exact e rfl
end
end Cw
set_option Elab.async false
set_option linter.all false
set_option maxRecDepth 100000
set_option maxHeartbeats 4000000
namespace Cw
open PySem PySem.Spec PyProof.Rows L2
abbrev sDraw : Stmt := topS 38
abbrev sTake : Stmt := topS 39
theorem scDraw : FnScope ["row", "at", "limit", "mixed"] ["row", "at", "limit"] (defScope sDraw) := ⟨rfl, rfl, rfl, by decide +kernel, rfl, by decide +kernel, by decide +kernel⟩
theorem scTake : FnScope ["row", "spot", "limit"] ["row", "spot", "limit"] (defScope sTake) := ⟨rfl, rfl, rfl, by decide +kernel, rfl, by decide +kernel, by decide +kernel⟩
def spDraw (K : PySem.W.Frag) : Sp := fun vs H Q _ => ∃ (r : Addr) (row : List Int) (i lim : Int), vs = [.ref r, .int i, .int lim] ∧ SqL K H r (row.map V.int) ∧ row ≠ [] ∧ 0 ≤ i ∧ 0 < lim ∧ ∀ z : Int, 0 ≤ z → z < lim → Q (.int z) H
def spTake (K : PySem.W.Frag) : Sp := fun vs H Q _ => ∃ (r sp : Addr) (row : List Int) (n : Nat) (lim : Int), vs = [.ref r, .ref sp, .int lim] ∧ H r = some (.lst (row.map V.int)) ∧ row ≠ [] ∧ r ≠ sp ∧ H sp = some (.lst [.int (n : Int)]) ∧ 0 < lim ∧
  ∀ z : Int, 0 ≤ z → z < lim → Q (.int z) (upd H sp (.lst [.int ((n + 1 : Nat) : Int)]))
theorem at_int {l : List Int} {i : Int} (h0 : 0 ≤ i) (h : i < (l.length : Int)) : ∃ z, atI (l.map V.int) i = some (.int z) := by
  obtain ⟨j, rfl⟩ := Int.eq_ofNat_of_zero_le h0
  have hj : j < l.length := Int.ofNat_lt.mp h
  exact ⟨l[j], atI_nat (by rw [List.getElem?_map, List.getElem?_eq_getElem hj]; rfl)⟩
section
variable {P : Program} {w : World} {K : PySem.W.Frag} {mg : Str → Option Value} {base : Heap}
theorem ok_draw {f : Addr} {fd : FuncData} {k : Nat} (F : Fun K "_law_draw" "_law_draw" sDraw f fd) (mi : mg "int" = none) (ml : mg "len" = none) : FnOk P w K mg base CX0 (k + 1) f fd ["row", "at", "limit"] (spDraw K) := by
  refine F.ok scDraw (fun vs H Q E h => ?_) (fun cdv A outer s H vs Q E hr h => ?_)
  · obtain ⟨_, _, _, _, rfl, _⟩ := h
    rfl
  · obtain ⟨r, row, i, lim, rfl, hS, hne, hi, hl, q⟩ := h
    refine ⟨_, pss_cons (ps_if (pt_cmpR op_lt (pv 1) (pe_callB call_len_seq (by rfl) ml PySem.boot_len (pa_cons (pv 0) pa_nil)) (nomark _))
        (pss_one (ps_ret (pe_op op_mod (pe_callTy call_int1 (by rfl) mi (by decide +kernel) (pa_cons (pe_ix ix_list (pv 0) (pv 1) (fun _ _ => rfl)) pa_nil)) (pv 2)))) pss_nil)
      (pss_cons (ps_set (i := 3) scDraw.nd rfl (.inl rfl) (pe_op op_mod (pe_callTy call_int1 (by rfl) mi (by decide +kernel) (pa_cons (pe_op op_add (pe_op op_add
          (pe_op op_mul (pe_ix ix_list (pv 0) (pe_op op_mod (pe_callTy call_int1 (by rfl) mi (by decide +kernel) (pa_cons (pv 1) pa_nil)) (pe_callB call_len_seq (by rfl) ml PySem.boot_len (pa_cons (pv 0) pa_nil))) (fun _ _ => rfl)) pe_int)
          (pe_op op_mul (pv 1) pe_int)) pe_int) pa_nil)) pe_int))
      (pss_one (ps_ret (pe_op op_mod (pe_callTy call_int1 (by rfl) mi (by decide +kernel) (pa_cons (pe_op op_mod (pe_callTy call_int1 (by rfl) mi (by decide +kernel) (pa_cons (pe_op op_add (pe_op op_mul (pv 3) pe_int) (pv 1)) pa_nil)) pe_int) pa_nil)) (pv 2))))), ?_⟩
    have pos : 0 < row.length := List.length_pos_iff.mpr hne
    refine ⟨_, rfl, .ref r, rfl, r, _, rfl, .inl hS, i, _, rfl, rfl, _, rfl, ite2 (fun e => ?_) (fun e => ?_)⟩
    · have e1 : i < ((row.map V.int).length : Int) := of_decide_eq_true e
      rw [List.length_map] at e1
      obtain ⟨z, hz⟩ := at_int hi e1
      exact ⟨.ref r, rfl, _, rfl, r, _, i, _, rfl, rfl, hS, hz, .inl ⟨z, rfl, _, rfl, z, lim, rfl, rfl, hl, q _ (Int.emod_nonneg _ (by omega)) (Int.emod_lt_of_pos _ hl)⟩⟩
    · have lp : (0 : Int) < ((row.map V.int).length : Int) := by rw [List.length_map]; omega
      obtain ⟨z, hz⟩ := at_int (l := row) (i := i % ((row.map V.int).length : Int)) (Int.emod_nonneg _ (by omega)) (by have := Int.emod_lt_of_pos i lp; rw [List.length_map] at this ⊢; exact this)
      refine ⟨.ref r, rfl, _, rfl, .inl ⟨i, rfl, .ref r, rfl, r, _, rfl, .inl hS, i, _, rfl, rfl, lp, r, _, _, _, rfl, rfl, hS, hz, z, 40692, rfl, rfl, .inr (by decide), _, rfl, i, 7919, rfl, rfl, .inr (by decide), _, _, rfl, rfl, _, 3, rfl, rfl, .inl ⟨_, rfl, _, 2147483399, rfl, rfl, by show (0 : Int) < 2147483399; decide, ?_⟩⟩⟩
      exact ⟨_, rfl, _, 48271, rfl, rfl, .inr (by decide), _, rfl, _, i, rfl, rfl, .inl ⟨_, rfl, _, 2147483647, rfl, rfl, by show (0 : Int) < 2147483647; decide, .inl ⟨_, rfl, _, rfl, _, lim, rfl, rfl, hl, q _ (Int.emod_nonneg _ (by omega)) (Int.emod_lt_of_pos _ hl)⟩⟩⟩
theorem ok_take {f fD : Addr} {fd fdD : FuncData} {k : Nat} (F : Fun K "_law_take" "_law_take" sTake f fd) (FD : Fun K "_law_draw" "_law_draw" sDraw fD fdD) (bD : Binds K fdD ["row", "at", "limit"] []) (gD : mg "_law_draw" = some (.ref fD)) (mi : mg "int" = none) (ml : mg "len" = none) :
    FnOk P w K mg base CX0 (k + 2) f fd ["row", "spot", "limit"] (spTake K) := by
  have GD : FnOk P w K mg base CX0 (k + 1) fD fdD ["row", "at", "limit"] (spDraw K) := ok_draw FD mi ml
  refine F.ok scTake (fun vs H Q E h => ?_) (fun cdv A outer s H vs Q E hr h => ?_)
  · obtain ⟨_, _, _, _, _, rfl, _⟩ := h
    rfl
  · obtain ⟨r, sp, row, n, lim, rfl, hR, hne, hrs, hs, hl, q⟩ := h
    refine ⟨_, pss_cons (ps_asg (pe_op op_add (pe_ix ix_list (pv 1) pe_int (fun _ _ => rfl)) pe_int) (pg_sub (pv 1) pe_int set_list))
      (pss_one (ps_ret (pe_call GD hr (by rfl) gD FD.kp bD .nil pass0 (pa_cons (pv 0) (pa_cons (pe_op op_sub (pe_ix ix_list (pv 1) pe_int (fun _ _ => rfl)) pe_int) (pa_cons (pv 2) pa_nil)))))), ?_⟩
    refine ⟨.ref sp, rfl, sp, [.int (n : Int)], 0, _, rfl, rfl, SqL.of hs, atI_nat (j := 0) rfl, n, 1, rfl, rfl, .ref sp, rfl, sp, [.int (n : Int)], 0, 0, rfl, rfl, hs, rfl, ?_⟩
    have h1 : ([V.int (n : Int)].set 0 (V.int ((n : Int) + 1))) = [V.int ((n + 1 : Nat) : Int)] := rfl
    refine ⟨.ref r, rfl, .ref sp, rfl, sp, _, 0, .int ((n : Int) + 1), rfl, rfl, SqL.of upd_same, atI_nat (j := 0) rfl, (n : Int) + 1, 1, rfl, rfl, .int lim, rfl, r, row, _, lim, rfl, ?_, hne, by omega, hl, fun z z0 z1 => ?_⟩
    · exact SqL.of (by rw [upd_ne hrs]; exact hR)
    · exact q z z0 z1
end
end Cw
set_option Elab.async false
set_option linter.all false
set_option maxRecDepth 100000
set_option maxHeartbeats 4000000
namespace Cw
open PySem PySem.Spec PyProof.Rows L2
/-! ### data: what a value's class is, and what it is equal to -/
def tyName : PyData → String
  | .none => "NoneType" | .bool _ => "bool" | .int _ => "int" | .str _ => "str" | .list _ => "list" | .tuple _ => "tuple" | .dict _ => "dict"
def isTy (n : String) (d : PyData) : Bool := (kitB (tyName d) n).getD false
theorem ty_dp {K : PySem.W.Frag} {H : Hp} {x : V} {d : PyData} (h : Dp K H x d) : TyX K H x (.type (tyName d)) := by
  cases h with
  | non => exact .base .non
  | bl b => exact .base (.bl b)
  | int i => exact .base (.int i)
  | str s => exact .base (.str s)
  | lst hs _ =>
    rcases hs with (e | ⟨o, e⟩) | ⟨o, its, n, e, c, _⟩
    · exact .base (.lst e)
    · exact .base (.frz e)
    · exact .kList e c
  | tup hs _ =>
    rcases hs with (e | ⟨o, e⟩) | ⟨o, its, n, e, c, _⟩
    · exact .base (.tup e)
    · exact .fTuple e
    · exact .kTuple e c
theorem dp_get {K : PySem.W.Frag} {H : Hp} : ∀ {xs : List V} {ds : List PyData}, DpAll K H xs ds → xs.length = ds.length ∧ ∀ (i : Nat) (d : PyData), ds[i]? = some d → ∃ x, xs[i]? = some x ∧ Dp K H x d
  | _, _, .nil => ⟨rfl, fun (i : Nat) d h => by simp at h⟩
  | _, _, .cons h t => by
    obtain ⟨l, g⟩ := dp_get t
    refine ⟨congrArg Nat.succ l, fun i d e => ?_⟩
    cases i with
    | zero => obtain rfl := Option.some.inj e; exact ⟨_, rfl, h⟩
    | succ j => exact g j d e
theorem dp_scal {K : PySem.W.Frag} {H : Hp} {x y : V} {b c : Bool} (h : Dp K H x (.bool b)) (g : Dp K H y (.bool c)) : x = .bl b ∧ y = .bl c := by
  cases h; cases g; exact ⟨rfl, rfl⟩
def isN : PyData → Bool | .none => true | _ => false
/-- the law's own equality: found, meant -/
def so : Nat → PyData → PyData → Bool
  | _, f, .none => isN f
  | _, f, .bool b => match f with | .bool c => c == b | _ => false
  | _, f, .int i => match f with | .int j => j == i | _ => false
  | _, f, .str s => match f with | .str t => t == s | _ => false
  | 0, _, .tuple _ => false
  | n + 1, f, .tuple ms => match f with | .tuple fs => fs.length == ms.length && (List.range ms.length).all (fun i => so n (fs.getD i .none) (ms.getD i .none)) | _ => false
  | _, _, .list _ => false
  | _, _, .dict _ => false
theorem so_none (n : Nat) (f : PyData) : so n f .none = isN f := by cases n <;> rfl
theorem so_bool (n : Nat) (f : PyData) (b : Bool) : so n f (.bool b) = (match f with | .bool c => c == b | _ => false) := by cases n <;> rfl
theorem so_int (n : Nat) (f : PyData) (i : Int) : so n f (.int i) = (match f with | .int j => j == i | _ => false) := by cases n <;> rfl
theorem so_str (n : Nat) (f : PyData) (x : Str) : so n f (.str x) = (match f with | .str t => t == x | _ => false) := by cases n <;> rfl
theorem so_list (n : Nat) (f : PyData) (l : List PyData) : so n f (.list l) = false := by cases n <;> rfl
def fits : Nat → PyData → Prop
  | 0, .tuple _ => False
  | n + 1, .tuple ds => ds.length ≤ 1000 ∧ ∀ d, d ∈ ds → fits n d
  | _, _ => True
def isTu : PyData → Bool | .tuple _ => true | _ => false
def isBo : PyData → Bool | .bool _ => true | _ => false
def isIn : PyData → Bool | .bool _ => true | .int _ => true | _ => false
def isSt : PyData → Bool | .str _ => true | _ => false
theorem kb_tu (d : PyData) : kitB (tyName d) "tuple" = some (isTu d) := match d with
  | .none => (by decide +kernel : kitB "NoneType" "tuple" = some false)
  | .bool _ => (by decide +kernel : kitB "bool" "tuple" = some false)
  | .int _ => (by decide +kernel : kitB "int" "tuple" = some false)
  | .str _ => (by decide +kernel : kitB "str" "tuple" = some false)
  | .list _ => (by decide +kernel : kitB "list" "tuple" = some false)
  | .tuple _ => (by decide +kernel : kitB "tuple" "tuple" = some true)
  | .dict _ => (by decide +kernel : kitB "dict" "tuple" = some false)
theorem kb_bo (d : PyData) : kitB (tyName d) "bool" = some (isBo d) := match d with
  | .none => (by decide +kernel : kitB "NoneType" "bool" = some false)
  | .bool _ => (by decide +kernel : kitB "bool" "bool" = some true)
  | .int _ => (by decide +kernel : kitB "int" "bool" = some false)
  | .str _ => (by decide +kernel : kitB "str" "bool" = some false)
  | .list _ => (by decide +kernel : kitB "list" "bool" = some false)
  | .tuple _ => (by decide +kernel : kitB "tuple" "bool" = some false)
  | .dict _ => (by decide +kernel : kitB "dict" "bool" = some false)
theorem kb_in (d : PyData) : kitB (tyName d) "int" = some (isIn d) := match d with
  | .none => (by decide +kernel : kitB "NoneType" "int" = some false)
  | .bool _ => (by decide +kernel : kitB "bool" "int" = some true)
  | .int _ => (by decide +kernel : kitB "int" "int" = some true)
  | .str _ => (by decide +kernel : kitB "str" "int" = some false)
  | .list _ => (by decide +kernel : kitB "list" "int" = some false)
  | .tuple _ => (by decide +kernel : kitB "tuple" "int" = some false)
  | .dict _ => (by decide +kernel : kitB "dict" "int" = some false)
theorem kb_st (d : PyData) : kitB (tyName d) "str" = some (isSt d) := match d with
  | .none => (by decide +kernel : kitB "NoneType" "str" = some false)
  | .bool _ => (by decide +kernel : kitB "bool" "str" = some false)
  | .int _ => (by decide +kernel : kitB "int" "str" = some false)
  | .str _ => (by decide +kernel : kitB "str" "str" = some true)
  | .list _ => (by decide +kernel : kitB "list" "str" = some false)
  | .tuple _ => (by decide +kernel : kitB "tuple" "str" = some false)
  | .dict _ => (by decide +kernel : kitB "dict" "str" = some false)
theorem r_isi {K : PySem.W.Frag} {σ : L2.St} {H : Hp} {x : V} {d : PyData} {n : String} {b : Bool} {i : Nat} {Q : Bool → Hp → Prop} (e : σ[i]? = some (some x)) (h : Dp K H x d) (kb : kitB (tyName d) n = some b) (q : Q b H) :
    tB (tCB (rIsi K) (tCons (tVar i) (tCons (tC (.ty n)) tNil))) σ H Q := ⟨x, e, x, .ty n, .type (tyName d), .type n, b, rfl, .ty n, ty_dp h, kit_ty kb, b, rfl, q⟩
theorem v_isi {K : PySem.W.Frag} {σ : L2.St} {H : Hp} {x : V} {d : PyData} {n : String} {b : Bool} {i : Nat} {Q : VK} (e : σ[i]? = some (some x)) (h : Dp K H x d) (kb : kitB (tyName d) n = some b) (q : Q (.bl b) H) :
    tCB (rIsi K) (tCons (tVar i) (tCons (tC (.ty n)) tNil)) σ H Q := ⟨x, e, x, .ty n, .type (tyName d), .type n, b, rfl, .ty n, ty_dp h, kit_ty kb, q⟩
theorem dp_non {K : PySem.W.Frag} {H : Hp} {x : V} {d : PyData} (h : Dp K H x d) : decide (x = V.non) = isN d := by
  cases h <;> rfl
abbrev sSo : Stmt := topS 36
theorem scSo : FnScope ["found", "meant", "k"] ["found", "meant"] (defScope sSo) := ⟨rfl, rfl, rfl, by decide +kernel, rfl, by decide +kernel, by decide +kernel⟩
def spSo (K : PySem.W.Frag) : Nat → Sp
  | 0 => fun _ _ _ _ => False
  | n + 1 => fun vs H Q _ => ∃ x y f m, vs = [x, y] ∧ Dp K H x f ∧ Dp K H y m ∧ fits n m ∧ Q (.bl (so n f m)) H
section
variable {P : Program} {w : World} {K : PySem.W.Frag} {mg : Str → Option Value} {base : Heap}
theorem ok_so {f : Addr} {fd : FuncData} {k : Nat} (F : Fun K "_law_so" "_law_so" sSo f fd) (bF : Binds K fd ["found", "meant"] []) (gF : mg "_law_so" = some (.ref f))
    (ms : mg "isinstance" = none) (ml : mg "len" = none) (mr : mg "range" = none) (m1 : mg "tuple" = none) (m2 : mg "bool" = none) (m3 : mg "int" = none) (m4 : mg "str" = none) : ∀ n, FnOk P w K mg base CX0 (k + n) f fd ["found", "meant"] (spSo K n)
  | 0 => ⟨fun _ _ _ _ h => h.elim, fun _ _ _ _ _ _ _ _ _ _ _ _ _ h => h.elim⟩
  | n + 1 => by
    have G := ok_so (k := k) F bF gF ms ml mr m1 m2 m3 m4 n
    refine F.ok scSo (fun vs H Q E h => ?_) (fun cdv A outer s H vs Q E hr h => ?_)
    · obtain ⟨_, _, _, _, rfl, _⟩ := h
      rfl
    · obtain ⟨x, y, f, m, rfl, hx, hy, hf, q⟩ := h
      refine ⟨_, pss_cons (ps_if (pt_cmpR op_isN (pv 1) pe_non (nomark _)) (pss_one (ps_ret (pe_cmpR op_isN (pv 0) pe_non (nomark _)))) pss_nil)
        (pss_cons (ps_if (pt_val (pe_callB call_isi (by rfl) ms (by decide +kernel) (pa_cons (pv 1) (pa_cons (pe_bltn (v := .ty "tuple") (by rfl) m1 (by decide +kernel) rfl) pa_nil))))
          (pss_cons (ps_if (PW.pt (pw_or (pt_not (pt_val (pe_callB call_isi (by rfl) ms (by decide +kernel) (pa_cons (pv 0) (pa_cons (pe_bltn (v := .ty "tuple") (by rfl) m1 (by decide +kernel) rfl) pa_nil)))))
              (pw_or1 (pt_cmpR op_ne (pe_callB call_len_seq (by rfl) ml PySem.boot_len (pa_cons (pv 0) pa_nil)) (pe_callB call_len_seq (by rfl) ml PySem.boot_len (pa_cons (pv 1) pa_nil)) (nomark _)))))
            (pss_one (ps_ret pe_bl)) pss_nil)
          (pss_cons (ps_for PassesOwn.never rfl (pi_range1 rfl mr (pa_cons (pe_callB call_len_seq (by rfl) ml PySem.boot_len (pa_cons (pv 1) pa_nil)) pa_nil)) (pg_name (i := 2) scSo.nd rfl (.inl rfl))
            (pss_one (ps_if (pt_not (pt_val (pe_call G hr (by rfl) gF F.kp bF .nil pass0 (pa_cons (pe_ix ix_tup (pv 0) (pv 2) (fun _ _ => rfl)) (pa_cons (pe_ix ix_tup (pv 1) (pv 2) (fun _ _ => rfl)) pa_nil))))) (pss_one (ps_ret pe_bl)) pss_nil)))
          (pss_one (ps_ret pe_bl)))) pss_nil)
        (pss_cons (ps_if (PW.pt (pw_or (pt_val (pe_callB call_isi (by rfl) ms (by decide +kernel) (pa_cons (pv 1) (pa_cons (pe_bltn (v := .ty "bool") (by rfl) m2 (by decide +kernel) rfl) pa_nil))))
            (pw_or1 (pt_val (pe_callB call_isi (by rfl) ms (by decide +kernel) (pa_cons (pv 0) (pa_cons (pe_bltn (v := .ty "bool") (by rfl) m2 (by decide +kernel) rfl) pa_nil)))))))
          (pss_one (ps_ret (pe_and (pe_callB call_isi (by rfl) ms (by decide +kernel) (pa_cons (pv 1) (pa_cons (pe_bltn (v := .ty "bool") (by rfl) m2 (by decide +kernel) rfl) pa_nil)))
            (pe_and (pe_callB call_isi (by rfl) ms (by decide +kernel) (pa_cons (pv 0) (pa_cons (pe_bltn (v := .ty "bool") (by rfl) m2 (by decide +kernel) rfl) pa_nil))) (pe_one (pe_cmpR op_eq (pv 0) (pv 1) (nomark _))))))) pss_nil)
        (pss_cons (ps_if (pt_val (pe_callB call_isi (by rfl) ms (by decide +kernel) (pa_cons (pv 1) (pa_cons (pe_bltn (v := .ty "int") (by rfl) m3 (by decide +kernel) rfl) pa_nil))))
          (pss_one (ps_ret (pe_and (pe_callB call_isi (by rfl) ms (by decide +kernel) (pa_cons (pv 0) (pa_cons (pe_bltn (v := .ty "int") (by rfl) m3 (by decide +kernel) rfl) pa_nil))) (pe_one (pe_cmpR op_eq (pv 0) (pv 1) (nomark _)))))) pss_nil)
        (pss_one (ps_ret (pe_and (pe_callB call_isi (by rfl) ms (by decide +kernel) (pa_cons (pv 1) (pa_cons (pe_bltn (v := .ty "str") (by rfl) m4 (by decide +kernel) rfl) pa_nil)))
            (pe_and (pe_callB call_isi (by rfl) ms (by decide +kernel) (pa_cons (pv 0) (pa_cons (pe_bltn (v := .ty "str") (by rfl) m4 (by decide +kernel) rfl) pa_nil))) (pe_one (pe_cmpR op_eq (pv 0) (pv 1) (nomark _)))))))))), ?_⟩
      refine ⟨_, rfl, rfl, _, rfl, ?_⟩
      rw [dp_non hy]
      cases hy with
      | non =>
        refine iteT ⟨x, rfl, rfl, ?_⟩
        rw [dp_non hx]
        rw [so_none] at q
        exact q
      | bl b =>
        rw [so_bool] at q
        refine iteF (r_isi rfl (.bl b) (b := false) (by first | exact kb_tu _ | exact kb_bo _ | exact kb_in _ | exact kb_st _) (iteF (r_isi rfl (.bl b) (b := true) (by first | exact kb_tu _ | exact kb_bo _ | exact kb_in _ | exact kb_st _) (iteT (iteT ?_)))))
        refine v_isi rfl (.bl b) (b := true) (by first | exact kb_tu _ | exact kb_bo _ | exact kb_in _ | exact kb_st _) ⟨true, rfl, iteT ?_⟩
        cases hx with
        | bl c =>
          refine v_isi rfl (.bl c) (b := true) (by first | exact kb_tu _ | exact kb_bo _ | exact kb_in _ | exact kb_st _) ⟨true, rfl, iteT ⟨_, rfl, _, rfl, rfl, ?_⟩⟩
          rw [dec_bl]
          exact q
        | non => exact v_isi rfl (.non) (b := false) (by first | exact kb_tu _ | exact kb_bo _ | exact kb_in _ | exact kb_st _) ⟨false, rfl, iteF q⟩
        | int i => exact v_isi rfl (.int i) (b := false) (by first | exact kb_tu _ | exact kb_bo _ | exact kb_in _ | exact kb_st _) ⟨false, rfl, iteF q⟩
        | str s => exact v_isi rfl (.str s) (b := false) (by first | exact kb_tu _ | exact kb_bo _ | exact kb_in _ | exact kb_st _) ⟨false, rfl, iteF q⟩
        | lst h1 h2 => exact v_isi rfl (.lst h1 h2) (b := false) (by first | exact kb_tu _ | exact kb_bo _ | exact kb_in _ | exact kb_st _) ⟨false, rfl, iteF q⟩
        | tup h1 h2 => exact v_isi rfl (.tup h1 h2) (b := false) (by first | exact kb_tu _ | exact kb_bo _ | exact kb_in _ | exact kb_st _) ⟨false, rfl, iteF q⟩
      | int i =>
        rw [so_int] at q
        refine iteF (r_isi rfl (.int i) (b := false) (by first | exact kb_tu _ | exact kb_bo _ | exact kb_in _ | exact kb_st _) (iteF (r_isi rfl (.int i) (b := false) (by first | exact kb_tu _ | exact kb_bo _ | exact kb_in _ | exact kb_st _) (iteF ?_))))
        cases hx with
        | bl c => exact r_isi rfl (.bl c) (b := true) (by first | exact kb_tu _ | exact kb_bo _ | exact kb_in _ | exact kb_st _) (iteT (v_isi rfl (.int i) (b := false) (by first | exact kb_tu _ | exact kb_bo _ | exact kb_in _ | exact kb_st _) ⟨false, rfl, iteF q⟩))
        | int j =>
          refine r_isi rfl (.int j) (b := false) (by first | exact kb_tu _ | exact kb_bo _ | exact kb_in _ | exact kb_st _) (iteF (r_isi rfl (.int i) (b := true) (by first | exact kb_tu _ | exact kb_bo _ | exact kb_in _ | exact kb_st _) (iteT (v_isi rfl (.int j) (b := true) (by first | exact kb_tu _ | exact kb_bo _ | exact kb_in _ | exact kb_st _) ⟨true, rfl, iteT ⟨_, rfl, _, rfl, rfl, ?_⟩⟩))))
          rw [dec_int]
          exact q
        | non => exact r_isi rfl (.non) (b := false) (by first | exact kb_tu _ | exact kb_bo _ | exact kb_in _ | exact kb_st _) (iteF (r_isi rfl (.int i) (b := true) (by first | exact kb_tu _ | exact kb_bo _ | exact kb_in _ | exact kb_st _) (iteT (v_isi rfl (.non) (b := false) (by first | exact kb_tu _ | exact kb_bo _ | exact kb_in _ | exact kb_st _) ⟨false, rfl, iteF q⟩))))
        | str s => exact r_isi rfl (.str s) (b := false) (by first | exact kb_tu _ | exact kb_bo _ | exact kb_in _ | exact kb_st _) (iteF (r_isi rfl (.int i) (b := true) (by first | exact kb_tu _ | exact kb_bo _ | exact kb_in _ | exact kb_st _) (iteT (v_isi rfl (.str s) (b := false) (by first | exact kb_tu _ | exact kb_bo _ | exact kb_in _ | exact kb_st _) ⟨false, rfl, iteF q⟩))))
        | lst h1 h2 => exact r_isi rfl (.lst h1 h2) (b := false) (by first | exact kb_tu _ | exact kb_bo _ | exact kb_in _ | exact kb_st _) (iteF (r_isi rfl (.int i) (b := true) (by first | exact kb_tu _ | exact kb_bo _ | exact kb_in _ | exact kb_st _) (iteT (v_isi rfl (.lst h1 h2) (b := false) (by first | exact kb_tu _ | exact kb_bo _ | exact kb_in _ | exact kb_st _) ⟨false, rfl, iteF q⟩))))
        | tup h1 h2 => exact r_isi rfl (.tup h1 h2) (b := false) (by first | exact kb_tu _ | exact kb_bo _ | exact kb_in _ | exact kb_st _) (iteF (r_isi rfl (.int i) (b := true) (by first | exact kb_tu _ | exact kb_bo _ | exact kb_in _ | exact kb_st _) (iteT (v_isi rfl (.tup h1 h2) (b := false) (by first | exact kb_tu _ | exact kb_bo _ | exact kb_in _ | exact kb_st _) ⟨false, rfl, iteF q⟩))))
      | str z =>
        rw [so_str] at q
        refine iteF (r_isi rfl (.str z) (b := false) (by first | exact kb_tu _ | exact kb_bo _ | exact kb_in _ | exact kb_st _) (iteF (r_isi rfl (.str z) (b := false) (by first | exact kb_tu _ | exact kb_bo _ | exact kb_in _ | exact kb_st _) (iteF ?_))))
        cases hx with
        | bl c => exact r_isi rfl (.bl c) (b := true) (by first | exact kb_tu _ | exact kb_bo _ | exact kb_in _ | exact kb_st _) (iteT (v_isi rfl (.str z) (b := false) (by first | exact kb_tu _ | exact kb_bo _ | exact kb_in _ | exact kb_st _) ⟨false, rfl, iteF q⟩))
        | str j =>
          refine r_isi rfl (.str j) (b := false) (by first | exact kb_tu _ | exact kb_bo _ | exact kb_in _ | exact kb_st _) (iteF (r_isi rfl (.str z) (b := false) (by first | exact kb_tu _ | exact kb_bo _ | exact kb_in _ | exact kb_st _) (iteF (v_isi rfl (.str z) (b := true) (by first | exact kb_tu _ | exact kb_bo _ | exact kb_in _ | exact kb_st _) ⟨true, rfl, iteT (v_isi rfl (.str j) (b := true) (by first | exact kb_tu _ | exact kb_bo _ | exact kb_in _ | exact kb_st _) ⟨true, rfl, iteT ⟨_, rfl, _, rfl, rfl, ?_⟩⟩)⟩))))
          rw [show decide (V.str j = V.str z) = (j == z) by rw [dec_str]]
          exact q
        | non => exact r_isi rfl (.non) (b := false) (by first | exact kb_tu _ | exact kb_bo _ | exact kb_in _ | exact kb_st _) (iteF (r_isi rfl (.str z) (b := false) (by first | exact kb_tu _ | exact kb_bo _ | exact kb_in _ | exact kb_st _) (iteF (v_isi rfl (.str z) (b := true) (by first | exact kb_tu _ | exact kb_bo _ | exact kb_in _ | exact kb_st _) ⟨true, rfl, iteT (v_isi rfl (.non) (b := false) (by first | exact kb_tu _ | exact kb_bo _ | exact kb_in _ | exact kb_st _) ⟨false, rfl, iteF q⟩)⟩))))
        | int s => exact r_isi rfl (.int s) (b := false) (by first | exact kb_tu _ | exact kb_bo _ | exact kb_in _ | exact kb_st _) (iteF (r_isi rfl (.str z) (b := false) (by first | exact kb_tu _ | exact kb_bo _ | exact kb_in _ | exact kb_st _) (iteF (v_isi rfl (.str z) (b := true) (by first | exact kb_tu _ | exact kb_bo _ | exact kb_in _ | exact kb_st _) ⟨true, rfl, iteT (v_isi rfl (.int s) (b := false) (by first | exact kb_tu _ | exact kb_bo _ | exact kb_in _ | exact kb_st _) ⟨false, rfl, iteF q⟩)⟩))))
        | lst h1 h2 => exact r_isi rfl (.lst h1 h2) (b := false) (by first | exact kb_tu _ | exact kb_bo _ | exact kb_in _ | exact kb_st _) (iteF (r_isi rfl (.str z) (b := false) (by first | exact kb_tu _ | exact kb_bo _ | exact kb_in _ | exact kb_st _) (iteF (v_isi rfl (.str z) (b := true) (by first | exact kb_tu _ | exact kb_bo _ | exact kb_in _ | exact kb_st _) ⟨true, rfl, iteT (v_isi rfl (.lst h1 h2) (b := false) (by first | exact kb_tu _ | exact kb_bo _ | exact kb_in _ | exact kb_st _) ⟨false, rfl, iteF q⟩)⟩))))
        | tup h1 h2 => exact r_isi rfl (.tup h1 h2) (b := false) (by first | exact kb_tu _ | exact kb_bo _ | exact kb_in _ | exact kb_st _) (iteF (r_isi rfl (.str z) (b := false) (by first | exact kb_tu _ | exact kb_bo _ | exact kb_in _ | exact kb_st _) (iteF (v_isi rfl (.str z) (b := true) (by first | exact kb_tu _ | exact kb_bo _ | exact kb_in _ | exact kb_st _) ⟨true, rfl, iteT (v_isi rfl (.tup h1 h2) (b := false) (by first | exact kb_tu _ | exact kb_bo _ | exact kb_in _ | exact kb_st _) ⟨false, rfl, iteF q⟩)⟩))))
      | @lst la lx ld h1 h2 =>
        rw [so_list] at q
        refine iteF (r_isi rfl (.lst h1 h2) (b := false) (by first | exact kb_tu _ | exact kb_bo _ | exact kb_in _ | exact kb_st _) (iteF (r_isi rfl (.lst h1 h2) (b := false) (by first | exact kb_tu _ | exact kb_bo _ | exact kb_in _ | exact kb_st _) (iteF ?_))))
        have other : ∀ c, c = (match f with | .bool _ => true | _ => false) → kitB (tyName f) "bool" = some c := fun c e => by subst e; cases hx <;> exact kb_bo _
        refine r_isi rfl hx (other _ rfl) ?_
        cases hx with
        | bl c => exact iteT (v_isi rfl (.lst h1 h2) (b := false) (by first | exact kb_tu _ | exact kb_bo _ | exact kb_in _ | exact kb_st _) ⟨false, rfl, iteF q⟩)
        | non => exact iteF (r_isi rfl (.lst h1 h2) (b := false) (by first | exact kb_tu _ | exact kb_bo _ | exact kb_in _ | exact kb_st _) (iteF (v_isi rfl (.lst h1 h2) (b := false) (by first | exact kb_tu _ | exact kb_bo _ | exact kb_in _ | exact kb_st _) ⟨false, rfl, iteF q⟩)))
        | int s => exact iteF (r_isi rfl (.lst h1 h2) (b := false) (by first | exact kb_tu _ | exact kb_bo _ | exact kb_in _ | exact kb_st _) (iteF (v_isi rfl (.lst h1 h2) (b := false) (by first | exact kb_tu _ | exact kb_bo _ | exact kb_in _ | exact kb_st _) ⟨false, rfl, iteF q⟩)))
        | str s => exact iteF (r_isi rfl (.lst h1 h2) (b := false) (by first | exact kb_tu _ | exact kb_bo _ | exact kb_in _ | exact kb_st _) (iteF (v_isi rfl (.lst h1 h2) (b := false) (by first | exact kb_tu _ | exact kb_bo _ | exact kb_in _ | exact kb_st _) ⟨false, rfl, iteF q⟩)))
        | lst g1 g2 => exact iteF (r_isi rfl (.lst h1 h2) (b := false) (by first | exact kb_tu _ | exact kb_bo _ | exact kb_in _ | exact kb_st _) (iteF (v_isi rfl (.lst h1 h2) (b := false) (by first | exact kb_tu _ | exact kb_bo _ | exact kb_in _ | exact kb_st _) ⟨false, rfl, iteF q⟩)))
        | tup g1 g2 => exact iteF (r_isi rfl (.lst h1 h2) (b := false) (by first | exact kb_tu _ | exact kb_bo _ | exact kb_in _ | exact kb_st _) (iteF (v_isi rfl (.lst h1 h2) (b := false) (by first | exact kb_tu _ | exact kb_bo _ | exact kb_in _ | exact kb_st _) ⟨false, rfl, iteF q⟩)))
      | @tup ta tx td h1 h2 =>
        refine iteF (r_isi rfl (.tup h1 h2) (b := true) (by first | exact kb_tu _ | exact kb_bo _ | exact kb_in _ | exact kb_st _) (iteT ?_))
        cases n with
        | zero => exact hf.elim
        | succ n =>
          obtain ⟨hlen, hall⟩ := hf
          obtain ⟨l2, g2⟩ := dp_get h2
          cases hx with
          | bl c => exact r_isi rfl (.bl c) (b := false) (by first | exact kb_tu _ | exact kb_bo _ | exact kb_in _ | exact kb_st _) (iteT (iteT q))
          | non => exact r_isi rfl (.non) (b := false) (by first | exact kb_tu _ | exact kb_bo _ | exact kb_in _ | exact kb_st _) (iteT (iteT q))
          | int s => exact r_isi rfl (.int s) (b := false) (by first | exact kb_tu _ | exact kb_bo _ | exact kb_in _ | exact kb_st _) (iteT (iteT q))
          | str s => exact r_isi rfl (.str s) (b := false) (by first | exact kb_tu _ | exact kb_bo _ | exact kb_in _ | exact kb_st _) (iteT (iteT q))
          | lst g1 g2 => exact r_isi rfl (.lst g1 g2) (b := false) (by first | exact kb_tu _ | exact kb_bo _ | exact kb_in _ | exact kb_st _) (iteT (iteT q))
          | @tup fa fx fd' k1 k2 =>
            obtain ⟨l1, g1⟩ := dp_get k2
            refine r_isi rfl (.tup k1 k2) (b := true) (by first | exact kb_tu _ | exact kb_bo _ | exact kb_in _ | exact kb_st _) (iteF ⟨_, rfl, fa, fx, rfl, .inr k1, _, rfl, ta, tx, rfl, .inr h1, rfl, _, rfl, ?_⟩)
            have en : (!decide (V.int (fx.length : Int) = V.int (tx.length : Int))) = !(fd'.length == td.length) := by
              rw [dec_int, l1, l2]
              congr 1
              rw [Bool.eq_iff_iff, beq_iff_eq, beq_iff_eq]
              omega
            rw [en]
            change Q (.bl (fd'.length == td.length && (List.range td.length).all (fun i => so n (fd'.getD i .none) (td.getD i .none)))) H at q
            by_cases el : fd'.length = td.length
            · have e1 : (fd'.length == td.length) = true := beq_iff_eq.mpr el
              rw [e1] at q ⊢
              refine iteF ⟨_, rfl, ta, tx, rfl, .inr h1, _, rfl, by rw [l2]; omega, by rw [l2]; omega, ?_⟩
              have et : ((tx.length : Int)).toNat = td.length := by rw [l2]; exact Int.toNat_natCast _
              rw [et]
              refine for_range (lo := 0) (n := td.length) (fun i σ H' => H' = H ∧ (∃ c, σ = [some (.ref fa), some (.ref ta), c]) ∧ ∀ j, j < i → so n (fd'.getD j .none) (td.getD j .none) = true)
                ⟨rfl, ⟨none, rfl⟩, fun j hj => absurd hj (Nat.not_lt_zero j)⟩ ?_ ?_
              · rintro i σ H' hi ⟨rfl, ⟨c, rfl⟩, ih⟩
                have e0 : (0 : Int) + (i : Int) = (i : Int) := Int.zero_add _
                rw [e0]
                obtain ⟨vf, a1, a2⟩ := g1 i fd'[i] (List.getElem?_eq_getElem (by omega))
                obtain ⟨vm, b1, b2⟩ := g2 i td[i] (List.getElem?_eq_getElem hi)
                have z1 : fd'.getD i .none = fd'[i] := by rw [List.getD_eq_getElem?_getD, List.getElem?_eq_getElem (by omega)]; rfl
                have z2 : td.getD i .none = td[i] := by rw [List.getD_eq_getElem?_getD, List.getElem?_eq_getElem hi]; rfl
                refine ⟨_, rfl, _, rfl, fa, fx, _, vf, rfl, rfl, k1, atI_nat a1, _, rfl, _, rfl, ta, tx, _, vm, rfl, rfl, h1, atI_nat b1, vf, vm, fd'[i], td[i], rfl, a2, b2, hall _ (List.getElem_mem hi), _, rfl, ?_⟩
                rw [← z1, ← z2]
                cases eb : so n (fd'.getD i .none) (td.getD i .none) with
                | true =>
                  refine iteF ⟨rfl, ⟨_, rfl⟩, fun j hj => ?_⟩
                  by_cases ej : j = i
                  · subst ej; exact eb
                  · exact ih j (by omega)
                | false =>
                  refine iteT ?_
                  have ef : ((List.range td.length).all (fun i => so n (fd'.getD i .none) (td.getD i .none))) = false := by
                    rw [Bool.eq_false_iff]
                    intro z
                    have := List.all_eq_true.mp z i (List.mem_range.mpr hi)
                    rw [eb] at this
                    cases this
                  rw [ef] at q
                  exact q
              · rintro σ H' ⟨rfl, ⟨c, rfl⟩, ih⟩
                have ef : ((List.range td.length).all (fun i => so n (fd'.getD i .none) (td.getD i .none))) = true := List.all_eq_true.mpr fun j hj => ih j (List.mem_range.mp hj)
                rw [ef] at q
                exact q
            · have e1 : (fd'.length == td.length) = false := beq_false_of_ne el
              rw [e1] at q ⊢
              exact iteT q
end
end Cw

set_option Elab.async false
set_option linter.all false
set_option maxRecDepth 100000
set_option maxHeartbeats 4000000
namespace Cw
open PySem PySem.Spec PyProof.Rows L2
/-! ### a def, a constant as the top has written it -/
structure Hd (K : PySem.W.Frag) (mg : Str → Option Value) (x : Str) (st : Stmt) (ps : List Str) (f : Addr) (d : FuncData) : Prop where
  F : Fun K x x st f d
  b : Binds K d ps []
  g : mg x = some (.ref f)
structure Cst (K : PySem.W.Frag) (mg : Str → Option Value) (x : Str) (v : V) (u : Value) : Prop where
  g : mg x = some u
  r : RelV v u
/-! ### sizes -/
inductive Ok : PyData → Prop
  | non : Ok .none
  | bool (b : Bool) : Ok (.bool b)
  | int (i : Int) : Ok (.int i)
  | str (z : Str) (h : z.length ≤ 1000000) : Ok (.str z)
  | list (l : List PyData) (h : l.length ≤ 100000) (t : ∀ d, d ∈ l → Ok d) : Ok (.list l)
  | tuple (l : List PyData) (h : l.length ≤ 100000) (t : ∀ d, d ∈ l → Ok d) : Ok (.tuple l)
theorem ok_str {z : Str} (h : Ok (.str z)) : z.length ≤ sizeLine := by cases h with | str _ h => exact Nat.le_trans h (by decide)
/-- a test of one value -/
def sp1 (K : PySem.W.Frag) (r : PyData → Bool) : Sp := fun vs H Q _ => ∃ x d, vs = [x] ∧ Dp K H x d ∧ Ok d ∧ ∀ H', Same H H' → Q (.bl (r d)) H'
theorem sqt_keep {K : PySem.W.Frag} {H H' : Hp} {a : Addr} {xs : List V} (s : Same H H') (h : SqT K H a xs) : SqT K H' a xs := by
  rcases h with (h | ⟨o, h⟩) | h
  · exact .inl (.inl (s _ _ h))
  · exact .inl (.inr ⟨o, s _ _ h⟩)
  · exact .inr h
mutual
theorem dp_keep {K : PySem.W.Frag} {H H' : Hp} (s : Same H H') : ∀ {x : V} {d : PyData}, Dp K H x d → Dp K H' x d
  | _, _, .non => .non
  | _, _, .bl b => .bl b
  | _, _, .int i => .int i
  | _, _, .str z => .str z
  | _, _, .lst h t => .lst (s.seq h) (dps_keep s t)
  | _, _, .tup h t => .tup (sqt_keep s h) (dps_keep s t)
theorem dps_keep {K : PySem.W.Frag} {H H' : Hp} (s : Same H H') : ∀ {xs : List V} {ds : List PyData}, DpAll K H xs ds → DpAll K H' xs ds
  | _, _, .nil => .nil
  | _, _, .cons h t => .cons (dp_keep s h) (dps_keep s t)
end
/-! ### letters -/
def lowC (c : Nat) : Bool := decide (97 ≤ c ∧ c ≤ 122)
def upC (c : Nat) : Bool := decide (65 ≤ c ∧ c ≤ 90)
theorem low_mem (c : Nat) : decide (c ∈ (PySem.Str.ofString "abcdefghijklmnopqrstuvwxyz").cps.toList) = lowC c := by
  have e : (PySem.Str.ofString "abcdefghijklmnopqrstuvwxyz").cps.toList = [97, 98, 99, 100, 101, 102, 103, 104, 105, 106, 107, 108, 109, 110, 111, 112, 113, 114, 115, 116, 117, 118, 119, 120, 121, 122] := by decide +kernel
  rw [e]
  unfold lowC
  rw [Bool.eq_iff_iff, decide_eq_true_iff, decide_eq_true_iff]
  simp only [List.mem_cons, List.not_mem_nil, or_false]
  omega
theorem up_mem (c : Nat) : decide (c ∈ (PySem.Str.ofString "ABCDEFGHIJKLMNOPQRSTUVWXYZ").cps.toList) = upC c := by
  have e : (PySem.Str.ofString "ABCDEFGHIJKLMNOPQRSTUVWXYZ").cps.toList = [65, 66, 67, 68, 69, 70, 71, 72, 73, 74, 75, 76, 77, 78, 79, 80, 81, 82, 83, 84, 85, 86, 87, 88, 89, 90] := by decide +kernel
  rw [e]
  unfold upC
  rw [Bool.eq_iff_iff, decide_eq_true_iff, decide_eq_true_iff]
  simp only [List.mem_cons, List.not_mem_nil, or_false]
  omega
/-! ### integers, sequences, names -/
def isInteger (lo hi : Int) : PyData → Bool
  | .int i => decide (lo ≤ i) && decide (i ≤ hi)
  | _ => false
def isSeq (lo hi : Int) : PyData → Bool
  | .list l => decide (lo ≤ (l.length : Int)) && decide ((l.length : Int) ≤ hi)
  | .tuple l => decide (lo ≤ (l.length : Int)) && decide ((l.length : Int) ≤ hi)
  | _ => false
def areLower (z : Str) : Bool := z.cps.toList.all lowC
def reserved : List Str := ["module", "uses", "open", "sealed", "abstract", "class", "extends", "generic", "by", "gives", "method", "new", "next", "if", "then", "else", "let", "in"]
def isNameS (z : Str) : Bool := decide (1 ≤ z.length) && decide (z.length ≤ 12) && areLower z && !reserved.contains z
def isName : PyData → Bool
  | .str z => isNameS z
  | _ => false
def isWordS (z : Str) : Bool := decide (1 ≤ z.length) && decide (z.length ≤ 12) && (match z.cps.toList with | c :: r => upC c && r.all lowC | [] => false)
def isWord : PyData → Bool
  | .str z => isWordS z
  | _ => false
end Cw

set_option Elab.async false
set_option linter.all false
set_option maxRecDepth 100000
set_option maxHeartbeats 4000000
/-! # CwSeq: sequences of either kind: walked, unpacked, cut, zipped. -/
namespace L2
open PySem PySem.Spec PyProof.Rows
/-- a list or a tuple -/
def SqA (K : PySem.W.Frag) (H : Hp) (a : Addr) (xs : List V) : Prop := SqL K H a xs ∨ SqT K H a xs
theorem SqA.keep {K : PySem.W.Frag} {H H' : Hp} {a : Addr} {xs : List V} (s : Same H H') (h : SqA K H a xs) : SqA K H' a xs := by
  rcases h with h | h
  · exact .inl (s.seq h)
  · right
    rcases h with (h | ⟨o, h⟩) | h
    · exact .inl (.inl (s _ _ h))
    · exact .inl (.inr ⟨o, s _ _ h⟩)
    · exact .inr h
section
variable {X : Cx} {tg : Expr} {pos : Pos}
def iSeq (K : PySem.W.Frag) (tl : TE) : TI := fun σ H R => tl σ H fun x H1 => ∃ a, x = .ref a ∧ (((∃ xs, SqL K H1 a xs) ∧ R (Itl K a) H1) ∨ ((∃ xs, SqT K H1 a xs) ∧ R (Itt K a) H1))
theorem pi_seq {l : Expr} {tl : TE} (hl : PE X l tl) : PI X tg l (iSeq X.K tl) := by
  refine ⟨fun pins s σ H R I h => ?_⟩
  refine thn (hl.run pins s σ H _ I h) fun v s1 ⟨x, H1, J, rx, a, ex, q⟩ => ?_
  subst ex
  obtain rfl : v = Value.ref a := rx
  have spot : ∀ b, b ∈ [s1.heap.objs.size] → b = s1.heap.objs.size := fun b hb => by simpa using hb
  rcases q with ⟨⟨xs, hq⟩, q⟩ | ⟨⟨xs, hq⟩, q⟩
  · obtain ⟨its, rv, pl, _⟩ := J.list hq
    refine wpAny_pyIter_list pl.isList ⟨s1.heap.objs.size, [s1.heap.objs.size], _, _, H1, rfl, J.kept (t' := s1.toks) fun b o e => Heap.get?_push_of_some _ e, turn_list a _, ⟨_, Heap.get?_push_size _ rfl, rfl, rfl⟩, fun b hb => ?_, q⟩
    rw [spot b hb]
    exact J.fpOk (Nat.le_refl _) (J.hok.fresh (Nat.le_refl _))
  · obtain ⟨its, rv, pl, _⟩ := J.tuple hq
    refine wpAny_pyIter_tuple (show s1.heap.IsTuple a its.toArray from pl) ⟨s1.heap.objs.size, [s1.heap.objs.size], _, _, H1, rfl, J.kept (t' := s1.toks) fun b o e => Heap.get?_push_of_some _ e, turn_tuple a _, ⟨_, Heap.get?_push_size _ rfl, rfl, rfl⟩, fun b hb => ?_, q⟩
    rw [spot b hb]
    exact J.fpOk (Nat.le_refl _) (J.hok.fresh (Nat.le_refl _))
/-- how a sequence's walk is read: one answer for both kinds -/
theorem seq_it {K : PySem.W.Frag} {a : Addr} {xs : List V} {H : Hp} {R : It → Hp → Prop} (h : SqA K H a xs) (r : ∀ J G, Walk J xs.length G (YAt xs) → (∀ H', Same H H' → G H') → R J H) :
    ((∃ xs, SqL K H a xs) ∧ R (Itl K a) H) ∨ ((∃ xs, SqT K H a xs) ∧ R (Itt K a) H) := by
  rcases h with h | h
  · exact .inl ⟨⟨xs, h⟩, r _ _ walk_list fun H' s => s.seq h⟩
  · refine .inr ⟨⟨xs, h⟩, r _ _ walk_tup fun H' s => ?_⟩
    rcases SqA.keep s (.inr h : SqA K H a xs) with g | g
    · rcases h with (h | ⟨o, h⟩) | h
      · exact .inl (.inl (s _ _ h))
      · exact .inl (.inr ⟨o, s _ _ h⟩)
      · exact .inr h
    · exact g
theorem sqt_stay {K : PySem.W.Frag} {H H' : Hp} {a : Addr} {xs : List V} (s : Same H H') (h : SqT K H a xs) : SqT K H' a xs := by
  rcases h with (h | ⟨o, h⟩) | h
  · exact .inl (.inl (s _ _ h))
  · exact .inl (.inr ⟨o, s _ _ h⟩)
  · exact .inr h
/-- a built-in's call on one value -/
theorem cb1 {r : List V → Hp → VK → Prop} {t : TE} {σ : St} {H : Hp} {Q : VK} (h : t σ H fun x H1 => r [x] H1 Q) : tCB r (tCons t tNil) σ H Q := h
/-- a comprehension over a sequence of either kind -/
theorem lc_seq {K : PySem.W.Frag} {tl te : TE} {g : TG} {tt : TT} {vs : List Nat} {σ : St} {H : Hp} {Q : VK} {a : Addr} {xs : List V} (e : ∀ R : V → Hp → Prop, R (.ref a) H → tl σ H R) (h : SqA K H a xs) (Pv : Addr → Nat → Hp → Prop)
    (h0 : ∀ D, H D = none → Pv D 0 (upd H D (.lst []))) (hk : ∀ D i H', Pv D i H' → Same H H')
    (hs : ∀ D i x H', H D = none → xs[i]? = some x → Pv D i H' → g x (wipe σ vs) H' fun σ2 H2 => wipe σ2 vs = wipe σ vs ∧ tt σ2 H2 fun b H3 => if b = true then te σ2 H3 fun y H4 => ∃ acc, H4 D = some (.lst acc) ∧ acc.length < sizeLine ∧ Pv D (i + 1) (upd H4 D (.lst (acc ++ [y]))) else Pv D (i + 1) H3)
    (hd : ∀ D H', H D = none → Pv D xs.length H' → Q (.ref D) H') : tLc (iSeq K tl) g tt te vs σ H Q := by
  rcases h with h | h
  · refine e _ ⟨a, rfl, .inl ⟨⟨xs, h⟩, fun D hD => lc_it walk_list (Pv D) (h0 D hD) (fun i H' _ p => (hk D i H' p).seq h) (fun i x H1 H2 _ p y => ?_) (fun H' p => hd D H' hD p)⟩⟩
    obtain ⟨rfl, hy⟩ := y
    exact hs D i x _ hD hy p
  · refine e _ ⟨a, rfl, .inr ⟨⟨xs, h⟩, fun D hD => lc_it walk_tup (Pv D) (h0 D hD) (fun i H' _ p => sqt_stay (hk D i H' p) h) (fun i x H1 H2 _ p y => ?_) (fun H' p => hd D H' hD p)⟩⟩
    obtain ⟨rfl, hy⟩ := y
    exact hs D i x _ hD hy p
def gSeq (K : PySem.W.Frag) (n : Nat) (t : TGs) : TG := fun v σ H Q => ∃ a xs, v = .ref a ∧ SqA K H a xs ∧ xs.length = n ∧ t xs σ H Q
theorem pg_seq {es : List Expr} {k : Nat} {t : TGs} {n : Nat} (hc : X.calm = true) (h : PGs X es t)
    (hn : (assignEach es X.env).length = n := by rfl) (hst : (assignEach es X.env).findIdx? (·.1) = none := by rfl) : PG X (.Tuple es k pos) (gSeq X.K n t) := by
  refine ⟨fun pins s σ H v u Q I r hw => ?_⟩
  obtain ⟨a, xs, e, hq | hq, hl, q⟩ := hw
  · exact (pg_unl (n := n) hc h hn hst).run pins s σ H v u Q I r ⟨a, xs, e, hq, hl, q⟩
  · exact (pg_tup (n := n) hc h hn hst).run pins s σ H v u Q I r ⟨a, xs, e, hq, hl, q⟩
/-! ### x in a tuple of texts, x anything -/
def isOneOf (zs : List Str) : PyData → Bool
  | .str z => zs.any fun y => y == z
  | _ => false
def rInSt (K : PySem.W.Frag) : R2 := fun x y H Q => ∃ d p zs, Dp K H x d ∧ y = .ref p ∧ SqT K H p (zs.map V.str) ∧ Q (.bl (isOneOf zs d)) H
def eqSt (d : PyData) : Value → Bool
  | .str a _ => (match d with | .str z => a == z | _ => false)
  | _ => false
theorem any_eqSt (d : PyData) : ∀ {zs : List Str} {its : List Value}, Vals (zs.map V.str) its → its.any (eqSt d) = isOneOf zs d
  | [], its, r => by
    cases r
    cases d <;> rfl
  | z :: zs, its, r => by
    cases r with
    | cons h t =>
      obtain ⟨tk, rfl⟩ := h
      have ih := any_eqSt d t
      rw [List.any_cons, ih]
      cases d <;> rfl
theorem op_inSt (hu : X.A.units + 1 < cLine) : OpR X (compareOp .In) (rInSt X.K) := by
  intro pins s σ H x y v u Q I rx ry h
  obtain ⟨d, p, zs, hx, rfl, hq, q⟩ := h
  cases ry
  obtain ⟨its, r, pl, hz⟩ := I.tuple hq
  refine SeqAt.in_tupleAt (eqSt d) pl (fun w hw => ?_) ⟨.bl _, H, I, rfl, ?_⟩
  · obtain ⟨z, tk, rfl⟩ : ∃ z tk, w = Value.str z tk := by
      have hw' : w ∈ its := by simpa using hw
      obtain ⟨i, hi⟩ := List.getElem?_of_mem hw'
      have hl : i < (zs.map V.str).length := by rw [r.length]; exact (List.getElem?_eq_some_iff.mp hi).1
      obtain ⟨u, hu1, ru⟩ := r.get (i := i) (x := (zs.map V.str)[i]) (List.getElem?_eq_getElem hl)
      rw [List.getElem_map] at ru
      obtain ⟨tk, e⟩ := ru
      rw [hi] at hu1
      cases hu1
      exact ⟨_, tk, e⟩
    cases hx with
    | non => cases (show v = Value.none from rx); exact SeqAt.EqAt.str_none z tk
    | bl b => cases (show v = Value.bool b from rx); exact SeqAt.EqAt.str_bool z tk b
    | int i => obtain ⟨t2, e⟩ := (show ∃ t, v = Value.int i t from rx); cases e; exact SeqAt.EqAt.str_int z tk i t2
    | str y => obtain ⟨t2, e⟩ := (show ∃ t, v = Value.str y t from rx); cases e; exact SeqAt.EqAt.str_str z tk y t2
    | lst hs _ =>
      cases rx
      obtain ⟨its2, _, pl2, _⟩ := I.list hs
      exact SeqAt.EqAt.str_list z tk pl2.isList hu
    | tup hs _ =>
      cases rx
      obtain ⟨its2, _, pl2, _⟩ := I.tuple hs
      exact SeqAt.EqAt.str_tuple z tk pl2 hu
  · rw [show its.toArray.any (eqSt d) = its.any (eqSt d) by simp, any_eqSt d r]
    exact q
theorem sl_seqA : SlR X (fun x lo hi H Q => rSlL X.K x lo hi H Q ∨ rSlA X.K x lo hi H Q) := SlR.or sl_list sl_tupA
end
end L2

set_option Elab.async false
set_option linter.all false
set_option maxRecDepth 100000
set_option maxHeartbeats 4000000
namespace Cw
open PySem PySem.Spec PyProof.Rows L2
def isSq : PyData → Bool | .list _ => true | .tuple _ => true | _ => false
theorem kb_sq {K : PySem.W.Frag} (d : PyData) : PySem.W.kitAny K (.type (tyName d)) [.type "list", .type "tuple"] = some (isSq d) := by
  have hl : ∀ t, kitB t "list" = some (t == "list") → kitB t "tuple" = some (t == "tuple") → PySem.W.kitAny K (.type t) [.type "list", .type "tuple"] = some (t == "list" || t == "tuple") := fun t h1 h2 =>
    kitAny_cons (kit_ty h1) (fun e => kitAny_cons (kit_ty h2) (fun e2 => by rw [e, e2]; exact kitAny_nil) (fun e2 => by rw [e2, Bool.or_true])) (fun e => by rw [e, Bool.true_or])
  match d with
  | .none => exact hl "NoneType" (by decide +kernel) (by decide +kernel)
  | .bool _ => exact hl "bool" (by decide +kernel) (by decide +kernel)
  | .int _ => exact hl "int" (by decide +kernel) (by decide +kernel)
  | .str _ => exact hl "str" (by decide +kernel) (by decide +kernel)
  | .list _ => exact hl "list" (by decide +kernel) (by decide +kernel)
  | .tuple _ => exact hl "tuple" (by decide +kernel) (by decide +kernel)
  | .dict _ => exact hl "dict" (by decide +kernel) (by decide +kernel)
theorem isNameS_long {z : Str} (h : ¬ z.length ≤ 12) : isNameS z = false := by
  unfold isNameS
  rw [decide_eq_false h, Bool.and_false, Bool.false_and, Bool.false_and]
theorem isNameS_short {z : Str} (h : ¬ 1 ≤ z.length) : isNameS z = false := by
  unfold isNameS
  rw [decide_eq_false h, Bool.false_and, Bool.false_and, Bool.false_and]
theorem isNameS_low {z : Str} (h : areLower z = false) : isNameS z = false := by
  unfold isNameS
  rw [h, Bool.and_false, Bool.false_and]
theorem isNameS_in {z : Str} (h1 : 1 ≤ z.length) (h2 : z.length ≤ 12) (h3 : areLower z = true) : isNameS z = !reserved.contains z := by
  unfold isNameS
  rw [decide_eq_true h1, decide_eq_true h2, h3, Bool.true_and, Bool.true_and, Bool.true_and]
theorem isWordS_long {z : Str} (h : ¬ z.length ≤ 12) : isWordS z = false := by
  unfold isWordS
  rw [decide_eq_false h, Bool.and_false, Bool.false_and]
theorem isWordS_short {z : Str} (h : ¬ 1 ≤ z.length) : isWordS z = false := by
  unfold isWordS
  rw [decide_eq_false h, Bool.false_and, Bool.false_and]
theorem isWordS_in {z : Str} {c : Nat} {r : List Nat} (h1 : 1 ≤ z.length) (h2 : z.length ≤ 12) (e : z.cps.toList = c :: r) : isWordS z = (upC c && r.all lowC) := by
  unfold isWordS
  rw [decide_eq_true h1, decide_eq_true h2, e, Bool.true_and, Bool.true_and]
theorem cut_tail {z : Str} {c : Nat} {r : List Nat} (e : z.cps.toList = c :: r) : (cutS z (some 1) none).cps.toList = r := by
  have hl : z.length = r.length + 1 := by
    show z.cps.size = _
    rw [← Array.length_toList, e]
    rfl
  show ((z.cps.toList.drop (HT.sIx z.length 0 (some 1))).take (HT.sIx z.length z.length none - HT.sIx z.length 0 (some 1))).toArray.toList = r
  rw [show HT.sIx z.length 0 (some 1) = min 1 z.length from HT.sIx_nat z.length 0 1, HT.sIx_none, e, hl, List.toList_toArray, show min 1 (r.length + 1) = 1 by omega]
  show (r.take (r.length + 1 - 1)) = r
  rw [Nat.add_sub_cancel, List.take_length]
def isCname : PyData → Bool
  | .str z => isName (.str (Txt.partition z ".").1) && isWord (.str (Txt.partition z ".").2.2)
  | _ => false
def isGname : PyData → Bool
  | .str z => isName (.str (Txt.partition z ".").1) && isName (.str (Txt.partition z ".").2.2)
  | _ => false
theorem part_len (z : Str) : (Txt.partition z ".").1.length ≤ z.length ∧ (Txt.partition z ".").2.2.length ≤ z.length := by
  rcases PyProof.Rows.partition_whole z "." with ⟨e, _⟩ | ⟨i, e, hi, _⟩
  · rw [e]
    exact ⟨Nat.le_refl _, Nat.zero_le _⟩
  · rw [e]
    constructor
    · show (z.cps.extract 0 i).size ≤ z.cps.size
      rw [Array.size_extract]
      omega
    · show (z.cps.extract _ _).size ≤ z.cps.size
      rw [Array.size_extract]
      show min z.cps.size z.cps.size - _ ≤ z.cps.size
      omega
theorem reserved_flat : (reserved.map V.str).all flatV = true := by decide
theorem reserved_in {z : Str} : (if true = true then !inV (.str z) (reserved.map V.str) else inV (.str z) (reserved.map V.str)) = !reserved.contains z := by
  rw [if_pos rfl]
  congr 1
  unfold inV
  rw [List.any_map, List.contains_eq_any_beq]
  congr 1
  funext y
  show (y == z) = (z == y)
  rw [Bool.eq_iff_iff, beq_iff_eq, beq_iff_eq]
  exact ⟨Eq.symm, Eq.symm⟩
theorem low_cont : (PySem.Str.ofString "abcdefghijklmnopqrstuvwxyz").cps.contains = lowC := by
  funext c
  rw [← low_mem c, Array.contains_eq_mem]
  simp
theorem strip_nil (g : Nat → Bool) (z : Str) : (PySem.W.stripped g true true z).cps.toList = [] ↔ z.cps.toList.all g = true := by
  unfold PySem.W.stripped
  simp only [if_true, Builtin.Str.strSub, Str.length, Array.toList_extract, List.extract_eq_drop_take]
  obtain ⟨⟨l⟩⟩ := z
  simp only [List.size_toArray]
  have key : ∀ l : List Nat, l.all g = true ∨ ∃ a c r, l = a ++ c :: r ∧ a.all g = true ∧ g c = false := by
    intro l
    induction l with
    | nil => exact .inl rfl
    | cons x l ih =>
      by_cases hx : g x = true
      · rcases ih with h | ⟨a, c, r, e, h1, h2⟩
        · exact .inl (by rw [List.all_cons, hx, h]; rfl)
        · exact .inr ⟨x :: a, c, r, by rw [e]; rfl, by rw [List.all_cons, hx, h1]; rfl, h2⟩
      · exact .inr ⟨[], x, l, rfl, rfl, by simpa using hx⟩
  have tw : ∀ (a b : List Nat), a.all g = true → (a ++ b).takeWhile g = a ++ b.takeWhile g := by
    intro a
    induction a with
    | nil => intro b _; rfl
    | cons x a ih =>
      intro b h
      rw [List.all_cons, Bool.and_eq_true] at h
      rw [List.cons_append, List.takeWhile_cons, if_pos h.1, ih b h.2]
      rfl
  have tl : ∀ (a : List Nat) (c : Nat) (b : List Nat), g c = false → ((a ++ c :: b).takeWhile g).length ≤ a.length := by
    intro a
    induction a with
    | nil => intro c b h; rw [List.nil_append, List.takeWhile_cons, h]; exact Nat.le_refl _
    | cons x a ih =>
      intro c b h
      rw [List.cons_append, List.takeWhile_cons]
      cases g x with
      | true => exact Nat.succ_le_succ (ih c b h)
      | false => exact Nat.zero_le _
  rcases key l with h | ⟨a, c, r, e, h1, h2⟩
  · have e1 := tw l [] h
    rw [List.append_nil, List.takeWhile_nil, List.append_nil] at e1
    rw [e1, h]
    simp
  · subst e
    rw [tw a (c :: r) h1, List.takeWhile_cons, h2]
    have hf : ¬ ((a ++ c :: r).all g = true) := by
      rw [List.all_append, List.all_cons, h2]
      simp
    constructor
    · intro e
      exfalso
      have e2 := congrArg List.length e
      have e3 := tl r.reverse c [] h2
      rw [List.length_reverse] at e3
      simp only [Bool.false_eq_true, if_false, List.append_nil, List.drop_left, List.reverse_cons] at e2
      simp only [List.length_take, List.length_drop, List.length_append, List.length_cons, List.length_nil] at e2
      have e4 : (List.takeWhile g (r.reverse ++ [c])).length ≤ r.length := e3
      generalize (List.takeWhile g (r.reverse ++ [c])).length = m at e2 e4
      clear e3 e
      rw [Nat.min_def] at e2
      split at e2 <;> omega
    · exact fun e => absurd e hf
theorem strip_low (z : Str) : decide (V.str (Txt.stripChars z "abcdefghijklmnopqrstuvwxyz") = V.str "") = areLower z := by
  have e := strip_nil (PySem.Str.ofString "abcdefghijklmnopqrstuvwxyz").cps.contains z
  have e0 : Txt.stripChars z "abcdefghijklmnopqrstuvwxyz" = PySem.W.stripped (PySem.Str.ofString "abcdefghijklmnopqrstuvwxyz").cps.contains true true z := PySem.W.stripBy_eq (x := z) _ _ _
  unfold areLower
  rw [e0, Bool.eq_iff_iff, decide_eq_true_iff]
  rw [low_cont] at e ⊢
  rw [← e]
  constructor
  · intro h
    rw [show PySem.W.stripped lowC true true z = ("" : Str) from V.str.inj h]
    rfl
  · intro h
    refine congrArg V.str ?_
    revert h
    generalize PySem.W.stripped lowC true true z = y
    obtain ⟨⟨l⟩⟩ := y
    intro h
    have h : l = [] := h
    rw [h]
    rfl
def spInteger (K : PySem.W.Frag) : Sp := fun vs H Q _ => ∃ x d lo hi, vs = [x, .int lo, .int hi] ∧ Dp K H x d ∧ ∀ H', Same H H' → Q (.bl (isInteger lo hi d)) H'
def spSeq (K : PySem.W.Frag) : Sp := fun vs H Q _ => ∃ x d lo hi, vs = [x, .int lo, .int hi] ∧ Dp K H x d ∧ ∀ H', Same H H' → Q (.bl (isSeq lo hi d)) H'
def spLower : Sp := fun vs H Q _ => ∃ z : Str, vs = [.str z] ∧ z.length ≤ sizeLine ∧ ∀ H', Same H H' → Q (.bl (areLower z)) H'
section
variable {P : Program} {w : World} {K : PySem.W.Frag} {mg : Str → Option Value} {base : Heap}
abbrev s_is_integer : Stmt := topS 6
theorem sc_is_integer : FnScope ["value", "least", "most"] ["value", "least", "most"] (defScope s_is_integer) := ⟨rfl, rfl, rfl, by decide +kernel, rfl, by decide +kernel, by decide +kernel⟩
theorem ok_is_integer {f : Addr} {fd : FuncData} (F : Fun K "is_integer" "is_integer" s_is_integer f fd) (m_isinstance : mg "isinstance" = none) (m_int : mg "int" = none) (m_bool : mg "bool" = none) : FnOk P w K mg base CX0 1 f fd ["value", "least", "most"] (spInteger K) := by
  refine F.ok sc_is_integer (fun vs H Q E h => ?_) (fun cdv A outer s H vs Q E hr h => ?_)
  · obtain ⟨_, _, _, _, rfl, _⟩ := h
    rfl
  · obtain ⟨x, d, lo, hi, rfl, hx, q⟩ := h
    refine ⟨_, (pss_one (ps_ret (pe_and (pe_callB call_isi (by rfl) m_isinstance (by decide +kernel) (pa_cons (pv 0) (pa_cons (pe_bltn (v := .ty "int") (by rfl) m_int (by decide +kernel) rfl) pa_nil))) (pe_and (pe_not (pe_callB call_isi (by rfl) m_isinstance (by decide +kernel) (pa_cons (pv 0) (pa_cons (pe_bltn (v := .ty "bool") (by rfl) m_bool (by decide +kernel) rfl) pa_nil)))) (pe_one (pe_chain op_le op_le (pv 1) (pv 0) (pv 2))))))), ?_⟩
    refine v_isi rfl hx (kb_in d) ⟨_, rfl, ?_⟩
    cases hx with
    | int i => exact iteT (v_isi rfl (.int i) (b := false) (kb_bo _) ⟨false, rfl, true, rfl, iteT ⟨_, rfl, _, rfl, lo, i, rfl, rfl, _, rfl, ite2 (fun e => ⟨_, rfl, i, hi, rfl, rfl, by
        have z := q H (Same.refl H)
        rw [show isInteger lo hi (.int i) = (decide (lo ≤ i) && decide (i ≤ hi)) from rfl, e, Bool.true_and] at z
        exact z⟩) (fun e => by
        have z := q H (Same.refl H)
        rw [show isInteger lo hi (.int i) = (decide (lo ≤ i) && decide (i ≤ hi)) from rfl, Bool.eq_false_iff.mpr e, Bool.false_and] at z
        exact z)⟩⟩)
    | bl b => exact iteT (v_isi rfl (.bl b) (b := true) (kb_bo _) ⟨true, rfl, false, rfl, iteF (q H (Same.refl H))⟩)
    | non => exact iteF (q H (Same.refl H))
    | str z => exact iteF (q H (Same.refl H))
    | lst h1 h2 => exact iteF (q H (Same.refl H))
    | tup h1 h2 => exact iteF (q H (Same.refl H))
abbrev s_is_sequence : Stmt := topS 7
theorem sc_is_sequence : FnScope ["value", "least", "most"] ["value", "least", "most"] (defScope s_is_sequence) := ⟨rfl, rfl, rfl, by decide +kernel, rfl, by decide +kernel, by decide +kernel⟩
theorem ok_is_sequence {f : Addr} {fd : FuncData} (F : Fun K "is_sequence" "is_sequence" s_is_sequence f fd) (m_isinstance : mg "isinstance" = none) (m_list : mg "list" = none) (m_tuple : mg "tuple" = none) (m_len : mg "len" = none) : FnOk P w K mg base CX0 1 f fd ["value", "least", "most"] (spSeq K) := by
  refine F.ok sc_is_sequence (fun vs H Q E h => ?_) (fun cdv A outer s H vs Q E hr h => ?_)
  · obtain ⟨_, _, _, _, rfl, _⟩ := h
    rfl
  · obtain ⟨x, d, lo, hi, rfl, hx, q⟩ := h
    refine ⟨_, (pss_one (ps_ret (pe_and (pe_callB call_isiT (by rfl) m_isinstance (by decide +kernel) (pa_cons (pv 0) (pa_cons (pe_tup (pa_cons (pe_bltn (v := .ty "list") (by rfl) m_list (by decide +kernel) rfl) (pa_cons (pe_bltn (v := .ty "tuple") (by rfl) m_tuple (by decide +kernel) rfl) pa_nil))) pa_nil))) (pe_one (pe_chain op_le op_le (pv 1) (pe_callB call_len_seq (by rfl) m_len PySem.boot_len (pa_cons (pv 0) pa_nil)) (pv 2)))))), ?_⟩
    refine ⟨x, rfl, by show 2 ≤ sizeLine; decide, fun tp ntp => ?_⟩
    have s1 := same_upd (o := .tup [.ty "list", .ty "tuple"]) ntp
    have hx1 := dp_keep s1 hx
    refine ⟨x, tp, [.ty "list", .ty "tuple"], _, [.type "list", .type "tuple"], isSq d, rfl, upd_same, .cons (.ty _) (.cons (.ty _) .nil), ty_dp hx1, kb_sq d, _, rfl, ?_⟩
    cases hx1 with
    | @lst la lx ld h1 h2 =>
      have el := (dp_get h2).1
      refine iteT ⟨_, rfl, .ref la, rfl, la, lx, rfl, .inl h1, lo, _, rfl, rfl, _, rfl, ite2 (fun e => ⟨_, rfl, _, hi, rfl, rfl, ?_⟩) (fun e => ?_)⟩
      · have z := q _ s1
        rw [show isSeq lo hi (.list ld) = (decide (lo ≤ (ld.length : Int)) && decide ((ld.length : Int) ≤ hi)) from rfl, ← el, e, Bool.true_and] at z
        exact z
      · have z := q _ s1
        rw [show isSeq lo hi (.list ld) = (decide (lo ≤ (ld.length : Int)) && decide ((ld.length : Int) ≤ hi)) from rfl, ← el, Bool.eq_false_iff.mpr e, Bool.false_and] at z
        exact z
    | @tup la lx ld h1 h2 =>
      have el := (dp_get h2).1
      refine iteT ⟨_, rfl, .ref la, rfl, la, lx, rfl, .inr h1, lo, _, rfl, rfl, _, rfl, ite2 (fun e => ⟨_, rfl, _, hi, rfl, rfl, ?_⟩) (fun e => ?_)⟩
      · have z := q _ s1
        rw [show isSeq lo hi (.tuple ld) = (decide (lo ≤ (ld.length : Int)) && decide ((ld.length : Int) ≤ hi)) from rfl, ← el, e, Bool.true_and] at z
        exact z
      · have z := q _ s1
        rw [show isSeq lo hi (.tuple ld) = (decide (lo ≤ (ld.length : Int)) && decide ((ld.length : Int) ≤ hi)) from rfl, ← el, Bool.eq_false_iff.mpr e, Bool.false_and] at z
        exact z
    | bl b => exact iteF (q _ s1)
    | non => exact iteF (q _ s1)
    | str z => exact iteF (q _ s1)
    | int z => exact iteF (q _ s1)
abbrev s_are_lower : Stmt := topS 8
theorem sc_are_lower : FnScope ["text"] ["text"] (defScope s_are_lower) := ⟨rfl, rfl, rfl, by decide +kernel, rfl, by decide +kernel, by decide +kernel⟩
theorem ok_are_lower {f : Addr} {fd : FuncData} (F : Fun K "are_lower" "are_lower" s_are_lower f fd) {u_LOWER : Value} (h_LOWER : Cst K mg "LOWER" (.str "abcdefghijklmnopqrstuvwxyz") u_LOWER) : FnOk P w K mg base CX0 1 f fd ["text"] (spLower) := by
  refine F.ok sc_are_lower (fun vs H Q E h => ?_) (fun cdv A outer s H vs Q E hr h => ?_)
  · obtain ⟨_, rfl, _⟩ := h
    rfl
  · obtain ⟨z, rfl, hz, q⟩ := h
    refine ⟨_, (pss_one (ps_ret (pe_cmpR op_eq (pe_bm PySem.F.plainAttrs_str PySem.F.slot_str_strip PySem.F.type_str_strip mt_stripChars (pv 0) (pa_cons (pe_glob (v := .str "abcdefghijklmnopqrstuvwxyz") rfl h_LOWER.g h_LOWER.r) pa_nil)) pe_str (nomark _)))), ?_⟩
    refine ⟨.str z, rfl, rfl, z, _, rfl, rfl, hz, rfl, ?_⟩
    have e := q H (Same.refl H)
    rw [← strip_low] at e
    exact e
abbrev s_is_name : Stmt := topS 9
theorem sc_is_name : FnScope ["value"] ["value"] (defScope s_is_name) := ⟨rfl, rfl, rfl, by decide +kernel, rfl, by decide +kernel, by decide +kernel⟩
theorem ok_is_name {f : Addr} {fd : FuncData} (F : Fun K "is_name" "is_name" s_is_name f fd) {f_are_lower : Addr} {d_are_lower : FuncData} (h_are_lower : Hd K mg "are_lower" s_are_lower ["text"] f_are_lower d_are_lower) (G_are_lower : FnOk P w K mg base CX0 1 f_are_lower d_are_lower ["text"] (spLower)) {u_MOST_LETTERS : Value} (h_MOST_LETTERS : Cst K mg "MOST_LETTERS" (.int 12) u_MOST_LETTERS) {a_RESERVED : Addr} {u_RESERVED : Value} (h_RESERVED : Cst K mg "RESERVED" (.ref a_RESERVED) u_RESERVED) (t_RESERVED : ∀ H : Hp, SqT K H a_RESERVED (reserved.map V.str)) (m_isinstance : mg "isinstance" = none) (m_str : mg "str" = none) (m_len : mg "len" = none) : FnOk P w K mg base CX0 2 f fd ["value"] (sp1 K isName) := by
  refine F.ok sc_is_name (fun vs H Q E h => ?_) (fun cdv A outer s H vs Q E hr h => ?_)
  · obtain ⟨_, _, rfl, _⟩ := h
    rfl
  · obtain ⟨x, d, rfl, hx, hok, q⟩ := h
    refine ⟨_, (pss_cons (ps_if (PW.pt (pw_or (pt_not (pt_val (pe_callB call_isi (by rfl) m_isinstance (by decide +kernel) (pa_cons (pv 0) (pa_cons (pe_bltn (v := .ty "str") (by rfl) m_str (by decide +kernel) rfl) pa_nil))))) (pw_or1 (pt_not (pt_chain op_le op_le pe_int (pe_callB call_len_str (by rfl) m_len PySem.boot_len (pa_cons (pv 0) pa_nil)) (pe_glob (v := .int 12) rfl h_MOST_LETTERS.g h_MOST_LETTERS.r)))))) (pss_one (ps_ret pe_bl)) pss_nil)
  (pss_one (ps_ret (pe_and (pe_call G_are_lower (hr.mono (by decide)) (by rfl) h_are_lower.g h_are_lower.F.kp h_are_lower.b .nil pass0 (pa_cons (pv 0) pa_nil)) (pe_one (pe_cmpR op_notIn_seq (pv 0) (pe_glob (v := .ref a_RESERVED) rfl h_RESERVED.g h_RESERVED.r) (by rfl))))))), ?_⟩
    refine r_isi rfl hx (kb_st d) ?_
    cases hx with
    | str z =>
      have hz := ok_str hok
      have qq : ∀ H', Same H H' → Q (.bl (isNameS z)) H' := q
      refine iteF ⟨.str z, rfl, z, rfl, hz, 1, (z.length : Int), rfl, rfl, _, rfl, ite2 (fun e1 => ⟨(z.length : Int), 12, rfl, rfl, _, rfl, ite2 (fun e2 => ?_) (fun e2 => ?_)⟩) (fun e1 => ⟨false, rfl, iteT ?_⟩)⟩
      · refine qq H (Same.refl H) |> fun z0 => ?_
        have f2 : ¬ z.length ≤ 12 := fun g => by
          have : decide ((z.length : Int) ≤ 12) = true := decide_eq_true (by omega)
          rw [this] at e2
          cases e2
        rw [isNameS_long f2] at z0
        exact z0
      · have g2 : (z.length : Int) ≤ 12 := by
          have : ¬ decide ((z.length : Int) ≤ 12) = false := fun g => e2 (by rw [g]; rfl)
          exact of_decide_eq_true (by simpa using this)
        have g1 : (1 : Int) ≤ (z.length : Int) := of_decide_eq_true e1
        refine ⟨.str z, rfl, z, rfl, hz, fun H1 s1 => ⟨_, rfl, ite2 (fun e3 => ?_) (fun e3 => ?_)⟩⟩
        · refine ⟨.str z, rfl, a_RESERVED, _, rfl, .inr (t_RESERVED H1), rfl, reserved_flat, ?_⟩
          have z0 := qq H1 s1
          rw [isNameS_in (by omega) (by omega) e3] at z0
          rw [reserved_in]
          exact z0
        · have z0 := qq H1 s1
          rw [isNameS_low (Bool.eq_false_iff.mpr e3)] at z0
          exact z0
      · have z0 := qq H (Same.refl H)
        have f1 : ¬ 1 ≤ z.length := fun g => e1 (decide_eq_true (by omega))
        rw [isNameS_short f1] at z0
        exact z0
    | bl b => exact iteT (iteT (q H (Same.refl H)))
    | non => exact iteT (iteT (q H (Same.refl H)))
    | int z => exact iteT (iteT (q H (Same.refl H)))
    | lst h1 h2 => exact iteT (iteT (q H (Same.refl H)))
    | tup h1 h2 => exact iteT (iteT (q H (Same.refl H)))
abbrev s_is_class_word : Stmt := topS 10
theorem sc_is_class_word : FnScope ["value"] ["value"] (defScope s_is_class_word) := ⟨rfl, rfl, rfl, by decide +kernel, rfl, by decide +kernel, by decide +kernel⟩
theorem ok_is_class_word {f : Addr} {fd : FuncData} (F : Fun K "is_class_word" "is_class_word" s_is_class_word f fd) {f_are_lower : Addr} {d_are_lower : FuncData} (h_are_lower : Hd K mg "are_lower" s_are_lower ["text"] f_are_lower d_are_lower) (G_are_lower : FnOk P w K mg base CX0 1 f_are_lower d_are_lower ["text"] (spLower)) {u_MOST_LETTERS : Value} (h_MOST_LETTERS : Cst K mg "MOST_LETTERS" (.int 12) u_MOST_LETTERS) {u_UPPER : Value} (h_UPPER : Cst K mg "UPPER" (.str "ABCDEFGHIJKLMNOPQRSTUVWXYZ") u_UPPER) (m_isinstance : mg "isinstance" = none) (m_str : mg "str" = none) (m_len : mg "len" = none) : FnOk P w K mg base CX0 2 f fd ["value"] (sp1 K isWord) := by
  refine F.ok sc_is_class_word (fun vs H Q E h => ?_) (fun cdv A outer s H vs Q E hr h => ?_)
  · obtain ⟨_, _, rfl, _⟩ := h
    rfl
  · obtain ⟨x, d, rfl, hx, hok, q⟩ := h
    refine ⟨_, (pss_cons (ps_if (PW.pt (pw_or (pt_not (pt_val (pe_callB call_isi (by rfl) m_isinstance (by decide +kernel) (pa_cons (pv 0) (pa_cons (pe_bltn (v := .ty "str") (by rfl) m_str (by decide +kernel) rfl) pa_nil))))) (pw_or1 (pt_not (pt_chain op_le op_le pe_int (pe_callB call_len_str (by rfl) m_len PySem.boot_len (pa_cons (pv 0) pa_nil)) (pe_glob (v := .int 12) rfl h_MOST_LETTERS.g h_MOST_LETTERS.r)))))) (pss_one (ps_ret pe_bl)) pss_nil)
  (pss_one (ps_ret (pe_and (pe_cmpR op_in_sign (pe_ix ix_str (pv 0) pe_int (fun _ _ => rfl)) (pe_glob (v := .str "ABCDEFGHIJKLMNOPQRSTUVWXYZ") rfl h_UPPER.g h_UPPER.r) (by rfl)) (pe_one (pe_call G_are_lower (hr.mono (by decide)) (by rfl) h_are_lower.g h_are_lower.F.kp h_are_lower.b .nil pass0 (pa_cons (pe_slice sl_str (pv 0) (po_some pe_int) po_none) pa_nil))))))), ?_⟩
    refine r_isi rfl hx (kb_st d) ?_
    cases hx with
    | str z =>
      have hz := ok_str hok
      have qq : ∀ H', Same H H' → Q (.bl (isWordS z)) H' := q
      refine iteF ⟨.str z, rfl, z, rfl, hz, 1, (z.length : Int), rfl, rfl, _, rfl, ite2 (fun e1 => ⟨(z.length : Int), 12, rfl, rfl, _, rfl, ite2 (fun e2 => ?_) (fun e2 => ?_)⟩) (fun e1 => ⟨false, rfl, iteT ?_⟩)⟩
      · have z0 := qq H (Same.refl H)
        have f2 : ¬ z.length ≤ 12 := fun g => by
          have : decide ((z.length : Int) ≤ 12) = true := decide_eq_true (by omega)
          rw [this] at e2
          cases e2
        rw [isWordS_long f2] at z0
        exact z0
      · have g2 : (z.length : Int) ≤ 12 := by
          have : ¬ decide ((z.length : Int) ≤ 12) = false := fun g => e2 (by rw [g]; rfl)
          exact of_decide_eq_true (by simpa using this)
        have g1 : (1 : Int) ≤ (z.length : Int) := of_decide_eq_true e1
        obtain ⟨c, r, ecr⟩ : ∃ c r, z.cps.toList = c :: r := by
          cases e : z.cps.toList with
          | nil =>
            have : z.cps.toList.length = 0 := by rw [e]; rfl
            rw [Array.length_toList] at this
            have : z.length = 0 := this
            omega
          | cons c r => exact ⟨c, r, rfl⟩
        refine ⟨.str z, rfl, z, 0, c, rfl, rfl, hz, by rw [ecr]; exact atI_nat (j := 0) rfl, c, _, rfl, rfl, _, rfl, ?_⟩
        have z0 := fun H' s' => qq H' s'
        rw [isWordS_in (by omega) (by omega) ecr] at z0
        rw [up_mem]
        cases ec : upC c with
        | false =>
          rw [ec] at z0
          exact iteF (z0 H (Same.refl H))
        | true =>
          rw [ec] at z0
          refine iteT ⟨.str z, rfl, 1, rfl, z, rfl, hz, cutS z (some 1) none, rfl, Nat.le_trans (cutS_length z _ _) hz, fun H1 s1 => ?_⟩
          have e5 : areLower (cutS z (some 1) none) = r.all lowC := by rw [areLower, cut_tail ecr]
          rw [e5]
          exact z0 H1 s1
      · have z0 := qq H (Same.refl H)
        have f1 : ¬ 1 ≤ z.length := fun g => e1 (decide_eq_true (by omega))
        rw [isWordS_short f1] at z0
        exact z0
    | bl b => exact iteT (iteT (q H (Same.refl H)))
    | non => exact iteT (iteT (q H (Same.refl H)))
    | int z => exact iteT (iteT (q H (Same.refl H)))
    | lst h1 h2 => exact iteT (iteT (q H (Same.refl H)))
    | tup h1 h2 => exact iteT (iteT (q H (Same.refl H)))
abbrev s_is_class_name : Stmt := topS 11
theorem sc_is_class_name : FnScope ["value", "module", "_", "word"] ["value"] (defScope s_is_class_name) := ⟨rfl, rfl, rfl, by decide +kernel, rfl, by decide +kernel, by decide +kernel⟩
theorem ok_is_class_name {f : Addr} {fd : FuncData} (F : Fun K "is_class_name" "is_class_name" s_is_class_name f fd) {f_is_name : Addr} {d_is_name : FuncData} (h_is_name : Hd K mg "is_name" s_is_name ["value"] f_is_name d_is_name) (G_is_name : FnOk P w K mg base CX0 2 f_is_name d_is_name ["value"] (sp1 K isName)) {f_is_class_word : Addr} {d_is_class_word : FuncData} (h_is_class_word : Hd K mg "is_class_word" s_is_class_word ["value"] f_is_class_word d_is_class_word) (G_is_class_word : FnOk P w K mg base CX0 2 f_is_class_word d_is_class_word ["value"] (sp1 K isWord)) (m_isinstance : mg "isinstance" = none) (m_str : mg "str" = none) : FnOk P w K mg base CX0 3 f fd ["value"] (sp1 K isCname) := by
  refine F.ok sc_is_class_name (fun vs H Q E h => ?_) (fun cdv A outer s H vs Q E hr h => ?_)
  · obtain ⟨_, _, rfl, _⟩ := h
    rfl
  · obtain ⟨x, d, rfl, hx, hok, q⟩ := h
    refine ⟨_, (pss_cons (ps_if (pt_not (pt_val (pe_callB call_isi (by rfl) m_isinstance (by decide +kernel) (pa_cons (pv 0) (pa_cons (pe_bltn (v := .ty "str") (by rfl) m_str (by decide +kernel) rfl) pa_nil))))) (pss_one (ps_ret pe_bl)) pss_nil)
  (pss_cons (ps_asg (pe_partition (pv 0) pe_str) (pg_tup (n := 3) (by rfl) (pgs_cons (pg_name (i := 1) sc_is_class_name.nd rfl (.inl rfl)) (pgs_cons (pg_name (i := 2) sc_is_class_name.nd rfl (.inl rfl)) (pgs_cons (pg_name (i := 3) sc_is_class_name.nd rfl (.inl rfl)) pgs_nil)))))
  (pss_one (ps_ret (pe_and (pe_call G_is_name (hr.mono (by decide)) (by rfl) h_is_name.g h_is_name.F.kp h_is_name.b .nil pass0 (pa_cons (pv 1) pa_nil)) (pe_one (pe_call G_is_class_word (hr.mono (by decide)) (by rfl) h_is_class_word.g h_is_class_word.F.kp h_is_class_word.b .nil pass0 (pa_cons (pv 3) pa_nil)))))))), ?_⟩
    refine r_isi rfl hx (kb_st d) ?_
    cases hx with
    | str z =>
      have hz := ok_str hok
      refine iteF ⟨.str z, rfl, ⟨z, rfl⟩, ?_⟩
      obtain ⟨l1, l2⟩ := part_len z
      refine ⟨z, ".", rfl, rfl, rfl, hz, fun p np => ⟨p, _, rfl, .inl (.inl upd_same), rfl, _, _, rfl, _, _, rfl, _, _, rfl, rfl, ?_⟩⟩
      have s1 := same_upd (o := .tup [.str (Txt.partition z ".").1, .str (Txt.partition z ".").2.1, .str (Txt.partition z ".").2.2]) np
      have k1 : Ok (.str (Txt.partition z ".").1) := .str _ (Nat.le_trans l1 (by cases hok with | str _ h => exact h))
      have k2 : Ok (.str (Txt.partition z ".").2.2) := .str _ (Nat.le_trans l2 (by cases hok with | str _ h => exact h))
      refine ⟨_, rfl, _, .str _, rfl, .str _, k1, fun H1 s2 => ⟨_, rfl, ite2 (fun e => ?_) (fun e => ?_)⟩⟩
      · refine ⟨_, rfl, _, .str _, rfl, .str _, k2, fun H2 s3 => ?_⟩
        have z0 := q H2 ((s1.trans s2).trans s3)
        rw [show isCname (.str z) = (isName (.str (Txt.partition z ".").1) && isWord (.str (Txt.partition z ".").2.2)) from rfl, e, Bool.true_and] at z0
        exact z0
      · have z0 := q H1 (s1.trans s2)
        rw [show isCname (.str z) = (isName (.str (Txt.partition z ".").1) && isWord (.str (Txt.partition z ".").2.2)) from rfl, Bool.eq_false_iff.mpr e, Bool.false_and] at z0
        exact z0
    | bl b => exact iteT (q H (Same.refl H))
    | non => exact iteT (q H (Same.refl H))
    | int z => exact iteT (q H (Same.refl H))
    | lst h1 h2 => exact iteT (q H (Same.refl H))
    | tup h1 h2 => exact iteT (q H (Same.refl H))
abbrev s_is_generic_name : Stmt := topS 12
theorem sc_is_generic_name : FnScope ["value", "module", "_", "name"] ["value"] (defScope s_is_generic_name) := ⟨rfl, rfl, rfl, by decide +kernel, rfl, by decide +kernel, by decide +kernel⟩
theorem ok_is_generic_name {f : Addr} {fd : FuncData} (F : Fun K "is_generic_name" "is_generic_name" s_is_generic_name f fd) {f_is_name : Addr} {d_is_name : FuncData} (h_is_name : Hd K mg "is_name" s_is_name ["value"] f_is_name d_is_name) (G_is_name : FnOk P w K mg base CX0 2 f_is_name d_is_name ["value"] (sp1 K isName)) (m_isinstance : mg "isinstance" = none) (m_str : mg "str" = none) : FnOk P w K mg base CX0 3 f fd ["value"] (sp1 K isGname) := by
  refine F.ok sc_is_generic_name (fun vs H Q E h => ?_) (fun cdv A outer s H vs Q E hr h => ?_)
  · obtain ⟨_, _, rfl, _⟩ := h
    rfl
  · obtain ⟨x, d, rfl, hx, hok, q⟩ := h
    refine ⟨_, (pss_cons (ps_if (pt_not (pt_val (pe_callB call_isi (by rfl) m_isinstance (by decide +kernel) (pa_cons (pv 0) (pa_cons (pe_bltn (v := .ty "str") (by rfl) m_str (by decide +kernel) rfl) pa_nil))))) (pss_one (ps_ret pe_bl)) pss_nil)
  (pss_cons (ps_asg (pe_partition (pv 0) pe_str) (pg_tup (n := 3) (by rfl) (pgs_cons (pg_name (i := 1) sc_is_generic_name.nd rfl (.inl rfl)) (pgs_cons (pg_name (i := 2) sc_is_generic_name.nd rfl (.inl rfl)) (pgs_cons (pg_name (i := 3) sc_is_generic_name.nd rfl (.inl rfl)) pgs_nil)))))
  (pss_one (ps_ret (pe_and (pe_call G_is_name (hr.mono (by decide)) (by rfl) h_is_name.g h_is_name.F.kp h_is_name.b .nil pass0 (pa_cons (pv 1) pa_nil)) (pe_one (pe_call G_is_name (hr.mono (by decide)) (by rfl) h_is_name.g h_is_name.F.kp h_is_name.b .nil pass0 (pa_cons (pv 3) pa_nil)))))))), ?_⟩
    refine r_isi rfl hx (kb_st d) ?_
    cases hx with
    | str z =>
      have hz := ok_str hok
      refine iteF ⟨.str z, rfl, ⟨z, rfl⟩, ?_⟩
      obtain ⟨l1, l2⟩ := part_len z
      refine ⟨z, ".", rfl, rfl, rfl, hz, fun p np => ⟨p, _, rfl, .inl (.inl upd_same), rfl, _, _, rfl, _, _, rfl, _, _, rfl, rfl, ?_⟩⟩
      have s1 := same_upd (o := .tup [.str (Txt.partition z ".").1, .str (Txt.partition z ".").2.1, .str (Txt.partition z ".").2.2]) np
      have k1 : Ok (.str (Txt.partition z ".").1) := .str _ (Nat.le_trans l1 (by cases hok with | str _ h => exact h))
      have k2 : Ok (.str (Txt.partition z ".").2.2) := .str _ (Nat.le_trans l2 (by cases hok with | str _ h => exact h))
      refine ⟨_, rfl, _, .str _, rfl, .str _, k1, fun H1 s2 => ⟨_, rfl, ite2 (fun e => ?_) (fun e => ?_)⟩⟩
      · refine ⟨_, rfl, _, .str _, rfl, .str _, k2, fun H2 s3 => ?_⟩
        have z0 := q H2 ((s1.trans s2).trans s3)
        rw [show isGname (.str z) = (isName (.str (Txt.partition z ".").1) && isName (.str (Txt.partition z ".").2.2)) from rfl, e, Bool.true_and] at z0
        exact z0
      · have z0 := q H1 (s1.trans s2)
        rw [show isGname (.str z) = (isName (.str (Txt.partition z ".").1) && isName (.str (Txt.partition z ".").2.2)) from rfl, Bool.eq_false_iff.mpr e, Bool.false_and] at z0
        exact z0
    | bl b => exact iteT (q H (Same.refl H))
    | non => exact iteT (q H (Same.refl H))
    | int z => exact iteT (q H (Same.refl H))
    | lst h1 h2 => exact iteT (q H (Same.refl H))
    | tup h1 h2 => exact iteT (q H (Same.refl H))
end
end Cw

set_option Elab.async false
set_option linter.all false
set_option maxRecDepth 100000
set_option maxHeartbeats 4000000
/-! # CwZip: zip of a tuple and a list. -/
namespace CwZ
open PySem RZ
section
variable {prog : Program} {w : World} {A : Around} {E : Value → Shared → Prop} {s : Shared} {zz ti ow ja jb la lb : Addr} {m n : Nat} {xs ys : Array Value} {x y p0 q0 : Value}
/-- what a turn finds -/
structure At (h : Heap) (zz ti ow ja jb la lb : Addr) (m n : Nat) (xs ys : Array Value) (p0 q0 : Value) : Prop where
  zip : IsZip h zz ti ow .none
  its : IsPair h ti (.ref ja) (.ref jb)
  own : IsPair h ow p0 q0
  ia : h.IsTupleIter ja la m
  ib : h.IsListIter jb lb n
  ta : h.IsTuple la xs
  lb : h.IsList lb ys
/-- what a turn with an item leaves -/
structure Gone (h h' : Heap) (zz ti ow ja jb la lb : Addr) (m n : Nat) (x y : Value) : Prop where
  zip : IsZip h' zz ti ow (rawInt h.objs.size)
  own : IsPair h' ow x y
  ia : h'.IsTupleIter ja la (m + 1)
  ib : h'.IsListIter jb lb (n + 1)
  new : IsPair h' h.objs.size x y
  size : h'.objs.size = h.objs.size + 1
  rest : ∀ c o, c ≠ zz → c ≠ ow → c ≠ ja → c ≠ jb → h.get? c = some o → h'.get? c = some o
theorem item {Q : Value → Shared → Prop} (D : ZipApart zz ti ow ja jb la lb) (T : At s.heap zz ti ow ja jb la lb m n xs ys p0 q0) (hx : xs[m]? = some x) (hy : ys[n]? = some y)
    (go : ∀ h', Gone s.heap h' zz ti ow ja jb la lb m n x y → Q (.ref s.heap.objs.size) { s with heap := h' }) :
    wpAny (model prog w) A (Builtin.«zip.__next__» ⟨[.ref zz], []⟩) (fun fin s' => ∃ v, fin = .done (.ret v) ∧ Q v s') E s := by
  obtain ⟨hz, hti, how, hja, hjb, hla, hlb⟩ := T
  show wpAny _ _ (field (.ref zz) 2 >>= _) _ _ s
  refine wpAny_bind (wpAny_field hz rfl (x := .bool false) rfl ?_)
  show wpAny _ _ (field (.ref zz) 3 >>= _) _ _ s
  refine wpAny_bind (wpAny_field hz rfl (x := .ref ti) rfl (wpAny_bind (wpAny_seqItems hti rfl ?_)))
  show wpAny _ _ (Builtin.SmallTypes.ownedTupleIsFree (.ref zz) >>= _) _ _ s
  unfold Builtin.SmallTypes.ownedTupleIsFree
  refine wpAny_bind (wpAny_bind (wpAny_field hz rfl (x := .none) rfl (wpAny_pure ?_)))
  simp only [if_true]
  refine wpAny_bind (wpAny_rule (wpAny_bind (wpAny_field hz rfl (x := .ref ow) rfl (wpAny_bind (wpAny_setField_rec hz (by simp) fun g1 z1 t1 => ?_)))))
  have z1' : IsZip g1 zz ti ow .ellipsis := z1
  refine wpAny_bind ?_
  simp only [List.zipIdx_cons, List.zipIdx_nil, List.forIn_cons, List.forIn_nil]
  -- the tuple's side
  refine wpAny_bind (wpAny_bind (wpAny_onRaise ?_))
  show wpAny _ _ (Builtin.SmallTypes.nextOf (.ref ja) >>= _) _ _ { s with heap := g1 }
  refine wpAny_bind (nextOf_tuple_item (hja.extBut t1.extBut D.i1z) (hla.extBut t1.extBut D.l1z) hx fun g2 ja2 t2 => wpAny_pure ?_)
  have ow2 : IsPair g2 ow p0 q0 := t2.extBut _ _ D.TOi1 (t1.extBut _ _ D.TOz how)
  refine wpAny_bind (wpAny_seqItems ow2 rfl (wpAny_bind (wpAny_updateSeq_pair ow2 fun g3 ow3 t3 => wpAny_bind (wpAny_letGo (wpAny_pure ?_)))))
  have ow3' : IsPair g3 ow x q0 := ow3
  -- the list's side
  refine wpAny_bind (wpAny_bind (wpAny_onRaise ?_))
  show wpAny _ _ (Builtin.SmallTypes.nextOf (.ref jb) >>= _) _ _ { s with heap := g3 }
  refine wpAny_bind (wpAny_nextOf_list_item (((hjb.extBut t1.extBut D.i2z).extBut t2.extBut D.i12.symm).extBut t3.extBut D.TOi2.symm) (((hlb.extBut t1.extBut D.l2z).extBut t2.extBut D.l2i1).extBut t3.extBut D.l2TO) hy fun g4 jb4 t4 => wpAny_pure ?_)
  have ow4 : IsPair g4 ow x q0 := t4.extBut _ _ D.TOi2 ow3'
  refine wpAny_bind (wpAny_seqItems ow4 rfl (wpAny_bind (wpAny_updateSeq_pair ow4 fun g5 ow5 t5 => wpAny_bind (wpAny_letGo (wpAny_pure (wpAny_pure ?_))))))
  have ow5' : IsPair g5 ow x y := ow5
  refine wpAny_bind (wpAny_seqItems ow5' rfl (wpAny_bind (wpAny_newTuple ?_)))
  have sz : g5.objs.size = s.heap.objs.size := by rw [t5.1, t4.1, t3.1, t2.1, t1.1]
  have z5 : IsZip g5 zz ti ow .ellipsis := t5.extBut _ _ D.TOz.symm (t4.extBut _ _ D.i2z.symm (t3.extBut _ _ D.TOz.symm (t2.extBut _ _ D.i1z.symm z1')))
  have up5 : ∀ c o, c ≠ zz → c ≠ ow → c ≠ ja → c ≠ jb → s.heap.get? c = some o → g5.get? c = some o := fun c o c1 c2 c3 c4 e => t5.extBut _ _ c2 (t4.extBut _ _ c4 (t3.extBut _ _ c2 (t2.extBut _ _ c3 (t1.extBut _ _ c1 e))))
  have ja5 : g5.IsTupleIter ja la (m + 1) := ((ja2.extBut t3.extBut D.TOi1.symm).extBut t4.extBut D.i12).extBut t5.extBut D.TOi1.symm
  have jb5 : g5.IsListIter jb lb (n + 1) := jb4.extBut t5.extBut D.TOi2.symm
  have zlt : zz < g5.objs.size := Heap.lt_size z5
  show wpAny _ _ (Builtin.SmallTypes.ownedTupleHandOut (.ref zz) (.ref g5.objs.size) >>= _) _ _ { s with heap := g5.push { cls := .type "tuple", data := .seq #[x, y] } }
  unfold Builtin.SmallTypes.ownedTupleHandOut
  have z6 : IsZip (g5.push { cls := .type "tuple", data := .seq #[x, y] }) zz ti ow .ellipsis := Heap.get?_push_of_some _ z5
  refine wpAny_bind (wpAny_bind (wpAny_setField_rec z6 (by simp) fun g7 z7 t7 => ?_))
  have z7' : IsZip g7 zz ti ow (rawInt g5.objs.size) := z7
  refine wpAny_setField_rec z7' (by simp) fun g8 z8 t8 => ?_
  have z8' : IsZip g8 zz ti ow (rawInt g5.objs.size) := z8
  have up8 : ∀ c o, c ≠ zz → g5.get? c = some o → g8.get? c = some o := fun c o c1 e => t8.extBut _ _ c1 (t7.extBut _ _ c1 (Heap.get?_push_of_some _ e))
  have n8 : IsPair g8 g5.objs.size x y := t8.extBut _ _ (Nat.ne_of_gt zlt) (t7.extBut _ _ (Nat.ne_of_gt zlt) (Heap.get?_push_size _ rfl))
  have s8 : g8.objs.size = g5.objs.size + 1 := by rw [t8.1, t7.1, Heap.size_push]
  rw [sz] at z8' n8 s8
  refine wpAny_pure ⟨_, rfl, ?_⟩
  show Q (.ref g5.objs.size) { s with heap := g8 }
  rw [sz]
  exact go g8 ⟨z8', up8 _ _ D.TOz ow5', ja5.at fun o e => up8 _ o D.i1z e, jb5.at fun o e => up8 _ o D.i2z e, n8, s8, fun c o c1 c2 c3 c4 e => up8 c o c1 (up5 c o c1 c2 c3 c4 e)⟩
theorem stop {Q : Fin → Shared → Prop} (hh : A.handled = none) (D : ZipApart zz ti ow ja jb la lb) (T : At s.heap zz ti ow ja jb la lb m n xs ys p0 q0) (over : xs[m]? = none ∨ ys[n]? = none)
    (go : ∀ h' e, (∀ c o, c ≠ zz → c ≠ ow → c ≠ ja → c ≠ jb → s.heap.get? c = some o → h'.get? c = some o) → (∃ o, h'.get? e = some o ∧ o.cls = .type "StopIteration") → E (.ref e) { s with heap := h' }) :
    wpAny (model prog w) A (Builtin.«zip.__next__» ⟨[.ref zz], []⟩) Q E s := by
  obtain ⟨hz, hti, how, hja, hjb, hla, hlb⟩ := T
  show wpAny _ _ (field (.ref zz) 2 >>= _) _ _ s
  refine wpAny_bind (wpAny_field hz rfl (x := .bool false) rfl ?_)
  show wpAny _ _ (field (.ref zz) 3 >>= _) _ _ s
  refine wpAny_bind (wpAny_field hz rfl (x := .ref ti) rfl (wpAny_bind (wpAny_seqItems hti rfl ?_)))
  show wpAny _ _ (Builtin.SmallTypes.ownedTupleIsFree (.ref zz) >>= _) _ _ s
  unfold Builtin.SmallTypes.ownedTupleIsFree
  refine wpAny_bind (wpAny_bind (wpAny_field hz rfl (x := .none) rfl (wpAny_pure ?_)))
  simp only [if_true]
  refine wpAny_bind (wpAny_rule (wpAny_bind (wpAny_field hz rfl (x := .ref ow) rfl (wpAny_bind (wpAny_setField_rec hz (by simp) fun g1 z1 t1 => ?_)))))
  have z1' : IsZip g1 zz ti ow .ellipsis := z1
  refine wpAny_bind ?_
  simp only [List.zipIdx_cons, List.zipIdx_nil, List.forIn_cons, List.forIn_nil]
  refine wpAny_bind (wpAny_bind (wpAny_onRaise ?_))
  show wpAny _ _ (Builtin.SmallTypes.nextOf (.ref ja) >>= _) _ _ { s with heap := g1 }
  have far : ∀ {h : Heap} {e : Addr} {o : Obj}, IsZip h zz ti ow .ellipsis → h.get? e = some o → o.cls = .type "StopIteration" → e ≠ zz := fun {h e o} k1 k2 k3 z => by
    rw [z, k1] at k2
    cases k2
    simp at k3
  cases hx : xs[m]? with
  | none =>
    refine wpAny_bind (nextOf_tuple_end hh (hja.extBut t1.extBut D.i1z) (hla.extBut t1.extBut D.l1z) hx fun g2 e t2 ⟨oe, he, ce⟩ => ?_)
    have z2 : IsZip g2 zz ti ow .ellipsis := t2 _ _ D.i1z.symm z1'
    exact wpAny_setField_rec z2 (by simp) fun g3 _ t3 => go g3 e (fun c o c1 _ c3 _ k => t3.extBut _ _ c1 (t2 _ _ c3 (t1.extBut _ _ c1 k))) ⟨oe, t3.extBut _ _ (far z2 he ce) he, ce⟩
  | some x =>
    have hy : ys[n]? = none := by
      rcases over with k | k
      · rw [hx] at k; cases k
      · exact k
    refine wpAny_bind (nextOf_tuple_item (hja.extBut t1.extBut D.i1z) (hla.extBut t1.extBut D.l1z) hx fun g2 ja2 t2 => wpAny_pure ?_)
    have ow2 : IsPair g2 ow p0 q0 := t2.extBut _ _ D.TOi1 (t1.extBut _ _ D.TOz how)
    refine wpAny_bind (wpAny_seqItems ow2 rfl (wpAny_bind (wpAny_updateSeq_pair ow2 fun g3 ow3 t3 => wpAny_bind (wpAny_letGo (wpAny_pure ?_)))))
    refine wpAny_bind (wpAny_bind (wpAny_onRaise ?_))
    show wpAny _ _ (Builtin.SmallTypes.nextOf (.ref jb) >>= _) _ _ { s with heap := g3 }
    refine wpAny_bind (wpAny_nextOf_list_end hh (((hjb.extBut t1.extBut D.i2z).extBut t2.extBut D.i12.symm).extBut t3.extBut D.TOi2.symm) (((hlb.extBut t1.extBut D.l2z).extBut t2.extBut D.l2i1).extBut t3.extBut D.l2TO) hy fun g4 e t4 ⟨oe, he, ce⟩ => ?_)
    have z4 : IsZip g4 zz ti ow .ellipsis := t4 _ _ D.i2z.symm (t3.extBut _ _ D.TOz.symm (t2.extBut _ _ D.i1z.symm z1'))
    exact wpAny_setField_rec z4 (by simp) fun g5 _ t5 => go g5 e (fun c o c1 c2 c3 c4 k => t5.extBut _ _ c1 (t4 _ _ c4 (t3.extBut _ _ c2 (t2.extBut _ _ c3 (t1.extBut _ _ c1 k))))) ⟨oe, t5.extBut _ _ (far z4 he ce) he, ce⟩
theorem next_item {Q : Option Value → Shared → Prop} (D : ZipApart zz ti ow ja jb la lb) (T : At s.heap zz ti ow ja jb la lb m n xs ys p0 q0) (hx : xs[m]? = some x) (hy : ys[n]? = some y)
    (go : ∀ h', Gone s.heap h' zz ti ow ja jb la lb m n x y → Q (some (.ref s.heap.objs.size)) { s with heap := h' }) : wpAny (model prog w) A (pyNext (.ref zz)) Q E s := by
  have isZ : s.TypeIs (.ref zz) "zip" := ⟨_, T.zip, rfl⟩
  unfold pyNext
  exact wpAny_bind (wpAny_attempt (wpAny_callSpecial?_slot (name := Str.ofString "__next__") isZ F.slot_zip_next (wpAny_call_entry F.slot_zip_next isZ F.entry_zip_next (item D T hx hy fun h' g => wpAny_pure (go h' g)) (F.args_zip_next_1 _))))
theorem next_stop {Q : Option Value → Shared → Prop} (hh : A.handled = none) (D : ZipApart zz ti ow ja jb la lb) (T : At s.heap zz ti ow ja jb la lb m n xs ys p0 q0) (over : xs[m]? = none ∨ ys[n]? = none)
    (go : ∀ h', (∀ c o, c ≠ zz → c ≠ ow → c ≠ ja → c ≠ jb → s.heap.get? c = some o → h'.get? c = some o) → Q none { s with heap := h' }) : wpAny (model prog w) A (pyNext (.ref zz)) Q E s := by
  have isZ : s.TypeIs (.ref zz) "zip" := ⟨_, T.zip, rfl⟩
  unfold pyNext
  refine wpAny_bind (wpAny_attempt (wpAny_callSpecial?_slot (name := Str.ofString "__next__") isZ F.slot_zip_next (wpAny_call_entry F.slot_zip_next isZ F.entry_zip_next (stop hh D T over fun h' e hk ⟨o, ho, hc⟩ => ?_) (F.args_zip_next_1 _))))
  exact wpAny_bind (wpAny_isInstance (T := "StopIteration") (b := true) ⟨o, ho, hc⟩ isSubtype_stop (wpAny_pure (go _ hk)))
end
/-! ### zip(t, l) made -/
abbrev m1 (h : Heap) (la : Addr) : Heap := h.push { cls := .type "tuple_iterator", data := .fields #[.ref la, .int 0 0] }
abbrev m2 (h : Heap) (la lb : Addr) : Heap := (m1 h la).push { cls := .type "list_iterator", data := .fields #[.ref lb, .int 0 0] }
abbrev m3 (h : Heap) (la lb : Addr) : Heap := (m2 h la lb).push { cls := .type "tuple", data := .seq #[.ref h.objs.size, .ref (m1 h la).objs.size] }
abbrev m4 (h : Heap) (la lb : Addr) : Heap := (m3 h la lb).push { cls := .type "tuple", data := .seq #[.none, .none] }
abbrev m5 (h : Heap) (la lb : Addr) : Heap := (m4 h la lb).push { cls := .type "zip", data := .fields #[.none, .bool false, .bool false, .ref (m2 h la lb).objs.size, .ref (m3 h la lb).objs.size] }
theorem meets_new (la lb : Addr) (xs ys : Array Value) :
    Meets (Builtin.«zip.__new__» ⟨[.type "zip", .ref la, .ref lb], []⟩) (fun _ R s => s.heap.IsTuple la xs ∧ s.heap.IsList lb ys ∧ R (.ok (.ret (.ref (m4 s.heap la lb).objs.size))) { s with heap := m5 s.heap la lb }) :=
  .of_wp fun prog w A R s h => by
    obtain ⟨h0, g, d, tk, os⟩ := s
    obtain ⟨ha, hb, h⟩ := h
    have hs := sub_zip
    have fa : Heap.IsTuple (Shared.heap ⟨h0, g, d, tk, os⟩) la xs := ha
    have fb : Heap.IsList (Shared.heap ⟨h0.push { cls := .type "tuple_iterator", data := .fields #[.ref la, .int 0 0] }, g, d, tk, os⟩) lb ys := Heap.IsList.push hb _
    wp_walk using wpAny_pyIter_tuple fa, wpAny_pyIter_list fb
    exact ⟨_, rfl, h⟩
section
variable {prog : Program} {w : World} {A : Around} {E : Value → Shared → Prop} {s : Shared}
theorem made {la lb : Addr} {xs ys : Array Value} {Q : Value → Shared → Prop} (ha : s.heap.IsTuple la xs) (hb : s.heap.IsList lb ys)
    (go : ∀ h', IsZip h' (s.heap.objs.size + 4) (s.heap.objs.size + 2) (s.heap.objs.size + 3) .none → IsPair h' (s.heap.objs.size + 2) (.ref s.heap.objs.size) (.ref (s.heap.objs.size + 1)) → IsPair h' (s.heap.objs.size + 3) .none .none →
      h'.IsTupleIter s.heap.objs.size la 0 → h'.IsListIter (s.heap.objs.size + 1) lb 0 → (∀ c o, s.heap.get? c = some o → h'.get? c = some o) → Q (.ref (s.heap.objs.size + 4)) { s with heap := h' }) :
    wpAny (model prog w) A (call (.type "zip") [.ref la, .ref lb]) Q E s := by
  refine callType_new F.called_zip (by decide) (F.typeCall_zip_2 _ _) (F.newCall_zip_2 _ _) (fun obj => F.args_object_init_3 obj _ _) F.entry_zip_new (meets_new la lb xs ys) ⟨ha, hb, ?_⟩
  have e1 : (m1 s.heap la).objs.size = s.heap.objs.size + 1 := Heap.size_push ..
  have e2 : (m2 s.heap la lb).objs.size = s.heap.objs.size + 2 := by rw [Heap.size_push, e1]
  have e3 : (m3 s.heap la lb).objs.size = s.heap.objs.size + 3 := by rw [Heap.size_push, e2]
  have e4 : (m4 s.heap la lb).objs.size = s.heap.objs.size + 4 := by rw [Heap.size_push, e3]
  have k5 : (m5 s.heap la lb).get? (m4 s.heap la lb).objs.size = some _ := Heap.get?_push_size _ rfl
  have k4 : (m5 s.heap la lb).get? (m3 s.heap la lb).objs.size = some _ := Heap.get?_push_of_some _ (Heap.get?_push_size _ rfl)
  have k3 : (m5 s.heap la lb).get? (m2 s.heap la lb).objs.size = some _ := Heap.get?_push_of_some _ (Heap.get?_push_of_some _ (Heap.get?_push_size _ rfl))
  have k2 : (m5 s.heap la lb).get? (m1 s.heap la).objs.size = some _ := Heap.get?_push_of_some _ (Heap.get?_push_of_some _ (Heap.get?_push_of_some _ (Heap.get?_push_size _ rfl)))
  have k1 : (m5 s.heap la lb).get? s.heap.objs.size = some _ := Heap.get?_push_of_some _ (Heap.get?_push_of_some _ (Heap.get?_push_of_some _ (Heap.get?_push_of_some _ (Heap.get?_push_size _ rfl))))
  show _ ∧ _
  rw [e2, e3, e4] at k5
  rw [e1, e2] at k3
  rw [e3] at k4
  rw [e1] at k2
  rw [e4]
  exact ⟨⟨_, k5, rfl⟩, go _ k5 k3 k4 ⟨_, k1, rfl, rfl⟩ ⟨_, k2, rfl, rfl⟩ fun c o k => Heap.get?_push_of_some _ (Heap.get?_push_of_some _ (Heap.get?_push_of_some _ (Heap.get?_push_of_some _ (Heap.get?_push_of_some _ k))))⟩
end
end CwZ
namespace L2
open PySem PySem.Spec PyProof.Rows
/-- the tuple at a and the list at b as they stand at each turn, the items in new pairs -/
def ItzM (K : PySem.W.Frag) (a b : Addr) : It where
  go := fun i H => ∃ (xs ys : List V) (x y : V), SqT K H a xs ∧ SqL K H b ys ∧ xs[i]? = some x ∧ ys[i]? = some y
  yld := fun i H v H' => ∃ T x y, v = .ref T ∧ H T = none ∧ H' = upd H T (.tup [x, y]) ∧ (∀ xs, SqT K H a xs → xs[i]? = some x) ∧ ∀ ys, SqL K H b ys → ys[i]? = some y
  stop := fun i H => ∃ xs ys : List V, SqT K H a xs ∧ SqL K H b ys ∧ (xs.length ≤ i ∨ ys.length ≤ i)
theorem five {c z t o i j : Addr} (h : c ∈ [z, t, o, i, j]) : c = z ∨ c = t ∨ c = o ∨ c = i ∨ c = j := by simpa using h
theorem turn_zipM {P : Program} {w : World} {K : PySem.W.Frag} {elts : List Expr} {kk : Nat} {tpos : Pos} {a b z ti ow ja jb : Addr} (D : ZipApart z ti ow ja jb a b) :
    Turn P w K (.Tuple elts kk tpos) (ItzM K a b) [z, ti, ow, ja, jb] z (fun i h => IsZip h z ti ow .none ∧ IsPair h ti (.ref ja) (.ref jb) ∧ (∃ x y, IsPair h ow x y) ∧ h.IsTupleIter ja a i ∧ h.IsListIter jb b i) where
  mem := List.mem_cons_self
  obj := fun i h ⟨hz, ht, ⟨x, y, ho⟩, ⟨o1, e1, _, d1⟩, ⟨o2, e2, _, d2⟩⟩ c hc => by
    rcases five hc with rfl | rfl | rfl | rfl | rfl
    · exact ⟨_, hz, fun v q => nomatch q⟩
    · exact ⟨_, ht, fun v q => nomatch q⟩
    · exact ⟨_, ho, fun v q => nomatch q⟩
    · exact ⟨o1, e1, fun v q => by rw [d1] at q; cases q⟩
    · exact ⟨o2, e2, fun v q => by rw [d2] at q; cases q⟩
  keep := fun i h h' ⟨hz, ht, ⟨x, y, ho⟩, h1, h2⟩ k => ⟨k z (by simp) _ hz, k ti (by simp) _ ht, ⟨x, y, k ow (by simp) _ ho⟩, h1.at fun o q => k ja (by simp) o q, h2.at fun o q => k jb (by simp) o q⟩
  item := by
    intro X hP hw hK hc i pins s σ H E I hf ⟨hz, ht, ⟨x0, y0, ho⟩, h1, h2⟩ ⟨xs, ys, x, y, qx, qy, hx, hy⟩
    subst hP hw hK
    obtain ⟨its, rv, p1, _⟩ := I.tuple qx
    obtain ⟨its2, rv2, p2, _⟩ := I.list qy
    obtain ⟨u, hu, ru⟩ := rv.get hx
    obtain ⟨u2, hu2, ru2⟩ := rv2.get hy
    have zl : z < s.heap.objs.size := Heap.lt_size hz
    refine CwZ.next_item D ⟨hz, ht, ho, h1, h2, p1, p2.isList⟩ (x := u) (y := u2) (by simpa using hu) (by simpa using hu2) fun h' g => ⟨_, rfl, wpAny_letOwnedTupleGo_zip (s := { s with heap := h' }) g.zip fun h3 z3 sb => ?_⟩
    have off : ∀ c, c ∉ [z, ti, ow, ja, jb] → c ≠ z ∧ c ≠ ow ∧ c ≠ ja ∧ c ≠ jb := fun c hb => ⟨fun q => hb (by simp [q]), fun q => hb (by simp [q]), fun q => hb (by simp [q]), fun q => hb (by simp [q])⟩
    have pair3 : h3.get? s.heap.objs.size = some { cls := .type "tuple", data := .seq #[u, u2] } := (sb.2 _ (Nat.ne_of_gt zl)).trans g.new
    have fresh : ObjOk X.prog X.w (upd H s.heap.objs.size (.tup [x, y])) h3 s.heap.objs.size (.tup [x, y]) := ⟨by show 2 ≤ sizeLine; decide, [u, u2], .cons ru (.cons ru2 .nil), ⟨_, pair3, rfl, _, rfl⟩⟩
    have J : Inv X pins σ (upd H s.heap.objs.size (.tup [x, y])) { s with heap := h3 } :=
      I.turnedNew (t' := s.toks) (ch := [z, ti, ow, ja, jb]) (fun c o hb q => (sb.2 c (off c hb).1).trans (g.rest c o (off c hb).1 (off c hb).2.1 (off c hb).2.2.1 (off c hb).2.2.2 q)) hf (Nat.le_refl _) fresh
    refine ⟨.ref s.heap.objs.size, _, J, rfl, ⟨_, x, y, rfl, I.hok.fresh (Nat.le_refl _), rfl, fun l hl => by rw [I.tuple_inj hl qx]; exact hx, fun l hl => by rw [I.list_inj hl qy]; exact hy⟩, ⟨z3, (sb.2 _ D.TIz).trans (g.rest _ _ D.TIz D.TITO D.TIi1 D.TIi2 ht), ⟨u, u2, (sb.2 _ D.TOz).trans g.own⟩, g.ia.at fun o q => (sb.2 _ D.i1z).trans q, g.ib.at fun o q => (sb.2 _ D.i2z).trans q⟩, fun c hcm => ?_⟩
    have lt : c < s.heap.objs.size := by
      rcases five hcm with rfl | rfl | rfl | rfl | rfl
      · exact zl
      · exact Heap.lt_size ht
      · exact Heap.lt_size ho
      · obtain ⟨_, e1, _⟩ := h1; exact Heap.lt_size e1
      · obtain ⟨_, e2, _⟩ := h2; exact Heap.lt_size e2
    rw [upd_ne (Nat.ne_of_lt lt)]
    exact (hf c hcm).1
  done := by
    intro X hP hw hK hc i pins s σ H E I hf ⟨hz, ht, ⟨x0, y0, ho⟩, h1, h2⟩ ⟨xs, ys, qx, qy, over⟩
    subst hP hw hK
    obtain ⟨its, rv, p1, _⟩ := I.tuple qx
    obtain ⟨its2, rv2, p2, _⟩ := I.list qy
    have n1 := rv.length
    have n2 := rv2.length
    have over' : its.toArray[i]? = none ∨ its2.toArray[i]? = none := by
      rcases over with q | q
      · exact .inl (by simp; omega)
      · exact .inr (by simp; omega)
    have off : ∀ c, c ∉ [z, ti, ow, ja, jb] → c ≠ z ∧ c ≠ ow ∧ c ≠ ja ∧ c ≠ jb := fun c hb => ⟨fun q => hb (by simp [q]), fun q => hb (by simp [q]), fun q => hb (by simp [q]), fun q => hb (by simp [q])⟩
    exact CwZ.next_stop (I.ok.hd hc) D ⟨hz, ht, ho, h1, h2, p1, p2.isList⟩ over' fun h' hk => ⟨rfl, I.turnedL (t' := s.toks) (ch := [z, ti, ow, ja, jb]) (fun c o hb q => hk c o (off c hb).1 (off c hb).2.1 (off c hb).2.2.1 (off c hb).2.2.2 q) hf⟩
  self := fun A i s Q E st h => wpAny_pyIter_zip st.1 h
/-- zip of a tuple and a sequence of either kind -/
def iZipM (K : PySem.W.Frag) (ta : TA) : TI := fun σ H R => ta σ H fun vs H1 => ∃ a b xs ys, vs = [.ref a, .ref b] ∧ SqT K H1 a xs ∧ ((SqL K H1 b ys ∧ R (ItzM K a b) H1) ∨ (SqT K H1 b ys ∧ R (RZ.ItzT K a b) H1))
theorem pi_zipM {X : Cx} {e e2 : Expr} {ta : TA} {p pos tpos : Pos} {elts : List Expr} {kk : Nat} (hg : Gl X "zip") (hm : X.mg "zip" = none) (ha : PA X [e, e2] ta)
    (hs : starEach [e, e2] X.env = (false, eval e X.env) :: starEach [e2] X.env := by rfl) (hpl : (backTo pos (starEach [e2] X.env)).any (·.1) = false := by rfl) :
    PI X (.Tuple elts kk tpos) (.Call (.Name "zip" p) [e, e2] [] pos) (iZipM X.K ta) := by
  refine ⟨fun pins s σ H R I h => Call_ (ld_blt I hg hm PyProof.Rows.boot_zip (PyProof.Rows.callWith_type1 (thn (ha.run pos pins s σ H _ I h) fun us s1 ⟨vs, H1, J, r1, a, b, xs, ys, ex, qa, q1⟩ => ?_) hs hpl))⟩
  subst ex
  obtain ⟨u1, u2, rfl, r1, r2⟩ := vals2 r1
  obtain rfl : u1 = Value.ref a := r1
  obtain rfl : u2 = Value.ref b := r2
  have free : ∀ c, c ∈ [s1.heap.objs.size + 4, s1.heap.objs.size + 2, s1.heap.objs.size + 3, s1.heap.objs.size, s1.heap.objs.size + 1] → FpOk X pins H1 c := fun c hcm => by
    have le : s1.heap.objs.size ≤ c := by rcases five hcm with rfl | rfl | rfl | rfl | rfl <;> omega
    exact J.fpOk le (J.hok.fresh le)
  obtain ⟨its, rv, p1, _⟩ := J.tuple qa
  obtain ⟨o1, ho1, _⟩ := id p1
  rcases q1 with ⟨qb, q⟩ | ⟨qb, q⟩
  · obtain ⟨its2, rv2, p2, _⟩ := J.list qb
    refine CwZ.made (show s1.heap.IsTuple a its.toArray from p1) p2.isList fun h' hz ht ho h1 h2 hk => wpAny_pyIter_zip hz ?_
    exact ⟨s1.heap.objs.size + 4, _, _, _, H1, rfl, J.kept (t' := s1.toks) hk, turn_zipM (PySem.W.ktu_apart s1.heap.objs.size a b (Heap.lt_size ho1) p2.lt), ⟨hz, ht, ⟨_, _, ho⟩, h1, h2⟩, free, q⟩
  · obtain ⟨its2, rv2, p2, _⟩ := J.tuple qb
    obtain ⟨o2, ho2, _⟩ := id p2
    refine RZ.call_zipT (show s1.heap.IsTuple a its.toArray from p1) (show s1.heap.IsTuple b its2.toArray from p2) fun h' hz ht ho h1 h2 hsz hk => wpAny_pyIter_zip hz ?_
    exact ⟨s1.heap.objs.size + 4, _, _, _, H1, rfl, J.kept (t' := s1.toks) hk, RZ.turn_zipT (PySem.W.ktu_apart s1.heap.objs.size a b (Heap.lt_size ho1) (Heap.lt_size ho2)), ⟨hz, ht, ⟨_, _, ho⟩, h1, h2⟩, free, q⟩
end L2

set_option Elab.async false
set_option linter.all false
set_option maxRecDepth 100000
set_option maxHeartbeats 4000000
/-! # CwZw: walks over zip of a tuple of the written part and a sequence of either kind; the tail of a sequence. -/
namespace L2
open PySem PySem.Spec PyProof.Rows
theorem sameU {H : Hp} {p : Addr} {o : HO} (h : H p = none) : Same H (upd H p o) := fun b x e => by
  by_cases k : b = p
  · rw [k, h] at e
    cases e
  · rw [upd_ne k]
    exact e
theorem seqA_at {K : PySem.W.Frag} {H H' : Hp} {a : Addr} {xs : List V} (s : ∀ o, H a = some o → H' a = some o) (h : SqA K H a xs) : SqA K H' a xs := by
  rcases h with ((h | ⟨o, h⟩) | h) | ((h | ⟨o, h⟩) | h)
  · exact .inl (.inl (.inl (s _ h)))
  · exact .inl (.inl (.inr ⟨o, s _ h⟩))
  · exact .inl (.inr h)
  · exact .inr (.inl (.inl (s _ h)))
  · exact .inr (.inl (.inr ⟨o, s _ h⟩))
  · exact .inr (.inr h)
theorem sql_at {K : PySem.W.Frag} {H H' : Hp} {a : Addr} {xs : List V} (s : ∀ o, H a = some o → H' a = some o) (h : SqL K H a xs) : SqL K H' a xs := by
  rcases h with (h | ⟨o, h⟩) | h
  · exact .inl (.inl (s _ h))
  · exact .inl (.inr ⟨o, s _ h⟩)
  · exact .inr h
theorem sqt_at {K : PySem.W.Frag} {H H' : Hp} {a : Addr} {xs : List V} (s : ∀ o, H a = some o → H' a = some o) (h : SqT K H a xs) : SqT K H' a xs := by
  rcases h with (h | ⟨o, h⟩) | h
  · exact .inl (.inl (s _ h))
  · exact .inl (.inr ⟨o, s _ h⟩)
  · exact .inr h
theorem cutV_one (xs : List V) : cutV xs (some 1) none = xs.drop 1 := by
  unfold cutV
  cases xs with
  | nil => rfl
  | cons x xs =>
    have e : HT.sIx (x :: xs).length 0 (some 1) = 1 := by
      rw [show (some (1 : Int)) = some ((1 : Nat) : Int) from rfl, HT.sIx_nat, List.length_cons]
      omega
    have e2 : HT.sIx (x :: xs).length (x :: xs).length none = (x :: xs).length := rfl
    rw [e, e2]
    exact List.take_of_length_le (by simp)
theorem sl_tail {K : PySem.W.Frag} {H : Hp} {a : Addr} {xs : List V} {Q : VK} (h : SqA K H a xs) (hn : 0 < xs.length) (q : ∀ p H1, H p = none → Same H H1 → SqA K H1 p (xs.drop 1) → Q (.ref p) H1) :
    rSlL K (.ref a) (some 1) none H Q ∨ rSlA K (.ref a) (some 1) none H Q := by
  rcases h with h | h
  · refine .inl ⟨a, xs, rfl, h, fun p hp => ?_⟩
    rw [cutV_one]
    exact q p _ hp (sameU hp) (.inl (SqL.of upd_same))
  · refine .inr ⟨a, xs, rfl, h, fun e => ?_, fun _ p hp => ?_⟩
    · exfalso
      have e1 := e.1
      rw [show (some (1 : Int)) = some ((1 : Nat) : Int) from rfl, HT.sIx_nat] at e1
      omega
    · rw [cutV_one]
      exact q p _ hp (sameU hp) (.inr (.inl (.inl upd_same)))
section
variable {K : PySem.W.Frag} {a b : Addr} {xs ys : List V}
theorem walk_zipM (hl : xs.length = ys.length) : Walk (ItzM K a b) xs.length (fun H => SqT K H a xs ∧ SqL K H b ys) (YPair (fun i => xs[i]?) (fun i => ys[i]?)) :=
  ⟨fun i _ hi q => ⟨xs, ys, xs[i], ys[i]'(by omega), q.1, q.2, by simp [hi], by simp [show i < ys.length by omega]⟩, fun _ q => ⟨xs, ys, q.1, q.2, .inl (Nat.le_refl _)⟩,
   fun _ _ _ _ _ q ⟨T, x, y, e1, e2, e3, e4, e5⟩ => ⟨T, x, y, e1, e2, e3, e4 _ q.1, e5 _ q.2⟩⟩
theorem walk_zipT (hl : xs.length = ys.length) : Walk (RZ.ItzT K a b) xs.length (fun H => SqT K H a xs ∧ SqT K H b ys) (YPair (fun i => xs[i]?) (fun i => ys[i]?)) :=
  ⟨fun i _ hi q => ⟨xs, ys, xs[i], ys[i]'(by omega), q.1, q.2, by simp [hi], by simp [show i < ys.length by omega]⟩, fun _ q => ⟨xs, ys, q.1, q.2, .inl (Nat.le_refl _)⟩,
   fun _ _ _ _ _ q ⟨T, x, y, e1, e2, e3, e4, e5⟩ => ⟨T, x, y, e1, e2, e3, e4 _ q.1, e5 _ q.2⟩⟩
/-- what zip is handed -/
theorem zip_it {ta : TA} {σ : St} {H : Hp} {R : It → Hp → Prop} (hx : ∀ H, SqT K H a xs) (hl : xs.length = ys.length) (e : ∀ R : List V → Hp → Prop, (∀ b H1, H b = none → Same H H1 → SqA K H1 b ys → R [.ref a, .ref b] H1) → ta σ H R)
    (r : ∀ H1 J G, Same H H1 → Walk J xs.length G (YPair (fun i => xs[i]?) (fun i => ys[i]?)) → (∀ H', Same H1 H' → G H') → R J H1) : iZipM K ta σ H R := by
  refine e _ fun b H1 fb s1 hb => ⟨a, b, xs, ys, rfl, hx H1, ?_⟩
  rcases hb with hb | hb
  · exact .inl ⟨hb, r H1 _ _ s1 (walk_zipM hl) fun H' s => ⟨hx H', s.seq hb⟩⟩
  · exact .inr ⟨hb, r H1 _ _ s1 (walk_zipT hl) fun H' s => ⟨hx H', sqt_stay s hb⟩⟩
theorem lc_zipM {ta : TA} {g : TG} {tt : TT} {te : TE} {vs : List Nat} {σ : St} {H : Hp} {Q : VK} (hx : ∀ H, SqT K H a xs) (hl : xs.length = ys.length) (e : ∀ R : List V → Hp → Prop, (∀ b H1, H b = none → Same H H1 → SqA K H1 b ys → R [.ref a, .ref b] H1) → ta σ H R)
    (Pv : Hp → Addr → Nat → Hp → Prop) (h0 : ∀ H1 D, Same H H1 → H1 D = none → Pv H1 D 0 (upd H1 D (.lst []))) (hk : ∀ H1 D i H', Pv H1 D i H' → Same H1 H')
    (hs : ∀ H1 D i x y T H', Same H H1 → H1 D = none → xs[i]? = some x → ys[i]? = some y → Pv H1 D i H' → H' T = none → g (.ref T) (wipe σ vs) (upd H' T (.tup [x, y])) fun σ2 H2 => wipe σ2 vs = wipe σ vs ∧ tt σ2 H2 fun b H3 =>
      if b = true then te σ2 H3 fun y H4 => ∃ acc, H4 D = some (.lst acc) ∧ acc.length < sizeLine ∧ Pv H1 D (i + 1) (upd H4 D (.lst (acc ++ [y]))) else Pv H1 D (i + 1) H3)
    (hd : ∀ H1 D H', Same H H1 → H1 D = none → Pv H1 D xs.length H' → Q (.ref D) H') : tLc (iZipM K ta) g tt te vs σ H Q := by
  refine zip_it hx hl e fun H1 J G s1 w hG D hD => lc_it w (Pv H1 D) (h0 H1 D s1 hD) (fun i H' _ p => hG H' (hk H1 D i H' p)) (fun i x H2 H3 _ p y => ?_) (fun H' p => hd H1 D H' s1 hD p)
  obtain ⟨T, x, y, rfl, e2, rfl, e4, e5⟩ := y
  exact hs H1 D i x y T H2 s1 hD e4 e5 p e2
theorem for_zipM {ta : TA} {g : TG} {tb : TS} {D : Ends} {σ : St} {H : Hp} {L : Addr} {oL : HO} (hL : H L = some oL) (hx : ∀ H, SqT K H a xs) (hl : xs.length = ys.length) (e : ∀ R : List V → Hp → Prop, (∀ b H1, H b = none → Same H H1 → SqA K H1 b ys → R [.ref a, .ref b] H1) → ta σ H R)
    (Pv : Hp → Nat → St → Hp → Prop) (h0 : ∀ H1, Same H H1 → Pv H1 0 σ H1) (hk : ∀ H1 i σ' H', Pv H1 i σ' H' → ∀ b o, b ≠ L → H1 b = some o → H' b = some o)
    (hs : ∀ H1 i x y T σ' H', Same H H1 → xs[i]? = some x → ys[i]? = some y → Pv H1 i σ' H' → H' T = none → g (.ref T) σ' (upd H' T (.tup [x, y])) fun σ2 H2 => tb { D with nx := Pv H1 (i + 1), ct := Pv H1 (i + 1), bk := D.nx } σ2 H2)
    (hd : ∀ H1 σ' H', Same H H1 → Pv H1 xs.length σ' H' → D.nx σ' H') : tFor (iZipM K ta) g tb D σ H := by
  refine e _ fun b H1 fb s1 hb => ⟨a, b, xs, ys, rfl, hx H1, ?_⟩
  have ne : b ≠ L := fun k => by rw [k, hL] at fb; cases fb
  rcases hb with hb | hb
  · refine .inl ⟨hb, for_it (walk_zipM hl) (Pv H1) (h0 H1 s1) (fun i σ' H' _ p => ⟨hx _, sql_at (fun o => hk H1 i σ' H' p b o ne) hb⟩) (fun i x σ' H2 H3 _ p y => ?_) (fun σ' H' p => hd H1 σ' H' s1 p)⟩
    obtain ⟨T, x, y, rfl, e2, rfl, e4, e5⟩ := y
    exact hs H1 i x y T σ' H2 s1 e4 e5 p e2
  · refine .inr ⟨hb, for_it (walk_zipT hl) (Pv H1) (h0 H1 s1) (fun i σ' H' _ p => ⟨hx _, sqt_at (fun o => hk H1 i σ' H' p b o ne) hb⟩) (fun i x σ' H2 H3 _ p y => ?_) (fun σ' H' p => hd H1 σ' H' s1 p)⟩
    obtain ⟨T, x, y, rfl, e2, rfl, e4, e5⟩ := y
    exact hs H1 i x y T σ' H2 s1 e4 e5 p e2
end
section
variable {X : Cx} {pos : Pos}
theorem pi_listK {tg l : Expr} {tl : TE} (K : PySem.W.Frag) (hK : X.K = K) (hl : PE X l tl) : PI X tg l (iList K tl) := by
  subst hK
  exact pi_list hl
/-- within a comprehension: the written part named from outside -/
theorem pg_tupK {es : List Expr} {k : Nat} {t : TGs} {n : Nat} (K : PySem.W.Frag) (hK : X.K = K) (hc : X.calm = true) (h : PGs X es t)
    (hn : (assignEach es X.env).length = n := by rfl) (hst : (assignEach es X.env).findIdx? (·.1) = none := by rfl) : PG X (.Tuple es k pos) (gTup K n t) := by
  subst hK
  exact pg_tup hc h hn hst
end
end L2

set_option Elab.async false
set_option linter.all false
set_option maxRecDepth 100000
set_option maxHeartbeats 4000000
namespace Cw
open PySem PySem.Spec PyProof.Rows L2
def items : PyData → List PyData | .list l => l | .tuple l => l | _ => []
def get (d : PyData) (i : Nat) : PyData := (items d).getD i .none
def allOf (lo hi : Int) (r : PyData → Bool) (d : PyData) : Bool := isSeq lo hi d && (items d).all r
def isNamed (d : PyData) : Bool := isSeq 2 2 d && (isName (get d 0) && isCname (get d 1))
def isClass (d : PyData) : Bool := isSeq 5 5 d && (isWord (get d 0) && (isOneOf ["open", "sealed"] (get d 1) && (isBo (get d 2) && (allOf 1 12 isCname (get d 3) && allOf 0 3 isNamed (get d 4)))))
def isGeneric (d : PyData) : Bool := isSeq 4 4 d && (isName (get d 0) && (allOf 1 3 isCname (get d 1) && (isInteger 1 ((items (get d 1)).length : Int) (get d 2) && isCname (get d 3))))
theorem ok_len {d : PyData} (h : Ok d) : (items d).length ≤ 100000 := by
  cases h with
  | list l h t => exact h
  | tuple l h t => exact h
  | _ => exact Nat.zero_le _
theorem ok_mem {d z : PyData} (h : Ok d) (m : z ∈ items d) : Ok z := by
  cases h with
  | list l h t => exact t z m
  | tuple l h t => exact t z m
  | _ => cases m
theorem ok_get {d : PyData} (h : Ok d) (i : Nat) : Ok ((items d).getD i .none) := by
  rw [List.getD_eq_getElem?_getD]
  cases e : (items d)[i]? with
  | none => exact .non
  | some z => exact ok_mem h (List.mem_of_getElem? e)
theorem seq_of {K : PySem.W.Frag} {H : Hp} {x : V} {d : PyData} {lo hi : Int} (hx : Dp K H x d) (hok : Ok d) (e : isSeq lo hi d = true) : ∃ a xs, x = .ref a ∧ SqA K H a xs ∧ DpAll K H xs (items d) ∧ xs.length = (items d).length ∧ ∀ z, z ∈ items d → Ok z := by
  cases hx with
  | lst h1 h2 => exact ⟨_, _, rfl, .inl h1, h2, (dp_get h2).1, fun z m => ok_mem hok m⟩
  | tup h1 h2 => exact ⟨_, _, rfl, .inr h1, h2, (dp_get h2).1, fun z m => ok_mem hok m⟩
  | _ => cases e
theorem seq_len {n : Nat} {d : PyData} (e : isSeq (n : Int) (n : Int) d = true) : (items d).length = n := by
  cases d with
  | list l =>
    obtain ⟨h1, h2⟩ := Bool.and_eq_true_iff.mp e
    have h1 := of_decide_eq_true h1
    have h2 := of_decide_eq_true h2
    show l.length = n
    omega
  | tuple l =>
    obtain ⟨h1, h2⟩ := Bool.and_eq_true_iff.mp e
    have h1 := of_decide_eq_true h1
    have h2 := of_decide_eq_true h2
    show l.length = n
    omega
  | _ => cases e
theorem ixA {K : PySem.W.Frag} {H : Hp} {a : Addr} {xs : List V} {i : Int} {v : V} {Q : VK} (h : SqA K H a xs) (e : atI xs i = some v) (q : Q v H) : rIx K (.ref a) (.int i) H Q := by
  rcases h with h | h
  · exact .inl ⟨a, xs, i, v, rfl, rfl, h, e, q⟩
  · exact .inr (.inl ⟨a, xs, i, v, rfl, rfl, h, e, q⟩)
def spAll (K : PySem.W.Frag) (S : Addr → Option Sp) : Sp := fun vs H Q _ => ∃ x d lo hi t r, vs = [x, .int lo, .int hi, .ref t] ∧ Dp K H x d ∧ Ok d ∧ S t = some (sp1 K r) ∧ ∀ H', Same H H' → Q (.bl (allOf lo hi r d)) H'
section
variable {P : Program} {w : World} {K : PySem.W.Frag} {mg : Str → Option Value} {base : Heap} {S : Addr → Option Sp}
abbrev s_are_all : Stmt := topS 28
theorem sc_are_all : FnScope ["value", "least", "most", "test", "one"] ["value", "least", "most", "test"] (defScope s_are_all) := ⟨rfl, rfl, rfl, by decide +kernel, rfl, by decide +kernel, by decide +kernel⟩
theorem ok_are_all {f : Addr} {fd : FuncData} (F : Fun K "are_all" "are_all" s_are_all f fd) {f_is_sequence : Addr} {d_is_sequence : FuncData} (h_is_sequence : Hd K mg "is_sequence" s_is_sequence ["value", "least", "most"] f_is_sequence d_is_sequence) (G_is_sequence : FnOk P w K mg base CX0 1 f_is_sequence d_is_sequence ["value", "least", "most"] (spSeq K)) (m_all : mg "all" = none) {n : Nat} (hn : 1 ≤ n) (A_test : ∀ f sp, S f = some sp → Held P w K mg base n f sp) : FnOk P w K mg base CX0 (n + 1) f fd ["value", "least", "most", "test"] (spAll K S) := by
  refine F.ok sc_are_all (fun vs H Q E h => ?_) (fun cdv A outer s H vs Q E hr h => ?_)
  · obtain ⟨_, _, _, _, _, _, rfl, _⟩ := h
    rfl
  · obtain ⟨x, d, lo, hi, t, r, rfl, hx, hok, hS, q⟩ := h
    refine ⟨_, (pss_one (ps_ret (pe_and (pe_call G_is_sequence (hr.mono (by omega)) (by rfl) h_is_sequence.g h_is_sequence.F.kp h_is_sequence.b .nil pass0 (pa_cons (pv 0) (pa_cons (pv 1) (pa_cons (pv 2) pa_nil)))) (pe_one (pe_callB (cr_all rfl) (by rfl) m_all (by decide +kernel) (pa_cons (pe_lc (own := [("one", 4)]) rfl sc_are_all.nd (pi_seq (pv 0)) (blkOk_by (N := ["value", "least", "most", "test", "one"]) (sc := defScope s_are_all) (by decide +kernel)) (fun _ _ _ _ _ => by exact (pg_name (i := 4) sc_are_all.nd rfl (.inl rfl))) (fun _ _ _ _ _ => by exact pts_nil) (fun _ _ _ _ _ => by exact (pe_callA (i := 3) A_test (hr.mono (by omega)) rfl (by first | exact Or.inl rfl | exact Or.inr (Or.inl rfl) | exact Or.inr (Or.inr rfl)) (pa_cons (pv 4) pa_nil)))) pa_nil)))))), ?_⟩
    refine ⟨x, rfl, .int lo, rfl, .int hi, rfl, x, d, lo, hi, rfl, hx, fun H1 s1 => ⟨_, rfl, ite2 (fun e => ?_) (fun e => ?_)⟩⟩
    · obtain ⟨a, xs, rfl, hq, hd, hl, hi2⟩ := seq_of (dp_keep s1 hx) hok e
      refine cb1 (lc_seq (fun R h => ⟨.ref a, rfl, h⟩) hq (fun D i H' => Same H1 H' ∧ H' D = some (.lst (((items d).take i).map fun z => V.bl (r z)))) (fun D hD => ⟨same_upd hD, upd_same⟩) (fun D i H' p => p.1) ?_ ?_)
      · rintro D i y H2 hD hy ⟨s2, e2⟩
        have hl2 : i < (items d).length := by rw [← hl]; exact (List.getElem?_eq_some_iff.mp hy).1
        obtain ⟨y', hy1, hy2⟩ := (dp_get hd).2 i (items d)[i] (List.getElem?_eq_getElem hl2)
        obtain rfl : y' = y := Option.some.inj (hy1.symm.trans hy)
        refine ⟨rfl, t, _, rfl, hS, _, rfl, _, _, rfl, dp_keep s2 hy2, hi2 _ (List.getElem_mem hl2), fun H4 s4 => ⟨_, s4 _ _ e2, ?_, same_mut (s2.trans s4) hD, ?_⟩⟩
        · rw [List.length_map, List.length_take]
          exact Nat.lt_of_le_of_lt (Nat.min_le_left _ _) (Nat.lt_of_lt_of_le hl2 (Nat.le_trans (ok_len hok) (by decide)))
        · rw [upd_same, List.take_add_one, List.getElem?_eq_getElem hl2, List.map_append]
          rfl
      · rintro D H2 hD ⟨s2, e2⟩
        rw [List.take_of_length_le (by rw [hl]; exact Nat.le_refl _)] at e2
        refine ⟨D, (items d).map r, rfl, SqL.of (by rw [e2, List.map_map]; rfl), ?_⟩
        have z0 := q H2 (s1.trans s2)
        rw [show allOf lo hi r d = (isSeq lo hi d && (items d).all r) from rfl, e, Bool.true_and] at z0
        rw [List.all_map]
        exact z0
    · have z0 := q H1 s1
      rw [show allOf lo hi r d = (isSeq lo hi d && (items d).all r) from rfl, Bool.eq_false_iff.mpr e, Bool.false_and] at z0
      exact z0
abbrev s_is_named_class : Stmt := topS 32
theorem sc_is_named_class : FnScope ["value"] ["value"] (defScope s_is_named_class) := ⟨rfl, rfl, rfl, by decide +kernel, rfl, by decide +kernel, by decide +kernel⟩
theorem ok_is_named_class {f : Addr} {fd : FuncData} (F : Fun K "is_named_class" "is_named_class" s_is_named_class f fd) {f_is_sequence : Addr} {d_is_sequence : FuncData} (h_is_sequence : Hd K mg "is_sequence" s_is_sequence ["value", "least", "most"] f_is_sequence d_is_sequence) (G_is_sequence : FnOk P w K mg base CX0 1 f_is_sequence d_is_sequence ["value", "least", "most"] (spSeq K)) {f_is_name : Addr} {d_is_name : FuncData} (h_is_name : Hd K mg "is_name" s_is_name ["value"] f_is_name d_is_name) (G_is_name : FnOk P w K mg base CX0 2 f_is_name d_is_name ["value"] (sp1 K isName)) {f_is_class_name : Addr} {d_is_class_name : FuncData} (h_is_class_name : Hd K mg "is_class_name" s_is_class_name ["value"] f_is_class_name d_is_class_name) (G_is_class_name : FnOk P w K mg base CX0 3 f_is_class_name d_is_class_name ["value"] (sp1 K isCname)) : FnOk P w K mg base CX0 4 f fd ["value"] (sp1 K isNamed) := by
  refine F.ok sc_is_named_class (fun vs H Q E h => ?_) (fun cdv A outer s H vs Q E hr h => ?_)
  · obtain ⟨_, _, rfl, _⟩ := h
    rfl
  · obtain ⟨x, d, rfl, hx, hok, q⟩ := h
    refine ⟨_, (pss_one (ps_ret (pe_and (pe_call G_is_sequence (hr.mono (by decide)) (by rfl) h_is_sequence.g h_is_sequence.F.kp h_is_sequence.b .nil pass0 (pa_cons (pv 0) (pa_cons pe_int (pa_cons pe_int pa_nil)))) (pe_and (pe_call G_is_name (hr.mono (by decide)) (by rfl) h_is_name.g h_is_name.F.kp h_is_name.b .nil pass0 (pa_cons (pe_ix ix_seq (pv 0) pe_int (fun _ _ => rfl)) pa_nil)) (pe_one (pe_call G_is_class_name (hr.mono (by decide)) (by rfl) h_is_class_name.g h_is_class_name.F.kp h_is_class_name.b .nil pass0 (pa_cons (pe_ix ix_seq (pv 0) pe_int (fun _ _ => rfl)) pa_nil))))))), ?_⟩
    refine ⟨x, rfl, x, d, 2, 2, rfl, hx, fun H1 s1 => ⟨_, rfl, ite2 (fun e => ?_) (fun e => ?_)⟩⟩
    · have hd1 := dp_keep s1 hx
      obtain ⟨a, xs, rfl, hq, hd, hl, hi2⟩ := seq_of hd1 hok e
      have h2 : (items d).length = 2 := seq_len e
      obtain ⟨x0, y0, k0⟩ := (dp_get hd).2 0 (get d 0) (by unfold get; rw [List.getD_eq_getElem?_getD, List.getElem?_eq_getElem (by omega)]; rfl)
      obtain ⟨x1, y1, k1⟩ := (dp_get hd).2 1 (get d 1) (by unfold get; rw [List.getD_eq_getElem?_getD, List.getElem?_eq_getElem (by omega)]; rfl)
      have o0 : Ok (get d 0) := ok_get hok _
      have o1 : Ok (get d 1) := ok_get hok _
      refine ⟨.ref a, rfl, ixA hq (atI_nat (j := 0) y0) ⟨x0, _, rfl, k0, o0, fun H2 s2 => ⟨_, rfl, ite2 (fun e2 => ?_) (fun e2 => ?_)⟩⟩⟩
      · refine ⟨.ref a, rfl, ixA (hq.keep s2) (atI_nat (j := 1) y1) ⟨x1, _, rfl, dp_keep s2 k1, o1, fun H3 s3 => ?_⟩⟩
        have z0 := q H3 ((s1.trans s2).trans s3)
        rw [isNamed, e, e2, Bool.true_and, Bool.true_and] at z0
        exact z0
      · have z0 := q H2 (s1.trans s2)
        rw [isNamed, e, Bool.eq_false_iff.mpr e2, Bool.true_and, Bool.false_and] at z0
        exact z0
    · have z0 := q H1 s1
      rw [isNamed, Bool.eq_false_iff.mpr e, Bool.false_and] at z0
      exact z0
end
end Cw

set_option Elab.async false
set_option linter.all false
set_option maxRecDepth 100000
set_option maxHeartbeats 4000000
namespace Cw
open PySem PySem.Spec PyProof.Rows L2
def isMember (k : Str) (d : PyData) : Bool :=
  if k = "number" then isInteger 0 65535 d else if k = "name" then isName d else if k = "class" then isCname d else if k = "generic" then isGname d else if k = "values" then isSeq 0 12 d else if k = "arguments" then isSeq 1 3 d else true
/-- the kinds that are no parts -/
def Kind6 (k : Str) : Prop := k = "number" ∨ k = "name" ∨ k = "class" ∨ k = "generic" ∨ k = "values" ∨ k = "arguments"
def spMember (K : PySem.W.Frag) : Sp := fun vs H Q _ => ∃ k x d, vs = [.str k, x] ∧ Dp K H x d ∧ Ok d ∧ Kind6 k ∧ ∀ H', Same H H' → Q (.bl (isMember k d)) H'
theorem str_of {k z : Str} (e : decide (V.str k = V.str z) = true) : k = z := V.str.inj (of_decide_eq_true e)
theorem str_to {k z : Str} (e : k = z) : decide (V.str k = V.str z) = true := decide_eq_true (by rw [e])
section
variable {P : Program} {w : World} {K : PySem.W.Frag} {mg : Str → Option Value} {base : Heap} {S : Addr → Option Sp}
abbrev s_is_member : Stmt := topS 34
theorem sc_is_member : FnScope ["kind", "value"] ["kind", "value"] (defScope s_is_member) := ⟨rfl, rfl, rfl, by decide +kernel, rfl, by decide +kernel, by decide +kernel⟩
theorem ok_is_member {f : Addr} {fd : FuncData} (F : Fun K "is_member" "is_member" s_is_member f fd) {f_is_integer : Addr} {d_is_integer : FuncData} (h_is_integer : Hd K mg "is_integer" s_is_integer ["value", "least", "most"] f_is_integer d_is_integer) (G_is_integer : FnOk P w K mg base CX0 1 f_is_integer d_is_integer ["value", "least", "most"] (spInteger K)) {f_is_name : Addr} {d_is_name : FuncData} (h_is_name : Hd K mg "is_name" s_is_name ["value"] f_is_name d_is_name) (G_is_name : FnOk P w K mg base CX0 2 f_is_name d_is_name ["value"] (sp1 K isName)) {f_is_class_name : Addr} {d_is_class_name : FuncData} (h_is_class_name : Hd K mg "is_class_name" s_is_class_name ["value"] f_is_class_name d_is_class_name) (G_is_class_name : FnOk P w K mg base CX0 3 f_is_class_name d_is_class_name ["value"] (sp1 K isCname)) {f_is_generic_name : Addr} {d_is_generic_name : FuncData} (h_is_generic_name : Hd K mg "is_generic_name" s_is_generic_name ["value"] f_is_generic_name d_is_generic_name) (G_is_generic_name : FnOk P w K mg base CX0 3 f_is_generic_name d_is_generic_name ["value"] (sp1 K isGname)) {f_is_sequence : Addr} {d_is_sequence : FuncData} (h_is_sequence : Hd K mg "is_sequence" s_is_sequence ["value", "least", "most"] f_is_sequence d_is_sequence) (G_is_sequence : FnOk P w K mg base CX0 1 f_is_sequence d_is_sequence ["value", "least", "most"] (spSeq K)) {u_LARGEST : Value} (h_LARGEST : Cst K mg "LARGEST" (.int 65535) u_LARGEST) {u_MOST_VALUES : Value} (h_MOST_VALUES : Cst K mg "MOST_VALUES" (.int 12) u_MOST_VALUES) {u_MOST_TAKES : Value} (h_MOST_TAKES : Cst K mg "MOST_TAKES" (.int 3) u_MOST_TAKES) : FnOk P w K mg base CX0 4 f fd ["kind", "value"] (spMember K) := by
  refine F.ok sc_is_member (fun vs H Q E h => ?_) (fun cdv A outer s H vs Q E hr h => ?_)
  · obtain ⟨_, _, _, rfl, _⟩ := h
    rfl
  · obtain ⟨k, x, d, rfl, hx, hok, hk, q⟩ := h
    refine ⟨_, (pss_cons (ps_if (pt_cmpR op_eq (pv 0) pe_str (nomark _)) (pss_one (ps_ret (pe_call G_is_integer (hr.mono (by decide)) (by rfl) h_is_integer.g h_is_integer.F.kp h_is_integer.b .nil pass0 (pa_cons (pv 1) (pa_cons pe_int (pa_cons (pe_glob (v := .int 65535) rfl h_LARGEST.g h_LARGEST.r) pa_nil)))))) pss_nil)
  (pss_cons (ps_if (pt_cmpR op_eq (pv 0) pe_str (nomark _)) (pss_one (ps_ret (pe_call G_is_name (hr.mono (by decide)) (by rfl) h_is_name.g h_is_name.F.kp h_is_name.b .nil pass0 (pa_cons (pv 1) pa_nil)))) pss_nil)
  (pss_cons (ps_if (pt_cmpR op_eq (pv 0) pe_str (nomark _)) (pss_one (ps_ret (pe_call G_is_class_name (hr.mono (by decide)) (by rfl) h_is_class_name.g h_is_class_name.F.kp h_is_class_name.b .nil pass0 (pa_cons (pv 1) pa_nil)))) pss_nil)
  (pss_cons (ps_if (pt_cmpR op_eq (pv 0) pe_str (nomark _)) (pss_one (ps_ret (pe_call G_is_generic_name (hr.mono (by decide)) (by rfl) h_is_generic_name.g h_is_generic_name.F.kp h_is_generic_name.b .nil pass0 (pa_cons (pv 1) pa_nil)))) pss_nil)
  (pss_cons (ps_if (pt_cmpR op_eq (pv 0) pe_str (nomark _)) (pss_one (ps_ret (pe_call G_is_sequence (hr.mono (by decide)) (by rfl) h_is_sequence.g h_is_sequence.F.kp h_is_sequence.b .nil pass0 (pa_cons (pv 1) (pa_cons pe_int (pa_cons (pe_glob (v := .int 12) rfl h_MOST_VALUES.g h_MOST_VALUES.r) pa_nil)))))) pss_nil)
  (pss_one (ps_ret (pe_call G_is_sequence (hr.mono (by decide)) (by rfl) h_is_sequence.g h_is_sequence.F.kp h_is_sequence.b .nil pass0 (pa_cons (pv 1) (pa_cons pe_int (pa_cons (pe_glob (v := .int 3) rfl h_MOST_TAKES.g h_MOST_TAKES.r) pa_nil))))))))))), ?_⟩
    refine ⟨.str k, rfl, rfl, _, rfl, ite2 (fun e => ⟨x, rfl, x, d, 0, 65535, rfl, hx, fun H1 s1 => ?_⟩) (fun e => ?_)⟩
    · have z0 := q H1 s1
      rw [isMember, if_pos (str_of e)] at z0
      exact z0
    have g0 := mt (str_to (z := "number")) e
    refine ⟨.str k, rfl, rfl, _, rfl, ite2 (fun e => ⟨x, rfl, x, d, rfl, hx, hok, fun H1 s1 => ?_⟩) (fun e => ?_)⟩
    · have z0 := q H1 s1
      rw [isMember, if_neg g0, if_pos (str_of e)] at z0
      exact z0
    have g1 := mt (str_to (z := "name")) e
    refine ⟨.str k, rfl, rfl, _, rfl, ite2 (fun e => ⟨x, rfl, x, d, rfl, hx, hok, fun H1 s1 => ?_⟩) (fun e => ?_)⟩
    · have z0 := q H1 s1
      rw [isMember, if_neg g0, if_neg g1, if_pos (str_of e)] at z0
      exact z0
    have g2 := mt (str_to (z := "class")) e
    refine ⟨.str k, rfl, rfl, _, rfl, ite2 (fun e => ⟨x, rfl, x, d, rfl, hx, hok, fun H1 s1 => ?_⟩) (fun e => ?_)⟩
    · have z0 := q H1 s1
      rw [isMember, if_neg g0, if_neg g1, if_neg g2, if_pos (str_of e)] at z0
      exact z0
    have g3 := mt (str_to (z := "generic")) e
    refine ⟨.str k, rfl, rfl, _, rfl, ite2 (fun e => ⟨x, rfl, x, d, 0, 12, rfl, hx, fun H1 s1 => ?_⟩) (fun e => ?_)⟩
    · have z0 := q H1 s1
      rw [isMember, if_neg g0, if_neg g1, if_neg g2, if_neg g3, if_pos (str_of e)] at z0
      exact z0
    have g4 := mt (str_to (z := "values")) e
    have g5 : k = "arguments" := by
      rcases hk with h | h | h | h | h | h
      · exact absurd h g0
      · exact absurd h g1
      · exact absurd h g2
      · exact absurd h g3
      · exact absurd h g4
      · exact h
    refine ⟨x, rfl, x, d, 1, 3, rfl, hx, fun H1 s1 => ?_⟩
    have z0 := q H1 s1
    rw [isMember, if_neg g0, if_neg g1, if_neg g2, if_neg g3, if_neg g4, if_pos g5] at z0
    exact z0
end
end Cw

set_option Elab.async false
set_option linter.all false
set_option maxRecDepth 100000
set_option maxHeartbeats 4000000
namespace Cw
open PySem PySem.Spec PyProof.Rows L2
def kindsOf (z : Str) : Option (List Str) :=
  if z = "int" then some ["number"] else if z = "name" then some ["name"] else if z = "next" then some [] else if z = "new" then some ["class", "values"] else if z = "field" then some ["part", "class", "name"] else if z = "call" then some ["generic", "arguments"]
  else if z = "add" then some ["part", "part"] else if z = "sub" then some ["part", "part"] else if z = "mul" then some ["part", "part"] else if z = "if" then some ["part", "part", "part"] else if z = "let" then some ["name", "part", "part"] else none
def formL (z : Str) (r : List PyData) : Bool := match kindsOf z with
  | none => false
  | some ks => decide (r.length = ks.length) && (ks.zip r).all fun p => isMember p.1 p.2
def hasForm (d : PyData) : Bool := match items d with
  | .str z :: r => formL z r
  | _ => false
/-- the kinds' dict as the top has written it -/
def Forms (K : PySem.W.Frag) (w : World) (a : Addr) : Prop := ∃ es n, KDict K w a es n ∧ ∀ z, (kindsOf z = none → PySem.W.nsIn K a z = some none) ∧ ∀ ks, kindsOf z = some ks → ∃ p, PySem.W.nsIn K a z = some (some (.ref p)) ∧ ∀ H : Hp, SqT K H p (ks.map V.str)
theorem nextA {D : Ends} {σ : L2.St} {H : Hp} (h : D.nx σ H) : tNext D σ H := h
theorem retA {te : TE} {D : Ends} {σ : L2.St} {H : Hp} (h : te σ H D.rt) : tRet te D σ H := h
theorem sq_split {K : PySem.W.Frag} {H : Hp} {x : V} {d : PyData} (h : Dp K H x d) : (isSq d = false ∧ items d = []) ∨ ∃ a xs, x = .ref a ∧ SqA K H a xs ∧ DpAll K H xs (items d) ∧ isSq d = true := by
  cases h with
  | lst h1 h2 => exact .inr ⟨_, _, rfl, .inl h1, h2, rfl⟩
  | tup h1 h2 => exact .inr ⟨_, _, rfl, .inr h1, h2, rfl⟩
  | _ => exact .inl ⟨rfl, rfl⟩
end Cw

set_option Elab.async false
set_option linter.all false
set_option maxRecDepth 100000
set_option maxHeartbeats 4000000
/-! # CwExt: l.extend(s), s a sequence of either kind, in the heap or written. -/
namespace CwX
open PySem AutoSeq1
set_option maxRecDepth 8000 in
theorem ext_any (k : String) (hkd : k = "list" ∨ k = "tuple") (l : Addr) (xs : Array Value) (n : Nat) (b : Addr) (ys : Array Value) (n2 : Nat) (dd : Option Addr) (sl : Array (Option Value)) (h0 : ¬(!xs.isEmpty && Builtin.List.listTooLong (xs.size + ys.size)) = true) (h1 : xs.size ≤ sizeLine) (h2 : xs.size + ys.size ≤ sizeLine + 1) :
    Meets (Builtin.«list.extend» ⟨[.ref l, .ref b], []⟩) (fun _ R s => s.heap.get? l = some { cls := .type "list", data := .seq xs n } ∧ s.heap.get? b = some ⟨.type k, dd, .seq ys n2, sl⟩ ∧ R (.ok (.ret Value.none)) { s with heap := s.heap.update l (Obj.mapSeq fun x => x ++ ys), toks := s.toks }) :=
  .of_wp fun prog w A R s h => by
    obtain ⟨hp, g, d, tk, os⟩ := s
    obtain ⟨hl, hb, h⟩ := h
    have f1 := idx_int
    have f2 := AutoSeq1.sub_tuple_tuple
    have f3 := AutoSeq1.sub_list_list
    have f4 := AutoSeq1.sub_tuple_list
    have f5 := AutoSeq1.sub_list_tuple
    have hz' : (xs ++ ys).size ≤ sizeLine + 1 := by rw [Array.size_append]; exact h2
    rcases hkd with rfl | rfl <;> (wp_walk using (wpAny_updateSeq hl rfl (hz := h1) (_hz' := hz')), wpAny_loadPart' hl, wpAny_loadPart' hb; exact ⟨_, rfl, h⟩)
end CwX
namespace L2
open PySem PySem.Spec PyProof.Rows
def rExtA (K : PySem.W.Frag) : V → List V → Hp → VK → Prop := fun x vs H Q => ∃ l b xs zs, x = .ref l ∧ vs = [.ref b] ∧ H l = some (.lst xs) ∧ SqA K H b zs ∧ xs.length + zs.length ≤ sizeLine ∧ Q .non (upd H l (.lst (xs ++ zs)))
theorem mt_extendA {X : Cx} : MtM X "list.extend" (rExtA X.K) := by
  intro pins s σ H x vs v us Q I rx rv h
  obtain ⟨l, b, xs, zs, rfl, rfl, hH, hB, hz, q⟩ := h
  cases rx
  obtain ⟨u, rfl, ru⟩ := rv.one
  cases ru
  obtain ⟨z, its, n, r, hl, e⟩ := I.lstM hH
  obtain ⟨k, hk, its2, r2, n2, dd, sl, e2⟩ : ∃ k, (k = "list" ∨ k = "tuple") ∧ ∃ its2 : List Value, Vals zs its2 ∧ ∃ n2 dd sl, s.heap.get? b = some ⟨.type k, dd, .seq its2.toArray n2, sl⟩ := by
    rcases hB with hB | hB
    · obtain ⟨its2, r2, ⟨o, n2, ho, hc, _, hd⟩, _⟩ := I.list hB
      obtain ⟨c, dd, da, sl⟩ := o
      cases hc
      cases hd
      exact ⟨_, .inl rfl, its2, r2, n2, dd, sl, ho⟩
    · obtain ⟨its2, r2, ⟨o, ho, hc, n2, hd⟩, _⟩ := I.tuple hB
      obtain ⟨c, dd, da, sl⟩ := o
      cases hc
      cases hd
      exact ⟨_, .inr rfl, its2, r2, n2, dd, sl, ho⟩
  have hl2 := r2.length
  have hsz : its.toArray.size + its2.toArray.size ≤ sizeLine := by rw [List.size_toArray, List.size_toArray]; omega
  have hlong : ¬ (!its.toArray.isEmpty && Builtin.List.listTooLong (its.toArray.size + its2.toArray.size)) = true := by
    rw [notLongL hsz, Bool.and_false]
    exact Bool.false_ne_true
  refine call_meets F.slot_list_extend ⟨_, e, rfl⟩ F.entry_list_extend (F.args_list_extend_2 _ _)
    (CwX.ext_any k hk l its.toArray n b its2.toArray n2 dd sl hlong (by rw [List.size_toArray]; omega) (by omega)) ⟨e, e2, ?_⟩
  refine ⟨.non, _, I.lset (its' := its ++ its2) hH e (by simp) (r.append r2) ?_, rfl, q⟩
  rw [List.length_append]
  omega
end L2

set_option Elab.async false
set_option linter.all false
set_option maxRecDepth 100000
set_option maxHeartbeats 4000000
namespace Cw
open PySem PySem.Spec PyProof.Rows L2
def partOf (p : Str × PyData) : List PyData := (if p.1 = "part" then [p.2] else []) ++ (if isOneOf ["values", "arguments"] (.str p.1) = true then items p.2 else [])
def partsL (z : Str) (r : List PyData) : List PyData := match kindsOf z with
  | none => []
  | some ks => (ks.zip r).flatMap partOf
def partsOf (d : PyData) : List PyData := match items d with
  | .str z :: r => partsL z r
  | _ => []
def spForm (K : PySem.W.Frag) : Sp := fun vs H Q _ => ∃ x d H0, vs = [x] ∧ Same H0 H ∧ Dp K H0 x d ∧ Ok d ∧ (hasForm d = false → ∀ H', Same H H' → Q .non H') ∧ (hasForm d = true → ∀ H' L ys, Same H H' → H' L = some (.lst ys) → H L = none → DpAll K H0 ys (partsOf d) → Q (.ref L) H')
theorem asgA {te : TE} {g : TG} {D : Ends} {σ : L2.St} {H : Hp} (h : te σ H fun x H1 => g x σ H1 D.nx) : tAsg te g D σ H := h
theorem kinds_six {z : Str} {ks : List Str} (h : kindsOf z = some ks) {k : Str} (m : k ∈ ks) (n : k ≠ "part") : Kind6 k := by
  unfold kindsOf at h
  unfold Kind6
  repeat' split at h
  all_goals (first | (cases h; done) | (cases h; first | (simp [n] at m; done) | (simp [n] at m; rcases m with rfl | rfl <;> simp; done) | (simp [n] at m; subst m; simp; done) | (simp [n] at m; done)))
theorem nameA {i : Nat} {v : V} {σ : L2.St} {H : Hp} {Q : L2.St → Hp → Prop} (h : Q (σ.set i (some v)) H) : gName i v σ H Q := h
theorem seqA {t u : TS} {D : Ends} {σ : L2.St} {H : Hp} (h : t { D with nx := u D } σ H) : tSeq t u D σ H := h
theorem dps_app {K : PySem.W.Frag} {H : Hp} : ∀ {xs ys : List V} {ds es : List PyData}, DpAll K H xs ds → DpAll K H ys es → DpAll K H (xs ++ ys) (ds ++ es)
  | _, _, _, _, .nil, h => h
  | _, _, _, _, .cons h t, g => .cons h (dps_app t g)
theorem kinds_len {z : Str} {ks : List Str} (h : kindsOf z = some ks) : ks.length ≤ 3 := by
  unfold kindsOf at h
  repeat' split at h
  all_goals (cases h <;> decide)
theorem form_of {d : PyData} (h : hasForm d = true) : ∃ z r ks, items d = .str z :: r ∧ kindsOf z = some ks ∧ r.length = ks.length ∧ ∀ (i : Nat) (h1 : i < ks.length) (h2 : i < r.length), isMember ks[i] r[i] = true := by
  unfold hasForm at h
  split at h
  · rename_i z r ei
    cases ek : kindsOf z with
    | none => rw [formL, ek] at h; cases h
    | some ks =>
      rw [show formL z r = (decide (r.length = ks.length) && (ks.zip r).all fun p => isMember p.1 p.2) by rw [formL, ek]] at h
      obtain ⟨h1, h2⟩ := Bool.and_eq_true_iff.mp h
      refine ⟨z, r, ks, ei, ek, of_decide_eq_true h1, fun i g1 g2 => ?_⟩
      have := List.all_eq_true.mp h2 (ks[i], r[i]) (by rw [List.mem_iff_getElem]; exact ⟨i, by rw [List.length_zip]; omega, by rw [List.getElem_zip]⟩)
      exact this
  · cases h
theorem seq_le {lo hi lo' hi' : Int} {d : PyData} (h : isSeq lo hi d = true) (h2 : hi ≤ hi') (h1 : lo' ≤ lo) : isSeq lo' hi' d = true := by
  cases d with
  | list l =>
    obtain ⟨a, b⟩ := Bool.and_eq_true_iff.mp h
    exact Bool.and_eq_true_iff.mpr ⟨decide_eq_true (Int.le_trans h1 (of_decide_eq_true a)), decide_eq_true (Int.le_trans (of_decide_eq_true b) h2)⟩
  | tuple l =>
    obtain ⟨a, b⟩ := Bool.and_eq_true_iff.mp h
    exact Bool.and_eq_true_iff.mpr ⟨decide_eq_true (Int.le_trans h1 (of_decide_eq_true a)), decide_eq_true (Int.le_trans (of_decide_eq_true b) h2)⟩
  | _ => cases h
theorem seq_most {lo : Int} {n : Nat} {d : PyData} (h : isSeq lo (n : Int) d = true) : (items d).length ≤ n := by
  cases d with
  | list l =>
    have := of_decide_eq_true (Bool.and_eq_true_iff.mp h).2
    show l.length ≤ n
    omega
  | tuple l =>
    have := of_decide_eq_true (Bool.and_eq_true_iff.mp h).2
    show l.length ≤ n
    omega
  | _ => cases h
theorem mem_seq {k : Str} {d : PyData} (h : isMember k d = true) (e : isOneOf ["values", "arguments"] (.str k) = true) : ∃ lo, isSeq lo 12 d = true := by
  have e' : ("values" : Str) = k ∨ ("arguments" : Str) = k := by
    have e3 : ((["values", "arguments"] : List Str).any fun y => y == k) = true := e
    simpa [List.any_cons] using e3
  rcases e' with rfl | rfl
  · exact ⟨0, h⟩
  · exact ⟨1, seq_le (lo := 1) (hi := 3) h (by decide) (by decide)⟩
section
variable {P : Program} {w : World} {K : PySem.W.Frag} {mg : Str → Option Value} {base : Heap} {S : Addr → Option Sp}
abbrev s_form_parts : Stmt := topS 33
theorem sc_form_parts : FnScope ["value", "word", "kinds", "parts", "kind", "member"] ["value"] (defScope s_form_parts) := ⟨rfl, rfl, rfl, by decide +kernel, rfl, by decide +kernel, by decide +kernel⟩
theorem ok_form_parts {f : Addr} {fd : FuncData} (F : Fun K "form_parts" "form_parts" s_form_parts f fd) {f_is_member : Addr} {d_is_member : FuncData} (h_is_member : Hd K mg "is_member" s_is_member ["kind", "value"] f_is_member d_is_member) (G_is_member : FnOk P w K mg base CX0 4 f_is_member d_is_member ["kind", "value"] (spMember K)) {a_FORMS : Addr} {u_FORMS : Value} (h_FORMS : Cst K mg "FORMS" (.ref a_FORMS) u_FORMS) (t_FORMS : Forms K w a_FORMS) {a_ROWS : Addr} {u_ROWS : Value} (h_ROWS : Cst K mg "ROWS" (.ref a_ROWS) u_ROWS) (t_ROWS : ∀ H : Hp, SqT K H a_ROWS (((["values", "arguments"] : List Str)).map V.str)) (m_isinstance : mg "isinstance" = none) (m_list : mg "list" = none) (m_tuple : mg "tuple" = none) (m_len : mg "len" = none) (m_str : mg "str" = none) (m_zip : mg "zip" = none) : FnOk P w K mg base CX0 5 f fd ["value"] (spForm K) := by
  refine F.ok sc_form_parts (fun vs H Q E h => ?_) (fun cdv A outer s H vs Q E hr h => ?_)
  · obtain ⟨_, _, _, rfl, _⟩ := h
    rfl
  · obtain ⟨x, d, H0, rfl, s0, hx0, hok, qF, qT⟩ := h
    obtain ⟨es, n, D_FORMS, tf⟩ := t_FORMS
    refine ⟨_, (pss_cons (ps_if (PW.pt (pw_or (pt_not (pt_val (pe_callB call_isiT (by rfl) m_isinstance (by decide +kernel) (pa_cons (pv 0) (pa_cons (pe_tup (pa_cons (pe_bltn (v := .ty "list") (by rfl) m_list (by decide +kernel) rfl) (pa_cons (pe_bltn (v := .ty "tuple") (by rfl) m_tuple (by decide +kernel) rfl) pa_nil))) pa_nil))))) (pw_or1 (pt_cmpR op_eq (pe_callB call_len_seq (by rfl) m_len PySem.boot_len (pa_cons (pv 0) pa_nil)) pe_int (nomark _))))) (pss_one (ps_ret pe_non)) pss_nil)
  (pss_cons (ps_set (i := 1) sc_form_parts.nd rfl (.inl rfl) (pe_ix ix_seq (pv 0) pe_int (fun _ _ => rfl)))
  (pss_cons (ps_if (PW.pt (pw_or (pt_not (pt_val (pe_callB call_isi (by rfl) m_isinstance (by decide +kernel) (pa_cons (pv 1) (pa_cons (pe_bltn (v := .ty "str") (by rfl) m_str (by decide +kernel) rfl) pa_nil))))) (pw_or1 (pt_cmpR (op_notIn_kd D_FORMS) (pv 1) (pe_glob (v := .ref a_FORMS) rfl h_FORMS.g h_FORMS.r) (by rfl))))) (pss_one (ps_ret pe_non)) pss_nil)
  (pss_cons (ps_set (i := 2) sc_form_parts.nd rfl (.inl rfl) (pe_ix ix_kdict (pe_glob (v := .ref a_FORMS) rfl h_FORMS.g h_FORMS.r) (pv 1) (fun _ _ => rfl)))
  (pss_cons (ps_if (pt_cmpR op_ne (pe_callB call_len_seq (by rfl) m_len PySem.boot_len (pa_cons (pv 0) pa_nil)) (pe_op op_add pe_int (pe_callB call_len_seq (by rfl) m_len PySem.boot_len (pa_cons (pv 2) pa_nil))) (nomark _)) (pss_one (ps_ret pe_non)) pss_nil)
  (pss_cons (ps_set (i := 3) sc_form_parts.nd rfl (.inl rfl) (pe_lst pa_nil))
  (pss_cons (ps_for PassesOwn.never rfl (pi_zipM rfl m_zip (pa_cons (pv 2) (pa_cons (pe_slice sl_seqA (pv 0) (po_some pe_int) po_none) pa_nil))) (pg_tup (n := 2) (by rfl) (pgs_cons (pg_name (i := 4) sc_form_parts.nd rfl (.inl rfl)) (pgs_cons (pg_name (i := 5) sc_form_parts.nd rfl (.inl rfl)) pgs_nil))) (pss_one (ps_if (pt_cmpR op_eq (pv 4) pe_str (nomark _)) (pss_one (ps_expr (pe_bm PySem.F.plainAttrs_list PySem.F.slot_list_append PySem.F.type_list_append mt_append (pv 3) (pa_cons (pv 5) pa_nil)))) (pss_one (ps_if (pt_not (pt_val (pe_call G_is_member (hr.mono (by decide)) (by rfl) h_is_member.g h_is_member.F.kp h_is_member.b .nil pass0 (pa_cons (pv 4) (pa_cons (pv 5) pa_nil))))) (pss_one (ps_ret pe_non)) (pss_one (ps_if (pt_cmpR (op_inSt (hu_of hr)) (pv 4) (pe_glob (v := .ref a_ROWS) rfl h_ROWS.g h_ROWS.r) (by rfl)) (pss_one (ps_expr (pe_bm PySem.F.plainAttrs_list PySem.F.slot_list_extend PySem.F.type_list_extend mt_extendA (pv 3) (pa_cons (pv 5) pa_nil)))) pss_nil)))))))
  (pss_one (ps_ret (pv 3)))))))))), ?_⟩
    have hx := dp_keep s0 hx0
    refine ⟨x, rfl, by show 2 ≤ sizeLine; decide, fun tp ntp => ?_⟩
    have s1 := same_upd (o := .tup [.ty "list", .ty "tuple"]) ntp
    have hx1 := dp_keep s1 hx
    have s01 := s0.trans s1
    have qF := fun e H' s' => qF e H' (s1.trans s')
    have qT := fun e H' L ys s' h1 h2 => qT e H' L ys (s1.trans s') h1 h2
    have hn1 : ∀ p, upd H tp (.tup [.ty "list", .ty "tuple"]) p = none → H p = none := fun p e => by
      cases e2 : H p with
      | none => rfl
      | some o => rw [s1 _ _ e2] at e; cases e
    have qT : hasForm d = true → ∀ H' L ys, Same (upd H tp (.tup [.ty "list", .ty "tuple"])) H' → H' L = some (.lst ys) → upd H tp (.tup [.ty "list", .ty "tuple"]) L = none → DpAll K H0 ys (partsOf d) → Q (.ref L) H' := fun e H' L ys s' h1 h2 h3 => qT e H' L ys s' h1 (hn1 L h2) h3
    refine ⟨x, tp, [.ty "list", .ty "tuple"], _, [.type "list", .type "tuple"], isSq d, rfl, upd_same, .cons (.ty _) (.cons (.ty _) .nil), ty_dp hx1, kb_sq d, _, rfl, ?_⟩
    clear hn1
    revert hx1 qF qT s01
    clear s1
    generalize upd H tp (.tup [.ty "list", .ty "tuple"]) = H1
    intro hx1 s01 qF qT
    have no : hasForm d = false → Q .non H1 := fun e => qF e H1 (Same.refl H1)
    rcases sq_split hx0 with ⟨e, e2⟩ | ⟨a, xs, rfl, hq0, hd0, e⟩
    · rw [e]
      exact iteT (iteT (no (by rw [hasForm, e2])))
    rw [e]
    have hq := hq0.keep s01
    have hd := dps_keep s01 hd0
    have hl := (dp_get hd).1
    refine iteF ⟨.ref a, rfl, a, xs, rfl, hq, rfl, _, rfl, ite2 (fun e3 => ?_) (fun e3 => ?_)⟩
    · have e4 := V.int.inj (of_decide_eq_true e3)
      have e5 : items d = [] := List.length_eq_zero_iff.mp (by omega)
      exact no (by rw [hasForm, e5])
    obtain ⟨d0, r, ei⟩ : ∃ d0 r, items d = d0 :: r := by
      cases ei : items d with
      | nil =>
        rw [ei] at hl
        exact absurd (decide_eq_true (by rw [hl]; rfl)) e3
      | cons d0 r => exact ⟨d0, r, rfl⟩
    rw [ei] at hd0
    clear hd
    rcases hd0 with _ | ⟨k00, kr0⟩
    rename_i x0 xr
    have k0 := dp_keep s01 k00
    have kr := dps_keep s01 kr0
    clear k00
    have o0 : Ok d0 := ok_mem hok (by rw [ei]; exact List.mem_cons_self)
    have or' : ∀ z, z ∈ r → Ok z := fun z m => ok_mem hok (by rw [ei]; exact List.mem_cons_of_mem _ m)
    refine ⟨.ref a, rfl, ixA hq (atI_nat (j := 0) rfl) ?_⟩
    refine r_isi rfl k0 (kb_st d0) ?_
    cases k0 with
    | str z =>
      have ef : hasForm d = formL z r := by rw [hasForm, ei]
      rw [ef] at qT qF no
      cases ek : kindsOf z with
      | none =>
        refine iteF ⟨.str z, rfl, z, none, rfl, rfl, (tf z).1 ek, _, rfl, iteT ?_⟩
        exact no (by rw [formL, ek])
      | some ks =>
        have efl : formL z r = (decide (r.length = ks.length) && (ks.zip r).all fun p => isMember p.1 p.2) := by rw [formL, ek]
        obtain ⟨p, ep, hp⟩ := (tf z).2 ks ek
        refine iteF ⟨.str z, rfl, z, some (.ref p), rfl, rfl, ep, _, rfl, iteF ?_⟩
        refine ⟨.str z, rfl, a_FORMS, z, .ref p, rfl, rfl, ⟨es, n, .ref p, D_FORMS.at_, D_FORMS.lit, ep, rfl⟩, ?_⟩
        refine ⟨.ref a, rfl, a, _, rfl, hq, .ref p, rfl, p, _, rfl, .inr (hp H1), 1, _, rfl, rfl, rfl, _, rfl, ite2 (fun e4 => ?_) (fun e4 => ?_)⟩
        · have ne : r.length ≠ ks.length := fun g => by
            have hlr := (dp_get kr).1
            have : decide (V.int ((V.str z :: xr).length : Int) = V.int (1 + ((ks.map V.str).length : Int))) = true := decide_eq_true (by rw [List.length_cons, List.length_map, hlr, g]; congr 1; omega)
            rw [this] at e4
            cases e4
          exact no (by rw [efl, decide_eq_false ne, Bool.false_and])
        · have hlr := (dp_get kr).1
          have el : r.length = ks.length := by
            have e5 : decide (V.int ((V.str z :: xr).length : Int) = V.int (1 + ((ks.map V.str).length : Int))) = true := by
              cases e6 : decide (V.int ((V.str z :: xr).length : Int) = V.int (1 + ((ks.map V.str).length : Int))) with
              | true => rfl
              | false => exact absurd (by rw [e6]; rfl) e4
            have e7 := V.int.inj (of_decide_eq_true e5)
            rw [List.length_cons, List.length_map] at e7
            omega
          have e5 : formL z r = (ks.zip r).all fun p => isMember p.1 p.2 := by
            rw [efl, decide_eq_true el, Bool.true_and]
          have hz : (ks.zip r).length = ks.length := by rw [List.length_zip, el, Nat.min_self]
          have ep' : partsOf d = (ks.zip r).flatMap partOf := by rw [partsOf, ei]; show partsL z r = _; rw [partsL, ek]
          have hk3 := kinds_len ek
          refine nextA ?_
          dsimp only
          refine seqA ?_
          refine asgA ?_
          refine ⟨by show 0 ≤ sizeLine; decide, fun L hL => ?_⟩
          have hq : SqA K (upd H1 L (.lst [])) a (V.str z :: xr) := hq.keep (same_upd hL)
          refine nameA ?_
          dsimp only
          refine seqA ?_
          refine for_zipM (L := L) upd_same hp (xs := ks.map V.str) (ys := xr) (by rw [List.length_map]; omega) (fun R h => ?_)
            (fun H2 i σ' H' => (∃ u v, σ' = [some (.ref a), some (.str z), some (.ref p), some (.ref L), u, v]) ∧ (∃ acc, H' L = some (.lst acc) ∧ DpAll K H0 acc (((ks.zip r).take i).flatMap partOf) ∧ acc.length ≤ 13 * i) ∧ (∀ (j : Nat) (h1 : j < ks.length) (h2 : j < r.length), j < i → isMember ks[j] r[j] = true) ∧ ∀ b o, b ≠ L → H2 b = some o → H' b = some o) ?_ (fun H2 i σ' H' p => p.2.2.2) ?_ ?_
          · exact ⟨.ref p, rfl, .ref a, rfl, 1, rfl, sl_tail hq (by simp) (fun b H3 fb s2 hb => h b H3 fb s2 hb)⟩
          · exact fun H2 s2 => ⟨⟨none, none, rfl⟩, ⟨[], s2 _ _ upd_same, .nil, Nat.zero_le _⟩, fun j _ _ g => absurd g (Nat.not_lt_zero _), fun b o _ e => e⟩
          · rintro H2 i x y T σ' H3 s2 hx3 hy3 ⟨⟨u, v, rfl⟩, ⟨acc, hacc, hda, hla⟩, hmem, hsm⟩ hT
            have hi : i < ks.length := by
              have := (List.getElem?_eq_some_iff.mp hx3).1
              rw [List.length_map] at this
              exact this
            have hir : i < r.length := by omega
            rw [List.getElem?_map, List.getElem?_eq_getElem hi] at hx3
            obtain rfl := Option.some.inj hx3
            obtain ⟨y', hy1, hy2⟩ := (dp_get kr0).2 i r[i] (List.getElem?_eq_getElem hir)
            obtain rfl : y' = y := Option.some.inj (hy1.symm.trans hy3)
            have hTL : T ≠ L := fun k => by rw [k, hacc] at hT; cases hT
            have hLT : L ≠ T := fun k => hTL k.symm
            refine ⟨T, [.str ks[i], y'], rfl, .inl (.inl upd_same), rfl, ?_⟩
            refine ⟨_, _, rfl, _, _, rfl, rfl, ?_⟩
            have hL4 : upd H3 T (.tup [.str ks[i], y']) L = some (.lst acc) := by rw [upd_ne hLT]; exact hacc
            have stp : ((ks.zip r).take (i + 1)).flatMap partOf = ((ks.zip r).take i).flatMap partOf ++ partOf (ks[i], r[i]) := by
              rw [List.take_add_one, List.getElem?_eq_getElem (by rw [List.length_zip]; omega), List.flatMap_append, List.getElem_zip]
              simp
            have sm4 : ∀ b o, b ≠ L → H2 b = some o → upd H3 T (.tup [.str ks[i], y']) b = some o := fun b o hb e => same_upd hT _ _ (hsm b o hb e)
            generalize upd H3 T (.tup [.str ks[i], y']) = H4 at hL4 sm4
            have sm1 : Same H1 H4 := fun b o e => sm4 b o (fun k => by rw [k, hL] at e; cases e) (s2 _ _ (same_upd hL _ _ e))
            have mem1 : isMember ks[i] r[i] = true → ∀ (j : Nat) (h1 : j < ks.length) (h2 : j < r.length), j < i + 1 → isMember ks[j] r[j] = true := fun g j h1 h2 h3 => by
              by_cases e : j = i
              · subst e; exact g
              · exact hmem j h1 h2 (by omega)
            refine ⟨.str ks[i], rfl, rfl, _, rfl, ite2 (fun e1 => ?_) (fun e1 => ?_)⟩
            · have ek1 : ks[i] = "part" := str_of e1
              have ep1 : partOf (ks[i], r[i]) = [r[i]] := by rw [partOf, ek1]; rfl
              rw [ep1] at stp
              refine ⟨.ref L, rfl, .inl ⟨rfl, _, SqL.of hL4⟩, y', rfl, L, acc, y', rfl, rfl, hL4, Nat.lt_of_le_of_lt (show acc.length ≤ 60 by omega) (by decide), ?_⟩
              exact ⟨⟨_, _, rfl⟩, ⟨acc ++ [y'], upd_same, by rw [stp]; exact dps_app hda (.cons hy2 .nil), by rw [List.length_append, List.length_singleton]; omega⟩, mem1 (by rw [ek1]; rfl), fun b o hb e => by rw [upd_ne hb]; exact sm4 b o hb e⟩
            · have ek1 : ks[i] ≠ "part" := fun k => e1 (str_to k)
              have k6 := kinds_six ek (List.getElem_mem hi) ek1
              refine ⟨.str ks[i], rfl, y', rfl, ks[i], y', r[i], rfl, dp_keep (s01.trans sm1) hy2, or' _ (List.getElem_mem hir), k6, fun H5 s5 => ⟨_, rfl, ite2 (fun e6 => ?_) (fun e6 => ?_)⟩⟩
              · have e7 : isMember ks[i] r[i] = false := by
                  cases e8 : isMember ks[i] r[i] with
                  | false => rfl
                  | true => rw [e8] at e6; cases e6
                refine qF ?_ H5 (sm1.trans s5)
                rw [e5, Bool.eq_false_iff]
                intro g
                have g2 := List.all_eq_true.mp g (ks[i], r[i]) (by rw [List.mem_iff_getElem]; exact ⟨i, by rw [List.length_zip]; omega, by rw [List.getElem_zip]⟩)
                exact absurd (g2.symm.trans e7) (by decide)
              · have e7 : isMember ks[i] r[i] = true := by
                  cases e8 : isMember ks[i] r[i] with
                  | true => rfl
                  | false => exact absurd (by rw [e8]; rfl) e6
                refine ⟨.str ks[i], rfl, .str ks[i], a_ROWS, ["values", "arguments"], .str ks[i], rfl, t_ROWS H5, _, rfl, ite2 (fun e2 => ?_) (fun e2 => ?_)⟩
                · have ep1 : partOf (ks[i], r[i]) = items r[i] := by rw [partOf, if_neg ek1, if_pos e2]; rfl
                  rw [ep1] at stp
                  obtain ⟨lo, em⟩ : ∃ lo, isSeq lo 12 r[i] = true := mem_seq e7 e2
                  obtain ⟨b, zs, rfl, hqb, hdb, hlb, _⟩ := seq_of hy2 (or' _ (List.getElem_mem hir)) em
                  have hb12 : zs.length ≤ 12 := by rw [hlb]; exact seq_most em
                  have hL5 := s5 _ _ hL4
                  refine ⟨.ref L, rfl, .inl ⟨rfl, _, SqL.of hL5⟩, .ref b, rfl, L, b, acc, zs, rfl, rfl, hL5, seqA_at (fun o e0 => s5 _ _ (sm1 _ _ (s01 _ _ e0))) hqb, Nat.le_trans (by show acc.length + zs.length ≤ 60; omega) (by decide), ?_⟩
                  exact ⟨⟨_, _, rfl⟩, ⟨acc ++ zs, upd_same, by rw [stp]; exact dps_app hda hdb, by rw [List.length_append]; omega⟩, mem1 e7, fun b o hb e => by rw [upd_ne hb]; exact s5 _ _ (sm4 b o hb e)⟩
                · have ep1 : partOf (ks[i], r[i]) = [] := by rw [partOf, if_neg ek1, if_neg e2]; rfl
                  rw [ep1, List.append_nil] at stp
                  exact ⟨⟨_, _, rfl⟩, ⟨acc, s5 _ _ hL4, by rw [stp]; exact hda, by omega⟩, mem1 e7, fun b o hb e => s5 _ _ (sm4 b o hb e)⟩
          · rintro H2 σ' H3 s2 ⟨⟨u, v, rfl⟩, ⟨acc, hacc, hda, hla⟩, hmem, hsm⟩
            rw [List.take_of_length_le (by rw [List.length_map, List.length_zip]; omega), ← ep'] at hda
            have s3 : Same H1 H3 := fun b o e => hsm b o (fun k => by rw [k, hL] at e; cases e) (s2 _ _ (same_upd hL _ _ e))
            refine ⟨.ref L, rfl, qT ?_ H3 L acc s3 hacc hL hda⟩
            rw [e5, List.all_eq_true]
            intro pr m
            obtain ⟨j, hj, rfl⟩ := List.mem_iff_getElem.mp m
            rw [List.length_zip] at hj
            rw [List.getElem_zip]
            exact hmem j (by omega) (by omega) (by rw [List.length_map]; omega)
    | bl b => exact iteT (iteT (no (by rw [hasForm, ei])))
    | non => exact iteT (iteT (no (by rw [hasForm, ei])))
    | int z => exact iteT (iteT (no (by rw [hasForm, ei])))
    | lst h1 h2 => exact iteT (iteT (no (by rw [hasForm, ei])))
    | tup h1 h2 => exact iteT (iteT (no (by rw [hasForm, ei])))
end
end Cw

set_option Elab.async false
set_option linter.all false
set_option maxRecDepth 100000
set_option maxHeartbeats 4000000
namespace Cw
open PySem PySem.Spec PyProof.Rows L2
theorem flat_len {α β : Type} {f : α → List β} {n : Nat} : ∀ {l : List α}, (∀ x, x ∈ l → (f x).length ≤ n) → (l.flatMap f).length ≤ n * l.length
  | [], _ => Nat.zero_le _
  | x :: l, h => by
    rw [List.flatMap_cons, List.length_append, List.length_cons, Nat.mul_succ]
    have h1 := h x List.mem_cons_self
    have h2 := flat_len (l := l) fun y m => h y (List.mem_cons_of_mem _ m)
    omega
theorem partOf_len {k : Str} {d : PyData} (h : isMember k d = true) : (partOf (k, d)).length ≤ 13 := by
  unfold partOf
  rw [List.length_append]
  by_cases e : isOneOf ["values", "arguments"] (.str k) = true
  · obtain ⟨lo, em⟩ := mem_seq h e
    have : (items d).length ≤ 12 := seq_most (n := 12) em
    rw [if_pos e]
    by_cases e2 : k = "part"
    · rw [if_pos e2, List.length_singleton]; show 1 + (items d).length ≤ 13; omega
    · rw [if_neg e2, List.length_nil]; show 0 + (items d).length ≤ 13; omega
  · rw [if_neg e]
    by_cases e2 : k = "part"
    · rw [if_pos e2]; show 1 + 0 ≤ 13; omega
    · rw [if_neg e2]; show 0 + 0 ≤ 13; omega
theorem form_parts {d : PyData} (h : hasForm d = true) : ∃ z r ks, items d = .str z :: r ∧ kindsOf z = some ks ∧ partsOf d = (ks.zip r).flatMap partOf ∧ ∀ p, p ∈ ks.zip r → isMember p.1 p.2 = true := by
  obtain ⟨z, r, ks, ei, ek, el, hm⟩ := form_of h
  refine ⟨z, r, ks, ei, ek, by rw [partsOf, ei]; show partsL z r = _; rw [partsL, ek], fun p m => ?_⟩
  obtain ⟨i, hi, rfl⟩ := List.mem_iff_getElem.mp m
  rw [List.length_zip] at hi
  rw [List.getElem_zip]
  exact hm i (by omega) (by omega)
theorem parts_len {d : PyData} (h : hasForm d = true) : (partsOf d).length ≤ 39 := by
  obtain ⟨z, r, ks, ei, ek, ep, hm⟩ := form_parts h
  have h3 := kinds_len ek
  rw [ep]
  refine Nat.le_trans (flat_len (n := 13) fun p m => partOf_len (hm p m)) ?_
  rw [List.length_zip]
  omega
theorem part_ok {k : Str} {d z : PyData} (h : Ok d) (m : z ∈ partOf (k, d)) : Ok z := by
  unfold partOf at m
  rcases List.mem_append.mp m with m | m
  · by_cases e2 : k = "part"
    · rw [if_pos e2] at m
      obtain rfl := List.mem_singleton.mp m
      exact h
    · rw [if_neg e2] at m; cases m
  · by_cases e : isOneOf ["values", "arguments"] (.str k) = true
    · rw [if_pos e] at m; exact ok_mem h m
    · rw [if_neg e] at m; cases m
theorem parts_ok {d z : PyData} (h : hasForm d = true) (o : Ok d) (m : z ∈ partsOf d) : Ok z := by
  obtain ⟨y, r, ks, ei, ek, ep, hm⟩ := form_parts h
  rw [ep] at m
  obtain ⟨p, hp, hz⟩ := List.mem_flatMap.mp m
  exact part_ok (ok_mem o (by rw [ei]; exact List.mem_cons_of_mem _ (List.of_mem_zip hp).2)) hz
theorem dps_take {K : PySem.W.Frag} {H : Hp} : ∀ {xs : List V} {ds : List PyData} (n : Nat), DpAll K H xs ds → DpAll K H (xs.take n) (ds.take n)
  | _, _, 0, _ => .nil
  | _, _, n + 1, .nil => .nil
  | _, _, n + 1, .cons h t => .cons h (dps_take n t)
end Cw

set_option Elab.async false
set_option linter.all false
set_option maxRecDepth 100000
set_option maxHeartbeats 4000000
namespace Cw
open PySem PySem.Spec PyProof.Rows L2
def exprL : Nat → Nat → List PyData → Bool
  | 0, _, row => decide (row.length = 0)
  | n + 1, c, row => decide (c + row.length ≤ 60) && (row.all hasForm && exprL n (c + row.length) (row.flatMap partsOf))
def isExpr (d : PyData) : Bool := exprL 7 0 [d]
section
variable {P : Program} {w : World} {K : PySem.W.Frag} {mg : Str → Option Value} {base : Heap} {S : Addr → Option Sp}
abbrev s_is_expression : Stmt := topS 27
theorem sc_is_expression : FnScope ["value", "row", "count", "_", "parts", "one", "found"] ["value"] (defScope s_is_expression) := ⟨rfl, rfl, rfl, by decide +kernel, rfl, by decide +kernel, by decide +kernel⟩
theorem ok_is_expression {f : Addr} {fd : FuncData} (F : Fun K "is_expression" "is_expression" s_is_expression f fd) {f_form_parts : Addr} {d_form_parts : FuncData} (h_form_parts : Hd K mg "form_parts" s_form_parts ["value"] f_form_parts d_form_parts) (G_form_parts : FnOk P w K mg base CX0 5 f_form_parts d_form_parts ["value"] (spForm K)) {u_MOST_LEVELS : Value} (h_MOST_LEVELS : Cst K mg "MOST_LEVELS" (.int 7) u_MOST_LEVELS) {u_MOST_EXPRESSIONS : Value} (h_MOST_EXPRESSIONS : Cst K mg "MOST_EXPRESSIONS" (.int 60) u_MOST_EXPRESSIONS) (m_range : mg "range" = none) (m_len : mg "len" = none) : FnOk P w K mg base CX0 6 f fd ["value"] (sp1 K isExpr) := by
  refine F.ok sc_is_expression (fun vs H Q E h => ?_) (fun cdv A outer s H vs Q E hr h => ?_)
  · obtain ⟨_, _, rfl, _⟩ := h
    rfl
  · obtain ⟨x, d, rfl, hx, hok, q⟩ := h
    refine ⟨_, (pss_cons (ps_set (i := 1) sc_is_expression.nd rfl (.inl rfl) (pe_lst (pa_cons (pv 0) pa_nil)))
  (pss_cons (ps_set (i := 2) sc_is_expression.nd rfl (.inl rfl) pe_int)
  (pss_cons (ps_for PassesOwn.never rfl (pi_range1 rfl m_range (pa_cons (pe_glob (v := .int 7) rfl h_MOST_LEVELS.g h_MOST_LEVELS.r) pa_nil)) (pg_name (i := 3) sc_is_expression.nd rfl (.inl rfl)) (pss_cons (ps_set (i := 2) sc_is_expression.nd rfl (.inl rfl) (pe_op op_add (pv 2) (pe_callB call_len_seq (by rfl) m_len PySem.boot_len (pa_cons (pv 1) pa_nil))))
  (pss_cons (ps_if (pt_cmpR op_gt (pv 2) (pe_glob (v := .int 60) rfl h_MOST_EXPRESSIONS.g h_MOST_EXPRESSIONS.r) (nomark _)) (pss_one (ps_ret pe_bl)) pss_nil)
  (pss_cons (ps_set (i := 4) sc_is_expression.nd rfl (.inl rfl) (pe_lst pa_nil))
  (pss_cons (ps_for PassesOwn.never rfl (pi_list (pv 1)) (pg_name (i := 5) sc_is_expression.nd rfl (.inl rfl)) (pss_cons (ps_set (i := 6) sc_is_expression.nd rfl (.inl rfl) (pe_call G_form_parts (hr.mono (by decide)) (by rfl) h_form_parts.g h_form_parts.F.kp h_form_parts.b .nil pass0 (pa_cons (pv 5) pa_nil)))
  (pss_cons (ps_if (pt_cmpR op_isN (pv 6) pe_non (nomark _)) (pss_one (ps_ret pe_bl)) pss_nil)
  (pss_one (ps_expr (pe_bm PySem.F.plainAttrs_list PySem.F.slot_list_extend PySem.F.type_list_extend mt_extendA (pv 4) (pa_cons (pv 6) pa_nil)))))))
  (pss_one (ps_set (i := 1) sc_is_expression.nd rfl (.inl rfl) (pv 4))))))))
  (pss_one (ps_ret (pe_cmpR op_eq (pe_callB call_len_seq (by rfl) m_len PySem.boot_len (pa_cons (pv 1) pa_nil)) pe_int (nomark _))))))), ?_⟩
    refine ⟨x, rfl, by show 1 ≤ sizeLine; decide, fun L0 hL0 => ?_⟩
    dsimp only
    refine nameA (seqA ?_)
    show gName 2 _ _ _ _
    refine nameA (seqA ?_)
    have pos : ∀ c : Nat, isExpr d = exprL 7 0 [d] := fun _ => rfl
    refine ⟨7, rfl, by decide, by decide, for_it walk_range (fun i σ' H' => ∃ (a : Addr) (c : Nat) (u v t r : Option V) (xs : List V) (row : List PyData), σ' = [some x, some (.ref a), some (.int (c : Int)), u, v, t, r] ∧ Same H H' ∧ SqL K H' a xs ∧ DpAll K H xs row ∧ (∀ z, z ∈ row → Ok z) ∧ isExpr d = exprL (7 - i) c row) ?_ (fun _ _ _ _ _ => True.intro) ?_ ?_⟩
    · exact ⟨L0, 0, none, none, none, none, [x], [d], rfl, same_upd hL0, SqL.of upd_same, .cons hx .nil, fun z m => by rw [List.mem_singleton.mp m]; exact hok, rfl⟩
    · rintro i y σ' Hx H1 hi ⟨a, c, u, v, t, r, xs, row, rfl, s1, hq, hd, ho, he⟩ ⟨rfl, rfl⟩
      have hl := (dp_get hd).1
      have e7 : 7 - i = (7 - (i + 1)) + 1 := by omega
      rw [e7] at he
      refine ⟨.int c, rfl, .ref a, rfl, a, xs, rfl, .inl hq, (c : Int), _, rfl, rfl, ?_⟩
      refine ⟨_, rfl, _, 60, rfl, rfl, _, rfl, ite2 (fun e => ?_) (fun e => ?_)⟩
      · have e2 : ¬ (c + row.length ≤ 60) := by
          have := of_decide_eq_true e
          omega
        have z0 := q H1 s1
        rw [he, exprL, decide_eq_false e2, Bool.false_and] at z0
        exact z0
      have e2 : c + row.length ≤ 60 := by
        have : ¬ ((60 : Int) < (c : Int) + (xs.length : Int)) := fun g => e (decide_eq_true g)
        omega
      rw [exprL, decide_eq_true e2, Bool.true_and] at he
      refine nextA ?_
      dsimp only
      refine seqA ?_
      refine asgA ?_
      refine ⟨by show 0 ≤ sizeLine; decide, fun L hL => ?_⟩
      refine nameA ?_
      dsimp only
      refine seqA ?_
      have s2 : Same H (upd H1 L (.lst [])) := s1.trans (same_upd hL)
      have hLH : H L = none := by
        cases e3 : H L with
        | none => rfl
        | some o => rw [s1 _ _ e3] at hL; cases hL
      refine ⟨.ref a, rfl, a, rfl, ⟨xs, (same_upd hL).seq hq⟩, for_it (walk_list (xs := xs)) (fun j σ' H' => (∃ v' w', σ' = [some x, some (.ref a), some (.int ((c : Int) + (xs.length : Int))), some (.int (0 + (i : Int))), some (.ref L), v', w']) ∧ (∃ acc, H' L = some (.lst acc) ∧ DpAll K H acc ((row.take j).flatMap partsOf) ∧ acc.length ≤ 39 * j) ∧ (∀ (k : Nat) (h1 : k < row.length), k < j → hasForm row[k] = true) ∧ (∀ b o, b ≠ L → H1 b = some o → H' b = some o)) ?_ ?_ ?_ ?_⟩
      · exact ⟨⟨_, _, rfl⟩, ⟨[], upd_same, .nil, Nat.zero_le _⟩, fun k _ g => absurd g (Nat.not_lt_zero _), fun b o hb e => by rw [upd_ne hb]; exact e⟩
      · rintro j σ' H' hj ⟨_, _, _, sm⟩
        exact sql_at (fun o e3 => sm a o (fun k => by rw [k, hL] at e3; cases e3) e3) hq
      · rintro j y2 σ' Hx H2 hj ⟨⟨v', w', rfl⟩, ⟨acc, hacc, hda, hla⟩, hf, sm⟩ ⟨rfl, hy2⟩
        have hjr : j < row.length := by omega
        obtain ⟨y3, hy3, hy4⟩ := (dp_get hd).2 j row[j] (List.getElem?_eq_getElem hjr)
        have hsq : SqL K H2 a xs := sql_at (fun o e3 => sm a o (fun k => by rw [k, hL] at e3; cases e3) e3) hq
        obtain rfl : y3 = y2 := Option.some.inj (hy3.symm.trans hy2)
        have sH : Same H H2 := fun b o e3 => sm b o (fun k => by rw [k, hLH] at e3; cases e3) (s1 _ _ e3)
        have stp : (row.take (j + 1)).flatMap partsOf = (row.take j).flatMap partsOf ++ partsOf row[j] := by
          rw [List.take_add_one, List.getElem?_eq_getElem hjr, List.flatMap_append]
          simp
        refine ⟨y3, rfl, y3, row[j], H, rfl, sH, hy4, ho _ (List.getElem_mem hjr), fun e3 H3 s3 => ?_, fun e3 H3 L3 ys s3 h3 n3 hd3 => ?_⟩
        · refine ⟨.non, rfl, rfl, _, rfl, iteT ?_⟩
          have z0 := q H3 (sH.trans s3)
          rw [he, show row.all hasForm = false from List.all_eq_false.mpr ⟨row[j], List.getElem_mem hjr, by rw [e3]; decide⟩, Bool.false_and] at z0
          exact z0
        · refine ⟨.ref L3, rfl, rfl, _, rfl, iteF ?_⟩
          refine nextA ?_
          have hL3 := s3 _ _ hacc
          have hpl := parts_len e3
          have hyl := (dp_get hd3).1
          refine ⟨.ref L, rfl, .inl ⟨rfl, _, SqL.of hL3⟩, .ref L3, rfl, L, L3, acc, ys, rfl, rfl, hL3, .inl (SqL.of h3), Nat.le_trans (show acc.length + ys.length ≤ 5000 by omega) (by decide), ?_⟩
          refine ⟨⟨_, _, rfl⟩, ⟨acc ++ ys, upd_same, by rw [stp]; exact dps_app hda hd3, by rw [List.length_append]; omega⟩, fun k h1 h2 => ?_, fun b o hb e4 => by rw [upd_ne hb]; exact s3 _ _ (sm b o hb e4)⟩
          by_cases e4 : k = j
          · subst e4; exact e3
          · exact hf k h1 (by omega)
      · rintro σ' H2 ⟨⟨v', w', rfl⟩, ⟨acc, hacc, hda, hla⟩, hf, sm⟩
        rw [List.take_of_length_le (by omega)] at hda
        have sH : Same H H2 := fun b o e3 => sm b o (fun k => by rw [k, hLH] at e3; cases e3) (s1 _ _ e3)
        have hall : ∀ z, z ∈ row → hasForm z = true := fun z m => by
          obtain ⟨k, hk, rfl⟩ := List.mem_iff_getElem.mp m
          exact hf k hk (by omega)
        rw [show row.all hasForm = true from List.all_eq_true.mpr hall, Bool.true_and] at he
        refine ⟨.ref L, rfl, L, c + xs.length, _, _, _, _, acc, row.flatMap partsOf, rfl, sH, SqL.of hacc, hda, fun z m => ?_, ?_⟩
        · obtain ⟨y4, m1, m2⟩ := List.mem_flatMap.mp m
          exact parts_ok (hall _ m1) (ho _ m1) m2
        · rw [hl]
          exact he
    · rintro σ' H1 ⟨a, c, u, v, t, r, xs, row, rfl, s1, hq, hd, ho, he⟩
      have hl := (dp_get hd).1
      have z0 := q H1 s1
      rw [he] at z0
      refine ⟨.ref a, rfl, a, xs, rfl, .inl hq, rfl, ?_⟩
      have e9 : decide (V.int (xs.length : Int) = V.int 0) = exprL (7 - (Int.toNat 7)) c row := by
        rw [dec_int, hl, Bool.eq_iff_iff, beq_iff_eq]
        show _ ↔ decide (row.length = 0) = true
        rw [decide_eq_true_iff]
        omega
      rw [e9]
      exact z0
end
end Cw

set_option Elab.async false
set_option linter.all false
set_option maxRecDepth 100000
set_option maxHeartbeats 4000000
namespace Cw
open PySem PySem.Spec PyProof.Rows L2
def isMethod (d : PyData) : Bool := isSeq 3 3 d && (isGname (get d 0) && (allOf 1 3 isNamed (get d 1) && isExpr (get d 2)))
def isModule (d : PyData) : Bool := isSeq 5 5 d && (isName (get d 0) && (allOf 0 4 isName (get d 1) && (allOf 0 6 isClass (get d 2) && (allOf 0 3 isGeneric (get d 3) && allOf 0 8 isMethod (get d 4)))))
theorem dps3 {K : PySem.W.Frag} {H : Hp} {xs : List V} {ds : List PyData} (h : DpAll K H xs ds) (n : ds.length = 3) : ∃ x0 x1 x2 d0 d1 d2, xs = [x0, x1, x2] ∧ ds = [d0, d1, d2] ∧ Dp K H x0 d0 ∧ Dp K H x1 d1 ∧ Dp K H x2 d2 := by
  match ds, n with
  | [d0, d1, d2], _ =>
    rcases h with _ | ⟨k0, h⟩
    rcases h with _ | ⟨k1, h⟩
    rcases h with _ | ⟨k2, h⟩
    cases h
    exact ⟨_, _, _, _, _, _, rfl, rfl, k0, k1, k2⟩
theorem dps4 {K : PySem.W.Frag} {H : Hp} {xs : List V} {ds : List PyData} (h : DpAll K H xs ds) (n : ds.length = 4) : ∃ x0 x1 x2 x3 d0 d1 d2 d3, xs = [x0, x1, x2, x3] ∧ ds = [d0, d1, d2, d3] ∧ Dp K H x0 d0 ∧ Dp K H x1 d1 ∧ Dp K H x2 d2 ∧ Dp K H x3 d3 := by
  match ds, n with
  | [d0, d1, d2, d3], _ =>
    rcases h with _ | ⟨k0, h⟩
    rcases h with _ | ⟨k1, h⟩
    rcases h with _ | ⟨k2, h⟩
    rcases h with _ | ⟨k3, h⟩
    cases h
    exact ⟨_, _, _, _, _, _, _, _, rfl, rfl, k0, k1, k2, k3⟩
theorem dps5 {K : PySem.W.Frag} {H : Hp} {xs : List V} {ds : List PyData} (h : DpAll K H xs ds) (n : ds.length = 5) : ∃ x0 x1 x2 x3 x4 d0 d1 d2 d3 d4, xs = [x0, x1, x2, x3, x4] ∧ ds = [d0, d1, d2, d3, d4] ∧ Dp K H x0 d0 ∧ Dp K H x1 d1 ∧ Dp K H x2 d2 ∧ Dp K H x3 d3 ∧ Dp K H x4 d4 := by
  match ds, n with
  | [d0, d1, d2, d3, d4], _ =>
    rcases h with _ | ⟨k0, h⟩
    rcases h with _ | ⟨k1, h⟩
    rcases h with _ | ⟨k2, h⟩
    rcases h with _ | ⟨k3, h⟩
    rcases h with _ | ⟨k4, h⟩
    cases h
    exact ⟨_, _, _, _, _, _, _, _, _, _, rfl, rfl, k0, k1, k2, k3, k4⟩
section
variable {P : Program} {w : World} {K : PySem.W.Frag} {mg : Str → Option Value} {base : Heap} {S : Addr → Option Sp}
abbrev s_is_class : Stmt := topS 29
theorem sc_is_class : FnScope ["value", "word", "kind", "abstract", "parents", "fields"] ["value"] (defScope s_is_class) := ⟨rfl, rfl, rfl, by decide +kernel, rfl, by decide +kernel, by decide +kernel⟩
theorem ok_is_class {f : Addr} {fd : FuncData} (F : Fun K "is_class" "is_class" s_is_class f fd) {f_is_sequence : Addr} {d_is_sequence : FuncData} (h_is_sequence : Hd K mg "is_sequence" s_is_sequence ["value", "least", "most"] f_is_sequence d_is_sequence) (G_is_sequence : FnOk P w K mg base CX0 1 f_is_sequence d_is_sequence ["value", "least", "most"] (spSeq K)) {f_is_class_word : Addr} {d_is_class_word : FuncData} (h_is_class_word : Hd K mg "is_class_word" s_is_class_word ["value"] f_is_class_word d_is_class_word) (G_is_class_word : FnOk P w K mg base CX0 2 f_is_class_word d_is_class_word ["value"] (sp1 K isWord)) {f_are_all : Addr} {d_are_all : FuncData} (h_are_all : Hd K mg "are_all" s_are_all ["value", "least", "most", "test"] f_are_all d_are_all) (G_are_all : FnOk P w K mg base CX0 9 f_are_all d_are_all ["value", "least", "most", "test"] (spAll K S)) {f_is_class_name : Addr} {d_is_class_name : FuncData} (h_is_class_name : Hd K mg "is_class_name" s_is_class_name ["value"] f_is_class_name d_is_class_name) {f_is_named_class : Addr} {d_is_named_class : FuncData} (h_is_named_class : Hd K mg "is_named_class" s_is_named_class ["value"] f_is_named_class d_is_named_class) {u_MOST_PARENTS : Value} (h_MOST_PARENTS : Cst K mg "MOST_PARENTS" (.int 12) u_MOST_PARENTS) {u_MOST_FIELDS : Value} (h_MOST_FIELDS : Cst K mg "MOST_FIELDS" (.int 3) u_MOST_FIELDS) (m_isinstance : mg "isinstance" = none) (m_bool : mg "bool" = none) (hS_is_class_name : S f_is_class_name = some (sp1 K isCname)) (hS_is_named_class : S f_is_named_class = some (sp1 K isNamed)) : FnOk P w K mg base CX0 10 f fd ["value"] (sp1 K isClass) := by
  refine F.ok sc_is_class (fun vs H Q E h => ?_) (fun cdv A outer s H vs Q E hr h => ?_)
  · obtain ⟨_, _, rfl, _⟩ := h
    rfl
  · obtain ⟨x, d, rfl, hx, hok, q⟩ := h
    refine ⟨_, (pss_cons (ps_if (pt_not (pt_val (pe_call G_is_sequence (hr.mono (by decide)) (by rfl) h_is_sequence.g h_is_sequence.F.kp h_is_sequence.b .nil pass0 (pa_cons (pv 0) (pa_cons pe_int (pa_cons pe_int pa_nil)))))) (pss_one (ps_ret pe_bl)) pss_nil)
  (pss_cons (ps_asg (pv 0) (pg_seq (n := 5) (by rfl) (pgs_cons (pg_name (i := 1) sc_is_class.nd rfl (.inl rfl)) (pgs_cons (pg_name (i := 2) sc_is_class.nd rfl (.inl rfl)) (pgs_cons (pg_name (i := 3) sc_is_class.nd rfl (.inl rfl)) (pgs_cons (pg_name (i := 4) sc_is_class.nd rfl (.inl rfl)) (pgs_cons (pg_name (i := 5) sc_is_class.nd rfl (.inl rfl)) pgs_nil)))))))
  (pss_one (ps_ret (pe_and (pe_call G_is_class_word (hr.mono (by decide)) (by rfl) h_is_class_word.g h_is_class_word.F.kp h_is_class_word.b .nil pass0 (pa_cons (pv 1) pa_nil)) (pe_and (pe_cmpR (op_inSt (hu_of hr)) (pv 2) (pe_tup (pa_cons pe_str (pa_cons pe_str pa_nil))) (by rfl)) (pe_and (pe_callB call_isi (by rfl) m_isinstance (by decide +kernel) (pa_cons (pv 3) (pa_cons (pe_bltn (v := .ty "bool") (by rfl) m_bool (by decide +kernel) rfl) pa_nil))) (pe_and (pe_call G_are_all (hr.mono (by decide)) (by rfl) h_are_all.g h_are_all.F.kp h_are_all.b .nil pass0 (pa_cons (pv 4) (pa_cons pe_int (pa_cons (pe_glob (v := .int 12) rfl h_MOST_PARENTS.g h_MOST_PARENTS.r) (pa_cons (pe_glob (v := .ref f_is_class_name) rfl h_is_class_name.g rfl) pa_nil))))) (pe_one (pe_call G_are_all (hr.mono (by decide)) (by rfl) h_are_all.g h_are_all.F.kp h_are_all.b .nil pass0 (pa_cons (pv 5) (pa_cons pe_int (pa_cons (pe_glob (v := .int 3) rfl h_MOST_FIELDS.g h_MOST_FIELDS.r) (pa_cons (pe_glob (v := .ref f_is_named_class) rfl h_is_named_class.g rfl) pa_nil)))))))))))))), ?_⟩
    refine ⟨x, rfl, x, d, 5, 5, rfl, hx, fun H0 t0 => ⟨_, rfl, ?_⟩⟩
    cases e : isSeq 5 5 d with
    | false => exact iteT (by have z0 := q H0 t0; rw [isClass, e, Bool.false_and] at z0; exact z0)
    | true =>
      obtain ⟨a, xs, rfl, hq, hd, hl, hi⟩ := seq_of (dp_keep t0 hx) hok e
      have hn : (items d).length = 5 := seq_len e
      obtain ⟨x0, x1, x2, x3, x4, d0, d1, d2, d3, d4, rfl, hit, k0, k1, k2, k3, k4⟩ := dps5 hd hn
      have o0 : Ok d0 := hi _ (by rw [hit]; simp)
      have o1 : Ok d1 := hi _ (by rw [hit]; simp)
      have o2 : Ok d2 := hi _ (by rw [hit]; simp)
      have o3 : Ok d3 := hi _ (by rw [hit]; simp)
      have o4 : Ok d4 := hi _ (by rw [hit]; simp)
      have hdef : isClass d = (isWord d0 && (isOneOf ["open", "sealed"] d1 && (isBo d2 && (allOf 1 12 isCname d3 && (allOf 0 3 isNamed d4))))) := by
        rw [isClass, e, Bool.true_and]
        unfold get
        rw [hit]
        rfl
      have q : ∀ H', Same H0 H' → Q (.bl (isWord d0 && (isOneOf ["open", "sealed"] d1 && (isBo d2 && (allOf 1 12 isCname d3 && (allOf 0 3 isNamed d4)))))) H' := fun H' s' => by rw [← hdef]; exact q H' (t0.trans s')
      refine iteF ⟨.ref a, rfl, a, _, rfl, hq, rfl, _, _, rfl, _, _, rfl, _, _, rfl, _, _, rfl, _, _, rfl, rfl, ?_⟩
      refine ⟨x0, rfl, x0, d0, rfl, k0, o0, fun H1 t1 => ⟨_, rfl, ite2 (fun e0 => ?_) (fun e0 => ?_)⟩⟩
      rotate_left
      · have z0 := q H1 (Same.trans (Same.refl H0) t1)
        rw [Bool.eq_false_iff.mpr e0, Bool.false_and] at z0
        exact z0
      refine ⟨x1, rfl, by show 2 ≤ sizeLine; decide, fun tp ntp => ?_⟩
      have t2 := same_upd (o := .tup [.str "open", .str "sealed"]) ntp
      revert t2
      have hsq : SqT K (upd H1 tp (.tup [.str "open", .str "sealed"])) tp ((["open", "sealed"] : List Str).map V.str) := .inl (.inl upd_same)
      revert hsq
      generalize upd H1 tp (.tup [.str "open", .str "sealed"]) = H2
      intro hsq t2
      refine ⟨d1, tp, ["open", "sealed"], dp_keep (Same.trans (Same.trans (Same.refl H0) t1) t2) k1, rfl, hsq, ⟨_, rfl, ite2 (fun e1 => ?_) (fun e1 => ?_)⟩⟩
      rotate_left
      · have z0 := q H2 (Same.trans (Same.trans (Same.refl H0) t1) t2)
        rw [show (isWord d0) = true from e0, Bool.true_and, Bool.eq_false_iff.mpr e1, Bool.false_and] at z0
        exact z0
      refine v_isi rfl (dp_keep (Same.trans (Same.trans (Same.refl H0) t1) t2) k2) (kb_bo d2) ⟨_, rfl, ite2 (fun e2 => ?_) (fun e2 => ?_)⟩
      rotate_left
      · have z0 := q H2 (Same.trans (Same.trans (Same.refl H0) t1) t2)
        rw [show (isWord d0) = true from e0, Bool.true_and, show (isOneOf ["open", "sealed"] d1) = true from e1, Bool.true_and, Bool.eq_false_iff.mpr e2, Bool.false_and] at z0
        exact z0
      refine ⟨x3, rfl, x3, d3, 1, 12, f_is_class_name, isCname, rfl, (dp_keep (Same.trans (Same.trans (Same.refl H0) t1) t2) k3), o3, hS_is_class_name, fun H4 t4 => ⟨_, rfl, ite2 (fun e3 => ?_) (fun e3 => ?_)⟩⟩
      rotate_left
      · have z0 := q H4 (Same.trans (Same.trans (Same.trans (Same.refl H0) t1) t2) t4)
        rw [show (isWord d0) = true from e0, Bool.true_and, show (isOneOf ["open", "sealed"] d1) = true from e1, Bool.true_and, show (isBo d2) = true from e2, Bool.true_and, Bool.eq_false_iff.mpr e3, Bool.false_and] at z0
        exact z0
      refine ⟨x4, rfl, x4, d4, 0, 3, f_is_named_class, isNamed, rfl, (dp_keep (Same.trans (Same.trans (Same.trans (Same.refl H0) t1) t2) t4) k4), o4, hS_is_named_class, fun H5 t5 => ?_⟩
      have z0 := q H5 (Same.trans (Same.trans (Same.trans (Same.trans (Same.refl H0) t1) t2) t4) t5)
      rw [show (isWord d0) = true from e0, Bool.true_and, show (isOneOf ["open", "sealed"] d1) = true from e1, Bool.true_and, show (isBo d2) = true from e2, Bool.true_and, show (allOf 1 12 isCname d3) = true from e3, Bool.true_and] at z0
      exact z0
abbrev s_is_generic : Stmt := topS 30
theorem sc_is_generic : FnScope ["value", "name", "takes", "by", "gives"] ["value"] (defScope s_is_generic) := ⟨rfl, rfl, rfl, by decide +kernel, rfl, by decide +kernel, by decide +kernel⟩
theorem ok_is_generic {f : Addr} {fd : FuncData} (F : Fun K "is_generic" "is_generic" s_is_generic f fd) {f_is_sequence : Addr} {d_is_sequence : FuncData} (h_is_sequence : Hd K mg "is_sequence" s_is_sequence ["value", "least", "most"] f_is_sequence d_is_sequence) (G_is_sequence : FnOk P w K mg base CX0 1 f_is_sequence d_is_sequence ["value", "least", "most"] (spSeq K)) {f_is_name : Addr} {d_is_name : FuncData} (h_is_name : Hd K mg "is_name" s_is_name ["value"] f_is_name d_is_name) (G_is_name : FnOk P w K mg base CX0 2 f_is_name d_is_name ["value"] (sp1 K isName)) {f_are_all : Addr} {d_are_all : FuncData} (h_are_all : Hd K mg "are_all" s_are_all ["value", "least", "most", "test"] f_are_all d_are_all) (G_are_all : FnOk P w K mg base CX0 9 f_are_all d_are_all ["value", "least", "most", "test"] (spAll K S)) {f_is_class_name : Addr} {d_is_class_name : FuncData} (h_is_class_name : Hd K mg "is_class_name" s_is_class_name ["value"] f_is_class_name d_is_class_name) (G_is_class_name : FnOk P w K mg base CX0 3 f_is_class_name d_is_class_name ["value"] (sp1 K isCname)) {f_is_integer : Addr} {d_is_integer : FuncData} (h_is_integer : Hd K mg "is_integer" s_is_integer ["value", "least", "most"] f_is_integer d_is_integer) (G_is_integer : FnOk P w K mg base CX0 1 f_is_integer d_is_integer ["value", "least", "most"] (spInteger K)) {u_MOST_TAKES : Value} (h_MOST_TAKES : Cst K mg "MOST_TAKES" (.int 3) u_MOST_TAKES) (m_len : mg "len" = none) (hS_is_class_name : S f_is_class_name = some (sp1 K isCname)) : FnOk P w K mg base CX0 10 f fd ["value"] (sp1 K isGeneric) := by
  refine F.ok sc_is_generic (fun vs H Q E h => ?_) (fun cdv A outer s H vs Q E hr h => ?_)
  · obtain ⟨_, _, rfl, _⟩ := h
    rfl
  · obtain ⟨x, d, rfl, hx, hok, q⟩ := h
    refine ⟨_, (pss_cons (ps_if (pt_not (pt_val (pe_call G_is_sequence (hr.mono (by decide)) (by rfl) h_is_sequence.g h_is_sequence.F.kp h_is_sequence.b .nil pass0 (pa_cons (pv 0) (pa_cons pe_int (pa_cons pe_int pa_nil)))))) (pss_one (ps_ret pe_bl)) pss_nil)
  (pss_cons (ps_asg (pv 0) (pg_seq (n := 4) (by rfl) (pgs_cons (pg_name (i := 1) sc_is_generic.nd rfl (.inl rfl)) (pgs_cons (pg_name (i := 2) sc_is_generic.nd rfl (.inl rfl)) (pgs_cons (pg_name (i := 3) sc_is_generic.nd rfl (.inl rfl)) (pgs_cons (pg_name (i := 4) sc_is_generic.nd rfl (.inl rfl)) pgs_nil))))))
  (pss_one (ps_ret (pe_and (pe_call G_is_name (hr.mono (by decide)) (by rfl) h_is_name.g h_is_name.F.kp h_is_name.b .nil pass0 (pa_cons (pv 1) pa_nil)) (pe_and (pe_call G_are_all (hr.mono (by decide)) (by rfl) h_are_all.g h_are_all.F.kp h_are_all.b .nil pass0 (pa_cons (pv 2) (pa_cons pe_int (pa_cons (pe_glob (v := .int 3) rfl h_MOST_TAKES.g h_MOST_TAKES.r) (pa_cons (pe_glob (v := .ref f_is_class_name) rfl h_is_class_name.g rfl) pa_nil))))) (pe_and (pe_call G_is_integer (hr.mono (by decide)) (by rfl) h_is_integer.g h_is_integer.F.kp h_is_integer.b .nil pass0 (pa_cons (pv 3) (pa_cons pe_int (pa_cons (pe_callB call_len_seq (by rfl) m_len PySem.boot_len (pa_cons (pv 2) pa_nil)) pa_nil)))) (pe_one (pe_call G_is_class_name (hr.mono (by decide)) (by rfl) h_is_class_name.g h_is_class_name.F.kp h_is_class_name.b .nil pass0 (pa_cons (pv 4) pa_nil)))))))))), ?_⟩
    refine ⟨x, rfl, x, d, 4, 4, rfl, hx, fun H0 t0 => ⟨_, rfl, ?_⟩⟩
    cases e : isSeq 4 4 d with
    | false => exact iteT (by have z0 := q H0 t0; rw [isGeneric, e, Bool.false_and] at z0; exact z0)
    | true =>
      obtain ⟨a, xs, rfl, hq, hd, hl, hi⟩ := seq_of (dp_keep t0 hx) hok e
      have hn : (items d).length = 4 := seq_len e
      obtain ⟨x0, x1, x2, x3, d0, d1, d2, d3, rfl, hit, k0, k1, k2, k3⟩ := dps4 hd hn
      have o0 : Ok d0 := hi _ (by rw [hit]; simp)
      have o1 : Ok d1 := hi _ (by rw [hit]; simp)
      have o2 : Ok d2 := hi _ (by rw [hit]; simp)
      have o3 : Ok d3 := hi _ (by rw [hit]; simp)
      have hdef : isGeneric d = (isName d0 && (allOf 1 3 isCname d1 && (isInteger 1 ((items d1).length : Int) d2 && (isCname d3)))) := by
        rw [isGeneric, e, Bool.true_and]
        unfold get
        rw [hit]
        rfl
      have q : ∀ H', Same H0 H' → Q (.bl (isName d0 && (allOf 1 3 isCname d1 && (isInteger 1 ((items d1).length : Int) d2 && (isCname d3))))) H' := fun H' s' => by rw [← hdef]; exact q H' (t0.trans s')
      refine iteF ⟨.ref a, rfl, a, _, rfl, hq, rfl, _, _, rfl, _, _, rfl, _, _, rfl, _, _, rfl, rfl, ?_⟩
      refine ⟨x0, rfl, x0, d0, rfl, k0, o0, fun H1 t1 => ⟨_, rfl, ite2 (fun e0 => ?_) (fun e0 => ?_)⟩⟩
      rotate_left
      · have z0 := q H1 (Same.trans (Same.refl H0) t1)
        rw [Bool.eq_false_iff.mpr e0, Bool.false_and] at z0
        exact z0
      refine ⟨x1, rfl, x1, d1, 1, 3, f_is_class_name, isCname, rfl, (dp_keep (Same.trans (Same.refl H0) t1) k1), o1, hS_is_class_name, fun H2 t2 => ⟨_, rfl, ite2 (fun e1 => ?_) (fun e1 => ?_)⟩⟩
      rotate_left
      · have z0 := q H2 (Same.trans (Same.trans (Same.refl H0) t1) t2)
        rw [show (isName d0) = true from e0, Bool.true_and, Bool.eq_false_iff.mpr e1, Bool.false_and] at z0
        exact z0
      obtain ⟨ba, bx, rfl, bq, bd, bl, _⟩ := seq_of k1 o1 (Bool.and_eq_true_iff.mp (show (isSeq 1 3 d1 && (items d1).all isCname) = true from e1)).1
      refine ⟨x2, rfl, .ref ba, rfl, ba, bx, rfl, bq.keep (Same.trans (Same.trans (Same.refl H0) t1) t2), x2, d2, 1, (bx.length : Int), rfl, (dp_keep (Same.trans (Same.trans (Same.refl H0) t1) t2) k2), fun H3 t3 => ?_⟩
      rw [bl]
      refine ⟨_, rfl, ite2 (fun e2 => ?_) (fun e2 => ?_)⟩
      rotate_left
      · have z0 := q H3 (Same.trans (Same.trans (Same.trans (Same.refl H0) t1) t2) t3)
        rw [show (isName d0) = true from e0, Bool.true_and, show (allOf 1 3 isCname d1) = true from e1, Bool.true_and, Bool.eq_false_iff.mpr e2, Bool.false_and] at z0
        exact z0
      refine ⟨x3, rfl, x3, d3, rfl, (dp_keep (Same.trans (Same.trans (Same.trans (Same.refl H0) t1) t2) t3) k3), o3, fun H4 t4 => ?_⟩
      have z0 := q H4 (Same.trans (Same.trans (Same.trans (Same.trans (Same.refl H0) t1) t2) t3) t4)
      rw [show (isName d0) = true from e0, Bool.true_and, show (allOf 1 3 isCname d1) = true from e1, Bool.true_and, show (isInteger 1 ((items d1).length : Int) d2) = true from e2, Bool.true_and] at z0
      exact z0
abbrev s_is_method : Stmt := topS 31
theorem sc_is_method : FnScope ["value", "generic", "params", "body"] ["value"] (defScope s_is_method) := ⟨rfl, rfl, rfl, by decide +kernel, rfl, by decide +kernel, by decide +kernel⟩
theorem ok_is_method {f : Addr} {fd : FuncData} (F : Fun K "is_method" "is_method" s_is_method f fd) {f_is_sequence : Addr} {d_is_sequence : FuncData} (h_is_sequence : Hd K mg "is_sequence" s_is_sequence ["value", "least", "most"] f_is_sequence d_is_sequence) (G_is_sequence : FnOk P w K mg base CX0 1 f_is_sequence d_is_sequence ["value", "least", "most"] (spSeq K)) {f_is_generic_name : Addr} {d_is_generic_name : FuncData} (h_is_generic_name : Hd K mg "is_generic_name" s_is_generic_name ["value"] f_is_generic_name d_is_generic_name) (G_is_generic_name : FnOk P w K mg base CX0 3 f_is_generic_name d_is_generic_name ["value"] (sp1 K isGname)) {f_are_all : Addr} {d_are_all : FuncData} (h_are_all : Hd K mg "are_all" s_are_all ["value", "least", "most", "test"] f_are_all d_are_all) (G_are_all : FnOk P w K mg base CX0 9 f_are_all d_are_all ["value", "least", "most", "test"] (spAll K S)) {f_is_named_class : Addr} {d_is_named_class : FuncData} (h_is_named_class : Hd K mg "is_named_class" s_is_named_class ["value"] f_is_named_class d_is_named_class) {f_is_expression : Addr} {d_is_expression : FuncData} (h_is_expression : Hd K mg "is_expression" s_is_expression ["value"] f_is_expression d_is_expression) (G_is_expression : FnOk P w K mg base CX0 6 f_is_expression d_is_expression ["value"] (sp1 K isExpr)) {u_MOST_TAKES : Value} (h_MOST_TAKES : Cst K mg "MOST_TAKES" (.int 3) u_MOST_TAKES) (hS_is_named_class : S f_is_named_class = some (sp1 K isNamed)) : FnOk P w K mg base CX0 10 f fd ["value"] (sp1 K isMethod) := by
  refine F.ok sc_is_method (fun vs H Q E h => ?_) (fun cdv A outer s H vs Q E hr h => ?_)
  · obtain ⟨_, _, rfl, _⟩ := h
    rfl
  · obtain ⟨x, d, rfl, hx, hok, q⟩ := h
    refine ⟨_, (pss_cons (ps_if (pt_not (pt_val (pe_call G_is_sequence (hr.mono (by decide)) (by rfl) h_is_sequence.g h_is_sequence.F.kp h_is_sequence.b .nil pass0 (pa_cons (pv 0) (pa_cons pe_int (pa_cons pe_int pa_nil)))))) (pss_one (ps_ret pe_bl)) pss_nil)
  (pss_cons (ps_asg (pv 0) (pg_seq (n := 3) (by rfl) (pgs_cons (pg_name (i := 1) sc_is_method.nd rfl (.inl rfl)) (pgs_cons (pg_name (i := 2) sc_is_method.nd rfl (.inl rfl)) (pgs_cons (pg_name (i := 3) sc_is_method.nd rfl (.inl rfl)) pgs_nil)))))
  (pss_one (ps_ret (pe_and (pe_call G_is_generic_name (hr.mono (by decide)) (by rfl) h_is_generic_name.g h_is_generic_name.F.kp h_is_generic_name.b .nil pass0 (pa_cons (pv 1) pa_nil)) (pe_and (pe_call G_are_all (hr.mono (by decide)) (by rfl) h_are_all.g h_are_all.F.kp h_are_all.b .nil pass0 (pa_cons (pv 2) (pa_cons pe_int (pa_cons (pe_glob (v := .int 3) rfl h_MOST_TAKES.g h_MOST_TAKES.r) (pa_cons (pe_glob (v := .ref f_is_named_class) rfl h_is_named_class.g rfl) pa_nil))))) (pe_one (pe_call G_is_expression (hr.mono (by decide)) (by rfl) h_is_expression.g h_is_expression.F.kp h_is_expression.b .nil pass0 (pa_cons (pv 3) pa_nil))))))))), ?_⟩
    refine ⟨x, rfl, x, d, 3, 3, rfl, hx, fun H0 t0 => ⟨_, rfl, ?_⟩⟩
    cases e : isSeq 3 3 d with
    | false => exact iteT (by have z0 := q H0 t0; rw [isMethod, e, Bool.false_and] at z0; exact z0)
    | true =>
      obtain ⟨a, xs, rfl, hq, hd, hl, hi⟩ := seq_of (dp_keep t0 hx) hok e
      have hn : (items d).length = 3 := seq_len e
      obtain ⟨x0, x1, x2, d0, d1, d2, rfl, hit, k0, k1, k2⟩ := dps3 hd hn
      have o0 : Ok d0 := hi _ (by rw [hit]; simp)
      have o1 : Ok d1 := hi _ (by rw [hit]; simp)
      have o2 : Ok d2 := hi _ (by rw [hit]; simp)
      have hdef : isMethod d = (isGname d0 && (allOf 1 3 isNamed d1 && (isExpr d2))) := by
        rw [isMethod, e, Bool.true_and]
        unfold get
        rw [hit]
        rfl
      have q : ∀ H', Same H0 H' → Q (.bl (isGname d0 && (allOf 1 3 isNamed d1 && (isExpr d2)))) H' := fun H' s' => by rw [← hdef]; exact q H' (t0.trans s')
      refine iteF ⟨.ref a, rfl, a, _, rfl, hq, rfl, _, _, rfl, _, _, rfl, _, _, rfl, rfl, ?_⟩
      refine ⟨x0, rfl, x0, d0, rfl, k0, o0, fun H1 t1 => ⟨_, rfl, ite2 (fun e0 => ?_) (fun e0 => ?_)⟩⟩
      rotate_left
      · have z0 := q H1 (Same.trans (Same.refl H0) t1)
        rw [Bool.eq_false_iff.mpr e0, Bool.false_and] at z0
        exact z0
      refine ⟨x1, rfl, x1, d1, 1, 3, f_is_named_class, isNamed, rfl, (dp_keep (Same.trans (Same.refl H0) t1) k1), o1, hS_is_named_class, fun H2 t2 => ⟨_, rfl, ite2 (fun e1 => ?_) (fun e1 => ?_)⟩⟩
      rotate_left
      · have z0 := q H2 (Same.trans (Same.trans (Same.refl H0) t1) t2)
        rw [show (isGname d0) = true from e0, Bool.true_and, Bool.eq_false_iff.mpr e1, Bool.false_and] at z0
        exact z0
      refine ⟨x2, rfl, x2, d2, rfl, (dp_keep (Same.trans (Same.trans (Same.refl H0) t1) t2) k2), o2, fun H3 t3 => ?_⟩
      have z0 := q H3 (Same.trans (Same.trans (Same.trans (Same.refl H0) t1) t2) t3)
      rw [show (isGname d0) = true from e0, Bool.true_and, show (allOf 1 3 isNamed d1) = true from e1, Bool.true_and] at z0
      exact z0
abbrev s_is_module : Stmt := topS 26
theorem sc_is_module : FnScope ["value", "name", "uses", "classes", "generics", "methods"] ["value"] (defScope s_is_module) := ⟨rfl, rfl, rfl, by decide +kernel, rfl, by decide +kernel, by decide +kernel⟩
theorem ok_is_module {f : Addr} {fd : FuncData} (F : Fun K "is_module" "is_module" s_is_module f fd) {f_is_sequence : Addr} {d_is_sequence : FuncData} (h_is_sequence : Hd K mg "is_sequence" s_is_sequence ["value", "least", "most"] f_is_sequence d_is_sequence) (G_is_sequence : FnOk P w K mg base CX0 1 f_is_sequence d_is_sequence ["value", "least", "most"] (spSeq K)) {f_is_name : Addr} {d_is_name : FuncData} (h_is_name : Hd K mg "is_name" s_is_name ["value"] f_is_name d_is_name) (G_is_name : FnOk P w K mg base CX0 2 f_is_name d_is_name ["value"] (sp1 K isName)) {f_are_all : Addr} {d_are_all : FuncData} (h_are_all : Hd K mg "are_all" s_are_all ["value", "least", "most", "test"] f_are_all d_are_all) (G_are_all : FnOk P w K mg base CX0 11 f_are_all d_are_all ["value", "least", "most", "test"] (spAll K S)) {f_is_class : Addr} {d_is_class : FuncData} (h_is_class : Hd K mg "is_class" s_is_class ["value"] f_is_class d_is_class) {f_is_generic : Addr} {d_is_generic : FuncData} (h_is_generic : Hd K mg "is_generic" s_is_generic ["value"] f_is_generic d_is_generic) {f_is_method : Addr} {d_is_method : FuncData} (h_is_method : Hd K mg "is_method" s_is_method ["value"] f_is_method d_is_method) {u_MOST_USES : Value} (h_MOST_USES : Cst K mg "MOST_USES" (.int 4) u_MOST_USES) {u_MOST_CLASSES : Value} (h_MOST_CLASSES : Cst K mg "MOST_CLASSES" (.int 6) u_MOST_CLASSES) {u_MOST_GENERICS : Value} (h_MOST_GENERICS : Cst K mg "MOST_GENERICS" (.int 3) u_MOST_GENERICS) {u_MOST_METHODS : Value} (h_MOST_METHODS : Cst K mg "MOST_METHODS" (.int 8) u_MOST_METHODS) (hS_is_name : S f_is_name = some (sp1 K isName)) (hS_is_class : S f_is_class = some (sp1 K isClass)) (hS_is_generic : S f_is_generic = some (sp1 K isGeneric)) (hS_is_method : S f_is_method = some (sp1 K isMethod)) : FnOk P w K mg base CX0 12 f fd ["value"] (sp1 K isModule) := by
  refine F.ok sc_is_module (fun vs H Q E h => ?_) (fun cdv A outer s H vs Q E hr h => ?_)
  · obtain ⟨_, _, rfl, _⟩ := h
    rfl
  · obtain ⟨x, d, rfl, hx, hok, q⟩ := h
    refine ⟨_, (pss_cons (ps_if (pt_not (pt_val (pe_call G_is_sequence (hr.mono (by decide)) (by rfl) h_is_sequence.g h_is_sequence.F.kp h_is_sequence.b .nil pass0 (pa_cons (pv 0) (pa_cons pe_int (pa_cons pe_int pa_nil)))))) (pss_one (ps_ret pe_bl)) pss_nil)
  (pss_cons (ps_asg (pv 0) (pg_seq (n := 5) (by rfl) (pgs_cons (pg_name (i := 1) sc_is_module.nd rfl (.inl rfl)) (pgs_cons (pg_name (i := 2) sc_is_module.nd rfl (.inl rfl)) (pgs_cons (pg_name (i := 3) sc_is_module.nd rfl (.inl rfl)) (pgs_cons (pg_name (i := 4) sc_is_module.nd rfl (.inl rfl)) (pgs_cons (pg_name (i := 5) sc_is_module.nd rfl (.inl rfl)) pgs_nil)))))))
  (pss_one (ps_ret (pe_and (pe_call G_is_name (hr.mono (by decide)) (by rfl) h_is_name.g h_is_name.F.kp h_is_name.b .nil pass0 (pa_cons (pv 1) pa_nil)) (pe_and (pe_call G_are_all (hr.mono (by decide)) (by rfl) h_are_all.g h_are_all.F.kp h_are_all.b .nil pass0 (pa_cons (pv 2) (pa_cons pe_int (pa_cons (pe_glob (v := .int 4) rfl h_MOST_USES.g h_MOST_USES.r) (pa_cons (pe_glob (v := .ref f_is_name) rfl h_is_name.g rfl) pa_nil))))) (pe_and (pe_call G_are_all (hr.mono (by decide)) (by rfl) h_are_all.g h_are_all.F.kp h_are_all.b .nil pass0 (pa_cons (pv 3) (pa_cons pe_int (pa_cons (pe_glob (v := .int 6) rfl h_MOST_CLASSES.g h_MOST_CLASSES.r) (pa_cons (pe_glob (v := .ref f_is_class) rfl h_is_class.g rfl) pa_nil))))) (pe_and (pe_call G_are_all (hr.mono (by decide)) (by rfl) h_are_all.g h_are_all.F.kp h_are_all.b .nil pass0 (pa_cons (pv 4) (pa_cons pe_int (pa_cons (pe_glob (v := .int 3) rfl h_MOST_GENERICS.g h_MOST_GENERICS.r) (pa_cons (pe_glob (v := .ref f_is_generic) rfl h_is_generic.g rfl) pa_nil))))) (pe_one (pe_call G_are_all (hr.mono (by decide)) (by rfl) h_are_all.g h_are_all.F.kp h_are_all.b .nil pass0 (pa_cons (pv 5) (pa_cons pe_int (pa_cons (pe_glob (v := .int 8) rfl h_MOST_METHODS.g h_MOST_METHODS.r) (pa_cons (pe_glob (v := .ref f_is_method) rfl h_is_method.g rfl) pa_nil)))))))))))))), ?_⟩
    refine ⟨x, rfl, x, d, 5, 5, rfl, hx, fun H0 t0 => ⟨_, rfl, ?_⟩⟩
    cases e : isSeq 5 5 d with
    | false => exact iteT (by have z0 := q H0 t0; rw [isModule, e, Bool.false_and] at z0; exact z0)
    | true =>
      obtain ⟨a, xs, rfl, hq, hd, hl, hi⟩ := seq_of (dp_keep t0 hx) hok e
      have hn : (items d).length = 5 := seq_len e
      obtain ⟨x0, x1, x2, x3, x4, d0, d1, d2, d3, d4, rfl, hit, k0, k1, k2, k3, k4⟩ := dps5 hd hn
      have o0 : Ok d0 := hi _ (by rw [hit]; simp)
      have o1 : Ok d1 := hi _ (by rw [hit]; simp)
      have o2 : Ok d2 := hi _ (by rw [hit]; simp)
      have o3 : Ok d3 := hi _ (by rw [hit]; simp)
      have o4 : Ok d4 := hi _ (by rw [hit]; simp)
      have hdef : isModule d = (isName d0 && (allOf 0 4 isName d1 && (allOf 0 6 isClass d2 && (allOf 0 3 isGeneric d3 && (allOf 0 8 isMethod d4))))) := by
        rw [isModule, e, Bool.true_and]
        unfold get
        rw [hit]
        rfl
      have q : ∀ H', Same H0 H' → Q (.bl (isName d0 && (allOf 0 4 isName d1 && (allOf 0 6 isClass d2 && (allOf 0 3 isGeneric d3 && (allOf 0 8 isMethod d4)))))) H' := fun H' s' => by rw [← hdef]; exact q H' (t0.trans s')
      refine iteF ⟨.ref a, rfl, a, _, rfl, hq, rfl, _, _, rfl, _, _, rfl, _, _, rfl, _, _, rfl, _, _, rfl, rfl, ?_⟩
      refine ⟨x0, rfl, x0, d0, rfl, k0, o0, fun H1 t1 => ⟨_, rfl, ite2 (fun e0 => ?_) (fun e0 => ?_)⟩⟩
      rotate_left
      · have z0 := q H1 (Same.trans (Same.refl H0) t1)
        rw [Bool.eq_false_iff.mpr e0, Bool.false_and] at z0
        exact z0
      refine ⟨x1, rfl, x1, d1, 0, 4, f_is_name, isName, rfl, (dp_keep (Same.trans (Same.refl H0) t1) k1), o1, hS_is_name, fun H2 t2 => ⟨_, rfl, ite2 (fun e1 => ?_) (fun e1 => ?_)⟩⟩
      rotate_left
      · have z0 := q H2 (Same.trans (Same.trans (Same.refl H0) t1) t2)
        rw [show (isName d0) = true from e0, Bool.true_and, Bool.eq_false_iff.mpr e1, Bool.false_and] at z0
        exact z0
      refine ⟨x2, rfl, x2, d2, 0, 6, f_is_class, isClass, rfl, (dp_keep (Same.trans (Same.trans (Same.refl H0) t1) t2) k2), o2, hS_is_class, fun H3 t3 => ⟨_, rfl, ite2 (fun e2 => ?_) (fun e2 => ?_)⟩⟩
      rotate_left
      · have z0 := q H3 (Same.trans (Same.trans (Same.trans (Same.refl H0) t1) t2) t3)
        rw [show (isName d0) = true from e0, Bool.true_and, show (allOf 0 4 isName d1) = true from e1, Bool.true_and, Bool.eq_false_iff.mpr e2, Bool.false_and] at z0
        exact z0
      refine ⟨x3, rfl, x3, d3, 0, 3, f_is_generic, isGeneric, rfl, (dp_keep (Same.trans (Same.trans (Same.trans (Same.refl H0) t1) t2) t3) k3), o3, hS_is_generic, fun H4 t4 => ⟨_, rfl, ite2 (fun e3 => ?_) (fun e3 => ?_)⟩⟩
      rotate_left
      · have z0 := q H4 (Same.trans (Same.trans (Same.trans (Same.trans (Same.refl H0) t1) t2) t3) t4)
        rw [show (isName d0) = true from e0, Bool.true_and, show (allOf 0 4 isName d1) = true from e1, Bool.true_and, show (allOf 0 6 isClass d2) = true from e2, Bool.true_and, Bool.eq_false_iff.mpr e3, Bool.false_and] at z0
        exact z0
      refine ⟨x4, rfl, x4, d4, 0, 8, f_is_method, isMethod, rfl, (dp_keep (Same.trans (Same.trans (Same.trans (Same.trans (Same.refl H0) t1) t2) t3) t4) k4), o4, hS_is_method, fun H5 t5 => ?_⟩
      have z0 := q H5 (Same.trans (Same.trans (Same.trans (Same.trans (Same.trans (Same.refl H0) t1) t2) t3) t4) t5)
      rw [show (isName d0) = true from e0, Bool.true_and, show (allOf 0 4 isName d1) = true from e1, Bool.true_and, show (allOf 0 6 isClass d2) = true from e2, Bool.true_and, show (allOf 0 3 isGeneric d3) = true from e3, Bool.true_and] at z0
      exact z0
end
end Cw

set_option Elab.async false
set_option linter.all false
set_option maxRecDepth 100000
set_option maxHeartbeats 4000000
namespace Cw
open PySem PySem.Spec PyProof.Rows L2
def isWhole : PyData → Bool | .int _ => true | _ => false
def reserved19 : List Str := reserved ++ [("base" : Str)]
def spReserved : Sp := fun vs H Q _ => vs = [] ∧ ∀ L H', Same H H' → H L = none → H' L = some (.lst (reserved19.map V.str)) → Q (.ref L) H'
section
variable {P : Program} {w : World} {K : PySem.W.Frag} {mg : Str → Option Value} {base : Heap} {S : Addr → Option Sp}
abbrev s__law_whole : Stmt := topS 41
theorem sc__law_whole : FnScope ["value"] ["value"] (defScope s__law_whole) := ⟨rfl, rfl, rfl, by decide +kernel, rfl, by decide +kernel, by decide +kernel⟩
theorem ok__law_whole {f : Addr} {fd : FuncData} (F : Fun K "_law_whole" "_law_whole" s__law_whole f fd) (m_isinstance : mg "isinstance" = none) (m_int : mg "int" = none) (m_bool : mg "bool" = none) : FnOk P w K mg base CX0 1 f fd ["value"] (sp1 K isWhole) := by
  refine F.ok sc__law_whole (fun vs H Q E h => ?_) (fun cdv A outer s H vs Q E hr h => ?_)
  · obtain ⟨_, _, rfl, _⟩ := h
    rfl
  · obtain ⟨x, d, rfl, hx, hok, q⟩ := h
    refine ⟨_, (pss_one (ps_ret (pe_and (pe_callB call_isi (by rfl) m_isinstance (by decide +kernel) (pa_cons (pv 0) (pa_cons (pe_bltn (v := .ty "int") (by rfl) m_int (by decide +kernel) rfl) pa_nil))) (pe_one (pe_not (pe_callB call_isi (by rfl) m_isinstance (by decide +kernel) (pa_cons (pv 0) (pa_cons (pe_bltn (v := .ty "bool") (by rfl) m_bool (by decide +kernel) rfl) pa_nil)))))))), ?_⟩
    refine v_isi rfl hx (kb_in d) ⟨_, rfl, ?_⟩
    have z0 := q H (Same.refl H)
    cases hx with
    | int i => exact iteT (r_isi rfl (.int i) (b := false) (kb_bo _) z0)
    | bl b => exact iteT (r_isi rfl (.bl b) (b := true) (kb_bo _) z0)
    | non => exact iteF z0
    | str z => exact iteF z0
    | lst h1 h2 => exact iteF z0
    | tup h1 h2 => exact iteF z0
abbrev s__law_reserved : Stmt := topS 47
theorem sc__law_reserved : FnScope ["first"] [] (defScope s__law_reserved) := ⟨rfl, rfl, rfl, by decide +kernel, rfl, by decide +kernel, by decide +kernel⟩
theorem ok__law_reserved {f : Addr} {fd : FuncData} (F : Fun K "_law_reserved" "_law_reserved" s__law_reserved f fd) : FnOk P w K mg base CX0 1 f fd [] (spReserved) := by
  refine F.ok sc__law_reserved (fun vs H Q E h => ?_) (fun cdv A outer s H vs Q E hr h => ?_)
  · obtain ⟨rfl, _⟩ := h
    rfl
  · obtain ⟨rfl, q⟩ := h
    refine ⟨_, (pss_cons (ps_set (i := 0) sc__law_reserved.nd rfl (.inl rfl) (pe_lst (pa_cons pe_str (pa_cons pe_str (pa_cons pe_str (pa_cons pe_str (pa_cons pe_str (pa_cons pe_str (pa_cons pe_str (pa_cons pe_str (pa_cons pe_str pa_nil)))))))))))
  (pss_one (ps_ret (pe_op op_cat (pv 0) (pe_lst (pa_cons pe_str (pa_cons pe_str (pa_cons pe_str (pa_cons pe_str (pa_cons pe_str (pa_cons pe_str (pa_cons pe_str (pa_cons pe_str (pa_cons pe_str (pa_cons pe_str pa_nil))))))))))))))), ?_⟩
    refine ⟨by show 9 ≤ sizeLine; decide, fun a ha => ?_⟩
    dsimp only
    refine nameA ?_
    refine retA ?_
    refine ⟨.ref a, rfl, by show 10 ≤ sizeLine; decide, fun b hb => ?_⟩
    have ab : a ≠ b := fun k => by rw [← k, upd_same] at hb; cases hb
    refine ⟨a, b, _, _, rfl, rfl, by rw [upd_ne ab]; exact upd_same, upd_same, by decide, fun L hL => ?_⟩
    exact q L _ (((same_upd ha).trans (same_upd hb)).trans (same_upd hL)) (((same_upd ha).trans (same_upd hb)).free hL) upd_same
end
end Cw

set_option Elab.async false
set_option linter.all false
set_option maxRecDepth 100000
set_option maxHeartbeats 4000000
namespace Cw
open PySem PySem.Spec PyProof.Rows L2
def lawWord (cap : Bool) (d : PyData) : Bool := if cap = true then isWord d else isName d
def spWord (K : PySem.W.Frag) : Sp := fun vs H Q _ => ∃ x d cap, vs = [x, .bl cap] ∧ Dp K H x d ∧ Ok d ∧ ∀ H', Same H H' → Q (.bl (lawWord cap d)) H'
def chOk (cap : Bool) (j : Nat) (c : Nat) : Bool := if (cap && j == 0) = true then upC c else lowC c
theorem up_low {c : Nat} (h : upC c = true) : lowC c = false := by
  unfold upC at h
  unfold lowC
  have := of_decide_eq_true h
  exact decide_eq_false (by omega)
theorem word_len {cap : Bool} {z : Str} (h : z.length = 0 ∨ 12 < z.length) : lawWord cap (.str z) = false := by
  cases cap with
  | false =>
    show isNameS z = false
    rcases h with h | h
    · exact isNameS_short (by omega)
    · exact isNameS_long (by omega)
  | true =>
    show isWordS z = false
    rcases h with h | h
    · exact isWordS_short (by omega)
    · exact isWordS_long (by omega)
theorem res_low : reserved.all (fun z => areLower z && !isWordS z) = true := by decide +kernel
theorem word_res {cap : Bool} {z : Str} (h : z ∈ reserved) : lawWord cap (.str z) = false := by
  have h2 := List.all_eq_true.mp res_low z h
  obtain ⟨h3, h4⟩ := Bool.and_eq_true_iff.mp h2
  cases cap with
  | false =>
    show isNameS z = false
    unfold isNameS
    rw [List.contains_iff_mem.mpr h]
    simp
  | true =>
    show isWordS z = false
    simpa using h4
theorem word_bad {cap : Bool} {z : Str} {j c : Nat} (h : z.cps.toList[j]? = some c) (e : chOk cap j c = false) : lawWord cap (.str z) = false := by
  cases cap with
  | false =>
    show isNameS z = false
    refine isNameS_low ?_
    unfold areLower
    rw [Bool.eq_false_iff]
    intro g
    have := List.all_eq_true.mp g c (List.mem_of_getElem? h)
    rw [chOk, Bool.false_and, if_neg (by decide)] at e
    rw [e] at this
    cases this
  | true =>
    show isWordS z = false
    by_cases h1 : 1 ≤ z.length
    · by_cases h2 : z.length ≤ 12
      · cases ez : z.cps.toList with
        | nil => rw [ez] at h; cases h
        | cons c0 r =>
          rw [isWordS_in h1 h2 ez]
          rw [ez] at h
          cases j with
          | zero =>
            obtain rfl := Option.some.inj h
            rw [show upC c0 = false from e, Bool.false_and]
          | succ j =>
            have e2 : lowC c = false := e
            rw [Bool.and_eq_false_iff]
            right
            rw [Bool.eq_false_iff]
            intro g
            have := List.all_eq_true.mp g c (List.mem_of_getElem? (by simpa using h))
            rw [e2] at this
            cases this
      · exact isWordS_long h2
    · exact isWordS_short h1
theorem word_good {cap : Bool} {z : Str} (h1 : 1 ≤ z.length) (h2 : z.length ≤ 12) (hr : z ∉ reserved) (h : ∀ j c, z.cps.toList[j]? = some c → chOk cap j c = true) : lawWord cap (.str z) = true := by
  cases cap with
  | false =>
    show isNameS z = true
    have hl : areLower z = true := by
      unfold areLower
      refine List.all_eq_true.mpr fun c m => ?_
      obtain ⟨j, hj⟩ := List.getElem?_of_mem m
      exact h j c hj
    rw [isNameS_in h1 h2 hl]
    simpa using hr
  | true =>
    show isWordS z = true
    cases ez : z.cps.toList with
    | nil =>
      have : z.cps.toList.length = 0 := by rw [ez]; rfl
      rw [Array.length_toList] at this
      have : z.length = 0 := this
      omega
    | cons c0 r =>
      rw [isWordS_in h1 h2 ez]
      rw [ez] at h
      have g0 : upC c0 = true := h 0 c0 rfl
      rw [g0, Bool.true_and]
      refine List.all_eq_true.mpr fun c m => ?_
      obtain ⟨j, hj⟩ := List.getElem?_of_mem m
      exact h (j + 1) c (by simpa using hj)
theorem in_res {z : Str} : (if false = true then !inV (.str z) (reserved.map V.str) else inV (.str z) (reserved.map V.str)) = reserved.contains z := by
  have h := reserved_in (z := z)
  rw [if_pos rfl] at h
  rw [if_neg (by decide)]
  simpa using h
section
variable {P : Program} {w : World} {K : PySem.W.Frag} {mg : Str → Option Value} {base : Heap} {S : Addr → Option Sp}
abbrev s__law_is_word : Stmt := topS 49
theorem sc__law_is_word : FnScope ["value", "capital", "k", "upper"] ["value", "capital"] (defScope s__law_is_word) := ⟨rfl, rfl, rfl, by decide +kernel, rfl, by decide +kernel, by decide +kernel⟩
theorem ok__law_is_word {f : Addr} {fd : FuncData} (F : Fun K "_law_is_word" "_law_is_word" s__law_is_word f fd) {f__law_reserved : Addr} {d__law_reserved : FuncData} (h__law_reserved : Hd K mg "_law_reserved" s__law_reserved [] f__law_reserved d__law_reserved) (G__law_reserved : FnOk P w K mg base CX0 1 f__law_reserved d__law_reserved [] (spReserved)) (m_isinstance : mg "isinstance" = none) (m_str : mg "str" = none) (m_len : mg "len" = none) (m_range : mg "range" = none) : FnOk P w K mg base CX0 2 f fd ["value", "capital"] (spWord K) := by
  refine F.ok sc__law_is_word (fun vs H Q E h => ?_) (fun cdv A outer s H vs Q E hr h => ?_)
  · obtain ⟨_, _, _, rfl, _⟩ := h
    rfl
  · obtain ⟨x, d, cap, rfl, hx, hok, q⟩ := h
    refine ⟨_, (pss_cons (ps_if (PW.pt (pw_or (pt_not (pt_val (pe_callB call_isi (by rfl) m_isinstance (by decide +kernel) (pa_cons (pv 0) (pa_cons (pe_bltn (v := .ty "str") (by rfl) m_str (by decide +kernel) rfl) pa_nil))))) (pw_or (pt_cmpR op_eq (pe_callB call_len_str (by rfl) m_len PySem.boot_len (pa_cons (pv 0) pa_nil)) pe_int (nomark _)) (pw_or (pt_cmpR op_gt (pe_callB call_len_str (by rfl) m_len PySem.boot_len (pa_cons (pv 0) pa_nil)) pe_int (nomark _)) (pw_or1 (pt_cmpR op_in_seq (pv 0) (pe_slice sl_list (pe_call0 G__law_reserved (hr.mono (by decide)) (by rfl) h__law_reserved.g h__law_reserved.F.kp h__law_reserved.b .nil pass0) po_none (po_some pe_int)) (by rfl))))))) (pss_one (ps_ret pe_bl)) pss_nil)
  (pss_cons (ps_for PassesOwn.never rfl (pi_range1 rfl m_range (pa_cons (pe_callB call_len_str (by rfl) m_len PySem.boot_len (pa_cons (pv 0) pa_nil)) pa_nil)) (pg_name (i := 2) sc__law_is_word.nd rfl (.inl rfl)) (pss_cons (ps_set (i := 3) sc__law_is_word.nd rfl (.inl rfl) (pe_cmpR op_in_sign (pe_ix ix_str (pv 0) (pv 2) (fun _ _ => rfl)) pe_str (by rfl)))
  (pss_cons (ps_if (PW.pt (pw_and (pt_not (pt_val (pv 3))) (pw_and1 (pt_cmpR op_notIn_sign (pe_ix ix_str (pv 0) (pv 2) (fun _ _ => rfl)) pe_str (by rfl))))) (pss_one (ps_ret pe_bl)) pss_nil)
  (pss_one (ps_if (pt_cmpR op_ne (pv 3) (pe_and (pv 1) (pe_one (pe_cmpR op_eq (pv 2) pe_int (nomark _)))) (nomark _)) (pss_one (ps_ret pe_bl)) pss_nil)))))
  (pss_one (ps_ret pe_bl)))), ?_⟩
    refine r_isi rfl hx (kb_st d) ?_
    cases hx with
    | str z =>
      have hz := ok_str hok
      have qf : lawWord cap (.str z) = false → ∀ H', Same H H' → Q (.bl false) H' := fun e H' s' => by
        have z0 := q H' s'
        rw [e] at z0
        exact z0
      refine iteF ⟨.str z, rfl, z, rfl, hz, rfl, _, rfl, ite2 (fun e1 => iteT ?_) (fun e1 => ?_)⟩
      · rw [dec_int] at e1
        have e2 : (z.length : Int) = 0 := by simpa using e1
        exact qf (word_len (.inl (by omega))) H (Same.refl H)
      rw [dec_int] at e1
      have g1 : 1 ≤ z.length := by
        have : ¬ ((z.length : Int) = 0) := fun g => e1 (by rw [g]; rfl)
        omega
      refine ⟨.str z, rfl, z, rfl, hz, _, 12, rfl, rfl, _, rfl, ite2 (fun e2 => iteT ?_) (fun e2 => ?_)⟩
      · have := of_decide_eq_true e2
        exact qf (word_len (.inr (by omega))) H (Same.refl H)
      have g2 : z.length ≤ 12 := by
        have : ¬ ((12 : Int) < (z.length : Int)) := fun g => e2 (decide_eq_true g)
        omega
      refine ⟨.str z, rfl, rfl, fun L H1 s1 f1 hL => ⟨18, rfl, L, _, rfl, SqL.of hL, fun p hp => ?_⟩⟩
      refine ⟨p, _, rfl, .inl (SqL.of upd_same), rfl, by decide, ?_⟩
      have s2 : Same H (upd H1 p (.lst (cutV (reserved19.map V.str) none (some 18)))) := s1.trans (same_upd hp)
      rw [show cutV (reserved19.map V.str) none (some 18) = reserved.map V.str by rfl] at s2 ⊢
      generalize upd H1 p (.lst (reserved.map V.str)) = H2 at s2 ⊢
      rw [in_res]
      refine ⟨_, rfl, ite2 (fun e3 => ?_) (fun e3 => ?_)⟩
      · exact qf (word_res (List.contains_iff_mem.mp e3)) H2 s2
      have g3 : z ∉ reserved := fun m => e3 (List.contains_iff_mem.mpr m)
      refine nextA ?_
      dsimp only
      refine seqA ?_
      refine ⟨.str z, rfl, z, rfl, hz, z.length, rfl, by omega, by omega, for_it walk_range (fun i σ' H' => H' = H2 ∧ (∃ u v, σ' = [some (.str z), some (.bl cap), u, v]) ∧ ∀ j c, j < i → z.cps.toList[j]? = some c → chOk cap j c = true) ⟨rfl, ⟨none, none, rfl⟩, fun j c hj => absurd hj (Nat.not_lt_zero _)⟩ (fun _ _ _ _ _ => True.intro) ?_ ?_⟩
      · rintro i y σ' Hx H3 hi ⟨rfl, ⟨u, v, rfl⟩, hb⟩ ⟨rfl, rfl⟩
        have hil : i < z.cps.toList.length := by
          rw [Array.length_toList]
          have : i < z.length := by simpa using hi
          exact this
        have hc : z.cps.toList[i]? = some z.cps.toList[i] := List.getElem?_eq_getElem hil
        generalize z.cps.toList[i] = c at hc
        have hc' : atI z.cps.toList (0 + (i : Int)) = some c := by rw [Int.zero_add]; exact atI_nat hc
        refine ⟨.str z, rfl, _, rfl, z, _, c, rfl, rfl, hz, hc', c, _, rfl, rfl, ?_⟩
        rw [up_mem]
        have fin : chOk cap i c = true → ∀ j c', j < i + 1 → z.cps.toList[j]? = some c' → chOk cap j c' = true := fun e j c' hj hj' => by
          by_cases h5 : j < i
          · exact hb j c' h5 hj'
          · have h6 : j = i := by omega
            subst h6
            rw [hc] at hj'
            obtain rfl := Option.some.inj hj'
            exact e
        have e0 : decide (V.int (0 + (i : Int)) = V.int 0) = (i == 0) := by
          rw [dec_int, Bool.eq_iff_iff, beq_iff_eq, beq_iff_eq]
          omega
        refine nameA (seqA ?_)
        have st : ∀ b : Bool, (b = true ∨ lowC c = true) → upC c = b → ∃ r : Bool, (cap && i == 0) = r ∧ chOk cap i c = (b == r) := fun b h1 h2 => by
          refine ⟨_, rfl, ?_⟩
          unfold chOk
          cases hr : (cap && i == 0) with
          | true => rw [if_pos rfl, h2]; cases b <;> rfl
          | false =>
            rw [if_neg (by decide)]
            cases b with
            | true => exact up_low h2
            | false => rcases h1 with h1 | h1; · cases h1
                       · exact h1
        have snd : ∀ b : Bool, (b = true ∨ lowC c = true) → upC c = b → (!decide (V.bl b = V.bl (cap && i == 0))) = !chOk cap i c := fun b h1 h2 => by
          obtain ⟨r, e1, e2⟩ := st b h1 h2
          rw [e1, e2, dec_bl]
        cases hu : upC c with
        | true =>
          refine ⟨.bl true, rfl, _, rfl, iteF (iteF ?_)⟩
          have s3 := snd true (.inl rfl) hu
          refine nextA ?_
          dsimp only
          cases cap with
          | true =>
            refine ⟨.bl true, rfl, .bl true, rfl, _, rfl, iteT ⟨.int (0 + (i : Int)), rfl, rfl, rfl, _, rfl, ?_⟩⟩
            rw [e0, show (i == 0) = (true && i == 0) from (Bool.true_and _).symm, s3]
            refine ite2 (fun e => ?_) (fun e => ?_)
            · exact qf (word_bad hc (by simpa using e)) _ s2
            · exact ⟨rfl, ⟨_, _, rfl⟩, fin (by simpa using e)⟩
          | false =>
            refine ⟨.bl true, rfl, .bl false, rfl, _, rfl, iteF ⟨rfl, _, rfl, ?_⟩⟩
            rw [show false = (false && i == 0) from (Bool.false_and _).symm, s3]
            refine ite2 (fun e => ?_) (fun e => ?_)
            · exact qf (word_bad hc (by simpa using e)) _ s2
            · exact ⟨rfl, ⟨_, _, rfl⟩, fin (by simpa using e)⟩
        | false =>
          refine ⟨.bl false, rfl, _, rfl, iteT ⟨.str z, rfl, _, rfl, z, _, c, rfl, rfl, hz, hc', c, _, rfl, rfl, _, rfl, ?_⟩⟩
          rw [low_mem]
          cases hlw : lowC c with
          | false =>
            refine iteT (qf (word_bad hc ?_) _ s2)
            unfold chOk
            rw [hu, hlw, ite_self]
          | true =>
            refine iteF ?_
            have s3 := snd false (.inr hlw) hu
            refine nextA ?_
            dsimp only
            cases cap with
            | true =>
              refine ⟨.bl false, rfl, .bl true, rfl, _, rfl, iteT ⟨.int (0 + (i : Int)), rfl, rfl, rfl, _, rfl, ?_⟩⟩
              rw [e0, show (i == 0) = (true && i == 0) from (Bool.true_and _).symm, s3]
              refine ite2 (fun e => ?_) (fun e => ?_)
              · exact qf (word_bad hc (by simpa using e)) _ s2
              · exact ⟨rfl, ⟨_, _, rfl⟩, fin (by simpa using e)⟩
            | false =>
              refine ⟨.bl false, rfl, .bl false, rfl, _, rfl, iteF ⟨rfl, _, rfl, ?_⟩⟩
              have s4 : (!decide (V.bl false = V.bl false)) = !chOk false i c := s3
              rw [s4]
              refine ite2 (fun e => ?_) (fun e => ?_)
              · exact qf (word_bad hc (by simpa using e)) _ s2
              · exact ⟨rfl, ⟨_, _, rfl⟩, fin (by simpa using e)⟩
      · rintro σ' H3 ⟨rfl, ⟨u, v, rfl⟩, hb⟩
        have hb' : ∀ j c, z.cps.toList[j]? = some c → chOk cap j c = true := fun j c hj => hb j c (by
          have := (List.getElem?_eq_some_iff.mp hj).1
          rw [Array.length_toList] at this
          have h5 : j < z.length := this
          simpa using h5) hj
        have z0 := q H3 s2
        rw [word_good g1 g2 g3 hb'] at z0
        exact z0
    | bl b => exact iteT (iteT (by have z0 := q H (Same.refl H); rw [show lawWord cap _ = false by cases cap <;> rfl] at z0; exact z0))
    | non => exact iteT (iteT (by have z0 := q H (Same.refl H); rw [show lawWord cap _ = false by cases cap <;> rfl] at z0; exact z0))
    | int z => exact iteT (iteT (by have z0 := q H (Same.refl H); rw [show lawWord cap _ = false by cases cap <;> rfl] at z0; exact z0))
    | lst h1 h2 => exact iteT (iteT (by have z0 := q H (Same.refl H); rw [show lawWord cap _ = false by cases cap <;> rfl] at z0; exact z0))
    | tup h1 h2 => exact iteT (iteT (by have z0 := q H (Same.refl H); rw [show lawWord cap _ = false by cases cap <;> rfl] at z0; exact z0))
end
end Cw

set_option Elab.async false
set_option linter.all false
set_option maxRecDepth 100000
set_option maxHeartbeats 4000000
namespace Cw
open PySem PySem.Spec PyProof.Rows L2
def lawCn (cap : Bool) : PyData → Bool
  | .str z => isName (.str (Txt.partition z ".").1) && lawWord cap (.str (Txt.partition z ".").2.2)
  | _ => false
theorem lawCn_eq (cap : Bool) (d : PyData) : lawCn cap d = if cap = true then isCname d else isGname d := by
  cases cap <;> cases d <;> rfl
def spLawCn (K : PySem.W.Frag) : Sp := fun vs H Q _ => ∃ x d cap, vs = [x, .bl cap] ∧ Dp K H x d ∧ Ok d ∧ ∀ H', Same H H' → Q (.bl (lawCn cap d)) H'
theorem ok_strz {z : Str} (h : Ok (.str z)) : z.length ≤ 1000000 := by cases h with | str _ h => exact h
theorem cut_to {z : Str} {i : Nat} (h : i ≤ z.length) : cutS z none (some (i : Int)) = ⟨z.cps.extract 0 i⟩ := by
  unfold cutS
  rw [HT.sIx_none, HT.sIx_nat, Nat.min_eq_left h]
  congr 1
  apply Array.toList_inj.mp
  simp
theorem cut_from {z : Str} {i : Nat} (h : i + 1 ≤ z.length) : cutS z (some ((i : Int) + 1)) none = ⟨z.cps.extract (i + 1) z.length⟩ := by
  unfold cutS
  rw [HT.sIx_none, show ((i : Int) + 1) = ((i + 1 : Nat) : Int) from rfl, HT.sIx_nat, Nat.min_eq_left h]
  congr 1
  apply Array.toList_inj.mp
  simp
section
variable {P : Program} {w : World} {K : PySem.W.Frag} {mg : Str → Option Value} {base : Heap} {S : Addr → Option Sp}
abbrev s__law_is_class_name : Stmt := topS 50
theorem sc__law_is_class_name : FnScope ["value", "capital", "at"] ["value", "capital"] (defScope s__law_is_class_name) := ⟨rfl, rfl, rfl, by decide +kernel, rfl, by decide +kernel, by decide +kernel⟩
theorem ok__law_is_class_name {f : Addr} {fd : FuncData} (F : Fun K "_law_is_class_name" "_law_is_class_name" s__law_is_class_name f fd) {f__law_is_word : Addr} {d__law_is_word : FuncData} (h__law_is_word : Hd K mg "_law_is_word" s__law_is_word ["value", "capital"] f__law_is_word d__law_is_word) (G__law_is_word : FnOk P w K mg base CX0 2 f__law_is_word d__law_is_word ["value", "capital"] (spWord K)) (m_isinstance : mg "isinstance" = none) (m_str : mg "str" = none) : FnOk P w K mg base CX0 3 f fd ["value", "capital"] (spLawCn K) := by
  refine F.ok sc__law_is_class_name (fun vs H Q E h => ?_) (fun cdv A outer s H vs Q E hr h => ?_)
  · obtain ⟨_, _, _, rfl, _⟩ := h
    rfl
  · obtain ⟨x, d, cap, rfl, hx, hok, q⟩ := h
    refine ⟨_, (pss_cons (ps_if (PW.pt (pw_or (pt_not (pt_val (pe_callB call_isi (by rfl) m_isinstance (by decide +kernel) (pa_cons (pv 0) (pa_cons (pe_bltn (v := .ty "str") (by rfl) m_str (by decide +kernel) rfl) pa_nil))))) (pw_or1 (pt_cmpR op_notIn_str pe_str (pv 0) (by rfl))))) (pss_one (ps_ret pe_bl)) pss_nil)
  (pss_cons (ps_set (i := 2) sc__law_is_class_name.nd rfl (.inl rfl) (pe_bm PySem.F.plainAttrs_str PySem.F.slot_str_index PySem.F.type_str_index mt_sindex (pv 0) (pa_cons pe_str pa_nil)))
  (pss_one (ps_ret (pe_and (pe_call G__law_is_word (hr.mono (by decide)) (by rfl) h__law_is_word.g h__law_is_word.F.kp h__law_is_word.b .nil pass0 (pa_cons (pe_slice sl_str (pv 0) po_none (po_some (pv 2))) (pa_cons pe_bl pa_nil))) (pe_one (pe_call G__law_is_word (hr.mono (by decide)) (by rfl) h__law_is_word.g h__law_is_word.F.kp h__law_is_word.b .nil pass0 (pa_cons (pe_slice sl_str (pv 0) (po_some (pe_op op_add (pv 2) pe_int)) po_none) (pa_cons (pv 1) pa_nil))))))))), ?_⟩
    refine r_isi rfl hx (kb_st d) ?_
    cases hx with
    | str z =>
      have hz := ok_str hok
      have hol := fun i m => StrLaws.occ_spec z "." 0 z.length 1 i m
      refine iteF ⟨.str z, rfl, ".", z, rfl, rfl, _, rfl, ?_⟩
      cases ho : Builtin.Str.occurrences z "." 0 z.length 1 with
      | nil =>
        refine iteT ?_
        have z0 := q H (Same.refl H)
        rw [show lawCn cap (.str z) = false by
          show (isName (.str (Txt.partition z ".").1) && lawWord cap (.str (Txt.partition z ".").2.2)) = false
          unfold Txt.partition
          rw [ho]
          show (isName (.str z) && lawWord cap (.str Str.empty)) = false
          rw [word_len (.inl rfl), Bool.and_false]] at z0
        exact z0
      | cons i rest =>
        have hi : i + 1 ≤ z.length := (hol i (by rw [ho]; exact List.mem_cons_self)).1
        have e1 : Txt.partition z "." = (cutS z none (some (i : Int)), ("." : Str), cutS z (some ((i : Int) + 1)) none) := by
          unfold Txt.partition
          rw [ho, cut_to (by omega), cut_from hi]
          rfl
        refine iteF ?_
        refine nextA ?_
        dsimp only
        refine seqA ?_
        refine ⟨.str z, rfl, rfl, z, ".", i, rest, rfl, rfl, ho, ?_⟩
        dsimp only
        refine nameA ?_
        refine retA ?_
        have q2 : ∀ H', Same H H' → Q (.bl (lawWord false (.str (cutS z none (some (i : Int)))) && lawWord cap (.str (cutS z (some ((i : Int) + 1)) none)))) H' := fun H' s' => by
          have z0 := q H' s'
          rw [show lawCn cap (.str z) = (isName (.str (Txt.partition z ".").1) && lawWord cap (.str (Txt.partition z ".").2.2)) from rfl, e1] at z0
          exact z0
        have cl : ∀ lo hi, (cutS z lo hi).length ≤ 1000000 := fun lo hi => Nat.le_trans (cutS_length z lo hi) (ok_strz hok)
        refine ⟨.str z, rfl, .int i, rfl, (i : Int), rfl, z, rfl, hz, .str (cutS z none (some (i : Int))), .str (cutS z none (some (i : Int))), false, rfl, .str _, .str _ (cl _ _), fun H1 s1 => ⟨_, rfl, ite2 (fun e => ?_) (fun e => ?_)⟩⟩
        · refine ⟨.str z, rfl, .int i, rfl, (i : Int), 1, rfl, rfl, (i : Int) + 1, rfl, z, rfl, hz, .bl cap, rfl, .str (cutS z (some ((i : Int) + 1)) none), .str (cutS z (some ((i : Int) + 1)) none), cap, rfl, .str _, .str _ (cl _ _), fun H2 s2 => ?_⟩
          have z0 := q2 H2 (s1.trans s2)
          rw [e, Bool.true_and] at z0
          exact z0
        · have z0 := q2 H1 s1
          rw [Bool.eq_false_iff.mpr e, Bool.false_and] at z0
          exact z0
    | bl b => exact iteT (iteT (q H (Same.refl H)))
    | non => exact iteT (iteT (q H (Same.refl H)))
    | int z => exact iteT (iteT (q H (Same.refl H)))
    | lst h1 h2 => exact iteT (iteT (q H (Same.refl H)))
    | tup h1 h2 => exact iteT (iteT (q H (Same.refl H)))
end
end Cw

set_option Elab.async false
set_option linter.all false
set_option maxRecDepth 100000
set_option maxHeartbeats 4000000
/-! # CwNe: x != a text, x any data. -/
namespace L2
open PySem PySem.Spec PyProof.Rows
def rNeS (K : PySem.W.Frag) : R2 := fun x y H Q => ∃ d z, Dp K H x d ∧ y = .str z ∧ Q (.bl (!isOneOf [z] d)) H
theorem op_neS {X : Cx} (hu : X.A.units < cLine) : OpR X (compareOp .NotEq) (rNeS X.K) := by
  intro pins s σ H x y v u Q I rx ry h
  obtain ⟨d, z, hx, rfl, q⟩ := h
  obtain ⟨tk, rfl⟩ := (show ∃ t, u = Value.str z t from ry)
  have fin : ∀ b : Bool, b = !isOneOf [z] d → EP X pins σ Q (.bool b) s := fun b e => ⟨.bl _, H, I, by rw [e]; rfl, q⟩
  cases hx with
  | non => cases (show v = Value.none from rx); exact SeqAt.RcNeAt.none_str z tk _ _ _ _ (fin _ rfl)
  | bl b => cases (show v = Value.bool b from rx); exact SeqAt.RcNeAt.bool_str b z tk _ _ _ _ (fin _ rfl)
  | int i => obtain ⟨t2, e⟩ := (show ∃ t, v = Value.int i t from rx); cases e; exact SeqAt.RcNeAt.int_str i t2 z tk _ _ _ _ (fin _ rfl)
  | str y => obtain ⟨t2, e⟩ := (show ∃ t, v = Value.str y t from rx); cases e; exact SeqAt.RcNeAt.str_str y t2 z tk _ _ _ _ (fin _ (by
      show (!(y == z)) = !([z].any fun w => w == y)
      rw [List.any_cons, List.any_nil, Bool.or_false]
      congr 1
      rw [Bool.eq_iff_iff, beq_iff_eq, beq_iff_eq]
      exact ⟨Eq.symm, Eq.symm⟩))
  | lst hs _ =>
    cases rx
    obtain ⟨its2, _, pl2, _⟩ := I.list hs
    exact SeqAt.RcNeAt.list_str z tk pl2.isList hu _ _ _ _ (fin _ rfl)
  | tup hs _ =>
    cases rx
    obtain ⟨its2, _, pl2, _⟩ := I.tuple hs
    exact SeqAt.RcNeAt.tuple_str z tk pl2 hu _ _ _ _ (fin _ rfl)
end L2

set_option Elab.async false
set_option linter.all false
set_option maxRecDepth 100000
set_option maxHeartbeats 4000000
namespace Cw
open PySem PySem.Spec PyProof.Rows L2
def tupN (lo hi : Nat) (r : PyData → Bool) : PyData → Bool
  | .tuple l => decide (lo ≤ l.length) && (decide (l.length ≤ hi) && l.all r)
  | _ => false
def lawNamed : PyData → Bool
  | .tuple [d0, d1] => lawWord false d0 && lawCn true d1
  | _ => false
def lawClass : PyData → Bool
  | .tuple [d0, d1, d2, d3, d4] => lawWord true d0 && (isOneOf ["open", "sealed"] d1 && (isBo d2 && (tupN 1 12 (lawCn true) d3 && tupN 0 3 lawNamed d4)))
  | _ => false
theorem lawClass_len {ds : List PyData} (h : ¬ ((ds.length : Int) = 5)) : lawClass (.tuple ds) = false := by
  match ds, h with
  | [], _ => rfl
  | [_], _ => rfl
  | [_, _], _ => rfl
  | [_, _, _], _ => rfl
  | [_, _, _, _], _ => rfl
  | [_, _, _, _, _], h => exact absurd rfl h
  | _ :: _ :: _ :: _ :: _ :: _ :: _, _ => rfl
theorem ne_int {i j : Int} : (!decide (V.int i = V.int j)) = !(i == j) := by rw [dec_int]
theorem all_no {r : PyData → Bool} {l : List PyData} {z : PyData} (m : z ∈ l) (e : r z = false) : l.all r = false := by
  rw [Bool.eq_false_iff]
  intro g
  have := List.all_eq_true.mp g z m
  rw [e] at this
  cases this
theorem all_yes {r : PyData → Bool} {l : List PyData} (h : ∀ (j : Nat) z, l[j]? = some z → r z = true) : l.all r = true := by
  refine List.all_eq_true.mpr fun z m => ?_
  obtain ⟨j, hj⟩ := List.getElem?_of_mem m
  exact h j z hj
theorem all_step {r : PyData → Bool} {l : List PyData} {i j : Nat} {y z : PyData} (h : ∀ (j : Nat) z, j < i → l[j]? = some z → r z = true) (hj : j < i + 1) (hz : l[j]? = some z) (hy : l[i]? = some y) (e : r y = true) : r z = true := by
  by_cases k : j < i
  · exact h j z k hz
  · have : j = i := by omega
    subst this
    rw [hz] at hy
    obtain rfl := Option.some.inj hy
    exact e
theorem and_q {t u : TT} {b c : Bool} {σ : L2.St} {H : Hp} {Q : Bool → Hp → Prop} (hb : ∀ R : Bool → Hp → Prop, R b H → t σ H R) (hc : b = true → ∀ R : Bool → Hp → Prop, R c H → u σ H R) (q : Q (b && c) H) : tAnd t u σ H Q := by
  refine hb _ ?_
  cases b with
  | true => exact iteT (hc rfl _ q)
  | false => exact iteF q
theorem or_q {t u : TT} {b c : Bool} {σ : L2.St} {H : Hp} {Q : Bool → Hp → Prop} (hb : ∀ R : Bool → Hp → Prop, R b H → t σ H R) (hc : b = false → ∀ R : Bool → Hp → Prop, R c H → u σ H R) (q : Q (b || c) H) : tOr t u σ H Q := by
  refine hb _ ?_
  cases b with
  | true => exact iteT q
  | false => exact iteF (hc rfl _ q)
theorem isi_q {K : PySem.W.Frag} {te : TE} {x : V} {d : PyData} {n : String} {b : Bool} {σ : L2.St} {H : Hp} {Q : Bool → Hp → Prop} (e : ∀ R : V → Hp → Prop, R x H → te σ H R) (h : Dp K H x d) (kb : kitB (tyName d) n = some b) (q : Q (!b) H) :
    tNot (tB (tCB (rIsi K) (tCons te (tCons (tC (.ty n)) tNil)))) σ H Q := e _ ⟨x, .ty n, .type (tyName d), .type n, b, rfl, .ty n, ty_dp h, kit_ty kb, b, rfl, q⟩
theorem one_two {x y : Str} {d : PyData} : ((!isOneOf [x] d) && !isOneOf [y] d) = !isOneOf [x, y] d := by
  cases d with
  | str z =>
    show ((!([x].any fun w => w == z)) && !([y].any fun w => w == z)) = !([x, y].any fun w => w == z)
    rw [List.any_cons, List.any_cons, List.any_cons, List.any_cons, List.any_nil, Bool.or_false, Bool.or_false, Bool.not_or]
  | _ => rfl
theorem tupN_no {lo hi : Nat} {r : PyData → Bool} {d : PyData} (h : isTu d = false) : tupN lo hi r d = false := by
  cases d with
  | tuple l => cases h
  | _ => rfl
theorem tu_of {K : PySem.W.Frag} {H : Hp} {x : V} {d : PyData} (h : Dp K H x d) (e : isTu d = true) : ∃ a xs l, x = .ref a ∧ d = .tuple l ∧ SqT K H a xs ∧ DpAll K H xs l := by
  cases h with
  | tup h1 h2 => exact ⟨_, _, _, rfl, rfl, h1, h2⟩
  | _ => cases e
theorem lawNamed_len {ds : List PyData} (h : ¬ ((ds.length : Int) = 2)) : lawNamed (.tuple ds) = false := by
  match ds, h with
  | [], _ => rfl
  | [_], _ => rfl
  | [_, _], h => exact absurd rfl h
  | _ :: _ :: _ :: _, _ => rfl
theorem dps2 {K : PySem.W.Frag} {H : Hp} {xs : List V} {ds : List PyData} (h : DpAll K H xs ds) (n : ds.length = 2) : ∃ x0 x1 d0 d1, xs = [x0, x1] ∧ ds = [d0, d1] ∧ Dp K H x0 d0 ∧ Dp K H x1 d1 := by
  match ds, n with
  | [d0, d1], _ =>
    rcases h with _ | ⟨k0, h⟩
    rcases h with _ | ⟨k1, h⟩
    cases h
    exact ⟨_, _, _, _, rfl, rfl, k0, k1⟩
theorem ifA {c : TT} {t u : TS} {D : Ends} {σ : L2.St} {H : Hp} (h : c σ H fun b H1 => if b = true then t D σ H1 else u D σ H1) : tIfS c t u D σ H := h
/-- a pair of a name and a class name, tested in line -/
theorem named_q {K : PySem.W.Frag} {σ : L2.St} {H : Hp} {Q : Bool → Hp → Prop} {i : Nat} {x : V} {d : PyData} (e : σ[i]? = some (some x)) (hx : Dp K H x d) (ok : Ok d) (q : ∀ H', Same H H' → Q (!lawNamed d) H') :
    tOr (tNot (tB (tCB (rIsi K) (tCons (tVar i) (tCons (tC (V.ty "tuple")) tNil))))) (tOr (tTest (tOp rNe (tCB (fun xs H Q => ∃ p ys, xs = [V.ref p] ∧ (SqL K H p ys ∨ SqT K H p ys) ∧ Q (V.int (ys.length : Nat)) H) (tCons (tVar i) tNil)) (tC (V.int 2))))
      (tOr (tNot (tB (tCall (spWord K) [] E0 (tCons (tOp (rIxT K) (tVar i) (tC (V.int 0))) (tCons (tC (V.bl false)) tNil))))) (tNot (tB (tCall (spLawCn K) [] E0 (tCons (tOp (rIxT K) (tVar i) (tC (V.int 1))) (tCons (tC (V.bl true)) tNil))))))) σ H Q := by
  refine r_isi e hx (kb_tu d) ?_
  cases hx with
  | @tup a xs ds hq hd =>
    refine iteF ⟨.ref a, e, a, xs, rfl, .inr hq, rfl, _, rfl, ?_⟩
    rw [ne_int, (dp_get hd).1]
    refine ite2 (fun g => ?_) (fun g => ?_)
    · have z0 := q H (Same.refl H)
      rw [lawNamed_len (by simpa using g)] at z0
      exact z0
    have hn : ds.length = 2 := by
      have e' : ((ds.length : Int) == 2) = true := by simpa using g
      have := beq_iff_eq.mp e'
      omega
    obtain ⟨x0, x1, d0, d1, rfl, rfl, k0, k1⟩ := dps2 hd hn
    have o0 : Ok d0 := ok_mem ok (by simp [items])
    have o1 : Ok d1 := ok_mem ok (by simp [items])
    have q : ∀ H', Same H H' → Q (!(lawWord false d0 && lawCn true d1)) H' := q
    refine ⟨.ref a, e, a, _, _, _, rfl, rfl, hq, atI_nat (j := 0) rfl, x0, d0, false, rfl, k0, o0, fun H1 s1 => ⟨_, rfl, ?_⟩⟩
    cases e0 : lawWord false d0 with
    | false =>
      have z0 := q H1 s1
      rw [e0, Bool.false_and] at z0
      exact iteT z0
    | true =>
      refine iteF ⟨.ref a, e, a, _, _, _, rfl, rfl, sqt_keep s1 hq, atI_nat (j := 1) rfl, x1, d1, true, rfl, dp_keep s1 k1, o1, fun H2 s2 => ⟨_, rfl, ?_⟩⟩
      have z0 := q H2 (s1.trans s2)
      rw [e0, Bool.true_and] at z0
      exact z0
  | bl b => exact iteT (q H (Same.refl H))
  | non => exact iteT (q H (Same.refl H))
  | int z => exact iteT (q H (Same.refl H))
  | lst h1 h2 => exact iteT (q H (Same.refl H))
  | str z => exact iteT (q H (Same.refl H))
section
variable {P : Program} {w : World} {K : PySem.W.Frag} {mg : Str → Option Value} {base : Heap} {S : Addr → Option Sp}
abbrev s__law_is_class : Stmt := topS 51
theorem sc__law_is_class : FnScope ["value", "one"] ["value"] (defScope s__law_is_class) := ⟨rfl, rfl, rfl, by decide +kernel, rfl, by decide +kernel, by decide +kernel⟩
theorem ok__law_is_class {f : Addr} {fd : FuncData} (F : Fun K "_law_is_class" "_law_is_class" s__law_is_class f fd) {f__law_is_word : Addr} {d__law_is_word : FuncData} (h__law_is_word : Hd K mg "_law_is_word" s__law_is_word ["value", "capital"] f__law_is_word d__law_is_word) (G__law_is_word : FnOk P w K mg base CX0 2 f__law_is_word d__law_is_word ["value", "capital"] (spWord K)) {f__law_is_class_name : Addr} {d__law_is_class_name : FuncData} (h__law_is_class_name : Hd K mg "_law_is_class_name" s__law_is_class_name ["value", "capital"] f__law_is_class_name d__law_is_class_name) (G__law_is_class_name : FnOk P w K mg base CX0 3 f__law_is_class_name d__law_is_class_name ["value", "capital"] (spLawCn K)) (m_isinstance : mg "isinstance" = none) (m_tuple : mg "tuple" = none) (m_len : mg "len" = none) (m_bool : mg "bool" = none) : FnOk P w K mg base CX0 4 f fd ["value"] (sp1 K lawClass) := by
  refine F.ok sc__law_is_class (fun vs H Q E h => ?_) (fun cdv A outer s H vs Q E hr h => ?_)
  · obtain ⟨_, _, rfl, _⟩ := h
    rfl
  · obtain ⟨x, d, rfl, hx, hok, q⟩ := h
    refine ⟨_, (pss_cons (ps_if (PW.pt (pw_or (pt_not (pt_val (pe_callB call_isi (by rfl) m_isinstance (by decide +kernel) (pa_cons (pv 0) (pa_cons (pe_bltn (v := .ty "tuple") (by rfl) m_tuple (by decide +kernel) rfl) pa_nil))))) (pw_or (pt_cmpR op_ne (pe_callB call_len_seq (by rfl) m_len PySem.boot_len (pa_cons (pv 0) pa_nil)) pe_int (nomark _)) (pw_or1 (pt_not (pt_val (pe_call G__law_is_word (hr.mono (by decide)) (by rfl) h__law_is_word.g h__law_is_word.F.kp h__law_is_word.b .nil pass0 (pa_cons (pe_ix ix_tup (pv 0) pe_int (fun _ _ => rfl)) (pa_cons pe_bl pa_nil))))))))) (pss_one (ps_ret pe_bl)) pss_nil)
  (pss_cons (ps_if (PW.pt (pw_and (pt_cmpR (op_neS (Nat.lt_of_succ_lt (hu_of hr))) (pe_ix ix_tup (pv 0) pe_int (fun _ _ => rfl)) pe_str (nomark _)) (pw_and1 (pt_cmpR (op_neS (Nat.lt_of_succ_lt (hu_of hr))) (pe_ix ix_tup (pv 0) pe_int (fun _ _ => rfl)) pe_str (nomark _))))) (pss_one (ps_ret pe_bl)) pss_nil)
  (pss_cons (ps_if (PW.pt (pw_or (pt_not (pt_val (pe_callB call_isi (by rfl) m_isinstance (by decide +kernel) (pa_cons (pe_ix ix_tup (pv 0) pe_int (fun _ _ => rfl)) (pa_cons (pe_bltn (v := .ty "bool") (by rfl) m_bool (by decide +kernel) rfl) pa_nil))))) (pw_or (pt_not (pt_val (pe_callB call_isi (by rfl) m_isinstance (by decide +kernel) (pa_cons (pe_ix ix_tup (pv 0) pe_int (fun _ _ => rfl)) (pa_cons (pe_bltn (v := .ty "tuple") (by rfl) m_tuple (by decide +kernel) rfl) pa_nil))))) (pw_or1 (pt_not (pt_val (pe_callB call_isi (by rfl) m_isinstance (by decide +kernel) (pa_cons (pe_ix ix_tup (pv 0) pe_int (fun _ _ => rfl)) (pa_cons (pe_bltn (v := .ty "tuple") (by rfl) m_tuple (by decide +kernel) rfl) pa_nil))))))))) (pss_one (ps_ret pe_bl)) pss_nil)
  (pss_cons (ps_if (PW.pt (pw_or (pt_cmpR op_eq (pe_callB call_len_seq (by rfl) m_len PySem.boot_len (pa_cons (pe_ix ix_tup (pv 0) pe_int (fun _ _ => rfl)) pa_nil)) pe_int (nomark _)) (pw_or (pt_cmpR op_gt (pe_callB call_len_seq (by rfl) m_len PySem.boot_len (pa_cons (pe_ix ix_tup (pv 0) pe_int (fun _ _ => rfl)) pa_nil)) pe_int (nomark _)) (pw_or1 (pt_cmpR op_gt (pe_callB call_len_seq (by rfl) m_len PySem.boot_len (pa_cons (pe_ix ix_tup (pv 0) pe_int (fun _ _ => rfl)) pa_nil)) pe_int (nomark _)))))) (pss_one (ps_ret pe_bl)) pss_nil)
  (pss_cons (ps_for PassesOwn.never rfl (pi_tup (pe_ix ix_tup (pv 0) pe_int (fun _ _ => rfl))) (pg_name (i := 1) sc__law_is_class.nd rfl (.inl rfl)) (pss_one (ps_if (pt_not (pt_val (pe_call G__law_is_class_name (hr.mono (by decide)) (by rfl) h__law_is_class_name.g h__law_is_class_name.F.kp h__law_is_class_name.b .nil pass0 (pa_cons (pv 1) (pa_cons pe_bl pa_nil))))) (pss_one (ps_ret pe_bl)) pss_nil)))
  (pss_cons (ps_for PassesOwn.never rfl (pi_tup (pe_ix ix_tup (pv 0) pe_int (fun _ _ => rfl))) (pg_name (i := 1) sc__law_is_class.nd rfl (.inl rfl)) (pss_one (ps_if (PW.pt (pw_or (pt_not (pt_val (pe_callB call_isi (by rfl) m_isinstance (by decide +kernel) (pa_cons (pv 1) (pa_cons (pe_bltn (v := .ty "tuple") (by rfl) m_tuple (by decide +kernel) rfl) pa_nil))))) (pw_or (pt_cmpR op_ne (pe_callB call_len_seq (by rfl) m_len PySem.boot_len (pa_cons (pv 1) pa_nil)) pe_int (nomark _)) (pw_or (pt_not (pt_val (pe_call G__law_is_word (hr.mono (by decide)) (by rfl) h__law_is_word.g h__law_is_word.F.kp h__law_is_word.b .nil pass0 (pa_cons (pe_ix ix_tup (pv 1) pe_int (fun _ _ => rfl)) (pa_cons pe_bl pa_nil))))) (pw_or1 (pt_not (pt_val (pe_call G__law_is_class_name (hr.mono (by decide)) (by rfl) h__law_is_class_name.g h__law_is_class_name.F.kp h__law_is_class_name.b .nil pass0 (pa_cons (pe_ix ix_tup (pv 1) pe_int (fun _ _ => rfl)) (pa_cons pe_bl pa_nil)))))))))) (pss_one (ps_ret pe_bl)) pss_nil)))
  (pss_one (ps_ret pe_bl)))))))), ?_⟩
    have qf : lawClass d = false → ∀ H', Same H H' → Q (.bl false) H' := fun e H' s' => by
      have z0 := q H' s'
      rw [e] at z0
      exact z0
    refine r_isi rfl hx (kb_tu d) ?_
    cases hx with
    | @tup a xs ds hq hd =>
      refine iteF ⟨.ref a, rfl, a, xs, rfl, .inr hq, rfl, _, rfl, ?_⟩
      rw [ne_int, (dp_get hd).1]
      refine ite2 (fun e => iteT ?_) (fun e => ?_)
      · exact qf (lawClass_len (by simpa using e)) H (Same.refl H)
      have hn : ds.length = 5 := by
        have e' : ((ds.length : Int) == 5) = true := by simpa using e
        have := beq_iff_eq.mp e'
        omega
      obtain ⟨x0, x1, x2, x3, x4, d0, d1, d2, d3, d4, rfl, rfl, k0, k1, k2, k3, k4⟩ := dps5 hd hn
      have o0 : Ok d0 := ok_mem hok (by simp [items])
      have o1 : Ok d1 := ok_mem hok (by simp [items])
      have o2 : Ok d2 := ok_mem hok (by simp [items])
      have o3 : Ok d3 := ok_mem hok (by simp [items])
      have o4 : Ok d4 := ok_mem hok (by simp [items])
      refine ⟨.ref a, rfl, a, _, _, _, rfl, rfl, hq, atI_nat (j := 0) rfl, x0, d0, true, rfl, k0, o0, fun H1 s1 => ⟨_, rfl, ?_⟩⟩
      cases e0 : lawWord true d0 with
      | false => exact iteT (qf (by show (lawWord true d0 && _) = false; rw [e0, Bool.false_and]) H1 s1)
      | true =>
      refine iteF (nextA ?_)
      dsimp only
      refine seqA ?_
      have hq1 := sqt_keep s1 hq
      have hd0 : lawClass (.tuple [d0, d1, d2, d3, d4]) = (isOneOf ["open", "sealed"] d1 && (isBo d2 && (tupN 1 12 (lawCn true) d3 && tupN 0 3 lawNamed d4))) := by show (lawWord true d0 && _) = _; rw [e0, Bool.true_and]
      refine and_q (b := !isOneOf ["open"] d1) (c := !isOneOf ["sealed"] d1) (fun R r => ⟨.ref a, rfl, a, _, _, _, rfl, rfl, hq1, atI_nat (j := 1) rfl, d1, "open", dp_keep s1 k1, rfl, _, rfl, r⟩) (fun _ R r => ⟨.ref a, rfl, a, _, _, _, rfl, rfl, hq1, atI_nat (j := 1) rfl, d1, "sealed", dp_keep s1 k1, rfl, _, rfl, r⟩) ?_
      rw [one_two]
      cases e1 : isOneOf ["open", "sealed"] d1 with
      | false => exact iteT (qf (by rw [hd0, e1, Bool.false_and]) H1 s1)
      | true =>
      refine iteF (nextA ?_)
      dsimp only
      refine seqA ?_
      refine or_q (b := !isBo d2) (c := (!isTu d3) || (!isTu d4)) (fun R r => isi_q (fun R r => ⟨.ref a, rfl, a, _, _, _, rfl, rfl, hq1, atI_nat (j := 2) rfl, r⟩) (dp_keep s1 k2) (kb_bo d2) r) (fun _ R r => or_q (b := !isTu d3) (c := !isTu d4) (fun R r => isi_q (fun R r => ⟨.ref a, rfl, a, _, _, _, rfl, rfl, hq1, atI_nat (j := 3) rfl, r⟩) (dp_keep s1 k3) (kb_tu d3) r) (fun _ R r => isi_q (fun R r => ⟨.ref a, rfl, a, _, _, _, rfl, rfl, hq1, atI_nat (j := 4) rfl, r⟩) (dp_keep s1 k4) (kb_tu d4) r) r) ?_
      cases e2 : isBo d2 with
      | false => exact iteT (qf (by rw [hd0, e1, e2, Bool.true_and, Bool.false_and]) H1 s1)
      | true =>
      cases e3 : isTu d3 with
      | false => exact iteT (qf (by rw [hd0, e1, e2, tupN_no e3, Bool.true_and, Bool.true_and, Bool.false_and]) H1 s1)
      | true =>
      cases e4 : isTu d4 with
      | false => exact iteT (qf (by rw [hd0, e1, e2, tupN_no e4, Bool.true_and, Bool.true_and, Bool.and_false]) H1 s1)
      | true =>
      refine iteF (nextA ?_)
      dsimp only
      refine seqA ?_
      obtain ⟨a3, y3, l3, rfl, rfl, hq3, hd3⟩ := tu_of (dp_keep s1 k3) e3
      obtain ⟨a4, y4, l4, rfl, rfl, hq4, hd4⟩ := tu_of (dp_keep s1 k4) e4
      have hl3 := (dp_get hd3).1
      have hl4 := (dp_get hd4).1
      have hd1 : lawClass (.tuple [d0, d1, d2, .tuple l3, .tuple l4]) = (tupN 1 12 (lawCn true) (.tuple l3) && tupN 0 3 lawNamed (.tuple l4)) := by rw [hd0, e1, e2, Bool.true_and, Bool.true_and]
      refine or_q (b := decide (V.int (y3.length : Int) = V.int 0)) (c := decide ((12 : Int) < (y3.length : Int)) || decide ((3 : Int) < (y4.length : Int))) (fun R r => ⟨.ref a, rfl, a, _, _, _, rfl, rfl, hq1, atI_nat (j := 3) rfl, a3, y3, rfl, .inr hq3, rfl, _, rfl, r⟩)
        (fun _ R r => or_q (b := decide ((12 : Int) < (y3.length : Int))) (c := decide ((3 : Int) < (y4.length : Int))) (fun R r => ⟨.ref a, rfl, a, _, _, _, rfl, rfl, hq1, atI_nat (j := 3) rfl, a3, y3, rfl, .inr hq3, _, 12, rfl, rfl, _, rfl, r⟩) (fun _ R r => ⟨.ref a, rfl, a, _, _, _, rfl, rfl, hq1, atI_nat (j := 4) rfl, a4, y4, rfl, .inr hq4, _, 3, rfl, rfl, _, rfl, r⟩) r) ?_
      rw [dec_int, hl3, hl4]
      refine ite2 (fun e5 => ?_) (fun e5 => ?_)
      · refine qf ?_ H1 s1
        rw [hd1]
        rcases Bool.or_eq_true_iff.mp e5 with g | g
        · have g2 : (l3.length : Int) = 0 := beq_iff_eq.mp g
          rw [tupN, decide_eq_false (by omega), Bool.false_and, Bool.false_and]
        rcases Bool.or_eq_true_iff.mp g with g | g
        · have g2 := of_decide_eq_true g
          rw [tupN, decide_eq_false (p := l3.length ≤ 12) (by omega), Bool.false_and, Bool.and_false, Bool.false_and]
        · have g2 := of_decide_eq_true g
          rw [show tupN 0 3 lawNamed (.tuple l4) = (decide (0 ≤ l4.length) && (decide (l4.length ≤ 3) && l4.all lawNamed)) from rfl, decide_eq_false (p := l4.length ≤ 3) (by omega), Bool.false_and, Bool.and_false, Bool.and_false]
      have e5' := Bool.eq_false_iff.mpr e5
      obtain ⟨g1, g⟩ := Bool.or_eq_false_iff.mp e5'
      obtain ⟨g2, g3⟩ := Bool.or_eq_false_iff.mp g
      have g1 : ¬ ((l3.length : Int) = 0) := fun k => by rw [k] at g1; cases g1
      have g2 := of_decide_eq_false g2
      have g3 := of_decide_eq_false g3
      have hd2 : lawClass (.tuple [d0, d1, d2, .tuple l3, .tuple l4]) = (l3.all (lawCn true) && l4.all lawNamed) := by
        rw [hd1]
        show ((decide (1 ≤ l3.length) && (decide (l3.length ≤ 12) && l3.all (lawCn true))) && (decide (0 ≤ l4.length) && (decide (l4.length ≤ 3) && l4.all lawNamed))) = _
        rw [decide_eq_true (p := 1 ≤ l3.length) (by omega), decide_eq_true (p := l3.length ≤ 12) (by omega), decide_eq_true (p := 0 ≤ l4.length) (by omega), decide_eq_true (p := l4.length ≤ 3) (by omega)]
        rfl
      refine nextA ?_
      dsimp only
      refine seqA ?_
      refine ⟨.ref a, rfl, a, _, _, _, rfl, rfl, hq1, atI_nat (j := 3) rfl, a3, rfl, ⟨y3, hq3⟩, for_it walk_tup (fun i σ' H' => (∃ u, σ' = [some (.ref a), u]) ∧ Same H1 H' ∧ ∀ j z, j < i → l3[j]? = some z → lawCn true z = true) ⟨⟨none, rfl⟩, Same.refl _, fun j z hj => absurd hj (Nat.not_lt_zero _)⟩ (fun i σ' H' _ p => sqt_keep p.2.1 hq3) ?_ ?_⟩
      · rintro i y σ' Hx H2 hi ⟨⟨u, rfl⟩, s2, hb⟩ ⟨rfl, hy⟩
        have hil : i < l3.length := by omega
        obtain ⟨y', hy1, hy2⟩ := (dp_get hd3).2 i l3[i] (List.getElem?_eq_getElem hil)
        obtain rfl : y' = y := Option.some.inj (hy1.symm.trans hy)
        refine ⟨y', rfl, y', l3[i], true, rfl, dp_keep s2 hy2, ok_mem o3 (List.getElem_mem hil), fun H3 s3 => ⟨_, rfl, ?_⟩⟩
        cases e6 : lawCn true l3[i] with
        | false =>
          refine iteT (qf ?_ H3 ((s1.trans s2).trans s3))
          rw [hd2, all_no (List.getElem_mem hil) e6, Bool.false_and]
        | true => exact iteF ⟨⟨_, rfl⟩, s2.trans s3, fun j z hj hz => all_step hb hj hz (List.getElem?_eq_getElem hil) e6⟩
      · rintro σ' H2 ⟨⟨u, rfl⟩, s2, hb3⟩
        have h3 : l3.all (lawCn true) = true := all_yes fun j z hz => hb3 j z (by have := (List.getElem?_eq_some_iff.mp hz).1; omega) hz
        rw [h3, Bool.true_and] at hd2
        have hq2 := sqt_keep s2 hq1
        have hq42 := sqt_keep s2 hq4
        refine ⟨.ref a, rfl, a, _, _, _, rfl, rfl, hq2, atI_nat (j := 4) rfl, a4, rfl, ⟨y4, hq42⟩, for_it walk_tup (fun i σ' H' => (∃ u, σ' = [some (.ref a), u]) ∧ Same H2 H' ∧ ∀ j z, j < i → l4[j]? = some z → lawNamed z = true) ⟨⟨_, rfl⟩, Same.refl _, fun j z hj => absurd hj (Nat.not_lt_zero _)⟩ (fun i σ' H' _ p => sqt_keep p.2.1 hq42) ?_ ?_⟩
        · rintro i y σ' Hx H3 hi ⟨⟨u, rfl⟩, s3, hb⟩ ⟨rfl, hy⟩
          have hil : i < l4.length := by omega
          obtain ⟨y', hy1, hy2⟩ := (dp_get hd4).2 i l4[i] (List.getElem?_eq_getElem hil)
          obtain rfl : y' = y := Option.some.inj (hy1.symm.trans hy)
          have bad : lawNamed l4[i] = false → ∀ H', Same H3 H' → Q (.bl false) H' := fun e H' s' => qf (by rw [hd2]; exact all_no (List.getElem_mem hil) e) H' (((s1.trans s2).trans s3).trans s')
          have good : lawNamed l4[i] = true → ∀ j z, j < i + 1 → l4[j]? = some z → lawNamed z = true := fun e j z hj hz => all_step hb hj hz (List.getElem?_eq_getElem hil) e
          have oo : Ok l4[i] := ok_mem o4 (List.getElem_mem hil)
          have hy3 := dp_keep (s2.trans s3) hy2
          clear hy1 hy2 hy
          generalize l4[i] = z at bad good oo hy3
          refine nameA ?_
          refine ifA (named_q rfl hy3 oo fun H4 s4 => ?_)
          cases e6 : lawNamed z with
          | false => exact iteT (bad e6 H4 s4)
          | true => exact iteF ⟨⟨_, rfl⟩, s3.trans s4, good e6⟩
        · rintro σ' H3 ⟨⟨u, rfl⟩, s3, hb4⟩
          have h4 : l4.all lawNamed = true := all_yes fun j z hz => hb4 j z (by have := (List.getElem?_eq_some_iff.mp hz).1; omega) hz
          have z0 := q H3 ((s1.trans s2).trans s3)
          rw [hd2, h4] at z0
          exact z0
    | bl b => exact iteT (iteT (q H (Same.refl H)))
    | non => exact iteT (iteT (q H (Same.refl H)))
    | int z => exact iteT (iteT (q H (Same.refl H)))
    | lst h1 h2 => exact iteT (iteT (q H (Same.refl H)))
    | str z => exact iteT (iteT (q H (Same.refl H)))
end
end Cw

set_option Elab.async false
set_option linter.all false
set_option maxRecDepth 100000
set_option maxHeartbeats 4000000
namespace Cw
open PySem PySem.Spec PyProof.Rows L2
def lawGeneric : PyData → Bool
  | .tuple [d0, d1, d2, d3] => lawWord false d0 && (tupN 1 3 (lawCn true) d1 && (isInteger 1 ((items d1).length : Int) d2 && lawCn true d3))
  | _ => false
theorem lawGeneric_len {ds : List PyData} (h : ¬ ((ds.length : Int) = 4)) : lawGeneric (.tuple ds) = false := by
  match ds, h with
  | [], _ => rfl
  | [_], _ => rfl
  | [_, _], _ => rfl
  | [_, _, _], _ => rfl
  | [_, _, _, _], h => exact absurd rfl h
  | _ :: _ :: _ :: _ :: _ :: _, _ => rfl
/-- [one for one in t if not f(one)]: how many -/
theorem lc_bad {K : PySem.W.Frag} {tl : TE} {tt : TT} {σ : L2.St} {H : Hp} {Q : VK} {i : Nat} {ds : List PyData} {r : PyData → Bool} (e : ∀ R : V → Hp → Prop, (∀ a H1 xs, Same H H1 → SqT K H1 a xs → DpAll K H1 xs ds → R (.ref a) H1) → tl σ H R)
    (ho : ∀ z, z ∈ ds → Ok z) (hn : ds.length ≤ 100001) (hw : ∀ x, wipe ((wipe σ [i]).set i (some x)) [i] = wipe σ [i]) (hg : ∀ x, ((wipe σ [i]).set i (some x))[i]? = some (some x))
    (ht : ∀ (σ' : L2.St) (H' : Hp) (x : V) (d : PyData), σ'[i]? = some (some x) → Dp K H' x d → Ok d → ∀ R : Bool → Hp → Prop, (∀ H'', Same H' H'' → R (!r d) H'') → tt σ' H' R)
    (q : ∀ D H' acc, Same H H' → H' D = some (.lst acc) → acc.length = (ds.filter fun z => !r z).length → Q (.ref D) H') : tLc (iTup K tl) (gName i) tt (tVar i) [i] σ H Q := by
  refine e _ fun a H1 xs s1 hq hd => ?_
  have hl := (dp_get hd).1
  refine ⟨a, rfl, ⟨xs, hq⟩, fun D hD => lc_it walk_tup (fun j H' => Same H1 H' ∧ ∃ acc, H' D = some (.lst acc) ∧ acc.length = ((ds.take j).filter fun z => !r z).length) ⟨same_upd hD, [], upd_same, rfl⟩ (fun j H' _ p => sqt_keep p.1 hq) ?_ ?_⟩
  · rintro j y Hx H2 hj ⟨s2, acc, hacc, hla⟩ ⟨rfl, hy⟩
    have hjl : j < ds.length := by omega
    obtain ⟨y', hy1, hy2⟩ := (dp_get hd).2 j ds[j] (List.getElem?_eq_getElem hjl)
    obtain rfl : y' = y := Option.some.inj (hy1.symm.trans hy)
    refine ⟨hw _, ht _ _ y' ds[j] (hg _) (dp_keep s2 hy2) (ho _ (List.getElem_mem hjl)) _ fun H3 s3 => ?_⟩
    have st : ((ds.take (j + 1)).filter fun z => !r z) = ((ds.take j).filter fun z => !r z) ++ [ds[j]].filter fun z => !r z := by
      rw [List.take_add_one, List.getElem?_eq_getElem hjl, List.filter_append]
      rfl
    have bd : acc.length ≤ 100001 := by
      rw [hla]
      exact Nat.le_trans (List.length_filter_le _ _) (by rw [List.length_take]; omega)
    cases e1 : r ds[j] with
    | true => exact iteF ⟨s2.trans s3, acc, s3 _ _ hacc, by rw [st, List.length_append, hla, List.filter_cons, e1]; rfl⟩
    | false =>
      refine iteT ⟨y', hg _, acc, s3 _ _ hacc, Nat.lt_of_le_of_lt bd (by decide), same_mut (s2.trans s3) hD, acc ++ [y'], upd_same, ?_⟩
      rw [st, List.length_append, List.length_append, hla, List.filter_cons, e1]
      rfl
  · rintro H2 ⟨s2, acc, hacc, hla⟩
    rw [List.take_of_length_le (by omega)] at hla
    exact q D H2 acc (s1.trans s2) hacc hla
theorem bad_len {r : PyData → Bool} {ds : List PyData} : decide ((ds.filter fun z => !r z).length = 0) = ds.all r := by
  rw [Bool.eq_iff_iff, decide_eq_true_iff, List.length_eq_zero_iff, List.filter_eq_nil_iff, List.all_eq_true]
  simp
section
variable {P : Program} {w : World} {K : PySem.W.Frag} {mg : Str → Option Value} {base : Heap} {S : Addr → Option Sp}
abbrev s__law_is_generic : Stmt := topS 56
theorem sc__law_is_generic : FnScope ["value", "one"] ["value"] (defScope s__law_is_generic) := ⟨rfl, rfl, rfl, by decide +kernel, rfl, by decide +kernel, by decide +kernel⟩
theorem ok__law_is_generic {f : Addr} {fd : FuncData} (F : Fun K "_law_is_generic" "_law_is_generic" s__law_is_generic f fd) {f__law_is_word : Addr} {d__law_is_word : FuncData} (h__law_is_word : Hd K mg "_law_is_word" s__law_is_word ["value", "capital"] f__law_is_word d__law_is_word) (G__law_is_word : FnOk P w K mg base CX0 2 f__law_is_word d__law_is_word ["value", "capital"] (spWord K)) {f__law_whole : Addr} {d__law_whole : FuncData} (h__law_whole : Hd K mg "_law_whole" s__law_whole ["value"] f__law_whole d__law_whole) (G__law_whole : FnOk P w K mg base CX0 1 f__law_whole d__law_whole ["value"] (sp1 K isWhole)) {f__law_is_class_name : Addr} {d__law_is_class_name : FuncData} (h__law_is_class_name : Hd K mg "_law_is_class_name" s__law_is_class_name ["value", "capital"] f__law_is_class_name d__law_is_class_name) (G__law_is_class_name : FnOk P w K mg base CX0 3 f__law_is_class_name d__law_is_class_name ["value", "capital"] (spLawCn K)) (m_isinstance : mg "isinstance" = none) (m_tuple : mg "tuple" = none) (m_len : mg "len" = none) : FnOk P w K mg base CX0 4 f fd ["value"] (sp1 K lawGeneric) := by
  refine F.ok sc__law_is_generic (fun vs H Q E h => ?_) (fun cdv A outer s H vs Q E hr h => ?_)
  · obtain ⟨_, _, rfl, _⟩ := h
    rfl
  · obtain ⟨x, d, rfl, hx, hok, q⟩ := h
    refine ⟨_, (pss_cons (ps_if (PW.pt (pw_or (pt_not (pt_val (pe_callB call_isi (by rfl) m_isinstance (by decide +kernel) (pa_cons (pv 0) (pa_cons (pe_bltn (v := .ty "tuple") (by rfl) m_tuple (by decide +kernel) rfl) pa_nil))))) (pw_or (pt_cmpR op_ne (pe_callB call_len_seq (by rfl) m_len PySem.boot_len (pa_cons (pv 0) pa_nil)) pe_int (nomark _)) (pw_or (pt_not (pt_val (pe_call G__law_is_word (hr.mono (by decide)) (by rfl) h__law_is_word.g h__law_is_word.F.kp h__law_is_word.b .nil pass0 (pa_cons (pe_ix ix_tup (pv 0) pe_int (fun _ _ => rfl)) (pa_cons pe_bl pa_nil))))) (pw_or1 (pt_not (pt_val (pe_callB call_isi (by rfl) m_isinstance (by decide +kernel) (pa_cons (pe_ix ix_tup (pv 0) pe_int (fun _ _ => rfl)) (pa_cons (pe_bltn (v := .ty "tuple") (by rfl) m_tuple (by decide +kernel) rfl) pa_nil)))))))))) (pss_one (ps_ret pe_bl)) pss_nil)
  (pss_cons (ps_if (PW.pt (pw_or (pt_cmpR op_lt (pe_callB call_len_seq (by rfl) m_len PySem.boot_len (pa_cons (pe_ix ix_tup (pv 0) pe_int (fun _ _ => rfl)) pa_nil)) pe_int (nomark _)) (pw_or (pt_cmpR op_gt (pe_callB call_len_seq (by rfl) m_len PySem.boot_len (pa_cons (pe_ix ix_tup (pv 0) pe_int (fun _ _ => rfl)) pa_nil)) pe_int (nomark _)) (pw_or (pt_not (pt_val (pe_call G__law_whole (hr.mono (by decide)) (by rfl) h__law_whole.g h__law_whole.F.kp h__law_whole.b .nil pass0 (pa_cons (pe_ix ix_tup (pv 0) pe_int (fun _ _ => rfl)) pa_nil)))) (pw_or1 (pt_not (pt_chain op_le op_le pe_int (pe_ix ix_tup (pv 0) pe_int (fun _ _ => rfl)) (pe_callB call_len_seq (by rfl) m_len PySem.boot_len (pa_cons (pe_ix ix_tup (pv 0) pe_int (fun _ _ => rfl)) pa_nil))))))))) (pss_one (ps_ret pe_bl)) pss_nil)
  (pss_one (ps_ret (pe_cmpR op_eq (pe_callB call_len_seq (by rfl) m_len PySem.boot_len (pa_cons (pe_lc (own := [("one", 1)]) rfl sc__law_is_generic.nd (pi_tup (pe_op op_catA (pe_ix ix_tup (pv 0) pe_int (fun _ _ => rfl)) (pe_tup (pa_cons (pe_ix ix_tup (pv 0) pe_int (fun _ _ => rfl)) pa_nil)))) (blkOk_by (N := ["value", "one"]) (sc := defScope s__law_is_generic) (by decide +kernel)) (fun _ _ _ _ _ => by exact (pg_name (i := 1) sc__law_is_generic.nd rfl (.inl rfl))) (fun _ _ _ _ _ => by exact pts_one (pt_not (pt_val (pe_call G__law_is_class_name (hr.mono (by decide)) (by rfl) h__law_is_class_name.g h__law_is_class_name.F.kp h__law_is_class_name.b .nil pass0 (pa_cons (pv 1) (pa_cons pe_bl pa_nil)))))) (fun _ _ _ _ _ => by exact (pv 1))) pa_nil)) pe_int (nomark _)))))), ?_⟩
    have qf : lawGeneric d = false → ∀ H', Same H H' → Q (.bl false) H' := fun e H' s' => by
      have z0 := q H' s'
      rw [e] at z0
      exact z0
    refine r_isi rfl hx (kb_tu d) ?_
    cases hx with
    | @tup a xs ds hq hd =>
      refine iteF ⟨.ref a, rfl, a, xs, rfl, .inr hq, rfl, _, rfl, ?_⟩
      rw [ne_int, (dp_get hd).1]
      refine ite2 (fun e => iteT ?_) (fun e => ?_)
      · exact qf (lawGeneric_len (by simpa using e)) H (Same.refl H)
      have hn : ds.length = 4 := by
        have e' : ((ds.length : Int) == 4) = true := by simpa using e
        have := beq_iff_eq.mp e'
        omega
      obtain ⟨x0, x1, x2, x3, d0, d1, d2, d3, rfl, rfl, k0, k1, k2, k3⟩ := dps4 hd hn
      have o0 : Ok d0 := ok_mem hok (by simp [items])
      have o1 : Ok d1 := ok_mem hok (by simp [items])
      have o2 : Ok d2 := ok_mem hok (by simp [items])
      have o3 : Ok d3 := ok_mem hok (by simp [items])
      refine ⟨.ref a, rfl, a, _, _, _, rfl, rfl, hq, atI_nat (j := 0) rfl, x0, d0, false, rfl, k0, o0, fun H1 s1 => ⟨_, rfl, ?_⟩⟩
      cases e0 : lawWord false d0 with
      | false => exact iteT (iteT (qf (by show (lawWord false d0 && _) = false; rw [e0, Bool.false_and]) H1 s1))
      | true =>
      have hd0 : lawGeneric (.tuple [d0, d1, d2, d3]) = (tupN 1 3 (lawCn true) d1 && (isInteger 1 ((items d1).length : Int) d2 && lawCn true d3)) := by show (lawWord false d0 && _) = _; rw [e0, Bool.true_and]
      have hq1 := sqt_keep s1 hq
      refine iteF ?_
      refine isi_q (fun R r => ⟨.ref a, rfl, a, _, _, _, rfl, rfl, hq1, atI_nat (j := 1) rfl, r⟩) (dp_keep s1 k1) (kb_tu d1) ?_
      cases e1 : isTu d1 with
      | false => exact iteT (qf (by rw [hd0, tupN_no e1, Bool.false_and]) H1 s1)
      | true =>
      refine iteF (nextA ?_)
      dsimp only
      refine seqA ?_
      obtain ⟨a1, y1, l1, rfl, rfl, hq11, hd1⟩ := tu_of (dp_keep s1 k1) e1
      have hl1 := (dp_get hd1).1
      have hd1' : lawGeneric (.tuple [d0, .tuple l1, d2, d3]) = ((decide (1 ≤ l1.length) && (decide (l1.length ≤ 3) && l1.all (lawCn true))) && (isInteger 1 (l1.length : Int) d2 && lawCn true d3)) := hd0
      refine ifA ?_
      refine ⟨.ref a, rfl, a, _, _, _, rfl, rfl, hq1, atI_nat (j := 1) rfl, a1, y1, rfl, .inr hq11, _, 1, rfl, rfl, _, rfl, ite2 (fun e2 => iteT ?_) (fun e2 => ?_)⟩
      · have := of_decide_eq_true e2
        exact qf (by rw [hd1', decide_eq_false (p := 1 ≤ l1.length) (by omega), Bool.false_and, Bool.false_and]) H1 s1
      refine ⟨.ref a, rfl, a, _, _, _, rfl, rfl, hq1, atI_nat (j := 1) rfl, a1, y1, rfl, .inr hq11, _, 3, rfl, rfl, _, rfl, ite2 (fun e3 => iteT ?_) (fun e3 => ?_)⟩
      · have := of_decide_eq_true e3
        exact qf (by rw [hd1', decide_eq_false (p := l1.length ≤ 3) (by omega), Bool.false_and, Bool.and_false, Bool.false_and]) H1 s1
      have g2 : 1 ≤ l1.length := by
        have := of_decide_eq_false (Bool.eq_false_iff.mpr e2)
        omega
      have g3 : l1.length ≤ 3 := by
        have := of_decide_eq_false (Bool.eq_false_iff.mpr e3)
        omega
      rw [decide_eq_true g2, decide_eq_true g3, Bool.true_and, Bool.true_and] at hd1'
      refine ⟨.ref a, rfl, a, _, _, _, rfl, rfl, hq1, atI_nat (j := 2) rfl, x2, d2, rfl, dp_keep s1 k2, o2, fun H2 s2 => ⟨_, rfl, ?_⟩⟩
      have s12 := s1.trans s2
      have hq2 := sqt_keep s2 hq1
      cases k2 with
      | int i =>
        refine iteF ?_
        have hi : isInteger 1 (l1.length : Int) (.int i) = (decide ((1 : Int) ≤ i) && decide (i ≤ (l1.length : Int))) := rfl
        refine ⟨.ref a, rfl, a, _, _, _, rfl, rfl, hq2, atI_nat (j := 2) rfl, 1, i, rfl, rfl, _, rfl, ite2 (fun e4 => ?_) (fun e4 => ?_)⟩
        · refine ⟨.ref a, rfl, a, _, _, _, rfl, rfl, hq2, atI_nat (j := 1) rfl, a1, y1, rfl, .inr (sqt_keep s2 hq11), i, _, rfl, rfl, _, rfl, ?_⟩
          rw [hl1]
          cases e5 : decide (i ≤ (l1.length : Int)) with
          | false => exact iteT (qf (by rw [hd1', hi, e4, e5, Bool.true_and, Bool.false_and, Bool.and_false]) H2 s12)
          | true =>
            rw [hi, e4, e5, Bool.true_and, Bool.true_and] at hd1'
            refine iteF (nextA ?_)
            dsimp only
            refine retA ?_
            have hda : DpAll K H2 (y1 ++ [x3]) (l1 ++ [d3]) := dps_app (dps_keep s2 hd1) (.cons (dp_keep s12 k3) .nil)
            refine cb1 (lc_bad (r := lawCn true) (ds := l1 ++ [d3]) (fun R h => ⟨.ref a, rfl, a, _, _, _, rfl, rfl, hq2, atI_nat (j := 1) rfl, .ref a, rfl, a, _, _, _, rfl, rfl, hq2, atI_nat (j := 3) rfl, by show 1 ≤ sizeLine; decide, fun p hp => ⟨a1, p, y1, [x3], rfl, rfl, sqt_keep (s2.trans (same_upd hp)) hq11, .inl (.inl upd_same), Nat.le_trans (show y1.length + 1 ≤ 4 by omega) (by decide), fun k => ?_, fun _ k => ?_, fun _ _ p2 hp2 => h p2 _ _ ((same_upd hp).trans (same_upd hp2)) (.inl (.inl upd_same)) (dps_keep ((same_upd hp).trans (same_upd hp2)) hda)⟩⟩) ?_ ?_ (fun _ => rfl) (fun _ => rfl) (fun σ' H' x d e hx ho R r => ⟨x, e, x, d, true, rfl, hx, ho, fun H'' s'' => ⟨_, rfl, r H'' s''⟩⟩) (fun D H3 acc s3 hacc hla => ?_))
            · rw [k] at hl1; exact absurd hl1 (by show ¬ 0 = l1.length; omega)
            · cases k
            · intro z m
              rcases List.mem_append.mp m with m | m
              · exact ok_mem o1 m
              · rw [List.mem_singleton.mp m]; exact o3
            · rw [List.length_append, List.length_singleton]; omega
            · refine ⟨D, acc, rfl, .inl (SqL.of hacc), rfl, ?_⟩
              have z0 := q H3 (s12.trans s3)
              rw [hd1'] at z0
              rw [show decide (V.int (acc.length : Int) = V.int 0) = (l1.all (lawCn true) && lawCn true d3) by
                rw [dec_int, hla, show (l1.all (lawCn true) && lawCn true d3) = (l1 ++ [d3]).all (lawCn true) by rw [List.all_append, List.all_cons, List.all_nil, Bool.and_true], ← bad_len, Bool.eq_iff_iff, beq_iff_eq, decide_eq_true_iff]
                omega]
              exact z0
        · exact ⟨false, rfl, iteT (qf (by rw [hd1', hi, Bool.eq_false_iff.mpr e4, Bool.false_and, Bool.false_and, Bool.and_false]) H2 s12)⟩
      | bl b => exact iteT (iteT (qf (by rw [hd1']; exact Bool.and_false _) H2 s12))
      | non => exact iteT (iteT (qf (by rw [hd1']; exact Bool.and_false _) H2 s12))
      | str z => exact iteT (iteT (qf (by rw [hd1']; exact Bool.and_false _) H2 s12))
      | lst h1 h2 => exact iteT (iteT (qf (by rw [hd1']; exact Bool.and_false _) H2 s12))
      | tup h1 h2 => exact iteT (iteT (qf (by rw [hd1']; exact Bool.and_false _) H2 s12))
    | bl b => exact iteT (iteT (q H (Same.refl H)))
    | non => exact iteT (iteT (q H (Same.refl H)))
    | int z => exact iteT (iteT (q H (Same.refl H)))
    | lst h1 h2 => exact iteT (iteT (q H (Same.refl H)))
    | str z => exact iteT (iteT (q H (Same.refl H)))
end
end Cw

set_option Elab.async false
set_option linter.all false
set_option maxRecDepth 100000
set_option maxHeartbeats 4000000
namespace Cw
open PySem PySem.Spec PyProof.Rows L2
def innerL (z : Str) (r : List PyData) : List PyData :=
  if z = "new" ∨ z = "call" then items (r.getD 1 .none) else if z = "field" then [r.getD 0 .none] else if z = "let" then [r.getD 1 .none, r.getD 2 .none] else if z = "add" ∨ z = "sub" ∨ z = "mul" ∨ z = "if" then r else []
def innerOk (z : Str) (r : List PyData) : Prop := (z = "new" ∨ z = "call" → ∃ y l, r = [y, .tuple l]) ∧ (z = "field" → r.length = 3) ∧ (z = "let" → r.length = 3)
def spInner (K : PySem.W.Frag) : Sp := fun vs H Q _ => ∃ x z r, vs = [x] ∧ Dp K H x (.tuple (.str z :: r)) ∧ innerOk z r ∧ ∀ H' L ys, Same H H' → H' L = some (.lst ys) → H L = none → DpAll K H' ys (innerL z r) → Q (.ref L) H'
theorem inV_strs {z : Str} {l : List Str} : (if false = true then !inV (.str z) (l.map V.str) else inV (.str z) (l.map V.str)) = decide (z ∈ l) := by
  rw [if_neg (by decide)]
  unfold inV
  rw [List.any_map, Bool.eq_iff_iff, decide_eq_true_iff, List.any_eq_true]
  constructor
  · rintro ⟨y, m, e⟩
    have e : (y == z) = true := e
    rw [beq_iff_eq] at e
    exact e ▸ m
  · intro m
    exact ⟨z, m, by show (z == z) = true; exact beq_self_eq_true z⟩
theorem sl_tailT {K : PySem.W.Frag} {H : Hp} {a : Addr} {xs : List V} {Q : VK} (h : SqT K H a xs) (hn : 0 < xs.length) (q : ∀ p H1, H p = none → Same H H1 → SqT K H1 p (xs.drop 1) → Q (.ref p) H1) : rSlA K (.ref a) (some 1) none H Q := by
  refine ⟨a, xs, rfl, h, fun e => ?_, fun _ p hp => ?_⟩
  · exfalso
    have e1 := e.1
    rw [show (some (1 : Int)) = some ((1 : Nat) : Int) from rfl, HT.sIx_nat] at e1
    omega
  · rw [cutV_one]
    exact q p _ hp (sameU hp) (.inl (.inl upd_same))
section
variable {P : Program} {w : World} {K : PySem.W.Frag} {mg : Str → Option Value} {base : Heap} {S : Addr → Option Sp}
abbrev s__law_inner_parts : Stmt := topS 52
theorem sc__law_inner_parts : FnScope ["value"] ["value"] (defScope s__law_inner_parts) := ⟨rfl, rfl, rfl, by decide +kernel, rfl, by decide +kernel, by decide +kernel⟩
theorem ok__law_inner_parts {f : Addr} {fd : FuncData} (F : Fun K "_law_inner_parts" "_law_inner_parts" s__law_inner_parts f fd) (m_list : mg "list" = none) : FnOk P w K mg base CX0 1 f fd ["value"] (spInner K) := by
  refine F.ok sc__law_inner_parts (fun vs H Q E h => ?_) (fun cdv A outer s H vs Q E hr h => ?_)
  · obtain ⟨_, _, _, rfl, _⟩ := h
    rfl
  · obtain ⟨x, z, r, rfl, hx, hi, q⟩ := h
    refine ⟨_, (pss_cons (ps_if (pt_cmpR op_in_seq (pe_ix ix_tup (pv 0) pe_int (fun _ _ => rfl)) (pe_tup (pa_cons pe_str (pa_cons pe_str pa_nil))) (by rfl)) (pss_one (ps_ret (pe_callTy call_list_of (by rfl) m_list (by decide +kernel) (pa_cons (pe_ix ix_tup (pv 0) pe_int (fun _ _ => rfl)) pa_nil)))) pss_nil)
  (pss_cons (ps_if (pt_cmpR op_eq (pe_ix ix_tup (pv 0) pe_int (fun _ _ => rfl)) pe_str (nomark _)) (pss_one (ps_ret (pe_lst (pa_cons (pe_ix ix_tup (pv 0) pe_int (fun _ _ => rfl)) pa_nil)))) pss_nil)
  (pss_cons (ps_if (pt_cmpR op_eq (pe_ix ix_tup (pv 0) pe_int (fun _ _ => rfl)) pe_str (nomark _)) (pss_one (ps_ret (pe_lst (pa_cons (pe_ix ix_tup (pv 0) pe_int (fun _ _ => rfl)) (pa_cons (pe_ix ix_tup (pv 0) pe_int (fun _ _ => rfl)) pa_nil))))) pss_nil)
  (pss_one (ps_ret (pe_ifExp (pt_cmpR op_in_seq (pe_ix ix_tup (pv 0) pe_int (fun _ _ => rfl)) (pe_tup (pa_cons pe_str (pa_cons pe_str (pa_cons pe_str (pa_cons pe_str pa_nil))))) (by rfl)) (pe_callTy call_list_of (by rfl) m_list (by decide +kernel) (pa_cons (pe_slice sl_tupA (pv 0) (po_some pe_int) po_none) pa_nil)) (pe_lst pa_nil))))))), ?_⟩
    cases hx with | @tup a xs _ hq hd
    rcases hd with _ | ⟨k0, kr⟩
    rename_i x0 xr
    cases k0 with | str z
    refine seqA (ifA ?_)
    refine ⟨.ref a, rfl, a, _, _, _, rfl, rfl, hq, atI_nat (j := 0) rfl, by show 2 ≤ sizeLine; decide, fun tp ntp => ⟨tp, (["new", "call"] : List Str).map V.str, rfl, .inr (.inl (.inl upd_same)), rfl, by decide, _, rfl, ?_⟩⟩
    rw [inV_strs]
    have s1 := same_upd (o := .tup [.str "new", .str "call"]) ntp
    have hq1 := sqt_keep s1 hq
    have kr1 := dps_keep s1 kr
    generalize upd H tp (.tup [.str "new", .str "call"]) = H1 at s1 hq1 kr1 ⊢
    refine ite2 (fun e1 => ?_) (fun e1 => ?_)
    · have e1 : z = "new" ∨ z = "call" := by simpa using e1
      obtain ⟨y, l, rfl⟩ := hi.1 e1
      rcases kr1 with _ | ⟨ky, kr1⟩
      rcases kr1 with _ | ⟨kl, kr1⟩
      rename_i y0 y1 yr
      cases kl with | @tup b zs _ hb hdb
      refine retA ?_
      refine ⟨.ref a, rfl, a, _, _, _, rfl, rfl, hq1, atI_nat (j := 2) rfl, b, zs, rfl, .inr hb, fun L hL => ?_⟩
      refine q _ L zs (s1.trans (same_upd hL)) upd_same (s1.free hL) ?_
      rw [innerL, if_pos e1]
      exact dps_keep (same_upd hL) hdb
    have g1 : ¬ (z = "new" ∨ z = "call") := fun k => e1 (by simpa using k)
    refine nextA ?_
    dsimp only
    refine seqA (ifA ?_)
    refine ⟨.ref a, rfl, a, _, _, _, rfl, rfl, hq1, atI_nat (j := 0) rfl, rfl, _, rfl, ite2 (fun e2 => ?_) (fun e2 => ?_)⟩
    · have e2 := str_of e2
      have hr := hi.2.1 e2
      obtain ⟨x1, x2, x3, d1, d2, d3, rfl, rfl, k1, k2, k3⟩ := dps3 kr1 hr
      refine retA ?_
      refine ⟨.ref a, rfl, a, _, _, _, rfl, rfl, hq1, atI_nat (j := 1) rfl, by show 1 ≤ sizeLine; decide, fun L hL => ?_⟩
      refine q _ L [x1] (s1.trans (same_upd hL)) upd_same (s1.free hL) ?_
      rw [innerL, if_neg g1, if_pos e2]
      exact .cons (dp_keep (same_upd hL) k1) .nil
    have g2 : ¬ z = "field" := fun k => e2 (str_to k)
    refine nextA ?_
    dsimp only
    refine seqA (ifA ?_)
    refine ⟨.ref a, rfl, a, _, _, _, rfl, rfl, hq1, atI_nat (j := 0) rfl, rfl, _, rfl, ite2 (fun e3 => ?_) (fun e3 => ?_)⟩
    · have e3 := str_of e3
      have hr := hi.2.2 e3
      obtain ⟨x1, x2, x3, d1, d2, d3, rfl, rfl, k1, k2, k3⟩ := dps3 kr1 hr
      refine retA ?_
      refine ⟨.ref a, rfl, a, _, _, _, rfl, rfl, hq1, atI_nat (j := 2) rfl, .ref a, rfl, a, _, _, _, rfl, rfl, hq1, atI_nat (j := 3) rfl, by show 2 ≤ sizeLine; decide, fun L hL => ?_⟩
      refine q _ L [x2, x3] (s1.trans (same_upd hL)) upd_same (s1.free hL) ?_
      rw [innerL, if_neg g1, if_neg g2, if_pos e3]
      exact .cons (dp_keep (same_upd hL) k2) (.cons (dp_keep (same_upd hL) k3) .nil)
    have g3 : ¬ z = "let" := fun k => e3 (str_to k)
    refine nextA ?_
    dsimp only
    refine retA ?_
    refine ⟨.ref a, rfl, a, _, _, _, rfl, rfl, hq1, atI_nat (j := 0) rfl, by show 4 ≤ sizeLine; decide, fun tq ntq => ⟨tq, (["add", "sub", "mul", "if"] : List Str).map V.str, rfl, .inr (.inl (.inl upd_same)), rfl, by decide, _, rfl, ?_⟩⟩
    rw [inV_strs]
    have s2 := s1.trans (same_upd (o := .tup [.str "add", .str "sub", .str "mul", .str "if"]) ntq)
    have hq2 := sqt_keep s2 hq
    have kr2 := dps_keep s2 kr
    generalize upd H1 tq (.tup [.str "add", .str "sub", .str "mul", .str "if"]) = H2 at s2 hq2 kr2 ⊢
    refine ite2 (fun e4 => ?_) (fun e4 => ?_)
    · have e4 : z = "add" ∨ z = "sub" ∨ z = "mul" ∨ z = "if" := by simpa using e4
      refine ⟨.ref a, rfl, 1, rfl, ?_⟩
      unfold tNoPart
      dsimp only
      refine sl_tailT hq2 (by simp) (fun p H3 hp s3 hb => ⟨p, _, rfl, .inr hb, fun L hL => ?_⟩)
      refine q _ L xr ((s2.trans s3).trans (same_upd hL)) upd_same ((s2.trans s3).free hL) ?_
      rw [innerL, if_neg g1, if_neg g2, if_neg g3, if_pos e4]
      exact dps_keep (s3.trans (same_upd hL)) kr2
    · have g4 : ¬ (z = "add" ∨ z = "sub" ∨ z = "mul" ∨ z = "if") := fun k => e4 (by simpa using k)
      refine ⟨by show 0 ≤ sizeLine; decide, fun L hL => ?_⟩
      refine q _ L [] (s2.trans (same_upd hL)) upd_same (s2.free hL) ?_
      rw [innerL, if_neg g1, if_neg g2, if_neg g3, if_neg g4]
      exact .nil
end
end Cw

set_option Elab.async false
set_option linter.all false
set_option maxRecDepth 100000
set_option maxHeartbeats 4000000
namespace Cw
open PySem PySem.Spec PyProof.Rows L2
def lawMethod (rx : PyData → Bool) : PyData → Bool
  | .tuple [d0, d1, d2] => lawCn false d0 && (tupN 1 3 lawNamed d1 && rx d2)
  | _ => false
theorem lawMethod_len {rx : PyData → Bool} {ds : List PyData} (h : ¬ ((ds.length : Int) = 3)) : lawMethod rx (.tuple ds) = false := by
  match ds, h with
  | [], _ => rfl
  | [_], _ => rfl
  | [_, _], _ => rfl
  | [_, _, _], h => exact absurd rfl h
  | _ :: _ :: _ :: _ :: _, _ => rfl
abbrev s__law_is_right_expr : Stmt := topS 55
section
variable {P : Program} {w : World} {K : PySem.W.Frag} {mg : Str → Option Value} {base : Heap} {S : Addr → Option Sp} {rx : PyData → Bool}
abbrev s__law_is_method : Stmt := topS 57
theorem sc__law_is_method : FnScope ["value", "one"] ["value"] (defScope s__law_is_method) := ⟨rfl, rfl, rfl, by decide +kernel, rfl, by decide +kernel, by decide +kernel⟩
theorem ok__law_is_method {f : Addr} {fd : FuncData} (F : Fun K "_law_is_method" "_law_is_method" s__law_is_method f fd) {f__law_is_class_name : Addr} {d__law_is_class_name : FuncData} (h__law_is_class_name : Hd K mg "_law_is_class_name" s__law_is_class_name ["value", "capital"] f__law_is_class_name d__law_is_class_name) (G__law_is_class_name : FnOk P w K mg base CX0 3 f__law_is_class_name d__law_is_class_name ["value", "capital"] (spLawCn K)) {f__law_is_word : Addr} {d__law_is_word : FuncData} (h__law_is_word : Hd K mg "_law_is_word" s__law_is_word ["value", "capital"] f__law_is_word d__law_is_word) (G__law_is_word : FnOk P w K mg base CX0 2 f__law_is_word d__law_is_word ["value", "capital"] (spWord K)) {f__law_is_right_expr : Addr} {d__law_is_right_expr : FuncData} (h__law_is_right_expr : Hd K mg "_law_is_right_expr" s__law_is_right_expr ["value"] f__law_is_right_expr d__law_is_right_expr) (G__law_is_right_expr : FnOk P w K mg base CX0 14 f__law_is_right_expr d__law_is_right_expr ["value"] (sp1 K rx)) (m_isinstance : mg "isinstance" = none) (m_tuple : mg "tuple" = none) (m_len : mg "len" = none) : FnOk P w K mg base CX0 15 f fd ["value"] (sp1 K (lawMethod rx)) := by
  refine F.ok sc__law_is_method (fun vs H Q E h => ?_) (fun cdv A outer s H vs Q E hr h => ?_)
  · obtain ⟨_, _, rfl, _⟩ := h
    rfl
  · obtain ⟨x, d, rfl, hx, hok, q⟩ := h
    refine ⟨_, (pss_cons (ps_if (PW.pt (pw_or (pt_not (pt_val (pe_callB call_isi (by rfl) m_isinstance (by decide +kernel) (pa_cons (pv 0) (pa_cons (pe_bltn (v := .ty "tuple") (by rfl) m_tuple (by decide +kernel) rfl) pa_nil))))) (pw_or (pt_cmpR op_ne (pe_callB call_len_seq (by rfl) m_len PySem.boot_len (pa_cons (pv 0) pa_nil)) pe_int (nomark _)) (pw_or (pt_not (pt_val (pe_call G__law_is_class_name (hr.mono (by decide)) (by rfl) h__law_is_class_name.g h__law_is_class_name.F.kp h__law_is_class_name.b .nil pass0 (pa_cons (pe_ix ix_tup (pv 0) pe_int (fun _ _ => rfl)) (pa_cons pe_bl pa_nil))))) (pw_or1 (pt_not (pt_val (pe_callB call_isi (by rfl) m_isinstance (by decide +kernel) (pa_cons (pe_ix ix_tup (pv 0) pe_int (fun _ _ => rfl)) (pa_cons (pe_bltn (v := .ty "tuple") (by rfl) m_tuple (by decide +kernel) rfl) pa_nil)))))))))) (pss_one (ps_ret pe_bl)) pss_nil)
  (pss_cons (ps_if (PW.pt (pw_or (pt_cmpR op_lt (pe_callB call_len_seq (by rfl) m_len PySem.boot_len (pa_cons (pe_ix ix_tup (pv 0) pe_int (fun _ _ => rfl)) pa_nil)) pe_int (nomark _)) (pw_or1 (pt_cmpR op_gt (pe_callB call_len_seq (by rfl) m_len PySem.boot_len (pa_cons (pe_ix ix_tup (pv 0) pe_int (fun _ _ => rfl)) pa_nil)) pe_int (nomark _))))) (pss_one (ps_ret pe_bl)) pss_nil)
  (pss_cons (ps_for PassesOwn.never rfl (pi_tup (pe_ix ix_tup (pv 0) pe_int (fun _ _ => rfl))) (pg_name (i := 1) sc__law_is_method.nd rfl (.inl rfl)) (pss_one (ps_if (PW.pt (pw_or (pt_not (pt_val (pe_callB call_isi (by rfl) m_isinstance (by decide +kernel) (pa_cons (pv 1) (pa_cons (pe_bltn (v := .ty "tuple") (by rfl) m_tuple (by decide +kernel) rfl) pa_nil))))) (pw_or (pt_cmpR op_ne (pe_callB call_len_seq (by rfl) m_len PySem.boot_len (pa_cons (pv 1) pa_nil)) pe_int (nomark _)) (pw_or (pt_not (pt_val (pe_call G__law_is_word (hr.mono (by decide)) (by rfl) h__law_is_word.g h__law_is_word.F.kp h__law_is_word.b .nil pass0 (pa_cons (pe_ix ix_tup (pv 1) pe_int (fun _ _ => rfl)) (pa_cons pe_bl pa_nil))))) (pw_or1 (pt_not (pt_val (pe_call G__law_is_class_name (hr.mono (by decide)) (by rfl) h__law_is_class_name.g h__law_is_class_name.F.kp h__law_is_class_name.b .nil pass0 (pa_cons (pe_ix ix_tup (pv 1) pe_int (fun _ _ => rfl)) (pa_cons pe_bl pa_nil)))))))))) (pss_one (ps_ret pe_bl)) pss_nil)))
  (pss_one (ps_ret (pe_call G__law_is_right_expr (hr.mono (by decide)) (by rfl) h__law_is_right_expr.g h__law_is_right_expr.F.kp h__law_is_right_expr.b .nil pass0 (pa_cons (pe_ix ix_tup (pv 0) pe_int (fun _ _ => rfl)) pa_nil))))))), ?_⟩
    have qf : lawMethod rx d = false → ∀ H', Same H H' → Q (.bl false) H' := fun e H' s' => by
      have z0 := q H' s'
      rw [e] at z0
      exact z0
    refine r_isi rfl hx (kb_tu d) ?_
    cases hx with
    | @tup a xs ds hq hd =>
      refine iteF ⟨.ref a, rfl, a, xs, rfl, .inr hq, rfl, _, rfl, ?_⟩
      rw [ne_int, (dp_get hd).1]
      refine ite2 (fun e => iteT ?_) (fun e => ?_)
      · exact qf (lawMethod_len (by simpa using e)) H (Same.refl H)
      have hn : ds.length = 3 := by
        have e' : ((ds.length : Int) == 3) = true := by simpa using e
        have := beq_iff_eq.mp e'
        omega
      obtain ⟨x0, x1, x2, d0, d1, d2, rfl, rfl, k0, k1, k2⟩ := dps3 hd hn
      have o0 : Ok d0 := ok_mem hok (by simp [items])
      have o1 : Ok d1 := ok_mem hok (by simp [items])
      have o2 : Ok d2 := ok_mem hok (by simp [items])
      refine ⟨.ref a, rfl, a, _, _, _, rfl, rfl, hq, atI_nat (j := 0) rfl, x0, d0, false, rfl, k0, o0, fun H1 s1 => ⟨_, rfl, ?_⟩⟩
      cases e0 : lawCn false d0 with
      | false => exact iteT (iteT (qf (by show (lawCn false d0 && _) = false; rw [e0, Bool.false_and]) H1 s1))
      | true =>
      have hd0 : lawMethod rx (.tuple [d0, d1, d2]) = (tupN 1 3 lawNamed d1 && rx d2) := by show (lawCn false d0 && _) = _; rw [e0, Bool.true_and]
      have hq1 := sqt_keep s1 hq
      refine iteF ?_
      refine isi_q (fun R r => ⟨.ref a, rfl, a, _, _, _, rfl, rfl, hq1, atI_nat (j := 1) rfl, r⟩) (dp_keep s1 k1) (kb_tu d1) ?_
      cases e1 : isTu d1 with
      | false => exact iteT (qf (by rw [hd0, tupN_no e1, Bool.false_and]) H1 s1)
      | true =>
      refine iteF (nextA ?_)
      dsimp only
      refine seqA (ifA ?_)
      obtain ⟨a1, y1, l1, rfl, rfl, hq11, hd1⟩ := tu_of (dp_keep s1 k1) e1
      have hl1 := (dp_get hd1).1
      have hd1' : lawMethod rx (.tuple [d0, .tuple l1, d2]) = ((decide (1 ≤ l1.length) && (decide (l1.length ≤ 3) && l1.all lawNamed)) && rx d2) := hd0
      refine ⟨.ref a, rfl, a, _, _, _, rfl, rfl, hq1, atI_nat (j := 1) rfl, a1, y1, rfl, .inr hq11, _, 1, rfl, rfl, _, rfl, ite2 (fun e2 => iteT ?_) (fun e2 => ?_)⟩
      · have := of_decide_eq_true e2
        exact qf (by rw [hd1', decide_eq_false (p := 1 ≤ l1.length) (by omega), Bool.false_and, Bool.false_and]) H1 s1
      refine ⟨.ref a, rfl, a, _, _, _, rfl, rfl, hq1, atI_nat (j := 1) rfl, a1, y1, rfl, .inr hq11, _, 3, rfl, rfl, _, rfl, ite2 (fun e3 => ?_) (fun e3 => ?_)⟩
      · have := of_decide_eq_true e3
        exact qf (by rw [hd1', decide_eq_false (p := l1.length ≤ 3) (by omega), Bool.false_and, Bool.and_false, Bool.false_and]) H1 s1
      have g2 : 1 ≤ l1.length := by
        have := of_decide_eq_false (Bool.eq_false_iff.mpr e2)
        omega
      have g3 : l1.length ≤ 3 := by
        have := of_decide_eq_false (Bool.eq_false_iff.mpr e3)
        omega
      rw [decide_eq_true g2, decide_eq_true g3, Bool.true_and, Bool.true_and] at hd1'
      refine nextA ?_
      dsimp only
      refine seqA ?_
      refine ⟨.ref a, rfl, a, _, _, _, rfl, rfl, hq1, atI_nat (j := 1) rfl, a1, rfl, ⟨y1, hq11⟩, for_it walk_tup (fun i σ' H' => (∃ u, σ' = [some (.ref a), u]) ∧ Same H1 H' ∧ ∀ j z, j < i → l1[j]? = some z → lawNamed z = true) ⟨⟨none, rfl⟩, Same.refl _, fun j z hj => absurd hj (Nat.not_lt_zero _)⟩ (fun i σ' H' _ p => sqt_keep p.2.1 hq11) ?_ ?_⟩
      · rintro i y σ' Hx H3 hi ⟨⟨u, rfl⟩, s3, hb⟩ ⟨rfl, hy⟩
        have hil : i < l1.length := by omega
        obtain ⟨y', hy1, hy2⟩ := (dp_get hd1).2 i l1[i] (List.getElem?_eq_getElem hil)
        obtain rfl : y' = y := Option.some.inj (hy1.symm.trans hy)
        have bad : lawNamed l1[i] = false → ∀ H', Same H3 H' → Q (.bl false) H' := fun e H' s' => qf (by rw [hd1', all_no (List.getElem_mem hil) e, Bool.false_and]) H' ((s1.trans s3).trans s')
        have good : lawNamed l1[i] = true → ∀ j z, j < i + 1 → l1[j]? = some z → lawNamed z = true := fun e j z hj hz => all_step hb hj hz (List.getElem?_eq_getElem hil) e
        have oo : Ok l1[i] := ok_mem o1 (List.getElem_mem hil)
        have hy3 := dp_keep s3 hy2
        clear hy1 hy2 hy
        generalize l1[i] = z at bad good oo hy3
        refine nameA ?_
        refine ifA (named_q rfl hy3 oo fun H4 s4 => ?_)
        cases e6 : lawNamed z with
        | false => exact iteT (bad e6 H4 s4)
        | true => exact iteF ⟨⟨_, rfl⟩, s3.trans s4, good e6⟩
      · rintro σ' H3 ⟨⟨u, rfl⟩, s3, hb4⟩
        have h4 : l1.all lawNamed = true := all_yes fun j z hz => hb4 j z (by have := (List.getElem?_eq_some_iff.mp hz).1; omega) hz
        rw [h4, Bool.true_and] at hd1'
        refine ⟨.ref a, rfl, a, _, _, _, rfl, rfl, sqt_keep s3 hq1, atI_nat (j := 2) rfl, x2, d2, rfl, dp_keep (s1.trans s3) k2, o2, fun H4 s4 => ?_⟩
        have z0 := q H4 ((s1.trans s3).trans s4)
        rw [hd1'] at z0
        exact z0
    | bl b => exact iteT (iteT (q H (Same.refl H)))
    | non => exact iteT (iteT (q H (Same.refl H)))
    | int z => exact iteT (iteT (q H (Same.refl H)))
    | lst h1 h2 => exact iteT (iteT (q H (Same.refl H)))
    | str z => exact iteT (iteT (q H (Same.refl H)))
end
end Cw

set_option Elab.async false
set_option linter.all false
set_option maxRecDepth 100000
set_option maxHeartbeats 4000000
namespace Cw
open PySem PySem.Spec PyProof.Rows L2
def lawModule (rm : PyData → Bool) : PyData → Bool
  | .tuple [d0, d1, d2, d3, d4] => lawWord false d0 && (tupN 0 4 (lawWord false) d1 && (tupN 0 6 lawClass d2 && (tupN 0 3 lawGeneric d3 && tupN 0 8 rm d4)))
  | _ => false
theorem lawModule_len {rm : PyData → Bool} {ds : List PyData} (h : ¬ ((ds.length : Int) = 5)) : lawModule rm (.tuple ds) = false := by
  match ds, h with
  | [], _ => rfl
  | [_], _ => rfl
  | [_, _], _ => rfl
  | [_, _, _], _ => rfl
  | [_, _, _, _], _ => rfl
  | [_, _, _, _, _], h => exact absurd rfl h
  | _ :: _ :: _ :: _ :: _ :: _ :: _, _ => rfl
theorem tupN_long {lo hi : Nat} {r : PyData → Bool} {l : List PyData} (h : ¬ l.length ≤ hi) : tupN lo hi r (.tuple l) = false := by
  rw [tupN, decide_eq_false h, Bool.false_and, Bool.and_false]
theorem tupN_in {hi : Nat} {r : PyData → Bool} {l : List PyData} (h : l.length ≤ hi) : tupN 0 hi r (.tuple l) = l.all r := by
  rw [tupN, decide_eq_true h, decide_eq_true (Nat.zero_le _), Bool.true_and, Bool.true_and]
theorem gt0_q {K : PySem.W.Frag} {tl : TE} {tt : TT} {σ : L2.St} {H : Hp} {Q : Bool → Hp → Prop} {i : Nat} {ds : List PyData} {r : PyData → Bool} (e : ∀ R : V → Hp → Prop, (∀ a H1 xs, Same H H1 → SqT K H1 a xs → DpAll K H1 xs ds → R (.ref a) H1) → tl σ H R)
    (ho : ∀ z, z ∈ ds → Ok z) (hn : ds.length ≤ 100001) (hw : ∀ x, wipe ((wipe σ [i]).set i (some x)) [i] = wipe σ [i]) (hg : ∀ x, ((wipe σ [i]).set i (some x))[i]? = some (some x))
    (ht : ∀ (σ' : L2.St) (H' : Hp) (x : V) (d : PyData), σ'[i]? = some (some x) → Dp K H' x d → Ok d → ∀ R : Bool → Hp → Prop, (∀ H'', Same H' H'' → R (!r d) H'') → tt σ' H' R)
    (q : ∀ H', Same H H' → Q (!ds.all r) H') :
    tTest (tOp (rI0 fun i j => V.bl (decide (j < i))) (tCB (fun xs H Q => ∃ p ys, xs = [V.ref p] ∧ (SqL K H p ys ∨ SqT K H p ys) ∧ Q (V.int (ys.length : Nat)) H) (tCons (tLc (iTup K tl) (gName i) tt (tVar i) [i]) tNil)) (tC (V.int 0))) σ H Q := by
  unfold tTest tOp tCB tCons tNil tC
  dsimp only
  refine lc_bad e ho hn hw hg ht fun D H' acc s h hl => ⟨D, acc, rfl, .inl (SqL.of h), _, 0, rfl, rfl, _, rfl, ?_⟩
  have z0 := q H' s
  rw [← bad_len] at z0
  rw [show decide ((0 : Int) < (acc.length : Int)) = !decide ((ds.filter fun z => !r z).length = 0) by
    rw [hl, Bool.eq_iff_iff, decide_eq_true_iff, Bool.not_eq_true', decide_eq_false_iff_not]
    omega]
  exact z0
theorem eq0_q {K : PySem.W.Frag} {tl : TE} {tt : TT} {σ : L2.St} {H : Hp} {Q : VK} {i : Nat} {ds : List PyData} {r : PyData → Bool} (e : ∀ R : V → Hp → Prop, (∀ a H1 xs, Same H H1 → SqT K H1 a xs → DpAll K H1 xs ds → R (.ref a) H1) → tl σ H R)
    (ho : ∀ z, z ∈ ds → Ok z) (hn : ds.length ≤ 100001) (hw : ∀ x, wipe ((wipe σ [i]).set i (some x)) [i] = wipe σ [i]) (hg : ∀ x, ((wipe σ [i]).set i (some x))[i]? = some (some x))
    (ht : ∀ (σ' : L2.St) (H' : Hp) (x : V) (d : PyData), σ'[i]? = some (some x) → Dp K H' x d → Ok d → ∀ R : Bool → Hp → Prop, (∀ H'', Same H' H'' → R (!r d) H'') → tt σ' H' R)
    (q : ∀ H', Same H H' → Q (.bl (ds.all r)) H') :
    tOp rEq (tCB (fun xs H Q => ∃ p ys, xs = [V.ref p] ∧ (SqL K H p ys ∨ SqT K H p ys) ∧ Q (V.int (ys.length : Nat)) H) (tCons (tLc (iTup K tl) (gName i) tt (tVar i) [i]) tNil)) (tC (V.int 0)) σ H Q := by
  unfold tOp tCB tCons tNil tC
  dsimp only
  refine lc_bad e ho hn hw hg ht fun D H' acc s h hl => ⟨D, acc, rfl, .inl (SqL.of h), rfl, ?_⟩
  have z0 := q H' s
  rw [← bad_len] at z0
  rw [show decide (V.int (acc.length : Int) = V.int 0) = decide ((ds.filter fun z => !r z).length = 0) by
    rw [dec_int, hl, Bool.eq_iff_iff, beq_iff_eq, decide_eq_true_iff]
    omega]
  exact z0
section
variable {P : Program} {w : World} {K : PySem.W.Frag} {mg : Str → Option Value} {base : Heap} {S : Addr → Option Sp} {rm : PyData → Bool}
abbrev s__law_is_module : Stmt := topS 58
theorem sc__law_is_module : FnScope ["value", "limits", "k", "one"] ["value"] (defScope s__law_is_module) := ⟨rfl, rfl, rfl, by decide +kernel, rfl, by decide +kernel, by decide +kernel⟩
theorem ok__law_is_module {f : Addr} {fd : FuncData} (F : Fun K "_law_is_module" "_law_is_module" s__law_is_module f fd) {f__law_is_word : Addr} {d__law_is_word : FuncData} (h__law_is_word : Hd K mg "_law_is_word" s__law_is_word ["value", "capital"] f__law_is_word d__law_is_word) (G__law_is_word : FnOk P w K mg base CX0 2 f__law_is_word d__law_is_word ["value", "capital"] (spWord K)) {f__law_is_class : Addr} {d__law_is_class : FuncData} (h__law_is_class : Hd K mg "_law_is_class" s__law_is_class ["value"] f__law_is_class d__law_is_class) (G__law_is_class : FnOk P w K mg base CX0 4 f__law_is_class d__law_is_class ["value"] (sp1 K lawClass)) {f__law_is_generic : Addr} {d__law_is_generic : FuncData} (h__law_is_generic : Hd K mg "_law_is_generic" s__law_is_generic ["value"] f__law_is_generic d__law_is_generic) (G__law_is_generic : FnOk P w K mg base CX0 4 f__law_is_generic d__law_is_generic ["value"] (sp1 K lawGeneric)) {f__law_is_method : Addr} {d__law_is_method : FuncData} (h__law_is_method : Hd K mg "_law_is_method" s__law_is_method ["value"] f__law_is_method d__law_is_method) (G__law_is_method : FnOk P w K mg base CX0 15 f__law_is_method d__law_is_method ["value"] (sp1 K rm)) (m_isinstance : mg "isinstance" = none) (m_tuple : mg "tuple" = none) (m_len : mg "len" = none) (m_range : mg "range" = none) : FnOk P w K mg base CX0 16 f fd ["value"] (sp1 K (lawModule rm)) := by
  refine F.ok sc__law_is_module (fun vs H Q E h => ?_) (fun cdv A outer s H vs Q E hr h => ?_)
  · obtain ⟨_, _, rfl, _⟩ := h
    rfl
  · obtain ⟨x, d, rfl, hx, hok, q⟩ := h
    refine ⟨_, (pss_cons (ps_if (PW.pt (pw_or (pt_not (pt_val (pe_callB call_isi (by rfl) m_isinstance (by decide +kernel) (pa_cons (pv 0) (pa_cons (pe_bltn (v := .ty "tuple") (by rfl) m_tuple (by decide +kernel) rfl) pa_nil))))) (pw_or (pt_cmpR op_ne (pe_callB call_len_seq (by rfl) m_len PySem.boot_len (pa_cons (pv 0) pa_nil)) pe_int (nomark _)) (pw_or1 (pt_not (pt_val (pe_call G__law_is_word (hr.mono (by decide)) (by rfl) h__law_is_word.g h__law_is_word.F.kp h__law_is_word.b .nil pass0 (pa_cons (pe_ix ix_tup (pv 0) pe_int (fun _ _ => rfl)) (pa_cons pe_bl pa_nil))))))))) (pss_one (ps_ret pe_bl)) pss_nil)
  (pss_cons (ps_set (i := 1) sc__law_is_module.nd rfl (.inl rfl) (pe_tup (pa_cons pe_int (pa_cons pe_int (pa_cons pe_int (pa_cons pe_int pa_nil))))))
  (pss_cons (ps_for PassesOwn.never rfl (pi_range1 rfl m_range (pa_cons pe_int pa_nil)) (pg_name (i := 2) sc__law_is_module.nd rfl (.inl rfl)) (pss_one (ps_if (PW.pt (pw_or (pt_not (pt_val (pe_callB call_isi (by rfl) m_isinstance (by decide +kernel) (pa_cons (pe_ix ix_tup (pv 0) (pe_op op_add pe_int (pv 2)) (fun _ _ => rfl)) (pa_cons (pe_bltn (v := .ty "tuple") (by rfl) m_tuple (by decide +kernel) rfl) pa_nil))))) (pw_or1 (pt_cmpR op_gt (pe_callB call_len_seq (by rfl) m_len PySem.boot_len (pa_cons (pe_ix ix_tup (pv 0) (pe_op op_add pe_int (pv 2)) (fun _ _ => rfl)) pa_nil)) (pe_ix ix_tup (pv 1) (pv 2) (fun _ _ => rfl)) (nomark _))))) (pss_one (ps_ret pe_bl)) pss_nil)))
  (pss_cons (ps_if (pt_cmpR op_gt (pe_callB call_len_seq (by rfl) m_len PySem.boot_len (pa_cons (pe_lc (own := [("one", 3)]) rfl sc__law_is_module.nd (pi_tup (pe_ix ix_tup (pv 0) pe_int (fun _ _ => rfl))) (blkOk_by (N := ["value", "limits", "k", "one"]) (sc := defScope s__law_is_module) (by decide +kernel)) (fun _ _ _ _ _ => by exact (pg_name (i := 3) sc__law_is_module.nd rfl (.inl rfl))) (fun _ _ _ _ _ => by exact pts_one (pt_not (pt_val (pe_call G__law_is_word (hr.mono (by decide)) (by rfl) h__law_is_word.g h__law_is_word.F.kp h__law_is_word.b .nil pass0 (pa_cons (pv 3) (pa_cons pe_bl pa_nil)))))) (fun _ _ _ _ _ => by exact (pv 3))) pa_nil)) pe_int (nomark _)) (pss_one (ps_ret pe_bl)) pss_nil)
  (pss_cons (ps_if (pt_cmpR op_gt (pe_callB call_len_seq (by rfl) m_len PySem.boot_len (pa_cons (pe_lc (own := [("one", 3)]) rfl sc__law_is_module.nd (pi_tup (pe_ix ix_tup (pv 0) pe_int (fun _ _ => rfl))) (blkOk_by (N := ["value", "limits", "k", "one"]) (sc := defScope s__law_is_module) (by decide +kernel)) (fun _ _ _ _ _ => by exact (pg_name (i := 3) sc__law_is_module.nd rfl (.inl rfl))) (fun _ _ _ _ _ => by exact pts_one (pt_not (pt_val (pe_call G__law_is_class (hr.mono (by decide)) (by rfl) h__law_is_class.g h__law_is_class.F.kp h__law_is_class.b .nil pass0 (pa_cons (pv 3) pa_nil))))) (fun _ _ _ _ _ => by exact (pv 3))) pa_nil)) pe_int (nomark _)) (pss_one (ps_ret pe_bl)) pss_nil)
  (pss_cons (ps_if (pt_cmpR op_gt (pe_callB call_len_seq (by rfl) m_len PySem.boot_len (pa_cons (pe_lc (own := [("one", 3)]) rfl sc__law_is_module.nd (pi_tup (pe_ix ix_tup (pv 0) pe_int (fun _ _ => rfl))) (blkOk_by (N := ["value", "limits", "k", "one"]) (sc := defScope s__law_is_module) (by decide +kernel)) (fun _ _ _ _ _ => by exact (pg_name (i := 3) sc__law_is_module.nd rfl (.inl rfl))) (fun _ _ _ _ _ => by exact pts_one (pt_not (pt_val (pe_call G__law_is_generic (hr.mono (by decide)) (by rfl) h__law_is_generic.g h__law_is_generic.F.kp h__law_is_generic.b .nil pass0 (pa_cons (pv 3) pa_nil))))) (fun _ _ _ _ _ => by exact (pv 3))) pa_nil)) pe_int (nomark _)) (pss_one (ps_ret pe_bl)) pss_nil)
  (pss_one (ps_ret (pe_cmpR op_eq (pe_callB call_len_seq (by rfl) m_len PySem.boot_len (pa_cons (pe_lc (own := [("one", 3)]) rfl sc__law_is_module.nd (pi_tup (pe_ix ix_tup (pv 0) pe_int (fun _ _ => rfl))) (blkOk_by (N := ["value", "limits", "k", "one"]) (sc := defScope s__law_is_module) (by decide +kernel)) (fun _ _ _ _ _ => by exact (pg_name (i := 3) sc__law_is_module.nd rfl (.inl rfl))) (fun _ _ _ _ _ => by exact pts_one (pt_not (pt_val (pe_call G__law_is_method (hr.mono (by decide)) (by rfl) h__law_is_method.g h__law_is_method.F.kp h__law_is_method.b .nil pass0 (pa_cons (pv 3) pa_nil))))) (fun _ _ _ _ _ => by exact (pv 3))) pa_nil)) pe_int (nomark _)))))))))), ?_⟩
    have qf : lawModule rm d = false → ∀ H', Same H H' → Q (.bl false) H' := fun e H' s' => by
      have z0 := q H' s'
      rw [e] at z0
      exact z0
    refine r_isi rfl hx (kb_tu d) ?_
    cases hx with
    | @tup a xs ds hq hd =>
      refine iteF ⟨.ref a, rfl, a, xs, rfl, .inr hq, rfl, _, rfl, ?_⟩
      rw [ne_int, (dp_get hd).1]
      refine ite2 (fun e => iteT ?_) (fun e => ?_)
      · exact qf (lawModule_len (by simpa using e)) H (Same.refl H)
      have hn : ds.length = 5 := by
        have e' : ((ds.length : Int) == 5) = true := by simpa using e
        have := beq_iff_eq.mp e'
        omega
      obtain ⟨x0, x1, x2, x3, x4, d0, d1, d2, d3, d4, rfl, rfl, k0, k1, k2, k3, k4⟩ := dps5 hd hn
      have o0 : Ok d0 := ok_mem hok (by simp [items])
      have o1 : Ok d1 := ok_mem hok (by simp [items])
      have o2 : Ok d2 := ok_mem hok (by simp [items])
      have o3 : Ok d3 := ok_mem hok (by simp [items])
      have o4 : Ok d4 := ok_mem hok (by simp [items])
      refine ⟨.ref a, rfl, a, _, _, _, rfl, rfl, hq, atI_nat (j := 0) rfl, x0, d0, false, rfl, k0, o0, fun H1 s1 => ⟨_, rfl, ?_⟩⟩
      cases e0 : lawWord false d0 with
      | false => exact iteT (qf (by show (lawWord false d0 && _) = false; rw [e0, Bool.false_and]) H1 s1)
      | true =>
      have hd0 : lawModule rm (.tuple [d0, d1, d2, d3, d4]) = (tupN 0 4 (lawWord false) d1 && (tupN 0 6 lawClass d2 && (tupN 0 3 lawGeneric d3 && tupN 0 8 rm d4))) := by show (lawWord false d0 && _) = _; rw [e0, Bool.true_and]
      refine iteF (nextA ?_)
      dsimp only
      refine seqA ?_
      refine ⟨by show 4 ≤ sizeLine; decide, fun tl ntl => ?_⟩
      dsimp only
      refine nameA (seqA ?_)
      have hlm : SqT K (upd H1 tl (.tup [.int 4, .int 6, .int 3, .int 8])) tl [.int 4, .int 6, .int 3, .int 8] := .inl (.inl upd_same)
      have s2 := s1.trans (same_upd (o := .tup [.int 4, .int 6, .int 3, .int 8]) ntl)
      generalize upd H1 tl (.tup [.int 4, .int 6, .int 3, .int 8]) = H2 at hlm s2 ⊢
      have hq2 := sqt_keep s2 hq
      refine ⟨4, rfl, by decide, by decide, for_it walk_range (fun i σ' H' => H' = H2 ∧ (∃ u v, σ' = [some (.ref a), some (.ref tl), u, v]) ∧ ∀ j, j < i → ∃ l, [d1, d2, d3, d4][j]? = some (.tuple l) ∧ l.length ≤ [4, 6, 3, 8].getD j 0) ⟨rfl, ⟨none, none, rfl⟩, fun j hj => absurd hj (Nat.not_lt_zero _)⟩ (fun _ _ _ _ _ => True.intro) ?_ ?_⟩
      · rintro i y σ' Hx H3 hi ⟨rfl, ⟨u, v, rfl⟩, hb⟩ ⟨rfl, rfl⟩
        have hi4 : i < 4 := hi
        rcases (by omega : i = 0 ∨ i = 1 ∨ i = 2 ∨ i = 3) with rfl | rfl | rfl | rfl
        · refine nameA (ifA ?_)
          refine isi_q (fun R r => ⟨.ref a, rfl, .int (0 + ((0 : Nat) : Int)), rfl, 1, _, rfl, rfl, a, _, _, _, rfl, rfl, hq2, rfl, r⟩) (dp_keep s2 k1) (kb_tu d1) ?_
          cases e1 : isTu d1 with
          | false => exact iteT (iteT (qf (by rw [hd0, tupN_no e1, Bool.false_and]) _ s2))
          | true =>
          obtain ⟨a1, y1, l1, rfl, rfl, hq11, hd1⟩ := tu_of (dp_keep s2 k1) e1
          have hl1 := (dp_get hd1).1
          refine iteF ⟨.ref a, rfl, .int (0 + ((0 : Nat) : Int)), rfl, 1, _, rfl, rfl, a, _, _, _, rfl, rfl, hq2, rfl, a1, y1, rfl, .inr hq11, .ref tl, rfl, .int (0 + ((0 : Nat) : Int)), rfl, tl, _, _, _, rfl, rfl, hlm, rfl, _, 4, rfl, rfl, _, rfl, ite2 (fun e2 => ?_) (fun e2 => ?_)⟩
          · have := of_decide_eq_true e2
            exact qf (by rw [hd0, tupN_long (by omega), Bool.false_and]) _ s2
          · have := of_decide_eq_false (Bool.eq_false_iff.mpr e2)
            exact ⟨rfl, ⟨_, _, rfl⟩, fun j hj => by
              by_cases hj2 : j < 0
              · exact hb j hj2
              · obtain rfl : j = 0 := by omega
                exact ⟨l1, rfl, by show l1.length ≤ 4; omega⟩⟩
        · refine nameA (ifA ?_)
          refine isi_q (fun R r => ⟨.ref a, rfl, .int (0 + ((1 : Nat) : Int)), rfl, 1, _, rfl, rfl, a, _, _, _, rfl, rfl, hq2, rfl, r⟩) (dp_keep s2 k2) (kb_tu d2) ?_
          cases e1 : isTu d2 with
          | false => exact iteT (iteT (qf (by rw [hd0, tupN_no e1, Bool.false_and, Bool.and_false]) _ s2))
          | true =>
          obtain ⟨a1, y1, l1, rfl, rfl, hq11, hd1⟩ := tu_of (dp_keep s2 k2) e1
          have hl1 := (dp_get hd1).1
          refine iteF ⟨.ref a, rfl, .int (0 + ((1 : Nat) : Int)), rfl, 1, _, rfl, rfl, a, _, _, _, rfl, rfl, hq2, rfl, a1, y1, rfl, .inr hq11, .ref tl, rfl, .int (0 + ((1 : Nat) : Int)), rfl, tl, _, _, _, rfl, rfl, hlm, rfl, _, 6, rfl, rfl, _, rfl, ite2 (fun e2 => ?_) (fun e2 => ?_)⟩
          · have := of_decide_eq_true e2
            exact qf (by rw [hd0, tupN_long (by omega), Bool.false_and, Bool.and_false]) _ s2
          · have := of_decide_eq_false (Bool.eq_false_iff.mpr e2)
            exact ⟨rfl, ⟨_, _, rfl⟩, fun j hj => by
              by_cases hj2 : j < 1
              · exact hb j hj2
              · obtain rfl : j = 1 := by omega
                exact ⟨l1, rfl, by show l1.length ≤ 6; omega⟩⟩
        · refine nameA (ifA ?_)
          refine isi_q (fun R r => ⟨.ref a, rfl, .int (0 + ((2 : Nat) : Int)), rfl, 1, _, rfl, rfl, a, _, _, _, rfl, rfl, hq2, rfl, r⟩) (dp_keep s2 k3) (kb_tu d3) ?_
          cases e1 : isTu d3 with
          | false => exact iteT (iteT (qf (by rw [hd0, tupN_no e1, Bool.false_and, Bool.and_false, Bool.and_false]) _ s2))
          | true =>
          obtain ⟨a1, y1, l1, rfl, rfl, hq11, hd1⟩ := tu_of (dp_keep s2 k3) e1
          have hl1 := (dp_get hd1).1
          refine iteF ⟨.ref a, rfl, .int (0 + ((2 : Nat) : Int)), rfl, 1, _, rfl, rfl, a, _, _, _, rfl, rfl, hq2, rfl, a1, y1, rfl, .inr hq11, .ref tl, rfl, .int (0 + ((2 : Nat) : Int)), rfl, tl, _, _, _, rfl, rfl, hlm, rfl, _, 3, rfl, rfl, _, rfl, ite2 (fun e2 => ?_) (fun e2 => ?_)⟩
          · have := of_decide_eq_true e2
            exact qf (by rw [hd0, tupN_long (by omega), Bool.false_and, Bool.and_false, Bool.and_false]) _ s2
          · have := of_decide_eq_false (Bool.eq_false_iff.mpr e2)
            exact ⟨rfl, ⟨_, _, rfl⟩, fun j hj => by
              by_cases hj2 : j < 2
              · exact hb j hj2
              · obtain rfl : j = 2 := by omega
                exact ⟨l1, rfl, by show l1.length ≤ 3; omega⟩⟩
        · refine nameA (ifA ?_)
          refine isi_q (fun R r => ⟨.ref a, rfl, .int (0 + ((3 : Nat) : Int)), rfl, 1, _, rfl, rfl, a, _, _, _, rfl, rfl, hq2, rfl, r⟩) (dp_keep s2 k4) (kb_tu d4) ?_
          cases e1 : isTu d4 with
          | false => exact iteT (iteT (qf (by rw [hd0, tupN_no e1, Bool.and_false, Bool.and_false, Bool.and_false]) _ s2))
          | true =>
          obtain ⟨a1, y1, l1, rfl, rfl, hq11, hd1⟩ := tu_of (dp_keep s2 k4) e1
          have hl1 := (dp_get hd1).1
          refine iteF ⟨.ref a, rfl, .int (0 + ((3 : Nat) : Int)), rfl, 1, _, rfl, rfl, a, _, _, _, rfl, rfl, hq2, rfl, a1, y1, rfl, .inr hq11, .ref tl, rfl, .int (0 + ((3 : Nat) : Int)), rfl, tl, _, _, _, rfl, rfl, hlm, rfl, _, 8, rfl, rfl, _, rfl, ite2 (fun e2 => ?_) (fun e2 => ?_)⟩
          · have := of_decide_eq_true e2
            exact qf (by rw [hd0, tupN_long (by omega), Bool.and_false, Bool.and_false, Bool.and_false]) _ s2
          · have := of_decide_eq_false (Bool.eq_false_iff.mpr e2)
            exact ⟨rfl, ⟨_, _, rfl⟩, fun j hj => by
              by_cases hj2 : j < 3
              · exact hb j hj2
              · obtain rfl : j = 3 := by omega
                exact ⟨l1, rfl, by show l1.length ≤ 8; omega⟩⟩
      · rintro σ' H3 ⟨rfl, ⟨u, v, rfl⟩, hb⟩
        obtain ⟨l1, e1, n1⟩ := hb 0 (by decide)
        obtain ⟨l2, e2, n2⟩ := hb 1 (by decide)
        obtain ⟨l3, e3, n3⟩ := hb 2 (by decide)
        obtain ⟨l4, e4, n4⟩ := hb 3 (by decide)
        obtain rfl := Option.some.inj e1
        obtain rfl := Option.some.inj e2
        obtain rfl := Option.some.inj e3
        obtain rfl := Option.some.inj e4
        have n1 : l1.length ≤ 4 := n1
        have n2 : l2.length ≤ 6 := n2
        have n3 : l3.length ≤ 3 := n3
        have n4 : l4.length ≤ 8 := n4
        have hd1 : lawModule rm (.tuple [d0, .tuple l1, .tuple l2, .tuple l3, .tuple l4]) = (l1.all (lawWord false) && (l2.all lawClass && (l3.all lawGeneric && l4.all rm))) := by
          rw [hd0, tupN_in n1, tupN_in n2, tupN_in n3, tupN_in n4]
        obtain ⟨b4, z4, m4, rfl, em4, hb4, hdb4⟩ := tu_of k4 rfl
        obtain rfl : l4 = m4 := PyData.tuple.inj em4
        obtain ⟨b3, z3, m3, rfl, em3, hb3, hdb3⟩ := tu_of k3 rfl
        obtain rfl : l3 = m3 := PyData.tuple.inj em3
        obtain ⟨b2, z2, m2, rfl, em2, hb2, hdb2⟩ := tu_of k2 rfl
        obtain rfl : l2 = m2 := PyData.tuple.inj em2
        obtain ⟨b1, z1, m1, rfl, em1, hb1, hdb1⟩ := tu_of k1 rfl
        obtain rfl : l1 = m1 := PyData.tuple.inj em1
        dsimp only
        refine seqA (ifA ?_)
        refine gt0_q (r := lawWord false) (ds := l1) (fun R h => ⟨.ref a, rfl, a, _, _, _, rfl, rfl, sqt_keep s2 hq, rfl, h b1 _ z1 (Same.refl _) (sqt_keep s2 hb1) (dps_keep s2 hdb1)⟩) (fun z m => ok_mem o1 m) (by omega) (fun _ => rfl) (fun _ => rfl) (fun σ' H' x d e hx ho R r => ⟨x, e, x, d, false, rfl, hx, ho, fun H9 s9 => ⟨_, rfl, r H9 s9⟩⟩) fun G1 t1 => ?_
        cases c1 : l1.all (lawWord false) with
        | false => exact iteT (qf (by rw [hd1, c1, Bool.false_and]) _ (s2.trans t1))
        | true =>
        refine iteF (nextA ?_)
        dsimp only
        refine seqA (ifA ?_)
        refine gt0_q (r := lawClass) (ds := l2) (fun R h => ⟨.ref a, rfl, a, _, _, _, rfl, rfl, sqt_keep (s2.trans t1) hq, rfl, h b2 _ z2 (Same.refl _) (sqt_keep (s2.trans t1) hb2) (dps_keep (s2.trans t1) hdb2)⟩) (fun z m => ok_mem o2 m) (by omega) (fun _ => rfl) (fun _ => rfl) (fun σ' H' x d e hx ho R r => ⟨x, e, x, d, rfl, hx, ho, fun H9 s9 => ⟨_, rfl, r H9 s9⟩⟩) fun G2 t2 => ?_
        cases c2 : l2.all (lawClass) with
        | false => exact iteT (qf (by rw [hd1, c2, Bool.false_and, Bool.and_false]) _ ((s2.trans t1).trans t2))
        | true =>
        refine iteF (nextA ?_)
        dsimp only
        refine seqA (ifA ?_)
        refine gt0_q (r := lawGeneric) (ds := l3) (fun R h => ⟨.ref a, rfl, a, _, _, _, rfl, rfl, sqt_keep ((s2.trans t1).trans t2) hq, rfl, h b3 _ z3 (Same.refl _) (sqt_keep ((s2.trans t1).trans t2) hb3) (dps_keep ((s2.trans t1).trans t2) hdb3)⟩) (fun z m => ok_mem o3 m) (by omega) (fun _ => rfl) (fun _ => rfl) (fun σ' H' x d e hx ho R r => ⟨x, e, x, d, rfl, hx, ho, fun H9 s9 => ⟨_, rfl, r H9 s9⟩⟩) fun G3 t3 => ?_
        cases c3 : l3.all (lawGeneric) with
        | false => exact iteT (qf (by rw [hd1, c3, Bool.false_and, Bool.and_false, Bool.and_false]) _ (((s2.trans t1).trans t2).trans t3))
        | true =>
        refine iteF (nextA ?_)
        dsimp only
        refine retA ?_
        refine eq0_q (r := rm) (ds := l4) (fun R h => ⟨.ref a, rfl, a, _, _, _, rfl, rfl, sqt_keep (((s2.trans t1).trans t2).trans t3) hq, rfl, h b4 _ z4 (Same.refl _) (sqt_keep (((s2.trans t1).trans t2).trans t3) hb4) (dps_keep (((s2.trans t1).trans t2).trans t3) hdb4)⟩) (fun z m => ok_mem o4 m) (by omega) (fun _ => rfl) (fun _ => rfl) (fun σ' H' x d e hx ho R r => ⟨x, e, x, d, rfl, hx, ho, fun H9 s9 => ⟨_, rfl, r H9 s9⟩⟩) fun G4 t4 => ?_
        have z0 := q _ ((((s2.trans t1).trans t2).trans t3).trans t4)
        rw [hd1, c1, c2, c3, Bool.true_and, Bool.true_and, Bool.true_and] at z0
        exact z0
    | bl b => exact iteT (iteT (q H (Same.refl H)))
    | non => exact iteT (iteT (q H (Same.refl H)))
    | int z => exact iteT (iteT (q H (Same.refl H)))
    | lst h1 h2 => exact iteT (iteT (q H (Same.refl H)))
    | str z => exact iteT (iteT (q H (Same.refl H)))
end
end Cw

set_option Elab.async false
set_option linter.all false
set_option maxRecDepth 100000
set_option maxHeartbeats 4000000
namespace Cw
open PySem PySem.Spec PyProof.Rows L2
/-! ### the law's dict of sizes -/
def sizesKv : List (Key × V) := [(.inr "int", .int 2), (.inr "name", .int 2), (.inr "next", .int 1), (.inr "new", .int 3), (.inr "field", .int 4), (.inr "call", .int 3), (.inr "add", .int 3), (.inr "sub", .int 3), (.inr "mul", .int 3), (.inr "if", .int 4), (.inr "let", .int 4)]
theorem sizes_merge : mergeK [] sizesKv = sizesKv := by decide
theorem val_cons {y z : Str} {v : V} {l : List (Key × V)} : valV (((.inr y : Key), v) :: l) (.inr z) = if z = y then some v else valV l (.inr z) := by
  unfold valV
  rw [List.find?_cons]
  by_cases h : z = y
  · subst h
    rw [if_pos rfl, decide_eq_true rfl]
    rfl
  · rw [if_neg h, decide_eq_false (fun k => h (Sum.inr.inj k).symm)]
theorem sizes_val (z : Str) : valV sizesKv (.inr z) = (kindsOf z).map fun ks => V.int ((ks.length : Int) + 1) := by
  unfold sizesKv kindsOf
  repeat rw [val_cons]
  by_cases h1 : z = "int"
  · rw [if_pos h1, if_pos h1]; rfl
  by_cases h2 : z = "name"
  · rw [if_neg h1, if_neg h1, if_pos h2, if_pos h2]; rfl
  by_cases h3 : z = "next"
  · rw [if_neg h1, if_neg h1, if_neg h2, if_neg h2, if_pos h3, if_pos h3]; rfl
  by_cases h4 : z = "new"
  · rw [if_neg h1, if_neg h1, if_neg h2, if_neg h2, if_neg h3, if_neg h3, if_pos h4, if_pos h4]; rfl
  by_cases h5 : z = "field"
  · rw [if_neg h1, if_neg h1, if_neg h2, if_neg h2, if_neg h3, if_neg h3, if_neg h4, if_neg h4, if_pos h5, if_pos h5]; rfl
  by_cases h6 : z = "call"
  · rw [if_neg h1, if_neg h1, if_neg h2, if_neg h2, if_neg h3, if_neg h3, if_neg h4, if_neg h4, if_neg h5, if_neg h5, if_pos h6, if_pos h6]; rfl
  rw [if_neg h1, if_neg h1, if_neg h2, if_neg h2, if_neg h3, if_neg h3, if_neg h4, if_neg h4, if_neg h5, if_neg h5, if_neg h6, if_neg h6]
  by_cases h7 : z = "add"
  · rw [if_pos h7, if_pos h7]; rfl
  by_cases h8 : z = "sub"
  · rw [if_neg h7, if_neg h7, if_pos h8, if_pos h8]; rfl
  by_cases h9 : z = "mul"
  · rw [if_neg h7, if_neg h7, if_neg h8, if_neg h8, if_pos h9, if_pos h9]; rfl
  by_cases h10 : z = "if"
  · rw [if_neg h7, if_neg h7, if_neg h8, if_neg h8, if_neg h9, if_neg h9, if_pos h10, if_pos h10]; rfl
  by_cases h11 : z = "let"
  · rw [if_neg h7, if_neg h7, if_neg h8, if_neg h8, if_neg h9, if_neg h9, if_neg h10, if_neg h10, if_pos h11, if_pos h11]; rfl
  rw [if_neg h7, if_neg h7, if_neg h8, if_neg h8, if_neg h9, if_neg h9, if_neg h10, if_neg h10, if_neg h11, if_neg h11]
  rfl
end Cw

set_option Elab.async false
set_option linter.all false
set_option maxRecDepth 100000
set_option maxHeartbeats 4000000
namespace Cw
open PySem PySem.Spec PyProof.Rows L2
def lawMember (k : Str) (d : PyData) : Bool :=
  if k = "number" then isInteger 0 65535 d else if k = "name" then lawWord false d else if k = "class" then lawCn true d else if k = "generic" then lawCn false d else if k = "values" then tupN 0 12 (fun _ => true) d else if k = "arguments" then tupN 1 3 (fun _ => true) d else true
def lawForm (z : Str) (r : List PyData) : Bool := match kindsOf z with
  | none => false
  | some ks => decide (r.length = ks.length) && (ks.zip r).all fun p => lawMember p.1 p.2
def lawExpr : Nat → PyData → Bool
  | 0, _ => false
  | n + 1, .tuple (.str z :: r) => lawForm z r && (innerL z r).all (lawExpr n)
  | _ + 1, _ => false
/-- how many expressions, to a depth -/
def cntE : Nat → PyData → Nat
  | n + 1, .tuple (.str z :: r) => 1 + ((innerL z r).map (cntE n)).sum
  | _, _ => 0
def lawRx (d : PyData) : Bool := lawExpr 7 d && decide (cntE 7 d < 61)
/-- no list in it -/
inductive OnT : PyData → Prop
  | non : OnT .none
  | bool (b : Bool) : OnT (.bool b)
  | int (i : Int) : OnT (.int i)
  | str (z : Str) : OnT (.str z)
  | tuple (l : List PyData) (h : ∀ d, d ∈ l → OnT d) : OnT (.tuple l)
theorem ont_mem {l : List PyData} (h : OnT (.tuple l)) {d : PyData} (m : d ∈ l) : OnT d := by
  cases h with | tuple _ h => exact h d m
theorem ont_get {l : List PyData} (h : OnT (.tuple l)) (i : Nat) : OnT (l.getD i .none) := by
  rw [List.getD_eq_getElem?_getD]
  cases e : l[i]? with
  | none => exact .non
  | some d => exact ont_mem h (List.mem_of_getElem? e)
theorem seq_tup {lo hi : Nat} {d : PyData} (h : OnT d) : isSeq (lo : Int) (hi : Int) d = tupN lo hi (fun _ => true) d := by
  cases h with
  | tuple l h =>
    show (decide ((lo : Int) ≤ (l.length : Int)) && decide ((l.length : Int) ≤ (hi : Int))) = (decide (lo ≤ l.length) && (decide (l.length ≤ hi) && l.all fun _ => true))
    have e : (l.all fun _ => true) = true := List.all_eq_true.mpr fun _ _ => rfl
    rw [e, Bool.and_true]
    congr 1
    · exact decide_eq_decide.mpr (by omega)
    · exact decide_eq_decide.mpr (by omega)
  | _ => rfl
theorem allOf_tup {lo hi : Nat} {r r' : PyData → Bool} {d : PyData} (h : OnT d) (e : ∀ z, OnT z → r z = r' z) : allOf (lo : Int) (hi : Int) r d = tupN lo hi r' d := by
  rw [allOf, seq_tup h]
  cases h with
  | tuple l h =>
    show ((decide (lo ≤ l.length) && (decide (l.length ≤ hi) && l.all fun _ => true)) && l.all r) = (decide (lo ≤ l.length) && (decide (l.length ≤ hi) && l.all r'))
    have e1 : (l.all fun _ => true) = true := List.all_eq_true.mpr fun _ _ => rfl
    have e2 : l.all r = l.all r' := by
      rw [Bool.eq_iff_iff, List.all_eq_true, List.all_eq_true]
      exact ⟨fun g d m => by rw [← e d (h d m)]; exact g d m, fun g d m => by rw [e d (h d m)]; exact g d m⟩
    rw [e1, e2, Bool.and_true, Bool.and_assoc]
  | _ => rfl
theorem member_law {k : Str} {d : PyData} (h : OnT d) : lawMember k d = isMember k d := by
  unfold lawMember isMember
  rw [lawCn_eq, lawCn_eq]
  rw [show isSeq 0 12 d = tupN 0 12 (fun _ => true) d from seq_tup (lo := 0) (hi := 12) h, show isSeq 1 3 d = tupN 1 3 (fun _ => true) d from seq_tup (lo := 1) (hi := 3) h]
  rfl
theorem zip_mem {α β : Type} {a : List α} {b : List β} {p : α × β} (h : p ∈ a.zip b) : p.2 ∈ b := (List.of_mem_zip h).2
theorem all_congr {α : Type} {l : List α} {f g : α → Bool} (h : ∀ x, x ∈ l → f x = g x) : l.all f = l.all g := by
  rw [Bool.eq_iff_iff, List.all_eq_true, List.all_eq_true]
  exact ⟨fun q d m => by rw [← h d m]; exact q d m, fun q d m => by rw [h d m]; exact q d m⟩
theorem form_law {z : Str} {r : List PyData} (h : ∀ d, d ∈ r → OnT d) : lawForm z r = formL z r := by
  unfold lawForm formL
  cases kindsOf z with
  | none => rfl
  | some ks =>
    show (decide (r.length = ks.length) && (ks.zip r).all fun p => lawMember p.1 p.2) = (decide (r.length = ks.length) && (ks.zip r).all fun p => isMember p.1 p.2)
    rw [all_congr fun p m => member_law (h p.2 (zip_mem m))]
theorem form_len {z : Str} {r : List PyData} {ks : List Str} (h : formL z r = true) (e : kindsOf z = some ks) : r.length = ks.length := by
  unfold formL at h
  rw [e] at h
  exact of_decide_eq_true (Bool.and_eq_true _ _ ▸ h).1
/-- the eleven words -/
theorem words_of {z : Str} {ks : List Str} (e : kindsOf z = some ks) : (z = "int" ∧ ks = (["number"] : List Str)) ∨ (z = "name" ∧ ks = (["name"] : List Str)) ∨ (z = "next" ∧ ks = ([] : List Str)) ∨ (z = "new" ∧ ks = (["class", "values"] : List Str)) ∨ (z = "field" ∧ ks = (["part", "class", "name"] : List Str)) ∨ (z = "call" ∧ ks = (["generic", "arguments"] : List Str)) ∨ (z = "add" ∧ ks = (["part", "part"] : List Str)) ∨ (z = "sub" ∧ ks = (["part", "part"] : List Str)) ∨ (z = "mul" ∧ ks = (["part", "part"] : List Str)) ∨ (z = "if" ∧ ks = (["part", "part", "part"] : List Str)) ∨ (z = "let" ∧ ks = (["name", "part", "part"] : List Str)) := by
  unfold kindsOf at e
  by_cases h0 : z = "int"
  · rw [if_pos h0] at e
    exact Or.inl ⟨h0, (Option.some.inj e).symm⟩
  rw [if_neg h0] at e
  by_cases h1 : z = "name"
  · rw [if_pos h1] at e
    exact Or.inr (Or.inl ⟨h1, (Option.some.inj e).symm⟩)
  rw [if_neg h1] at e
  by_cases h2 : z = "next"
  · rw [if_pos h2] at e
    exact Or.inr (Or.inr (Or.inl ⟨h2, (Option.some.inj e).symm⟩))
  rw [if_neg h2] at e
  by_cases h3 : z = "new"
  · rw [if_pos h3] at e
    exact Or.inr (Or.inr (Or.inr (Or.inl ⟨h3, (Option.some.inj e).symm⟩)))
  rw [if_neg h3] at e
  by_cases h4 : z = "field"
  · rw [if_pos h4] at e
    exact Or.inr (Or.inr (Or.inr (Or.inr (Or.inl ⟨h4, (Option.some.inj e).symm⟩))))
  rw [if_neg h4] at e
  by_cases h5 : z = "call"
  · rw [if_pos h5] at e
    exact Or.inr (Or.inr (Or.inr (Or.inr (Or.inr (Or.inl ⟨h5, (Option.some.inj e).symm⟩)))))
  rw [if_neg h5] at e
  by_cases h6 : z = "add"
  · rw [if_pos h6] at e
    exact Or.inr (Or.inr (Or.inr (Or.inr (Or.inr (Or.inr (Or.inl ⟨h6, (Option.some.inj e).symm⟩))))))
  rw [if_neg h6] at e
  by_cases h7 : z = "sub"
  · rw [if_pos h7] at e
    exact Or.inr (Or.inr (Or.inr (Or.inr (Or.inr (Or.inr (Or.inr (Or.inl ⟨h7, (Option.some.inj e).symm⟩)))))))
  rw [if_neg h7] at e
  by_cases h8 : z = "mul"
  · rw [if_pos h8] at e
    exact Or.inr (Or.inr (Or.inr (Or.inr (Or.inr (Or.inr (Or.inr (Or.inr (Or.inl ⟨h8, (Option.some.inj e).symm⟩))))))))
  rw [if_neg h8] at e
  by_cases h9 : z = "if"
  · rw [if_pos h9] at e
    exact Or.inr (Or.inr (Or.inr (Or.inr (Or.inr (Or.inr (Or.inr (Or.inr (Or.inr (Or.inl ⟨h9, (Option.some.inj e).symm⟩)))))))))
  rw [if_neg h9] at e
  by_cases h10 : z = "let"
  · rw [if_pos h10] at e
    exact Or.inr (Or.inr (Or.inr (Or.inr (Or.inr (Or.inr (Or.inr (Or.inr (Or.inr (Or.inr (⟨h10, (Option.some.inj e).symm⟩))))))))))
  rw [if_neg h10] at e
  cases e
theorem parts_inner {z : Str} {r : List PyData} (h : formL z r = true) : partsL z r = innerL z r := by
  cases ek : kindsOf z with
  | none =>
    unfold formL at h
    rw [ek] at h
    cases h
  | some ks =>
    have hl := form_len h ek
    have hp : partsL z r = (ks.zip r).flatMap partOf := by
      unfold partsL
      rw [ek]
    rw [hp]
    rcases words_of ek with ⟨rfl, rfl⟩ | ⟨rfl, rfl⟩ | ⟨rfl, rfl⟩ | ⟨rfl, rfl⟩ | ⟨rfl, rfl⟩ | ⟨rfl, rfl⟩ | ⟨rfl, rfl⟩ | ⟨rfl, rfl⟩ | ⟨rfl, rfl⟩ | ⟨rfl, rfl⟩ | ⟨rfl, rfl⟩
    · match r, hl with
      | [a], _ => rfl
    · match r, hl with
      | [a], _ => rfl
    · match r, hl with
      | [], _ => rfl
    · match r, hl with
      | [a, b], _ =>
        show [] ++ ((([] : List PyData) ++ items b) ++ []) = items b
        rw [List.append_nil, List.nil_append, List.nil_append]
    · match r, hl with
      | [a, b, c], _ => rfl
    · match r, hl with
      | [a, b], _ =>
        show [] ++ ((([] : List PyData) ++ items b) ++ []) = items b
        rw [List.append_nil, List.nil_append, List.nil_append]
    · match r, hl with
      | [a, b], _ => rfl
    · match r, hl with
      | [a, b], _ => rfl
    · match r, hl with
      | [a, b], _ => rfl
    · match r, hl with
      | [a, b, c], _ => rfl
    · match r, hl with
      | [a, b, c], _ => rfl
theorem ont_items {d e : PyData} (h : OnT d) (m : e ∈ items d) : OnT e := by
  cases h with
  | tuple l h => exact h e m
  | _ => cases m
theorem ont_inner {z : Str} {r : List PyData} (h : ∀ d, d ∈ r → OnT d) : ∀ d, d ∈ innerL z r → OnT d := by
  have g : ∀ i, OnT (r.getD i .none) := fun i => ont_get (.tuple r h) i
  intro d m
  unfold innerL at m
  split at m
  · exact ont_items (g 1) m
  split at m
  · rcases List.mem_singleton.mp m with rfl
    exact g 0
  split at m
  · rcases List.mem_cons.mp m with rfl | m
    · exact g 1
    rcases List.mem_singleton.mp m with rfl
    exact g 2
  split at m
  · exact h d m
  · cases m
theorem expr_no {n : Nat} {d : PyData} (h : OnT d) (e : hasForm d = false) : lawExpr (n + 1) d = false := by
  cases h with
  | tuple l h =>
    match l, h, e with
    | [], _, _ => rfl
    | .str z :: r, h, e =>
      show (lawForm z r && (innerL z r).all (lawExpr n)) = false
      rw [form_law fun d m => h d (List.mem_cons_of_mem _ m), show formL z r = false from e, Bool.false_and]
    | .none :: r, _, _ => rfl
    | .bool _ :: r, _, _ => rfl
    | .int _ :: r, _, _ => rfl
    | .list _ :: r, _, _ => rfl
    | .tuple _ :: r, _, _ => rfl
    | .dict _ :: r, _, _ => rfl
  | _ => rfl
theorem expr_yes {n : Nat} {d : PyData} (h : OnT d) (e : hasForm d = true) : lawExpr (n + 1) d = (partsOf d).all (lawExpr n) ∧ cntE (n + 1) d = 1 + ((partsOf d).map (cntE n)).sum ∧ ∀ z, z ∈ partsOf d → OnT z := by
  cases h with
  | tuple l h =>
    match l, h, e with
    | .str z :: r, h, e =>
      have hr : ∀ d, d ∈ r → OnT d := fun d m => h d (List.mem_cons_of_mem _ m)
      have hf : formL z r = true := e
      have hp : partsOf (.tuple (.str z :: r)) = innerL z r := parts_inner hf
      rw [hp]
      refine ⟨?_, rfl, ont_inner hr⟩
      show (lawForm z r && (innerL z r).all (lawExpr n)) = _
      rw [form_law hr, hf, Bool.true_and]
  | _ => cases e
theorem expr_rows : ∀ (n c : Nat) (row : List PyData), c ≤ 60 → (∀ d, d ∈ row → OnT d) → exprL n c row = (row.all (lawExpr n) && decide (c + (row.map (cntE n)).sum ≤ 60))
  | 0, c, [], hc, _ => by
    show true = (true && decide (c + 0 ≤ 60))
    rw [decide_eq_true (by omega)]
    rfl
  | 0, c, d :: l, _, _ => by
    show decide ((d :: l).length = 0) = ((false && l.all (lawExpr 0)) && _)
    rw [Bool.false_and, Bool.false_and]
    exact decide_eq_false (by simp)
  | n + 1, c, row, hc, h => by
    show (decide (c + row.length ≤ 60) && (row.all hasForm && exprL n (c + row.length) (row.flatMap partsOf))) = _
    cases ef : row.all hasForm with
    | false =>
      rw [Bool.false_and, Bool.and_false]
      obtain ⟨d, m, e⟩ := List.all_eq_false.mp ef
      have : row.all (lawExpr (n + 1)) = false := List.all_eq_false.mpr ⟨d, m, by rw [expr_no (h d m) (Bool.eq_false_iff.mpr e)]; decide⟩
      rw [this, Bool.false_and]
    | true =>
      have hf := List.all_eq_true.mp ef
      have key : ∀ (row : List PyData), (∀ d, d ∈ row → OnT d) → (∀ d, d ∈ row → hasForm d = true) → row.all (lawExpr (n + 1)) = (row.flatMap partsOf).all (lawExpr n) ∧ (row.map (cntE (n + 1))).sum = row.length + ((row.flatMap partsOf).map (cntE n)).sum ∧ ∀ d, d ∈ row.flatMap partsOf → OnT d := by
        intro row
        induction row with
        | nil => exact fun _ _ => ⟨rfl, rfl, fun _ m => nomatch m⟩
        | cons d l ih =>
          intro h hf
          obtain ⟨a1, a2, a3⟩ := expr_yes (n := n) (h d (List.mem_cons_self ..)) (hf d (List.mem_cons_self ..))
          obtain ⟨b1, b2, b3⟩ := ih (fun d m => h d (List.mem_cons_of_mem _ m)) fun d m => hf d (List.mem_cons_of_mem _ m)
          refine ⟨?_, ?_, fun z m => ?_⟩
          · rw [List.all_cons, List.flatMap_cons, List.all_append, a1, b1]
          · rw [List.map_cons, List.sum_cons, List.flatMap_cons, List.map_append, List.sum_append, a2, b2, List.length_cons]
            omega
          · rw [List.flatMap_cons] at m
            rcases List.mem_append.mp m with m | m
            · exact a3 z m
            · exact b3 z m
      obtain ⟨k1, k2, k3⟩ := key row h hf
      rw [k1, k2, Bool.true_and]
      by_cases g : c + row.length ≤ 60
      · rw [decide_eq_true g, Bool.true_and, expr_rows n _ _ g k3, Nat.add_assoc]
      · rw [decide_eq_false g, Bool.false_and, decide_eq_false (by omega), Bool.and_false]
theorem expr_law {d : PyData} (h : OnT d) : isExpr d = lawRx d := by
  rw [isExpr, expr_rows 7 0 [d] (by omega) (fun z m => by rcases List.mem_singleton.mp m with rfl; exact h)]
  unfold lawRx
  rw [List.all_cons, List.all_nil, Bool.and_true, List.map_cons, List.map_nil, List.sum_cons, List.sum_nil, Nat.zero_add, Nat.add_zero]
  congr 1
  exact decide_eq_decide.mpr (by omega)
theorem cn_t (d : PyData) : lawCn true d = isCname d := by rw [lawCn_eq]; rfl
theorem cn_f (d : PyData) : lawCn false d = isGname d := by rw [lawCn_eq]; rfl
theorem len_no {n : Nat} {l : List PyData} (h : l.length ≠ n) : isSeq (n : Int) (n : Int) (.tuple l) = false := by
  show (decide ((n : Int) ≤ (l.length : Int)) && decide ((l.length : Int) ≤ (n : Int))) = false
  by_cases g : l.length < n
  · rw [decide_eq_false (by omega), Bool.false_and]
  · rw [Bool.and_comm, decide_eq_false (by omega), Bool.false_and]
theorem len_yes {n : Nat} {l : List PyData} (h : l.length = n) : isSeq (n : Int) (n : Int) (.tuple l) = true := by
  show (decide ((n : Int) ≤ (l.length : Int)) && decide ((l.length : Int) ≤ (n : Int))) = true
  rw [decide_eq_true (by omega), decide_eq_true (by omega)]
  rfl
theorem len2 {l : List PyData} (h : l.length = 2) : ∃ a b, l = [a, b] := by
  match l, h with
  | [a, b], _ => exact ⟨a, b, rfl⟩
theorem len3 {l : List PyData} (h : l.length = 3) : ∃ a b c, l = [a, b, c] := by
  match l, h with
  | [a, b, c], _ => exact ⟨a, b, c, rfl⟩
theorem len4 {l : List PyData} (h : l.length = 4) : ∃ a b c d, l = [a, b, c, d] := by
  match l, h with
  | [a, b, c, d], _ => exact ⟨a, b, c, d, rfl⟩
theorem len5 {l : List PyData} (h : l.length = 5) : ∃ a b c d e, l = [a, b, c, d, e] := by
  match l, h with
  | [a, b, c, d, e], _ => exact ⟨a, b, c, d, e, rfl⟩
theorem named_law {d : PyData} (h : OnT d) : isNamed d = lawNamed d := by
  cases h with
  | tuple l h =>
    by_cases e : l.length = 2
    · rw [isNamed, show isSeq 2 2 (.tuple l) = true from len_yes (n := 2) e]
      obtain ⟨a, b, rfl⟩ := len2 e
      show (true && (isName a && isCname b)) = (isName a && lawCn true b)
      rw [Bool.true_and, cn_t]
    · rw [isNamed, show isSeq 2 2 (.tuple l) = false from len_no (n := 2) e, Bool.false_and]
      symm
      match l, e with
      | [], _ => rfl
      | [_], _ => rfl
      | [_, _], e => exact absurd rfl e
      | _ :: _ :: _ :: _, _ => rfl
  | _ => rfl
theorem class_law {d : PyData} (h : OnT d) : isClass d = lawClass d := by
  cases h with
  | tuple l h =>
    by_cases e : l.length = 5
    · rw [isClass, show isSeq 5 5 (.tuple l) = true from len_yes (n := 5) e]
      obtain ⟨a, b, c, p, f, rfl⟩ := len5 e
      show (true && (isWord a && (isOneOf ["open", "sealed"] b && (isBo c && (allOf 1 12 isCname p && allOf 0 3 isNamed f))))) = (isWord a && (isOneOf ["open", "sealed"] b && (isBo c && (tupN 1 12 (lawCn true) p && tupN 0 3 lawNamed f))))
      rw [Bool.true_and, show allOf 1 12 isCname p = tupN 1 12 (lawCn true) p from allOf_tup (lo := 1) (hi := 12) (h p (by simp)) fun z _ => (cn_t z).symm, show allOf 0 3 isNamed f = tupN 0 3 lawNamed f from allOf_tup (lo := 0) (hi := 3) (h f (by simp)) fun z hz => named_law hz]
    · rw [isClass, show isSeq 5 5 (.tuple l) = false from len_no (n := 5) e, Bool.false_and]
      symm
      match l, e with
      | [], _ => rfl
      | [_], _ => rfl
      | [_, _], _ => rfl
      | [_, _, _], _ => rfl
      | [_, _, _, _], _ => rfl
      | [_, _, _, _, _], e => exact absurd rfl e
      | _ :: _ :: _ :: _ :: _ :: _ :: _, _ => rfl
  | _ => rfl
theorem generic_law {d : PyData} (h : OnT d) : isGeneric d = lawGeneric d := by
  cases h with
  | tuple l h =>
    by_cases e : l.length = 4
    · rw [isGeneric, show isSeq 4 4 (.tuple l) = true from len_yes (n := 4) e]
      obtain ⟨a, b, c, p, rfl⟩ := len4 e
      show (true && (isName a && (allOf 1 3 isCname b && (isInteger 1 ((items b).length : Int) c && isCname p)))) = (isName a && (tupN 1 3 (lawCn true) b && (isInteger 1 ((items b).length : Int) c && lawCn true p)))
      rw [Bool.true_and, cn_t, show allOf 1 3 isCname b = tupN 1 3 (lawCn true) b from allOf_tup (lo := 1) (hi := 3) (h b (by simp)) fun z _ => (cn_t z).symm]
    · rw [isGeneric, show isSeq 4 4 (.tuple l) = false from len_no (n := 4) e, Bool.false_and]
      symm
      match l, e with
      | [], _ => rfl
      | [_], _ => rfl
      | [_, _], _ => rfl
      | [_, _, _], _ => rfl
      | [_, _, _, _], e => exact absurd rfl e
      | _ :: _ :: _ :: _ :: _ :: _, _ => rfl
  | _ => rfl
theorem method_law {d : PyData} (h : OnT d) : isMethod d = lawMethod lawRx d := by
  cases h with
  | tuple l h =>
    by_cases e : l.length = 3
    · rw [isMethod, show isSeq 3 3 (.tuple l) = true from len_yes (n := 3) e]
      obtain ⟨a, b, c, rfl⟩ := len3 e
      show (true && (isGname a && (allOf 1 3 isNamed b && isExpr c))) = (lawCn false a && (tupN 1 3 lawNamed b && lawRx c))
      rw [Bool.true_and, cn_f, show allOf 1 3 isNamed b = tupN 1 3 lawNamed b from allOf_tup (lo := 1) (hi := 3) (h b (by simp)) fun z hz => named_law hz, expr_law (h c (by simp))]
    · rw [isMethod, show isSeq 3 3 (.tuple l) = false from len_no (n := 3) e, Bool.false_and]
      symm
      match l, e with
      | [], _ => rfl
      | [_], _ => rfl
      | [_, _], _ => rfl
      | [_, _, _], e => exact absurd rfl e
      | _ :: _ :: _ :: _ :: _, _ => rfl
  | _ => rfl
theorem module_law {d : PyData} (h : OnT d) : isModule d = lawModule (lawMethod lawRx) d := by
  cases h with
  | tuple l h =>
    by_cases e : l.length = 5
    · rw [isModule, show isSeq 5 5 (.tuple l) = true from len_yes (n := 5) e]
      obtain ⟨a, b, c, p, f, rfl⟩ := len5 e
      show (true && (isName a && (allOf 0 4 isName b && (allOf 0 6 isClass c && (allOf 0 3 isGeneric p && allOf 0 8 isMethod f))))) = (isName a && (tupN 0 4 (lawWord false) b && (tupN 0 6 lawClass c && (tupN 0 3 lawGeneric p && tupN 0 8 (lawMethod lawRx) f))))
      rw [Bool.true_and, show allOf 0 4 isName b = tupN 0 4 (lawWord false) b from allOf_tup (lo := 0) (hi := 4) (h b (by simp)) fun z _ => rfl, show allOf 0 6 isClass c = tupN 0 6 lawClass c from allOf_tup (lo := 0) (hi := 6) (h c (by simp)) fun z hz => class_law hz, show allOf 0 3 isGeneric p = tupN 0 3 lawGeneric p from allOf_tup (lo := 0) (hi := 3) (h p (by simp)) fun z hz => generic_law hz, show allOf 0 8 isMethod f = tupN 0 8 (lawMethod lawRx) f from allOf_tup (lo := 0) (hi := 8) (h f (by simp)) fun z hz => method_law hz]
    · rw [isModule, show isSeq 5 5 (.tuple l) = false from len_no (n := 5) e, Bool.false_and]
      symm
      match l, e with
      | [], _ => rfl
      | [_], _ => rfl
      | [_, _], _ => rfl
      | [_, _, _], _ => rfl
      | [_, _, _, _], _ => rfl
      | [_, _, _, _, _], e => exact absurd rfl e
      | _ :: _ :: _ :: _ :: _ :: _ :: _, _ => rfl
  | _ => rfl
end Cw
namespace Cw
open PySem PySem.Spec PyProof.Rows L2
mutual
def listed : PyData → PyData
  | .tuple l => .list (listedL l)
  | .none => .none
  | .bool b => .bool b
  | .int i => .int i
  | .str z => .str z
  | .list l => .list l
  | .dict l => .dict l
def listedL : List PyData → List PyData
  | [] => []
  | d :: l => listed d :: listedL l
end
theorem listedL_map : ∀ l : List PyData, listedL l = l.map listed
  | [] => rfl
  | d :: l => by rw [listedL, listedL_map l, List.map_cons]
theorem listed_tup (l : List PyData) : listed (.tuple l) = .list (l.map listed) := by rw [listed, listedL_map]
theorem seq_listed {lo hi : Int} {d : PyData} (h : OnT d) : isSeq lo hi (listed d) = isSeq lo hi d := by
  cases h with
  | tuple l h =>
    rw [listed_tup]
    show (decide (lo ≤ (((l.map listed).length : Nat) : Int)) && decide ((((l.map listed).length : Nat) : Int) ≤ hi)) = (decide (lo ≤ (l.length : Int)) && decide ((l.length : Int) ≤ hi))
    rw [List.length_map]
  | _ => rw [listed]
theorem items_listed {d : PyData} (h : OnT d) : items (listed d) = (items d).map listed := by
  cases h with
  | tuple l h => rw [listed_tup]; rfl
  | _ => rw [listed]; rfl
theorem get_listed {d : PyData} (h : OnT d) (i : Nat) : get (listed d) i = listed (get d i) := by
  unfold get
  rw [items_listed h, List.getD_eq_getElem?_getD, List.getD_eq_getElem?_getD, List.getElem?_map]
  cases (items d)[i]? with
  | none => show PyData.none = listed .none; rw [listed]
  | some z => rfl
theorem ont_geti {d : PyData} (h : OnT d) (i : Nat) : OnT (get d i) := by
  cases h with
  | tuple l h => exact ont_get (.tuple l h) i
  | _ => exact .non
/-- a test that says no of every sequence -/
theorem flat_listed {r : PyData → Bool} (h1 : ∀ l, r (.list l) = false) (h2 : ∀ l, r (.tuple l) = false) {d : PyData} (h : OnT d) : r (listed d) = r d := by
  cases h with
  | tuple l h => rw [listed_tup, h1, h2]
  | _ => rw [listed]
theorem name_l {d : PyData} (h : OnT d) : isName (listed d) = isName d := flat_listed (fun _ => rfl) (fun _ => rfl) h
theorem word_l {d : PyData} (h : OnT d) : isWord (listed d) = isWord d := flat_listed (fun _ => rfl) (fun _ => rfl) h
theorem cname_l {d : PyData} (h : OnT d) : isCname (listed d) = isCname d := flat_listed (fun _ => rfl) (fun _ => rfl) h
theorem gname_l {d : PyData} (h : OnT d) : isGname (listed d) = isGname d := flat_listed (fun _ => rfl) (fun _ => rfl) h
theorem int_l {lo hi : Int} {d : PyData} (h : OnT d) : isInteger lo hi (listed d) = isInteger lo hi d := flat_listed (fun _ => rfl) (fun _ => rfl) h
theorem allOf_l {lo hi : Int} {r : PyData → Bool} {d : PyData} (h : OnT d) (e : ∀ z, OnT z → r (listed z) = r z) : allOf lo hi r (listed d) = allOf lo hi r d := by
  rw [allOf, allOf, seq_listed h, items_listed h, List.all_map]
  rw [all_congr (l := items d) (f := r ∘ listed) (g := r) fun x m => e x (ont_items h m)]
theorem named_l {d : PyData} (h : OnT d) : isNamed (listed d) = isNamed d := by
  rw [isNamed, isNamed, seq_listed h, get_listed h, get_listed h, name_l (ont_geti h _), cname_l (ont_geti h _)]
theorem class_l {d : PyData} (h : OnT d) : isClass (listed d) = isClass d := by
  rw [isClass, isClass, seq_listed h, get_listed h, get_listed h, get_listed h, get_listed h, get_listed h, word_l (ont_geti h _), flat_listed (r := isOneOf ["open", "sealed"]) (fun _ => rfl) (fun _ => rfl) (ont_geti h _), flat_listed (r := isBo) (fun _ => rfl) (fun _ => rfl) (ont_geti h _), allOf_l (ont_geti h _) fun z hz => cname_l hz, allOf_l (ont_geti h _) fun z hz => named_l hz]
theorem generic_l {d : PyData} (h : OnT d) : isGeneric (listed d) = isGeneric d := by
  rw [isGeneric, isGeneric, seq_listed h, get_listed h, get_listed h, get_listed h, get_listed h, name_l (ont_geti h _), allOf_l (ont_geti h _) fun z hz => cname_l hz, int_l (ont_geti h _), cname_l (ont_geti h _), items_listed (ont_geti h _), List.length_map]
theorem member_l {k : Str} {d : PyData} (h : OnT d) : isMember k (listed d) = isMember k d := by
  unfold isMember
  rw [int_l h, name_l h, cname_l h, gname_l h, seq_listed h, seq_listed h]
theorem zip_map {α β γ : Type} (f : β → γ) : ∀ (a : List α) (b : List β), a.zip (b.map f) = (a.zip b).map fun p => (p.1, f p.2)
  | [], _ => rfl
  | _ :: _, [] => rfl
  | x :: a, y :: b => by rw [List.map_cons, List.zip_cons_cons, List.zip_cons_cons, List.map_cons, zip_map f a b]
theorem formL_l {z : Str} {r : List PyData} (h : ∀ d, d ∈ r → OnT d) : formL z (r.map listed) = formL z r := by
  unfold formL
  cases kindsOf z with
  | none => rfl
  | some ks =>
    show (decide ((r.map listed).length = ks.length) && (ks.zip (r.map listed)).all fun p => isMember p.1 p.2) = (decide (r.length = ks.length) && (ks.zip r).all fun p => isMember p.1 p.2)
    rw [List.length_map, zip_map, List.all_map]
    rw [all_congr (l := ks.zip r) (f := (fun p : Str × PyData => isMember p.1 p.2) ∘ fun p : Str × PyData => (p.1, listed p.2)) (g := fun p : Str × PyData => isMember p.1 p.2) fun p m => member_l (h p.2 (zip_mem m))]
theorem partOf_l {k : Str} {d : PyData} (h : OnT d) : partOf (k, listed d) = (partOf (k, d)).map listed := by
  unfold partOf
  rw [List.map_append, items_listed h]
  congr 1
  · by_cases e : k = "part"
    · rw [if_pos e, if_pos e]; rfl
    · rw [if_neg e, if_neg e]; rfl
  · by_cases e : isOneOf ["values", "arguments"] (.str k) = true
    · rw [if_pos e, if_pos e]
    · rw [if_neg e, if_neg e]; rfl
theorem partsL_l {z : Str} {r : List PyData} (h : ∀ d, d ∈ r → OnT d) : partsL z (r.map listed) = (partsL z r).map listed := by
  unfold partsL
  cases kindsOf z with
  | none => rfl
  | some ks =>
    show (ks.zip (r.map listed)).flatMap partOf = ((ks.zip r).flatMap partOf).map listed
    rw [zip_map]
    have : ∀ l : List (Str × PyData), (∀ p, p ∈ l → OnT p.2) → (l.map fun p => (p.1, listed p.2)).flatMap partOf = (l.flatMap partOf).map listed := by
      intro l
      induction l with
      | nil => exact fun _ => rfl
      | cons p l ih =>
        intro g
        rw [List.map_cons, List.flatMap_cons, List.flatMap_cons, List.map_append, ih fun q m => g q (List.mem_cons_of_mem _ m), partOf_l (g p (List.mem_cons_self ..))]
    exact this _ fun p m => h p.2 (zip_mem m)
theorem form_l {d : PyData} (h : OnT d) : hasForm (listed d) = hasForm d ∧ partsOf (listed d) = (partsOf d).map listed := by
  unfold hasForm partsOf
  rw [items_listed h]
  have hi : ∀ z, z ∈ items d → OnT z := fun z m => ont_items h m
  cases e : items d with
  | nil => exact ⟨rfl, rfl⟩
  | cons x r =>
    rw [e] at hi
    have hx := hi x (List.mem_cons_self ..)
    have hr : ∀ d, d ∈ r → OnT d := fun d m => hi d (List.mem_cons_of_mem _ m)
    rw [List.map_cons]
    cases hx with
    | str z =>
      rw [listed]
      exact ⟨formL_l hr, partsL_l hr⟩
    | tuple l h => rw [listed_tup]; exact ⟨rfl, rfl⟩
    | _ => rw [listed]; exact ⟨rfl, rfl⟩
theorem partsL_ont {z : Str} {r : List PyData} (h : ∀ d, d ∈ r → OnT d) : ∀ d, d ∈ partsL z r → OnT d := by
  intro d m
  unfold partsL at m
  cases e : kindsOf z with
  | none => rw [e] at m; cases m
  | some ks =>
    rw [e] at m
    obtain ⟨p, m1, m2⟩ := List.mem_flatMap.mp m
    have hp := h p.2 (zip_mem m1)
    unfold partOf at m2
    rcases List.mem_append.mp m2 with m2 | m2
    · split at m2
      · rcases List.mem_singleton.mp m2 with rfl
        exact hp
      · cases m2
    · split at m2
      · exact ont_items hp m2
      · cases m2
theorem parts_ont {d : PyData} (h : OnT d) : ∀ z, z ∈ partsOf d → OnT z := by
  intro y m
  unfold partsOf at m
  have hi : ∀ z, z ∈ items d → OnT z := fun z m => ont_items h m
  cases e : items d with
  | nil => rw [e] at m; cases m
  | cons x r =>
    rw [e] at m hi
    have hr : ∀ d, d ∈ r → OnT d := fun d m => hi d (List.mem_cons_of_mem _ m)
    have hx := hi x (List.mem_cons_self ..)
    cases hx with
    | str z => exact partsL_ont hr y m
    | _ => cases m
theorem exprL_l : ∀ (n c : Nat) (row : List PyData), (∀ d, d ∈ row → OnT d) → exprL n c (row.map listed) = exprL n c row
  | 0, c, row, _ => by
    show decide ((row.map listed).length = 0) = decide (row.length = 0)
    rw [List.length_map]
  | n + 1, c, row, h => by
    show (decide (c + (row.map listed).length ≤ 60) && ((row.map listed).all hasForm && exprL n (c + (row.map listed).length) ((row.map listed).flatMap partsOf))) = (decide (c + row.length ≤ 60) && (row.all hasForm && exprL n (c + row.length) (row.flatMap partsOf)))
    have e1 : (row.map listed).flatMap partsOf = (row.flatMap partsOf).map listed := by
      have : ∀ l : List PyData, (∀ p, p ∈ l → OnT p) → (l.map listed).flatMap partsOf = (l.flatMap partsOf).map listed := by
        intro l
        induction l with
        | nil => exact fun _ => rfl
        | cons p l ih =>
          intro g
          rw [List.map_cons, List.flatMap_cons, List.flatMap_cons, List.map_append, ih fun q m => g q (List.mem_cons_of_mem _ m), (form_l (g p (List.mem_cons_self ..))).2]
      exact this _ h
    rw [List.length_map, e1, exprL_l n _ _ (fun d m => by obtain ⟨y, m1, m2⟩ := List.mem_flatMap.mp m; exact parts_ont (h y m1) d m2), List.all_map]
    rw [all_congr (l := row) (f := hasForm ∘ listed) (g := hasForm) fun x m => (form_l (h x m)).1]
theorem expr_l {d : PyData} (h : OnT d) : isExpr (listed d) = isExpr d :=
  exprL_l 7 0 [d] fun z m => by rcases List.mem_singleton.mp m with rfl; exact h
theorem method_l {d : PyData} (h : OnT d) : isMethod (listed d) = isMethod d := by
  rw [isMethod, isMethod, seq_listed h, get_listed h, get_listed h, get_listed h, gname_l (ont_geti h _), allOf_l (ont_geti h _) fun z hz => named_l hz, expr_l (ont_geti h _)]
theorem module_l {d : PyData} (h : OnT d) : isModule (listed d) = isModule d := by
  rw [isModule, isModule, seq_listed h, get_listed h, get_listed h, get_listed h, get_listed h, get_listed h, name_l (ont_geti h _), allOf_l (ont_geti h _) fun z hz => name_l hz, allOf_l (ont_geti h _) fun z hz => class_l hz, allOf_l (ont_geti h _) fun z hz => generic_l hz, allOf_l (ont_geti h _) fun z hz => method_l hz]
end Cw

set_option Elab.async false
set_option linter.all false
set_option maxRecDepth 100000
set_option maxHeartbeats 4000000
namespace Cw
open PySem PySem.Spec PyProof.Rows L2
theorem kinds_eq {z : Str} {ks l : List Str} (e : kindsOf z = some ks) (h : kindsOf z = some l) : ks = l := Option.some.inj (e.symm.trans h)
theorem eqz_q {i : Nat} {z y : Str} {σ : L2.St} {H : Hp} {Q : Bool → Hp → Prop} (e : σ[i]? = some (some (.str z))) (q : Q (decide (z = y)) H) : tTest (tOp rEq (tVar i) (tC (V.str y))) σ H Q := by
  have h : decide (V.str z = V.str y) = decide (z = y) := decide_eq_decide.mpr ⟨fun h => V.str.inj h, fun h => by rw [h]⟩
  refine ⟨.str z, e, rfl, _, rfl, ?_⟩
  rw [h]
  exact q
theorem if_merge {t : TS} {rest : TS} {D : Ends} {σ : L2.St} {H : Hp} (X : Hp → Prop) (h1 : ∀ H', X H' → rest D σ H') (h2 : (∀ H', X H' → rest D σ H') → t { D with nx := rest D } σ H) : tSeq t rest D σ H := h2 h1
theorem dec_str {z y : Str} : decide (V.str z = V.str y) = decide (z = y) := decide_eq_decide.mpr ⟨fun h => V.str.inj h, fun h => by rw [h]⟩
theorem form_nc {z : Str} (ez : z = "new" ∨ z = "call") (y v : PyData) : lawForm z [y, v] = (lawCn (decide (z = "new")) y && tupN (if z = "new" then 0 else 1) (if z = "new" then 12 else 3) (fun _ => true) v) := by
  rcases ez with rfl | rfl
  · show (true && (lawCn true y && (tupN 0 12 (fun _ => true) v && true))) = (lawCn true y && tupN 0 12 (fun _ => true) v)
    rw [Bool.true_and, Bool.and_true]
  · show (true && (lawCn false y && (tupN 1 3 (fun _ => true) v && true))) = (lawCn false y && tupN 1 3 (fun _ => true) v)
    rw [Bool.true_and, Bool.and_true]
theorem form_nc_len {z : Str} {ks : List Str} (ez : z = "new" ∨ z = "call") (e : kindsOf z = some ks) : ks.length = 2 := by
  rcases ez with rfl | rfl
  · rw [kinds_eq (l := ["class", "values"]) e (by rfl)]; rfl
  · rw [kinds_eq (l := ["generic", "arguments"]) e (by rfl)]; rfl
theorem dps1 {K : PySem.W.Frag} {H : Hp} {xs : List V} {ds : List PyData} (h : DpAll K H xs ds) (n : ds.length = 1) : ∃ x0 d0, xs = [x0] ∧ ds = [d0] ∧ Dp K H x0 d0 := by
  cases h with
  | nil => cases n
  | cons h t =>
    cases t with
    | nil => exact ⟨_, _, rfl, rfl, h⟩
    | cons h2 t2 => simp at n
theorem form_field (x y v : PyData) : lawForm "field" [x, y, v] = (lawCn true y && lawWord false v) := by
  show (true && (true && (lawCn true y && (lawWord false v && true)))) = _
  rw [Bool.true_and, Bool.true_and, Bool.and_true]
theorem form_let (x y v : PyData) : lawForm "let" [x, y, v] = lawWord false x := by
  show (true && (lawWord false x && (true && (true && true)))) = _
  rw [Bool.true_and, show (true && (true && true)) = true from rfl, Bool.and_true]
theorem tup_nc {z : Str} {l : List PyData} (ez : z = "new" ∨ z = "call") : tupN (if z = "new" then 0 else 1) (if z = "new" then 12 else 3) (fun _ => true) (.tuple l) = !(decide ((if z = "new" then (12 : Int) else 3) < (l.length : Int)) || (decide (z = "call") && decide ((l.length : Int) = 0))) := by
  have e1 : (l.all fun _ => true) = true := List.all_eq_true.mpr fun _ _ => rfl
  rcases ez with rfl | rfl
  · show (decide (0 ≤ l.length) && (decide (l.length ≤ 12) && l.all fun _ => true)) = !(decide ((12 : Int) < (l.length : Int)) || (false && decide ((l.length : Int) = 0)))
    rw [e1, Bool.and_true, Bool.false_and, Bool.or_false, decide_eq_true (Nat.zero_le _), Bool.true_and, ← decide_not]
    exact decide_eq_decide.mpr (by omega)
  · show (decide (1 ≤ l.length) && (decide (l.length ≤ 3) && l.all fun _ => true)) = !(decide ((3 : Int) < (l.length : Int)) || (true && decide ((l.length : Int) = 0)))
    rw [e1, Bool.and_true, Bool.true_and, Bool.not_or, ← decide_not, ← decide_not, Bool.and_comm]
    congr 1 <;> exact decide_eq_decide.mpr (by omega)
theorem ok_inner {z : Str} {r : List PyData} (h : Ok (.tuple r)) : ∀ d, d ∈ innerL z r → Ok d := by
  have g : ∀ i, Ok (r.getD i .none) := fun i => ok_get h i
  intro d m
  unfold innerL at m
  split at m
  · exact ok_mem (g 1) m
  split at m
  · rcases List.mem_singleton.mp m with rfl
    exact g 0
  split at m
  · rcases List.mem_cons.mp m with rfl | m
    · exact g 1
    rcases List.mem_singleton.mp m with rfl
    exact g 2
  split at m
  · exact ok_mem h m
  · cases m
def spExpr (K : PySem.W.Frag) : Nat → Sp
  | 0 => fun _ _ _ _ => False
  | n + 1 => fun vs H Q _ => ∃ x d, vs = [x, .int (8 - (n : Int))] ∧ Dp K H x d ∧ Ok d ∧ ∀ H', Same H H' → Q (.bl (lawExpr n d)) H'
section
variable {P : Program} {w : World} {K : PySem.W.Frag} {mg : Str → Option Value} {base : Heap} {S : Addr → Option Sp}
abbrev s__law_is_expr : Stmt := topS 53
theorem sc__law_is_expr : FnScope ["value", "deep", "word", "sizes", "part"] ["value", "deep"] (defScope s__law_is_expr) := ⟨rfl, rfl, rfl, by decide +kernel, rfl, by decide +kernel, by decide +kernel⟩
theorem ok__law_is_expr {f : Addr} {fd : FuncData} (F : Fun K "_law_is_expr" "_law_is_expr" s__law_is_expr f fd) {f__law_whole : Addr} {d__law_whole : FuncData} (h__law_whole : Hd K mg "_law_whole" s__law_whole ["value"] f__law_whole d__law_whole) (G__law_whole : FnOk P w K mg base CX0 1 f__law_whole d__law_whole ["value"] (sp1 K isWhole)) {f__law_is_word : Addr} {d__law_is_word : FuncData} (h__law_is_word : Hd K mg "_law_is_word" s__law_is_word ["value", "capital"] f__law_is_word d__law_is_word) (G__law_is_word : FnOk P w K mg base CX0 2 f__law_is_word d__law_is_word ["value", "capital"] (spWord K)) {f__law_is_class_name : Addr} {d__law_is_class_name : FuncData} (h__law_is_class_name : Hd K mg "_law_is_class_name" s__law_is_class_name ["value", "capital"] f__law_is_class_name d__law_is_class_name) (G__law_is_class_name : FnOk P w K mg base CX0 3 f__law_is_class_name d__law_is_class_name ["value", "capital"] (spLawCn K)) {f__law_inner_parts : Addr} {d__law_inner_parts : FuncData} (h__law_inner_parts : Hd K mg "_law_inner_parts" s__law_inner_parts ["value"] f__law_inner_parts d__law_inner_parts) (G__law_inner_parts : FnOk P w K mg base CX0 1 f__law_inner_parts d__law_inner_parts ["value"] (spInner K)) (m_isinstance : mg "isinstance" = none) (m_tuple : mg "tuple" = none) (m_len : mg "len" = none) (m_str : mg "str" = none) (bF : Binds K fd ["value", "deep"] []) (gF : mg "_law_is_expr" = some (.ref f)) : ∀ n, FnOk P w K mg base CX0 (4 + n) f fd ["value", "deep"] (spExpr K n)
  | 0 => ⟨fun _ _ _ _ h => h.elim, fun _ _ _ _ _ _ _ _ _ _ _ _ _ h => h.elim⟩
  | n + 1 => by
    have G := ok__law_is_expr F h__law_whole G__law_whole h__law_is_word G__law_is_word h__law_is_class_name G__law_is_class_name h__law_inner_parts G__law_inner_parts m_isinstance m_tuple m_len m_str bF gF n
    refine F.ok sc__law_is_expr (fun vs H Q E h => ?_) (fun cdv A outer s H vs Q E hr h => ?_)
    · obtain ⟨_, _, rfl, _⟩ := h
      rfl
    · obtain ⟨x, d, rfl, hx, hok, q⟩ := h
      refine ⟨_, (pss_cons (ps_if (PW.pt (pw_or (pt_cmpR op_gt (pv 1) pe_int (nomark _)) (pw_or (pt_not (pt_val (pe_callB call_isi (by rfl) m_isinstance (by decide +kernel) (pa_cons (pv 0) (pa_cons (pe_bltn (v := .ty "tuple") (by rfl) m_tuple (by decide +kernel) rfl) pa_nil))))) (pw_or (pt_cmpR op_eq (pe_callB call_len_seq (by rfl) m_len PySem.boot_len (pa_cons (pv 0) pa_nil)) pe_int (nomark _)) (pw_or1 (pt_not (pt_val (pe_callB call_isi (by rfl) m_isinstance (by decide +kernel) (pa_cons (pe_ix ix_tup (pv 0) pe_int (fun _ _ => rfl)) (pa_cons (pe_bltn (v := .ty "str") (by rfl) m_str (by decide +kernel) rfl) pa_nil)))))))))) (pss_one (ps_ret pe_bl)) pss_nil)
  (pss_cons (ps_set (i := 2) sc__law_is_expr.nd rfl (.inl rfl) (pe_ix ix_tup (pv 0) pe_int (fun _ _ => rfl)))
  (pss_cons (ps_set (i := 3) sc__law_is_expr.nd rfl (.inl rfl) (pe_disp (pps_cons pe_str pe_int (pps_cons pe_str pe_int (pps_cons pe_str pe_int (pps_cons pe_str pe_int (pps_cons pe_str pe_int (pps_cons pe_str pe_int (pps_cons pe_str pe_int (pps_cons pe_str pe_int (pps_cons pe_str pe_int (pps_cons pe_str pe_int (pps_cons pe_str pe_int pps_nil))))))))))) rfl rfl (by decide) (by decide)))
  (pss_cons (ps_if (PW.pt (pw_or (pt_cmp (pc_dnotin (hu_of hr) (pv 2) (pv 3))) (pw_or1 (pt_cmpR op_ne (pe_callB call_len_seq (by rfl) m_len PySem.boot_len (pa_cons (pv 0) pa_nil)) (pe_dget (hu_of hr) (pv 3) (pv 2) (fun _ _ => rfl)) (nomark _))))) (pss_one (ps_ret pe_bl)) pss_nil)
  (pss_cons (ps_if (pt_cmpR op_eq (pv 2) pe_str (nomark _)) (pss_one (ps_ret (pe_and (pe_call G__law_whole (hr.mono (Nat.le_trans (by decide) (Nat.le_add_right 4 n))) (by rfl) h__law_whole.g h__law_whole.F.kp h__law_whole.b .nil pass0 (pa_cons (pe_ix ix_tup (pv 0) pe_int (fun _ _ => rfl)) pa_nil)) (pe_one (pe_chain op_le op_le pe_int (pe_ix ix_tup (pv 0) pe_int (fun _ _ => rfl)) pe_int))))) pss_nil)
  (pss_cons (ps_if (pt_cmpR op_eq (pv 2) pe_str (nomark _)) (pss_one (ps_ret (pe_call G__law_is_word (hr.mono (Nat.le_trans (by decide) (Nat.le_add_right 4 n))) (by rfl) h__law_is_word.g h__law_is_word.F.kp h__law_is_word.b .nil pass0 (pa_cons (pe_ix ix_tup (pv 0) pe_int (fun _ _ => rfl)) (pa_cons pe_bl pa_nil))))) pss_nil)
  (pss_cons (ps_if (PW.pt (pw_or (pt_cmpR op_eq (pv 2) pe_str (nomark _)) (pw_or1 (pt_cmpR op_eq (pv 2) pe_str (nomark _))))) (pss_cons (ps_if (PW.pt (pw_or (pt_not (pt_val (pe_call G__law_is_class_name (hr.mono (Nat.le_trans (by decide) (Nat.le_add_right 4 n))) (by rfl) h__law_is_class_name.g h__law_is_class_name.F.kp h__law_is_class_name.b .nil pass0 (pa_cons (pe_ix ix_tup (pv 0) pe_int (fun _ _ => rfl)) (pa_cons (pe_cmpR op_eq (pv 2) pe_str (nomark _)) pa_nil))))) (pw_or1 (pt_not (pt_val (pe_callB call_isi (by rfl) m_isinstance (by decide +kernel) (pa_cons (pe_ix ix_tup (pv 0) pe_int (fun _ _ => rfl)) (pa_cons (pe_bltn (v := .ty "tuple") (by rfl) m_tuple (by decide +kernel) rfl) pa_nil)))))))) (pss_one (ps_ret pe_bl)) pss_nil)
  (pss_one (ps_if (PW.pt (pw_or (pt_cmpR op_gt (pe_callB call_len_seq (by rfl) m_len PySem.boot_len (pa_cons (pe_ix ix_tup (pv 0) pe_int (fun _ _ => rfl)) pa_nil)) (pe_ifExp (pt_cmpR op_eq (pv 2) pe_str (nomark _)) pe_int pe_int) (nomark _)) (pw_or1 (PW.pt (pw_and (pt_cmpR op_eq (pv 2) pe_str (nomark _)) (pw_and1 (pt_cmpR op_eq (pe_callB call_len_seq (by rfl) m_len PySem.boot_len (pa_cons (pe_ix ix_tup (pv 0) pe_int (fun _ _ => rfl)) pa_nil)) pe_int (nomark _)))))))) (pss_one (ps_ret pe_bl)) pss_nil))) pss_nil)
  (pss_cons (ps_if (PW.pt (pw_and (pt_cmpR op_eq (pv 2) pe_str (nomark _)) (pw_and1 (pt_not (PW.pt (pw_and (pt_val (pe_call G__law_is_class_name (hr.mono (Nat.le_trans (by decide) (Nat.le_add_right 4 n))) (by rfl) h__law_is_class_name.g h__law_is_class_name.F.kp h__law_is_class_name.b .nil pass0 (pa_cons (pe_ix ix_tup (pv 0) pe_int (fun _ _ => rfl)) (pa_cons pe_bl pa_nil)))) (pw_and1 (pt_val (pe_call G__law_is_word (hr.mono (Nat.le_trans (by decide) (Nat.le_add_right 4 n))) (by rfl) h__law_is_word.g h__law_is_word.F.kp h__law_is_word.b .nil pass0 (pa_cons (pe_ix ix_tup (pv 0) pe_int (fun _ _ => rfl)) (pa_cons pe_bl pa_nil))))))))))) (pss_one (ps_ret pe_bl)) pss_nil)
  (pss_cons (ps_if (PW.pt (pw_and (pt_cmpR op_eq (pv 2) pe_str (nomark _)) (pw_and1 (pt_not (pt_val (pe_call G__law_is_word (hr.mono (Nat.le_trans (by decide) (Nat.le_add_right 4 n))) (by rfl) h__law_is_word.g h__law_is_word.F.kp h__law_is_word.b .nil pass0 (pa_cons (pe_ix ix_tup (pv 0) pe_int (fun _ _ => rfl)) (pa_cons pe_bl pa_nil)))))))) (pss_one (ps_ret pe_bl)) pss_nil)
  (pss_cons (ps_for PassesOwn.never rfl (pi_list (pe_call G__law_inner_parts (hr.mono (Nat.le_trans (by decide) (Nat.le_add_right 4 n))) (by rfl) h__law_inner_parts.g h__law_inner_parts.F.kp h__law_inner_parts.b .nil pass0 (pa_cons (pv 0) pa_nil))) (pg_name (i := 4) sc__law_is_expr.nd rfl (.inl rfl)) (pss_one (ps_if (pt_not (pt_val (pe_call G hr (by rfl) gF F.kp bF .nil pass0 (pa_cons (pv 4) (pa_cons (pe_op op_add (pv 1) pe_int) pa_nil))))) (pss_one (ps_ret pe_bl)) pss_nil)))
  (pss_one (ps_ret pe_bl)))))))))))), ?_⟩
      have qf : lawExpr n d = false → ∀ H', Same H H' → Q (.bl false) H' := fun e H' s' => by
        have z0 := q H' s'
        rw [e] at z0
        exact z0
      refine seqA (ifA ?_)
      refine ⟨.int (8 - (n : Int)), rfl, _, 7, rfl, rfl, _, rfl, ite2 (fun e => iteT ?_) (fun e => ?_)⟩
      · have g := of_decide_eq_true e
        have n0 : n = 0 := by omega
        subst n0
        exact qf rfl H (Same.refl H)
      obtain ⟨m, rfl⟩ : ∃ m, n = m + 1 := by
        have g := of_decide_eq_false (Bool.eq_false_iff.mpr e)
        exact ⟨n - 1, by omega⟩
      refine r_isi rfl hx (kb_tu d) ?_
      cases hx with
      | @tup a xs ds hq hd =>
        refine iteF ⟨.ref a, rfl, a, xs, rfl, .inr hq, rfl, _, rfl, ?_⟩
        cases hd with
        | nil => exact iteT (iteT (qf rfl H (Same.refl H)))
        | @cons x0 xr d0 r k0 kr =>
          refine iteF ?_
          refine isi_q (fun R r => ⟨.ref a, rfl, a, _, _, _, rfl, rfl, hq, atI_nat (j := 0) rfl, r⟩) k0 (kb_st d0) ?_
          cases k0 with
          | str z =>
            refine iteF (nextA ?_)
            dsimp only
            refine seqA ?_
            refine ⟨.ref a, rfl, a, _, _, _, rfl, rfl, hq, atI_nat (j := 0) rfl, ?_⟩
            refine nameA ?_
            dsimp only
            refine seqA (asgA ?_)
            refine fun p hp => ⟨upd_same, sizesKv, rfl, by decide, ?_⟩
            rw [upd_upd, sizes_merge]
            have hdk : upd H p (.dK sizesKv) p = some (.dK sizesKv) := upd_same
            have s1 := same_upd (o := .dK sizesKv) hp
            have hq1 := sqt_keep s1 hq
            have kr1 := dps_keep s1 kr
            generalize upd H p (.dK sizesKv) = H1 at hdk s1 hq1 kr1 ⊢
            refine nameA ?_
            dsimp only
            refine seqA (ifA ?_)
            refine or_q (b := (kindsOf z).isNone) (c := !(kindsOf z).any fun ks => decide (r.length = ks.length)) (fun R hR => ?_) (fun hb R hR => ?_) ?_
            · refine ⟨.str z, rfl, .ref p, rfl, p, _, rfl, DGet.k (k := .inr z) hdk, _, rfl, ?_⟩
              rw [sizes_val]
              cases ek : kindsOf z with
              | none => rw [ek] at hR; exact hR
              | some ks => rw [ek] at hR; exact hR
            · cases ek : kindsOf z with
              | none => rw [ek] at hb; cases hb
              | some ks =>
              rw [ek] at hR
              have hg : DGet H1 p (V.str z) (some (V.int ((ks.length : Int) + 1))) := by
                have h9 := DGet.k (k := .inr z) hdk
                rw [sizes_val, ek] at h9
                exact h9
              refine ⟨.ref a, rfl, a, _, rfl, .inr hq1, .ref p, rfl, .str z, rfl, p, V.int ((ks.length : Int) + 1), rfl, hg, rfl, _, rfl, ?_⟩
              rw [dec_int, List.length_cons, (dp_get kr).1]
              have e5 : (((r.length + 1 : Nat) : Int) == (ks.length : Int) + 1) = decide (r.length = ks.length) := by
                rw [Bool.eq_iff_iff, beq_iff_eq, decide_eq_true_iff]
                omega
              rw [e5]
              exact hR
            have nof : lawForm z r = false → Q (.bl false) H1 := fun e => qf (by rw [lawExpr, e, Bool.false_and]) H1 s1
            refine ite2 (fun e => ?_) (fun e => ?_)
            · refine retA (nof ?_)
              unfold lawForm
              cases ek : kindsOf z with
              | none => rfl
              | some ks =>
                rw [ek] at e
                have e9 : decide (r.length = ks.length) = false := by
                  cases e8 : decide (r.length = ks.length) with
                  | false => rfl
                  | true =>
                    have e7 : (Option.any (fun ks : List Str => decide (r.length = ks.length)) (some ks)) = true := e8
                    rw [e7] at e
                    cases e
                show (decide (r.length = ks.length) && _) = false
                rw [e9, Bool.false_and]
            obtain ⟨ks, ek, el⟩ : ∃ ks, kindsOf z = some ks ∧ r.length = ks.length := by
              cases ek : kindsOf z with
              | none => rw [ek] at e; exact absurd rfl e
              | some ks =>
                rw [ek] at e
                refine ⟨ks, rfl, ?_⟩
                by_cases g : r.length = ks.length
                · exact g
                · exfalso
                  have e7 : (Option.any (fun ks : List Str => decide (r.length = ks.length)) (some ks)) = false := decide_eq_false g
                  rw [e7] at e
                  exact e rfl
            have hform : lawForm z r = (ks.zip r).all fun p => lawMember p.1 p.2 := by
              unfold lawForm
              rw [ek]
              show (decide (r.length = ks.length) && _) = _
              rw [decide_eq_true el, Bool.true_and]
            refine nextA ?_
            dsimp only
            refine seqA (ifA ?_)
            refine eqz_q rfl (ite2 (fun e1 => ?_) (fun e1 => ?_))
            · have ez : z = "int" := of_decide_eq_true e1
              subst ez
              obtain rfl := kinds_eq (l := ["number"]) ek (by rfl)
              obtain ⟨x1, d1, rfl, rfl, k1⟩ := dps1 kr1 el
              have o1 : Ok d1 := ok_mem hok (by simp [items])
              have hv : lawExpr (m + 1) (.tuple [.str "int", d1]) = isInteger 0 65535 d1 := by
                show (lawForm "int" [d1] && true) = _
                rw [hform]
                show ((isInteger 0 65535 d1 && true) && true) = _
                rw [Bool.and_true, Bool.and_true]
              refine retA ⟨.ref a, rfl, a, _, _, _, rfl, rfl, hq1, atI_nat (j := 1) rfl, x1, d1, rfl, k1, o1, fun H2 s2 => ⟨_, rfl, ite2 (fun e2 => ?_) (fun e2 => ?_)⟩⟩
              · cases k1 with
                | int i =>
                  have hz := q H2 (s1.trans s2)
                  rw [hv] at hz
                  have hz : Q (.bl (decide (0 ≤ i) && decide (i ≤ 65535))) H2 := hz
                  refine ⟨.ref a, rfl, a, _, _, _, rfl, rfl, sqt_keep s2 hq1, atI_nat (j := 1) rfl, 0, i, rfl, rfl, _, rfl, ite2 (fun e3 => ⟨i, 65535, rfl, rfl, ?_⟩) (fun e3 => ?_)⟩
                  · rw [e3, Bool.true_and] at hz
                    exact hz
                  · rw [Bool.eq_false_iff.mpr e3, Bool.false_and] at hz
                    exact hz
                | _ => cases e2
              · have hz := q H2 (s1.trans s2)
                rw [hv] at hz
                have e4 : isInteger 0 65535 d1 = false := by
                  cases k1 with
                  | int i => exact absurd rfl e2
                  | _ => rfl
                rw [e4] at hz
                exact hz
            have z1 : z ≠ "int" := of_decide_eq_false (Bool.eq_false_iff.mpr e1)
            refine nextA ?_
            dsimp only
            refine seqA (ifA ?_)
            refine eqz_q rfl (ite2 (fun e2 => ?_) (fun e2 => ?_))
            · have ez : z = "name" := of_decide_eq_true e2
              subst ez
              obtain rfl := kinds_eq (l := ["name"]) ek (by rfl)
              obtain ⟨x1, d1, rfl, rfl, k1⟩ := dps1 kr1 el
              have o1 : Ok d1 := ok_mem hok (by simp [items])
              have hv : lawExpr (m + 1) (.tuple [.str "name", d1]) = lawWord false d1 := by
                show (lawForm "name" [d1] && true) = _
                rw [hform]
                show ((lawWord false d1 && true) && true) = _
                rw [Bool.and_true, Bool.and_true]
              refine retA ⟨.ref a, rfl, a, _, _, _, rfl, rfl, hq1, atI_nat (j := 1) rfl, x1, d1, false, rfl, k1, o1, fun H2 s2 => ?_⟩
              have hz := q H2 (s1.trans s2)
              rw [hv] at hz
              exact hz
            have z2 : z ≠ "name" := of_decide_eq_false (Bool.eq_false_iff.mpr e2)
            refine nextA ?_
            dsimp only
            refine if_merge (fun H2 => Same H1 H2 ∧ (z = "new" ∨ z = "call" → lawForm z r = true ∧ ∃ y l, r = [y, .tuple l])) (fun H2 c1 => ?_) (fun kont => ?_)
            rotate_left
            · refine ifA ?_
              refine or_q (b := decide (z = "new")) (c := decide (z = "call")) (fun R hR => eqz_q rfl hR) (fun _ R hR => eqz_q rfl hR) (ite2 (fun e3 => ?_) (fun e3 => ?_))
              · have ez : z = "new" ∨ z = "call" := by simpa using e3
                obtain ⟨x1, x2, d1, d2, rfl, rfl, k1, k2⟩ := dps2 kr1 (el.trans (form_nc_len ez ek))
                have o1 : Ok d1 := ok_mem hok (by simp [items])
                have hf := form_nc ez d1 d2
                have nof2 : lawForm z [d1, d2] = false → ∀ H2, Same H1 H2 → Q (.bl false) H2 := fun e H2 s2 => qf (by rw [lawExpr, e, Bool.false_and]) H2 (s1.trans s2)
                refine seqA (ifA ?_)
                refine ⟨.ref a, rfl, a, _, _, _, rfl, rfl, hq1, atI_nat (j := 1) rfl, .str z, rfl, rfl, x1, d1, decide (V.str z = V.str "new"), rfl, k1, o1, fun H2 s2 => ⟨_, rfl, ?_⟩⟩
                rw [dec_str]
                have hq2 := sqt_keep s2 hq1
                have k22 := dp_keep s2 k2
                cases e4 : lawCn (decide (z = "new")) d1 with
                | false => exact iteT (iteT (retA (nof2 (by rw [hf, e4, Bool.false_and]) H2 s2)))
                | true =>
                refine iteF ?_
                refine isi_q (fun R r => ⟨.ref a, rfl, a, _, _, _, rfl, rfl, hq2, atI_nat (j := 2) rfl, r⟩) k22 (kb_tu d2) ?_
                cases e5 : isTu d2 with
                | false => exact iteT (retA (nof2 (by rw [hf, tupN_no e5, Bool.and_false]) H2 s2))
                | true =>
                refine iteF (nextA ?_)
                dsimp only
                refine ifA ?_
                obtain ⟨a2, y2, l2, rfl, rfl, hq3, hd3⟩ := tu_of k22 e5
                have hl2 := (dp_get hd3).1
                have ht := tup_nc (l := l2) ez
                refine or_q (b := decide ((if z = "new" then (12 : Int) else 3) < (l2.length : Int))) (c := decide (z = "call") && decide ((l2.length : Int) = 0)) (fun R hR => ?_) (fun _ R hR => ?_) ?_
                · refine ⟨.ref a, rfl, a, _, _, _, rfl, rfl, hq2, atI_nat (j := 2) rfl, a2, y2, rfl, .inr hq3, eqz_q rfl (ite2 (fun e => ⟨_, 12, rfl, rfl, _, rfl, ?_⟩) (fun e => ⟨_, 3, rfl, rfl, _, rfl, ?_⟩))⟩
                  · rw [if_pos (of_decide_eq_true e)] at hR
                    rw [hl2]
                    exact hR
                  · rw [if_neg (of_decide_eq_false (Bool.eq_false_iff.mpr e))] at hR
                    rw [hl2]
                    exact hR
                · refine and_q (b := decide (z = "call")) (c := decide ((l2.length : Int) = 0)) (fun R hR => eqz_q rfl hR) (fun _ R hR => ⟨.ref a, rfl, a, _, _, _, rfl, rfl, hq2, atI_nat (j := 2) rfl, a2, y2, rfl, .inr hq3, rfl, _, rfl, ?_⟩) hR
                  rw [hl2, show decide (V.int (l2.length : Int) = V.int 0) = decide ((l2.length : Int) = 0) from decide_eq_decide.mpr ⟨fun h => V.int.inj h, fun h => by rw [h]⟩]
                  exact hR
                refine ite2 (fun e6 => ?_) (fun e6 => ?_)
                · exact retA (nof2 (by rw [hf, ht, e6, Bool.not_true, Bool.and_false]) H2 s2)
                · refine nextA (kont _ ⟨s2, fun _ => ⟨?_, _, _, rfl⟩⟩)
                  rw [hf, ht, e4, Bool.eq_false_iff.mpr e6]
                  rfl
              refine nextA ?_
              refine kont _ ⟨Same.refl _, fun ez => absurd (by simpa using ez) e3⟩
            obtain ⟨s2, c1⟩ := c1
            refine if_merge (fun H3 => Same H1 H3 ∧ (z = "field" → lawForm z r = true)) (fun H3 c2 => ?_) (fun kont => ?_)
            rotate_left
            · refine ifA ?_
              have hq2 := sqt_keep s2 hq1
              have kr2 := dps_keep s2 kr1
              refine eqz_q rfl (ite2 (fun e3 => ?_) (fun e3 => ?_))
              · have ez : z = "field" := of_decide_eq_true e3
                subst ez
                obtain rfl := kinds_eq (l := ["part", "class", "name"]) ek (by rfl)
                obtain ⟨x1, x2, x3, d1, d2, d3, rfl, rfl, k1, k2, k3⟩ := dps3 kr2 el
                have o2 : Ok d2 := ok_mem hok (by simp [items])
                have o3 : Ok d3 := ok_mem hok (by simp [items])
                have hf := form_field d1 d2 d3
                have nof2 : lawForm "field" [d1, d2, d3] = false → ∀ H3, Same H2 H3 → Q (.bl false) H3 := fun e H3 s3 => qf (by rw [lawExpr, e, Bool.false_and]) H3 (s1.trans (s2.trans s3))
                refine ⟨.ref a, rfl, a, _, _, _, rfl, rfl, hq2, atI_nat (j := 2) rfl, x2, d2, true, rfl, k2, o2, fun H3 s3 => ⟨_, rfl, ?_⟩⟩
                cases e4 : lawCn true d2 with
                | false => exact iteF (iteT (retA (nof2 (by rw [hf, e4, Bool.false_and]) H3 s3)))
                | true =>
                refine iteT ⟨.ref a, rfl, a, _, _, _, rfl, rfl, sqt_keep s3 hq2, atI_nat (j := 3) rfl, x3, d3, false, rfl, dp_keep s3 k3, o3, fun H4 s4 => ⟨_, rfl, ?_⟩⟩
                cases e5 : lawWord false d3 with
                | false => exact iteT (retA (nof2 (by rw [hf, e5, Bool.and_false]) H4 (s3.trans s4)))
                | true => exact iteF (nextA (kont _ ⟨s2.trans (s3.trans s4), fun _ => by rw [hf, e4, e5]; rfl⟩))
              · exact iteF (nextA (kont _ ⟨s2, fun ez => absurd (decide_eq_true ez) e3⟩))
            obtain ⟨s3, c2⟩ := c2
            refine if_merge (fun H4 => Same H1 H4 ∧ (z = "let" → lawForm z r = true)) (fun H4 c3 => ?_) (fun kont => ?_)
            rotate_left
            · refine ifA ?_
              have hq2 := sqt_keep s3 hq1
              have kr2 := dps_keep s3 kr1
              refine eqz_q rfl (ite2 (fun e3 => ?_) (fun e3 => ?_))
              · have ez : z = "let" := of_decide_eq_true e3
                subst ez
                obtain rfl := kinds_eq (l := ["name", "part", "part"]) ek (by rfl)
                obtain ⟨x1, x2, x3, d1, d2, d3, rfl, rfl, k1, k2, k3⟩ := dps3 kr2 el
                have o1 : Ok d1 := ok_mem hok (by simp [items])
                have hf := form_let d1 d2 d3
                refine ⟨.ref a, rfl, a, _, _, _, rfl, rfl, hq2, atI_nat (j := 1) rfl, x1, d1, false, rfl, k1, o1, fun H4 s4 => ⟨_, rfl, ?_⟩⟩
                cases e4 : lawWord false d1 with
                | false => exact iteT (retA (qf (by rw [lawExpr, hf, e4, Bool.false_and]) H4 (s1.trans (s3.trans s4))))
                | true => exact iteF (nextA (kont _ ⟨s3.trans s4, fun _ => by rw [hf, e4]⟩))
              · exact iteF (nextA (kont _ ⟨s3, fun ez => absurd (decide_eq_true ez) e3⟩))
            obtain ⟨s4, c3⟩ := c3
            have HF : lawForm z r = true := by
              have hw := words_of ek
              rcases hw with ⟨e0, _⟩ | ⟨e0, _⟩ | ⟨rfl, rfl⟩ | ⟨e0, _⟩ | ⟨e0, _⟩ | ⟨e0, _⟩ | ⟨rfl, rfl⟩ | ⟨rfl, rfl⟩ | ⟨rfl, rfl⟩ | ⟨rfl, rfl⟩ | ⟨e0, _⟩
              · exact absurd e0 z1
              · exact absurd e0 z2
              · match r, el, hform with
                | [], _, hform => rw [hform]; rfl
              · exact (c1 (.inl e0)).1
              · exact c2 e0
              · exact (c1 (.inr e0)).1
              · match r, el, hform with
                | [_, _], _, hform => rw [hform]; rfl
              · match r, el, hform with
                | [_, _], _, hform => rw [hform]; rfl
              · match r, el, hform with
                | [_, _], _, hform => rw [hform]; rfl
              · match r, el, hform with
                | [_, _, _], _, hform => rw [hform]; rfl
              · exact c3 e0
            have HI : innerOk z r := ⟨fun e => (c1 e).2, fun e => by subst e; rw [el, kinds_eq (l := ["part", "class", "name"]) ek (by rfl)]; rfl, fun e => by subst e; rw [el, kinds_eq (l := ["name", "part", "part"]) ek (by rfl)]; rfl⟩
            have hv : lawExpr (m + 1) (.tuple (.str z :: r)) = (innerL z r).all (lawExpr m) := by
              rw [lawExpr, HF, Bool.true_and]
            refine seqA ?_
            refine ⟨.ref a, rfl, _, z, r, rfl, .tup (sqt_keep s4 hq1) (.cons (.str z) (dps_keep s4 kr1)), HI, fun H5 L ys s5 hL hn hys => ?_⟩
            have okr : Ok (.tuple r) := by
              cases hok with
              | tuple _ h1 h2 => exact .tuple r (by simp at h1; omega) fun d m => h2 d (List.mem_cons_of_mem _ m)
            refine ⟨L, rfl, ⟨ys, SqL.of hL⟩, for_list (xs := ys) (fun i σ H' => (∃ c4, σ = [some (.ref a), some (.int (8 - ((m + 1 : Nat) : Int))), some (.str z), some (.ref p), c4]) ∧ Same H5 H' ∧ ∀ (j : Nat) y, j < i → (innerL z r)[j]? = some y → lawExpr m y = true)
              ⟨⟨_, rfl⟩, Same.refl _, fun _ _ h => absurd h (Nat.not_lt_zero _)⟩ (fun i σ H' _ p => SqL.of (p.2.1 _ _ hL)) ?_ ?_⟩
            · rintro i x σ H6 hx ⟨⟨c4, rfl⟩, s6, hall⟩
              have hi : i < (innerL z r).length := by
                rw [← (dp_get hys).1]
                exact (List.getElem?_eq_some_iff.mp hx).1
              obtain ⟨x', hx1, hx2⟩ := (dp_get hys).2 i (innerL z r)[i] (List.getElem?_eq_getElem hi)
              obtain rfl : x' = x := Option.some.inj (hx1.symm.trans hx)
              refine nameA (ifA ?_)
              refine ⟨x', rfl, .int (8 - ((m + 1 : Nat) : Int)), rfl, _, 1, rfl, rfl, x', (innerL z r)[i], ?_, dp_keep s6 hx2, ok_inner okr _ (List.getElem_mem hi), fun H7 s7 => ⟨_, rfl, ?_⟩⟩
              · show [x', V.int ((8 - ((m + 1 : Nat) : Int)) + 1)] = [x', V.int (8 - (m : Int))]
                rw [show (8 - ((m + 1 : Nat) : Int)) + 1 = 8 - (m : Int) by omega]
              cases e7 : lawExpr m (innerL z r)[i] with
              | false => exact iteT (retA (qf (by rw [hv]; exact all_no (List.getElem_mem hi) e7) H7 (s1.trans (s4.trans (s5.trans (s6.trans s7))))))
              | true =>
                refine iteF (nextA ⟨⟨_, rfl⟩, s6.trans s7, fun j y hj hy => ?_⟩)
                exact all_step (i := i) hall hj hy (List.getElem?_eq_getElem hi) e7
            · rintro σ H6 ⟨⟨c4, rfl⟩, s6, hall⟩
              have hz := q H6 (s1.trans (s4.trans (s5.trans s6)))
              rw [hv, all_yes (r := lawExpr m) fun j y hy => hall j y (by rw [(dp_get hys).1]; exact (List.getElem?_eq_some_iff.mp hy).1) hy] at hz
              exact hz
          | bl b => exact iteT (qf rfl H (Same.refl H))
          | non => exact iteT (qf rfl H (Same.refl H))
          | int z => exact iteT (qf rfl H (Same.refl H))
          | lst h1 h2 => exact iteT (qf rfl H (Same.refl H))
          | tup h1 h2 => exact iteT (qf rfl H (Same.refl H))
      | bl b => exact iteT (iteT (qf rfl H (Same.refl H)))
      | non => exact iteT (iteT (qf rfl H (Same.refl H)))
      | int z => exact iteT (iteT (qf rfl H (Same.refl H)))
      | lst h1 h2 => exact iteT (iteT (qf rfl H (Same.refl H)))
      | str z => exact iteT (iteT (qf rfl H (Same.refl H)))
end
end Cw

set_option Elab.async false
set_option linter.all false
set_option maxRecDepth 100000
set_option maxHeartbeats 4000000
namespace Cw
open PySem PySem.Spec PyProof.Rows L2
/-- a shape whose expressions may be counted -/
def shapeE : Nat → PyData → Prop
  | n + 1, .tuple (.str z :: r) => innerOk z r ∧ ∀ d, d ∈ innerL z r → shapeE n d
  | _, _ => False
theorem form_inner {z : Str} {r : List PyData} (h : lawForm z r = true) : innerOk z r := by
  cases ek : kindsOf z with
  | none => unfold lawForm at h; rw [ek] at h; cases h
  | some ks =>
  have el : r.length = ks.length := by
    unfold lawForm at h
    rw [ek] at h
    exact of_decide_eq_true (Bool.and_eq_true _ _ ▸ h).1
  refine ⟨fun e => ?_, fun e => ?_, fun e => ?_⟩
  · have hl := el.trans (form_nc_len e ek)
    obtain ⟨y, v, rfl⟩ := len2 hl
    rw [form_nc e] at h
    have h2 := (Bool.and_eq_true _ _ ▸ h).2
    cases v with
    | tuple l => exact ⟨y, l, rfl⟩
    | _ => cases h2
  · subst e
    rw [el, kinds_eq (l := ["part", "class", "name"]) ek (by rfl)]
    rfl
  · subst e
    rw [el, kinds_eq (l := ["name", "part", "part"]) ek (by rfl)]
    rfl
theorem shape_of : ∀ (n : Nat) (d : PyData), lawExpr n d = true → shapeE n d
  | 0, _, h => by cases h
  | n + 1, .tuple (.str z :: r), h => by
    have h1 : (lawForm z r && (innerL z r).all (lawExpr n)) = true := h
    rw [Bool.and_eq_true, List.all_eq_true] at h1
    exact ⟨form_inner h1.1, fun d m => shape_of n d (h1.2 d m)⟩
  | n + 1, .tuple [], h => by cases h
  | n + 1, .tuple (.none :: _), h => by cases h
  | n + 1, .tuple (.bool _ :: _), h => by cases h
  | n + 1, .tuple (.int _ :: _), h => by cases h
  | n + 1, .tuple (.list _ :: _), h => by cases h
  | n + 1, .tuple (.tuple _ :: _), h => by cases h
  | n + 1, .tuple (.dict _ :: _), h => by cases h
  | n + 1, .none, h => by cases h
  | n + 1, .bool _, h => by cases h
  | n + 1, .int _, h => by cases h
  | n + 1, .str _, h => by cases h
  | n + 1, .list _, h => by cases h
  | n + 1, .dict _, h => by cases h
theorem inner_len {z : Str} {r : List PyData} (h : Ok (.tuple r)) : (innerL z r).length ≤ 100000 := by
  unfold innerL
  split
  · exact ok_len (ok_get h 1)
  split
  · exact (by decide : 1 ≤ 100000)
  split
  · exact (by decide : 2 ≤ 100000)
  split
  · exact ok_len h
  · decide
/-- a count in any heap in which the value stands -/
def spCount (K : PySem.W.Frag) (n : Nat) : Sp := fun vs H Q _ => ∃ x d, vs = [x] ∧ Dp K H x d ∧ shapeE n d ∧ Ok d ∧ ∀ H', Same H H' → Q (.int (cntE n d : Nat)) H'
section
variable {P : Program} {w : World} {K : PySem.W.Frag} {mg : Str → Option Value} {base : Heap} {S : Addr → Option Sp}
abbrev s__law_count : Stmt := topS 54
theorem sc__law_count : FnScope ["value", "part"] ["value"] (defScope s__law_count) := ⟨rfl, rfl, rfl, by decide +kernel, rfl, by decide +kernel, by decide +kernel⟩
theorem ok__law_count {f : Addr} {fd : FuncData} (F : Fun K "_law_count" "_law_count" s__law_count f fd) {f__law_inner_parts : Addr} {d__law_inner_parts : FuncData} (h__law_inner_parts : Hd K mg "_law_inner_parts" s__law_inner_parts ["value"] f__law_inner_parts d__law_inner_parts) (G__law_inner_parts : FnOk P w K mg base CX0 1 f__law_inner_parts d__law_inner_parts ["value"] (spInner K)) (m_sum : mg "sum" = none) (bF : Binds K fd ["value"] []) (gF : mg "_law_count" = some (.ref f)) : ∀ n, FnOk P w K mg base CX0 (2 + n) f fd ["value"] (spCount K n)
  | 0 => ⟨fun _ _ _ _ h => (by obtain ⟨_, d, _, _, h, _⟩ := h; cases d <;> exact h.elim), fun _ _ _ _ _ _ _ _ _ _ _ _ _ h => (by obtain ⟨_, d, _, _, h, _⟩ := h; cases d <;> exact h.elim)⟩
  | n + 1 => by
    have G := ok__law_count F h__law_inner_parts G__law_inner_parts m_sum bF gF n
    refine F.ok sc__law_count (fun vs H Q E h => ?_) (fun cdv A outer s H vs Q E hr h => ?_)
    · obtain ⟨_, _, rfl, _⟩ := h
      rfl
    · obtain ⟨x, d, rfl, hx, hsh, hok, q⟩ := h
      refine ⟨_, (pss_one (ps_ret (pe_op op_add pe_int (pe_callB (cr_sum rfl) (by rfl) m_sum (by decide +kernel) (pa_cons (pe_lc (own := [("part", 1)]) rfl sc__law_count.nd (pi_list (pe_call G__law_inner_parts (hr.mono (Nat.le_trans (by decide) (Nat.le_add_right 2 n))) (by rfl) h__law_inner_parts.g h__law_inner_parts.F.kp h__law_inner_parts.b .nil pass0 (pa_cons (pv 0) pa_nil))) (blkOk_by (N := ["value", "part"]) (sc := defScope s__law_count) (by decide +kernel)) (fun _ _ _ _ _ => by exact (pg_name (i := 1) sc__law_count.nd rfl (.inl rfl))) (fun _ _ _ _ _ => by exact pts_nil) (fun _ _ _ _ _ => by exact (pe_call G hr (by rfl) gF F.kp bF .nil pass0 (pa_cons (pv 1) pa_nil)))) pa_nil))))), ?_⟩
      match d, hsh, hx, hok, q with
      | .tuple (.str z :: r), hsh, hx, hok, q =>
      obtain ⟨hi, hp⟩ := hsh
      have okr : Ok (.tuple r) := by
        cases hok with
        | tuple _ h1 h2 => exact .tuple r (by simp at h1; omega) fun d m => h2 d (List.mem_cons_of_mem _ m)
      refine retA ⟨x, rfl, x, z, r, rfl, hx, hi, fun H5 L ys s5 hL hn hys => ⟨L, rfl, ⟨ys, SqL.of hL⟩, fun D hD => lc_list (xs := ys)
        (fun j H' => Same H5 H' ∧ H' D = some (.lst (((innerL z r).take j).map fun y => V.int (cntE n y : Nat)))) ⟨same_upd hD, upd_same⟩ (fun j H' _ p => SqL.of (p.1 _ _ hL)) ?_ ?_⟩⟩
      · rintro j y H6 hy ⟨s6, hacc⟩
        have hj : j < (innerL z r).length := by
          rw [← (dp_get hys).1]
          exact (List.getElem?_eq_some_iff.mp hy).1
        obtain ⟨y', hy1, hy2⟩ := (dp_get hys).2 j (innerL z r)[j] (List.getElem?_eq_getElem hj)
        obtain rfl : y' = y := Option.some.inj (hy1.symm.trans hy)
        refine ⟨rfl, ?_⟩
        unfold tYes
        dsimp only
        rw [if_pos rfl]
        refine ⟨y', rfl, y', (innerL z r)[j], rfl, dp_keep s6 hy2, hp _ (List.getElem_mem hj), ok_inner okr _ (List.getElem_mem hj), fun H7 s7 => ⟨_, s7 _ _ hacc, ?_, same_mut (s6.trans s7) hD, ?_⟩⟩
        · rw [List.length_map, List.length_take]
          exact Nat.lt_of_le_of_lt (Nat.le_trans (Nat.min_le_right _ _) (inner_len okr)) (by decide)
        · rw [upd_same, List.take_add_one, List.getElem?_eq_getElem hj, List.map_append]
          rfl
      · rintro H6 ⟨s6, hacc⟩
        rw [(dp_get hys).1, List.take_length] at hacc
        refine ⟨D, (innerL z r).map fun y => (cntE n y : Int), rfl, SqL.of (by rw [hacc, List.map_map]; rfl), 1, _, rfl, rfl, ?_⟩
        have hz := q H6 (s5.trans s6)
        have e : (1 : Int) + ((innerL z r).map fun y => (cntE n y : Int)).sum = ((cntE (n + 1) (.tuple (.str z :: r)) : Nat) : Int) := by
          show _ = ((1 + ((innerL z r).map (cntE n)).sum : Nat) : Int)
          have : ∀ l : List PyData, (l.map fun y => (cntE n y : Int)).sum = (((l.map (cntE n)).sum : Nat) : Int) := by
            intro l
            induction l with
            | nil => rfl
            | cons a l ih => rw [List.map_cons, List.sum_cons, List.map_cons, List.sum_cons, ih]; omega
          rw [this]
          omega
        rw [← e] at hz
        exact hz
theorem sc__law_is_right_expr : FnScope ["value"] ["value"] (defScope s__law_is_right_expr) := ⟨rfl, rfl, rfl, by decide +kernel, rfl, by decide +kernel, by decide +kernel⟩
theorem ok__law_is_right_expr {f : Addr} {fd : FuncData} (F : Fun K "_law_is_right_expr" "_law_is_right_expr" s__law_is_right_expr f fd) {f__law_is_expr : Addr} {d__law_is_expr : FuncData} (h__law_is_expr : Hd K mg "_law_is_expr" s__law_is_expr ["value", "deep"] f__law_is_expr d__law_is_expr) (G__law_is_expr : FnOk P w K mg base CX0 12 f__law_is_expr d__law_is_expr ["value", "deep"] (spExpr K 8)) {f__law_count : Addr} {d__law_count : FuncData} (h__law_count : Hd K mg "_law_count" s__law_count ["value"] f__law_count d__law_count) (G__law_count : FnOk P w K mg base CX0 9 f__law_count d__law_count ["value"] (spCount K 7)) : FnOk P w K mg base CX0 14 f fd ["value"] (sp1 K lawRx) := by
  refine F.ok sc__law_is_right_expr (fun vs H Q E h => ?_) (fun cdv A outer s H vs Q E hr h => ?_)
  · obtain ⟨x, d, rfl, _⟩ := h
    rfl
  · obtain ⟨x, d, rfl, hx, hok, q⟩ := h
    refine ⟨_, (pss_one (ps_ret (pe_and (pe_call G__law_is_expr (hr.mono (by decide)) (by rfl) h__law_is_expr.g h__law_is_expr.F.kp h__law_is_expr.b .nil pass0 (pa_cons (pv 0) (pa_cons pe_int pa_nil))) (pe_one (pe_cmpR op_lt (pe_call G__law_count (hr.mono (by decide)) (by rfl) h__law_count.g h__law_count.F.kp h__law_count.b .nil pass0 (pa_cons (pv 0) pa_nil)) pe_int (nomark _)))))), ?_⟩
    refine retA ⟨x, rfl, x, d, rfl, hx, hok, fun H1 s1 => ⟨_, rfl, ?_⟩⟩
    cases e : lawExpr 7 d with
    | false =>
      refine iteF ?_
      have hz := q H1 s1
      unfold lawRx at hz
      rw [e] at hz
      exact hz
    | true =>
      refine iteT ⟨x, rfl, x, d, rfl, dp_keep s1 hx, shape_of 7 d e, hok, fun H2 s2 => ⟨_, 61, rfl, rfl, ?_⟩⟩
      have hz := q H2 (s1.trans s2)
      unfold lawRx at hz
      rw [e, Bool.true_and] at hz
      have e2 : decide (((cntE 7 d : Nat) : Int) < 61) = decide (cntE 7 d < 61) := decide_eq_decide.mpr (by omega)
      show Q (.bl (decide (((cntE 7 d : Nat) : Int) < 61))) H2
      rw [e2]
      exact hz
end
end Cw

set_option Elab.async false
set_option linter.all false
set_option maxRecDepth 100000
set_option maxHeartbeats 4000000
namespace Cw
open PySem PySem.Spec PyProof.Rows L2
/-- what stays but at the addresses of A -/
def Fr (A : List Addr) (H H' : Hp) : Prop := ∀ b o, b ∉ A → H b = some o → H' b = some o
theorem Fr.refl {A : List Addr} (H : Hp) : Fr A H H := fun _ _ _ h => h
theorem Fr.trans {A : List Addr} {H H' H'' : Hp} (h : Fr A H H') (g : Fr A H' H'') : Fr A H H'' := fun b o n e => g b o n (h b o n e)
theorem Fr.of {A : List Addr} {H H' : Hp} (s : Same H H') : Fr A H H' := fun b o _ e => s b o e
theorem Fr.mono {A B : List Addr} {H H' : Hp} (h : Fr A H H') (m : ∀ b, b ∈ A → b ∈ B) : Fr B H H' := fun b o n e => h b o (fun k => n (m b k)) e
/-- what was not there may change -/
theorem Fr.drop {A : List Addr} {u : Addr} {H H' : Hp} (h : Fr (u :: A) H H') (hu : H u = none) : Fr A H H' := fun b o n e => h b o (fun k => by
  rcases List.mem_cons.mp k with rfl | k
  · rw [hu] at e; cases e
  · exact n k) e
theorem Fr.upd {A : List Addr} {H H' : Hp} {p : Addr} {o : HO} (h : Fr A H H') (hp : H p = none) : Fr A H (upd H' p o) := fun b x n e => by
  have k : b ≠ p := fun k => by rw [k, hp] at e; cases e
  rw [upd_ne k]
  exact h b x n e
theorem Fr.set {A : List Addr} {H H' : Hp} {p : Addr} {o : HO} (h : Fr A H H') (hp : p ∈ A) : Fr A H (L2.upd H' p o) := fun b x n e => by
  have k : b ≠ p := fun k => n (by rw [k]; exact hp)
  rw [upd_ne k]
  exact h b x n e
/-- the numbers, the place in them -/
def Sta (r sp : Addr) (H : Hp) : Prop := r ≠ sp ∧ (∃ row : List Int, row ≠ [] ∧ H r = some (.lst (row.map V.int))) ∧ ∃ n : Nat, H sp = some (.lst [.int (n : Int)])
theorem Sta.same {r sp : Addr} {H H' : Hp} (h : Sta r sp H) (s : Same H H') : Sta r sp H' := by
  obtain ⟨h1, ⟨row, h2, h3⟩, n, h4⟩ := h
  exact ⟨h1, ⟨row, h2, s _ _ h3⟩, n, s _ _ h4⟩
theorem Sta.new {r sp p : Addr} {H : Hp} {o : HO} (h : Sta r sp H) (hp : H p = none) : Sta r sp (upd H p o) := h.same (same_upd hp)
theorem Sta.sp_ne {r sp p : Addr} {H : Hp} (h : Sta r sp H) (hp : H p = none) : p ≠ sp := fun e => by
  obtain ⟨_, _, n, h4⟩ := h
  rw [← e, hp] at h4
  cases h4
theorem Sta.set {r sp p : Addr} {H : Hp} {o : HO} (h : Sta r sp H) (h1 : p ≠ r) (h2 : p ≠ sp) : Sta r sp (upd H p o) := by
  obtain ⟨a, ⟨row, b, c⟩, n, d⟩ := h
  exact ⟨a, ⟨row, b, by rw [upd_ne (Ne.symm h1)]; exact c⟩, n, by rw [upd_ne (Ne.symm h2)]; exact d⟩
theorem Sta.dk {r sp u : Addr} {H : Hp} {kv : List (Key × V)} (h : Sta r sp H) (hu : H u = some (.dK kv)) : u ≠ r ∧ u ≠ sp := by
  obtain ⟨a, ⟨row, b, c⟩, n, d⟩ := h
  refine ⟨fun e => ?_, fun e => ?_⟩
  · rw [← e, hu] at c; cases c
  · rw [← e, hu] at d; cases d
/-- data without lists stay where no tuple changes -/
def NoTup (A : List Addr) (H : Hp) : Prop := ∀ b, b ∈ A → ∀ xs, ¬ Rd H b (.tup xs)
theorem sqt_fr {K : PySem.W.Frag} {A : List Addr} {H H' : Hp} (s : Fr A H H') (n : NoTup A H) {a : Addr} {xs : List V} (h : SqT K H a xs) : SqT K H' a xs := by
  rcases h with h | h
  · have na : a ∉ A := fun m => n a m xs h
    rcases h with h | ⟨o, h⟩
    · exact .inl (.inl (s _ _ na h))
    · exact .inl (.inr ⟨o, s _ _ na h⟩)
  · exact .inr h
mutual
theorem dp_fr {K : PySem.W.Frag} {A : List Addr} {H H' : Hp} (s : Fr A H H') (n : NoTup A H) : ∀ {x : V} {d : PyData}, OnT d → Dp K H x d → Dp K H' x d
  | _, _, _, .non => .non
  | _, _, _, .bl b => .bl b
  | _, _, _, .int i => .int i
  | _, _, _, .str z => .str z
  | _, _, o, .lst h t => by cases o
  | _, _, o, .tup h t => .tup (sqt_fr s n h) (dps_fr s n (fun d m => ont_mem o m) t)
theorem dps_fr {K : PySem.W.Frag} {A : List Addr} {H H' : Hp} (s : Fr A H H') (n : NoTup A H) : ∀ {xs : List V} {ds : List PyData}, (∀ d, d ∈ ds → OnT d) → DpAll K H xs ds → DpAll K H' xs ds
  | _, _, _, .nil => .nil
  | _, _, o, .cons h t => .cons (dp_fr s n (o _ (List.mem_cons_self ..)) h) (dps_fr s n (fun d m => o d (List.mem_cons_of_mem _ m)) t)
end
theorem Sta.nt {r sp : Addr} {H : Hp} (h : Sta r sp H) : NoTup [sp] H := fun b m xs e => by
  obtain ⟨_, _, n, d⟩ := h
  rcases List.mem_singleton.mp m with rfl
  rcases e with e | ⟨o, e⟩ <;> · rw [d] at e; cases e
theorem Sta.nt2 {r sp u : Addr} {H : Hp} {kv : List (Key × V)} (h : Sta r sp H) (hu : H u = some (.dK kv)) : NoTup [u, sp] H := fun b m xs e => by
  rcases List.mem_cons.mp m with rfl | m
  · rcases e with e | ⟨o, e⟩ <;> · rw [hu] at e; cases e
  · exact h.nt b m xs e
/-! ### the numbers -/
def spTk (K : PySem.W.Frag) : Sp := fun vs H Q _ => ∃ (r sp : Addr) (lim : Int), vs = [.ref r, .ref sp, .int lim] ∧ Sta r sp H ∧ 0 < lim ∧ ∀ (z : Int) H', 0 ≤ z → z < lim → Sta r sp H' → Fr [sp] H H' → Q (.int z) H'
def spLet (K : PySem.W.Frag) : Sp := fun vs H Q _ => ∃ (r sp : Addr) (m : Int), vs = [.ref r, .ref sp, .int m] ∧ Sta r sp H ∧ 0 ≤ m ∧ m ≤ 1000 ∧ ∀ (z : Str) H', z.length = m.toNat → Sta r sp H' → Fr [sp] H H' → Q (.str z) H'
def spName (K : PySem.W.Frag) : Sp := fun vs H Q _ => ∃ (r sp u : Addr) (kv : List (Key × V)), vs = [.ref r, .ref sp, .ref u] ∧ Sta r sp H ∧ H u = some (.dK kv) ∧ kv.length ≤ 1000 ∧ ∀ (z : Str) H' kv', z.length ≤ 100 → Sta r sp H' → Fr [u, sp] H H' → H' u = some (.dK kv') → kv'.length ≤ kv.length + 1 → Q (.str z) H'
theorem ok_tk {P : Program} {w : World} {K : PySem.W.Frag} {mg : Str → Option Value} {base : Heap} {k : Nat} {f : Addr} {fd : FuncData} {ps : List Str} (h : FnOk P w K mg base CX0 k f fd ps (spTake K)) : FnOk P w K mg base CX0 k f fd ps (spTk K) :=
  h.imp fun vs H Q E q => by
    obtain ⟨r, sp, lim, rfl, ⟨a, ⟨row, b, c⟩, n, d⟩, hl, q⟩ := q
    exact ⟨r, sp, row, n, lim, rfl, c, b, a, d, hl, fun z z0 z1 => q z _ z0 z1 ⟨a, ⟨row, b, by rw [upd_ne a]; exact c⟩, n + 1, upd_same⟩ ((Fr.refl H).set (List.mem_singleton.mpr rfl))⟩
theorem at_in {α : Type} {l : List α} {i : Int} (h0 : 0 ≤ i) (h : i < (l.length : Int)) : ∃ z, atI l i = some z := by
  obtain ⟨j, rfl⟩ := Int.eq_ofNat_of_zero_le h0
  have hj : j < l.length := Int.ofNat_lt.mp h
  exact ⟨l[j], atI_nat (List.getElem?_eq_getElem hj)⟩
theorem len_app (x y : Str) : (x ++ y).length = x.length + y.length := by
  show (x.cps ++ y.cps).size = _
  rw [Array.size_append]
  rfl
abbrev s__law_take : Stmt := topS 39
section
variable {P : Program} {w : World} {K : PySem.W.Frag} {mg : Str → Option Value} {base : Heap} {S : Addr → Option Sp}
abbrev s__law_wide : Stmt := topS 40
theorem sc__law_wide : FnScope ["row", "spot", "limit", "first", "second", "third"] ["row", "spot", "limit"] (defScope s__law_wide) := ⟨rfl, rfl, rfl, by decide +kernel, rfl, by decide +kernel, by decide +kernel⟩
theorem ok__law_wide {f : Addr} {fd : FuncData} (F : Fun K "_law_wide" "_law_wide" s__law_wide f fd) {f__law_take : Addr} {d__law_take : FuncData} (h__law_take : Hd K mg "_law_take" s__law_take ["row", "spot", "limit"] f__law_take d__law_take) (G__law_take : FnOk P w K mg base CX0 2 f__law_take d__law_take ["row", "spot", "limit"] (spTk K)) (m_int : mg "int" = none) : FnOk P w K mg base CX0 3 f fd ["row", "spot", "limit"] (spTk K) := by
  refine F.ok sc__law_wide (fun vs H Q E h => ?_) (fun cdv A outer s H vs Q E hr h => ?_)
  · obtain ⟨_, _, _, rfl, _⟩ := h
    rfl
  · obtain ⟨r, sp, lim, rfl, st, hl, q⟩ := h
    refine ⟨_, (pss_cons (ps_set (i := 3) sc__law_wide.nd rfl (.inl rfl) (pe_call G__law_take (hr.mono (by decide)) (by rfl) h__law_take.g h__law_take.F.kp h__law_take.b .nil pass0 (pa_cons (pv 0) (pa_cons (pv 1) (pa_cons pe_int pa_nil)))))
  (pss_cons (ps_set (i := 4) sc__law_wide.nd rfl (.inl rfl) (pe_call G__law_take (hr.mono (by decide)) (by rfl) h__law_take.g h__law_take.F.kp h__law_take.b .nil pass0 (pa_cons (pv 0) (pa_cons (pv 1) (pa_cons pe_int pa_nil)))))
  (pss_cons (ps_set (i := 5) sc__law_wide.nd rfl (.inl rfl) (pe_call G__law_take (hr.mono (by decide)) (by rfl) h__law_take.g h__law_take.F.kp h__law_take.b .nil pass0 (pa_cons (pv 0) (pa_cons (pv 1) (pa_cons pe_int pa_nil)))))
  (pss_one (ps_ret (pe_op op_mod (pe_callTy call_int1 (by rfl) m_int (by decide +kernel) (pa_cons (pe_op op_add (pe_op op_add (pe_op op_mul (pv 3) pe_int) (pe_op op_mul (pv 4) pe_int)) (pv 5)) pa_nil)) (pv 2))))))), ?_⟩
    refine ⟨.ref r, rfl, .ref sp, rfl, r, sp, 997, rfl, st, by decide, fun z1 H1 a1 b1 st1 f1 => ?_⟩
    refine ⟨.ref r, rfl, .ref sp, rfl, r, sp, 997, rfl, st1, by decide, fun z2 H2 a2 b2 st2 f2 => ?_⟩
    refine ⟨.ref r, rfl, .ref sp, rfl, r, sp, 997, rfl, st2, by decide, fun z3 H3 a3 b3 st3 f3 => ?_⟩
    refine ⟨.int z1, rfl, z1, 994009, rfl, rfl, .inr (by decide), .int z2, rfl, z2, 997, rfl, rfl, .inr (by decide), _, _, rfl, rfl, .int z3, rfl, _, _, rfl, rfl, .inl ⟨_, rfl, .int lim, rfl, _, lim, rfl, rfl, hl, ?_⟩⟩
    exact q _ H3 (Int.emod_nonneg _ (by omega)) (Int.emod_lt_of_pos _ hl) st3 (f1.trans (f2.trans f3))
abbrev s__law_letters : Stmt := topS 45
theorem sc__law_letters : FnScope ["row", "spot", "many", "made", "k", "at"] ["row", "spot", "many"] (defScope s__law_letters) := ⟨rfl, rfl, rfl, by decide +kernel, rfl, by decide +kernel, by decide +kernel⟩
theorem ok__law_letters {f : Addr} {fd : FuncData} (F : Fun K "_law_letters" "_law_letters" s__law_letters f fd) {f__law_take : Addr} {d__law_take : FuncData} (h__law_take : Hd K mg "_law_take" s__law_take ["row", "spot", "limit"] f__law_take d__law_take) (G__law_take : FnOk P w K mg base CX0 2 f__law_take d__law_take ["row", "spot", "limit"] (spTk K)) (m_range : mg "range" = none) : FnOk P w K mg base CX0 3 f fd ["row", "spot", "many"] (spLet K) := by
  refine F.ok sc__law_letters (fun vs H Q E h => ?_) (fun cdv A outer s H vs Q E hr h => ?_)
  · obtain ⟨_, _, _, rfl, _⟩ := h
    rfl
  · obtain ⟨r, sp, m, rfl, st, hm0, hm, q⟩ := h
    refine ⟨_, (pss_cons (ps_set (i := 3) sc__law_letters.nd rfl (.inl rfl) pe_str)
  (pss_cons (ps_for PassesOwn.never rfl (pi_range1 rfl m_range (pa_cons (pv 2) pa_nil)) (pg_name (i := 4) sc__law_letters.nd rfl (.inl rfl)) (pss_cons (ps_set (i := 5) sc__law_letters.nd rfl (.inl rfl) (pe_call G__law_take (hr.mono (by decide)) (by rfl) h__law_take.g h__law_take.F.kp h__law_take.b .nil pass0 (pa_cons (pv 0) (pa_cons (pv 1) (pa_cons pe_int pa_nil)))))
  (pss_one (ps_set (i := 3) sc__law_letters.nd rfl (.inl rfl) (pe_op op_add_str (pv 3) (pe_ix ix_str pe_str (pv 5) (fun _ _ => rfl)))))))
  (pss_one (ps_ret (pv 3))))), ?_⟩
    refine seqA (asgA (nameA ?_))
    dsimp only
    refine seqA ⟨.int m, rfl, m, rfl, by omega, by omega, for_range (lo := 0) (n := m.toNat) (fun i σ H' => ∃ c4 c5 z, σ = [some (.ref r), some (.ref sp), some (.int m), some (.str z), c4, c5] ∧ z.length = i ∧ Sta r sp H' ∧ Fr [sp] H H') ⟨_, _, "", rfl, rfl, st, Fr.refl H⟩ ?_ ?_⟩
    · rintro i σ H1 hi ⟨c4, c5, z, rfl, hz, st1, f1⟩
      refine nameA (seqA (asgA ⟨.ref r, rfl, .ref sp, rfl, r, sp, 26, rfl, st1, by decide, fun t H2 t0 t1 st2 f2 => nameA ?_⟩))
      dsimp only
      obtain ⟨c, hc⟩ := at_in (l := (PySem.Str.ofString "abcdefghijklmnopqrstuvwxyz").cps.toList) t0 (by rw [show (PySem.Str.ofString "abcdefghijklmnopqrstuvwxyz").cps.toList.length = 26 by decide +kernel]; exact t1)
      refine asgA ⟨.str z, rfl, .int t, rfl, _, t, c, rfl, rfl, by decide, hc, z, _, rfl, rfl, ?_, nameA ⟨_, _, _, rfl, ?_, st2, f1.trans f2⟩⟩
      · show z.length + 1 ≤ sizeLine
        exact Nat.le_trans (by omega : z.length + 1 ≤ 1001) (by decide)
      · rw [len_app, hz]
        rfl
    · rintro σ H1 ⟨c4, c5, z, rfl, hz, st1, f1⟩
      exact ⟨.str z, rfl, q z H1 hz st1 f1⟩
end
end Cw

set_option Elab.async false
set_option linter.all false
set_option maxRecDepth 100000
set_option maxHeartbeats 4000000
namespace Cw
open PySem PySem.Spec PyProof.Rows L2
theorem seq_merge {t rest : TS} {D : Ends} {σ : L2.St} {H : Hp} (X : L2.St → Hp → Prop) (h1 : ∀ σ' H', X σ' H' → rest D σ' H') (h2 : (∀ σ' H', X σ' H' → rest D σ' H') → t { D with nx := rest D } σ H) : tSeq t rest D σ H := h2 h1
theorem res_flat : (reserved19.map V.str).all flatV = true := by decide
theorem Fr.u {sp u : Addr} {H H' : Hp} {kv : List (Key × V)} (f : Fr [sp] H H') (hu : H u = some (.dK kv)) (h : u ≠ sp) : H' u = some (.dK kv) := f _ _ (fun m => h (List.mem_singleton.mp m)) hu
theorem Fr.two {sp u : Addr} {H H' : Hp} (f : Fr [sp] H H') : Fr [u, sp] H H' := f.mono fun _ m => List.mem_cons_of_mem _ m
section
variable {P : Program} {w : World} {K : PySem.W.Frag} {mg : Str → Option Value} {base : Heap} {S : Addr → Option Sp}
abbrev s__law_name : Stmt := topS 46
theorem sc__law_name : FnScope ["row", "spot", "used", "made", "k"] ["row", "spot", "used"] (defScope s__law_name) := ⟨rfl, rfl, rfl, by decide +kernel, rfl, by decide +kernel, by decide +kernel⟩
theorem ok__law_name {f : Addr} {fd : FuncData} (F : Fun K "_law_name" "_law_name" s__law_name f fd) {f__law_letters : Addr} {d__law_letters : FuncData} (h__law_letters : Hd K mg "_law_letters" s__law_letters ["row", "spot", "many"] f__law_letters d__law_letters) (G__law_letters : FnOk P w K mg base CX0 3 f__law_letters d__law_letters ["row", "spot", "many"] (spLet K)) {f__law_take : Addr} {d__law_take : FuncData} (h__law_take : Hd K mg "_law_take" s__law_take ["row", "spot", "limit"] f__law_take d__law_take) (G__law_take : FnOk P w K mg base CX0 2 f__law_take d__law_take ["row", "spot", "limit"] (spTk K)) {f__law_reserved : Addr} {d__law_reserved : FuncData} (h__law_reserved : Hd K mg "_law_reserved" s__law_reserved [] f__law_reserved d__law_reserved) (G__law_reserved : FnOk P w K mg base CX0 1 f__law_reserved d__law_reserved [] (spReserved)) (m_range : mg "range" = none) : FnOk P w K mg base CX0 4 f fd ["row", "spot", "used"] (spName K) := by
  refine F.ok sc__law_name (fun vs H Q E h => ?_) (fun cdv A outer s H vs Q E hr h => ?_)
  · obtain ⟨_, _, _, _, rfl, _⟩ := h
    rfl
  · obtain ⟨r, sp, u, kv, rfl, st, hu, hkv, q⟩ := h
    obtain ⟨ur, us⟩ := st.dk hu
    refine ⟨_, (pss_cons (ps_set (i := 3) sc__law_name.nd rfl (.inl rfl) (pe_call G__law_letters (hr.mono (by decide)) (by rfl) h__law_letters.g h__law_letters.F.kp h__law_letters.b .nil pass0 (pa_cons (pv 0) (pa_cons (pv 1) (pa_cons (pe_op op_add pe_int (pe_call G__law_take (hr.mono (by decide)) (by rfl) h__law_take.g h__law_take.F.kp h__law_take.b .nil pass0 (pa_cons (pv 0) (pa_cons (pv 1) (pa_cons (pe_ifExp (pt_cmpR op_gt (pe_call G__law_take (hr.mono (by decide)) (by rfl) h__law_take.g h__law_take.F.kp h__law_take.b .nil pass0 (pa_cons (pv 0) (pa_cons (pv 1) (pa_cons pe_int pa_nil)))) pe_int (nomark _)) pe_int pe_int) pa_nil))))) pa_nil)))))
  (pss_cons (ps_for PassesOwn.never rfl (pi_range1 rfl m_range (pa_cons pe_int pa_nil)) (pg_name (i := 4) sc__law_name.nd rfl (.inl rfl)) (pss_cons (ps_if (PW.pt (pw_and (pt_cmp (pc_dnotin (hu_of hr) (pv 3) (pv 2))) (pw_and1 (pt_cmpR op_notIn_seq (pv 3) (pe_call0 G__law_reserved (hr.mono (by decide)) (by rfl) h__law_reserved.g h__law_reserved.F.kp h__law_reserved.b .nil pass0) (by rfl))))) (pss_one ps_break) pss_nil)
  (pss_cons (ps_set (i := 3) sc__law_name.nd rfl (.inl rfl) (pe_op op_add_str (pe_slice sl_str (pv 3) po_none (po_some pe_int)) (pe_ix ix_str pe_str (pe_op op_mod (pv 4) pe_int) (fun _ _ => rfl))))
  (pss_one (ps_if (pt_cmpR op_gt (pv 4) pe_int (nomark _)) (pss_one (ps_set (i := 3) sc__law_name.nd rfl (.inl rfl) (pe_op op_add_str (pe_slice sl_str (pv 3) (po_some pe_int) po_none) pe_str))) pss_nil)))))
  (pss_cons (ps_dput (hu_of hr) (pv 2) (pv 3) pe_bl rfl)
  (pss_one (ps_ret (pv 3)))))), ?_⟩
    refine seq_merge (fun σ' H' => (∃ z, σ' = [some (.ref r), some (.ref sp), some (.ref u), some (.str z), none] ∧ z.length ≤ 13) ∧ Sta r sp H' ∧ Fr [sp] H H') ?_ (fun kont => ?_)
    rotate_left
    · refine asgA ⟨.ref r, rfl, .ref sp, rfl, .ref r, rfl, .ref sp, rfl, .ref r, rfl, .ref sp, rfl, r, sp, 9, rfl, st, by decide, fun z H1 a1 b1 st1 f1 => ⟨z, 0, rfl, rfl, _, rfl, ite2 (fun _ => ?_) (fun _ => ?_)⟩⟩
      · exact ⟨r, sp, 3, rfl, st1, by decide, fun z2 H2 a2 b2 st2 f2 => ⟨1, z2, rfl, rfl, r, sp, 1 + z2, rfl, st2, by omega, by omega, fun w H3 hw st3 f3 => nameA (kont _ _ ⟨⟨w, rfl, by omega⟩, st3, f1.trans (f2.trans f3)⟩)⟩⟩
      · exact ⟨r, sp, 12, rfl, st1, by decide, fun z2 H2 a2 b2 st2 f2 => ⟨1, z2, rfl, rfl, r, sp, 1 + z2, rfl, st2, by omega, by omega, fun w H3 hw st3 f3 => nameA (kont _ _ ⟨⟨w, rfl, by omega⟩, st3, f1.trans (f2.trans f3)⟩)⟩⟩
    rintro σ' H' ⟨⟨z, rfl, hz⟩, st1, f1⟩
    refine seq_merge (fun σ' H' => (∃ z c4, σ' = [some (.ref r), some (.ref sp), some (.ref u), some (.str z), c4] ∧ z.length ≤ 13 + 2 * 30) ∧ Sta r sp H' ∧ Fr [sp] H H') ?_ (fun kont => ?_)
    rotate_left
    · refine ⟨30, rfl, by decide, by decide, for_range (lo := 0) (n := 30) (fun i σ H' => (∃ z c4, σ = [some (.ref r), some (.ref sp), some (.ref u), some (.str z), c4] ∧ z.length ≤ 13 + 2 * i) ∧ Sta r sp H' ∧ Fr [sp] H H') ⟨⟨z, none, rfl, by omega⟩, st1, f1⟩ ?_ (fun σ H' p => kont _ _ p)⟩
      rintro i σ H2 hi ⟨⟨z2, c4, rfl, hz2⟩, st2, f2⟩
      refine nameA ?_
      dsimp only
      refine seq_merge (fun σ' H' => σ' = [some (.ref r), some (.ref sp), some (.ref u), some (.str z2), some (.int (0 + (i : Int)))] ∧ Sta r sp H' ∧ Fr [sp] H H') ?_ (fun kont2 => ?_)
      rotate_left
      · refine ifA ⟨.str z2, rfl, .ref u, rfl, u, _, rfl, DGet.k (k := .inr z2) (f2.u hu us), _, rfl, ite2 (fun e => ?_) (fun e => iteF (nextA (kont2 _ _ ⟨rfl, st2, f2⟩)))⟩
        refine ⟨.str z2, rfl, rfl, fun L H3 s3 hL hL3 => ⟨L, _, rfl, .inl (SqL.of hL3), rfl, res_flat, _, rfl, ite2 (fun e => ?_) (fun e => nextA (kont2 _ _ ⟨rfl, st2.same s3, f2.trans (Fr.of s3)⟩))⟩⟩
        exact kont _ _ ⟨⟨z2, _, rfl, by omega⟩, st2.same s3, f2.trans (Fr.of s3)⟩
      rintro σ3 H3 ⟨rfl, st3, f3⟩
      have zl : ∀ {x : Str}, x.length ≤ 100 → x.length + 1 ≤ sizeLine := fun {x} h => Nat.le_trans (by omega : x.length + 1 ≤ 101) (by decide)
      obtain ⟨c, hc⟩ := at_in (l := (PySem.Str.ofString "abcdefghijklmnopqrstuvwxyz").cps.toList) (i := (0 + (i : Int)) % 26) (Int.emod_nonneg _ (by decide)) (by rw [show (PySem.Str.ofString "abcdefghijklmnopqrstuvwxyz").cps.toList.length = 26 by decide +kernel]; exact Int.emod_lt_of_pos _ (by decide))
      have l1 := cutS_length z2 none (some 11)
      refine seqA (asgA ⟨.str z2, rfl, 11, rfl, z2, rfl, Nat.le_of_succ_le (zl (by omega)), .int (0 + (i : Int)), rfl, 0 + (i : Int), 26, rfl, rfl, (by decide : (0 : Int) < 26), _, _, c, rfl, rfl, by decide, hc, _, _, rfl, rfl, zl (by omega), nameA ?_⟩)
      dsimp only
      have l2 : (cutS z2 none (some 11) ++ (⟨#[c]⟩ : Str)).length = (cutS z2 none (some 11)).length + 1 := len_app _ _
      generalize cutS z2 none (some 11) ++ (⟨#[c]⟩ : Str) = z3 at l2 ⊢
      refine ifA ⟨.int (0 + (i : Int)), rfl, _, 10, rfl, rfl, _, rfl, ite2 (fun e => ?_) (fun e => nextA ⟨⟨z3, _, rfl, by omega⟩, st3, f3⟩)⟩
      have l3 := cutS_length z3 (some 1) none
      refine asgA ⟨.str z3, rfl, 1, rfl, z3, rfl, Nat.le_of_succ_le (zl (by omega)), _, "z", rfl, rfl, zl (by omega), nameA ⟨⟨_, _, rfl, ?_⟩, st3, f3⟩⟩
      rw [len_app]
      show _ + 1 ≤ _
      omega
    rintro σ' H' ⟨⟨z, c4, rfl, hz⟩, st1, f1⟩
    refine seqA ⟨.ref u, rfl, .str z, rfl, u, _, rfl, DPut.k (k := .inr z) (f1.u hu us) (Nat.lt_of_le_of_lt hkv (by decide)), ?_⟩
    dsimp only
    refine retA ?_
    exact ⟨.str z, rfl, q z _ _ (by omega) (st1.set ur us) (f1.two.set (List.mem_cons_self ..)) upd_same (length_putK _ _ _)⟩
abbrev s__law_word : Stmt := topS 48
theorem sc__law_word : FnScope ["row", "spot", "used", "at", "made", "k"] ["row", "spot", "used"] (defScope s__law_word) := ⟨rfl, rfl, rfl, by decide +kernel, rfl, by decide +kernel, by decide +kernel⟩
theorem ok__law_word {f : Addr} {fd : FuncData} (F : Fun K "_law_word" "_law_word" s__law_word f fd) {f__law_take : Addr} {d__law_take : FuncData} (h__law_take : Hd K mg "_law_take" s__law_take ["row", "spot", "limit"] f__law_take d__law_take) (G__law_take : FnOk P w K mg base CX0 2 f__law_take d__law_take ["row", "spot", "limit"] (spTk K)) {f__law_letters : Addr} {d__law_letters : FuncData} (h__law_letters : Hd K mg "_law_letters" s__law_letters ["row", "spot", "many"] f__law_letters d__law_letters) (G__law_letters : FnOk P w K mg base CX0 3 f__law_letters d__law_letters ["row", "spot", "many"] (spLet K)) (m_range : mg "range" = none) : FnOk P w K mg base CX0 4 f fd ["row", "spot", "used"] (spName K) := by
  refine F.ok sc__law_word (fun vs H Q E h => ?_) (fun cdv A outer s H vs Q E hr h => ?_)
  · obtain ⟨_, _, _, _, rfl, _⟩ := h
    rfl
  · obtain ⟨r, sp, u, kv, rfl, st, hu, hkv, q⟩ := h
    obtain ⟨ur, us⟩ := st.dk hu
    have zl : ∀ {x : Str}, x.length ≤ 100 → 1 + x.length ≤ sizeLine := fun {x} h => Nat.le_trans (by omega : 1 + x.length ≤ 101) (by decide)
    refine ⟨_, (pss_cons (ps_set (i := 3) sc__law_word.nd rfl (.inl rfl) (pe_call G__law_take (hr.mono (by decide)) (by rfl) h__law_take.g h__law_take.F.kp h__law_take.b .nil pass0 (pa_cons (pv 0) (pa_cons (pv 1) (pa_cons pe_int pa_nil)))))
  (pss_cons (ps_set (i := 4) sc__law_word.nd rfl (.inl rfl) (pe_op op_add_str (pe_ix ix_str pe_str (pv 3) (fun _ _ => rfl)) (pe_call G__law_letters (hr.mono (by decide)) (by rfl) h__law_letters.g h__law_letters.F.kp h__law_letters.b .nil pass0 (pa_cons (pv 0) (pa_cons (pv 1) (pa_cons (pe_call G__law_take (hr.mono (by decide)) (by rfl) h__law_take.g h__law_take.F.kp h__law_take.b .nil pass0 (pa_cons (pv 0) (pa_cons (pv 1) (pa_cons (pe_ifExp (pt_cmpR op_gt (pe_call G__law_take (hr.mono (by decide)) (by rfl) h__law_take.g h__law_take.F.kp h__law_take.b .nil pass0 (pa_cons (pv 0) (pa_cons (pv 1) (pa_cons pe_int pa_nil)))) pe_int (nomark _)) pe_int pe_int) pa_nil)))) pa_nil))))))
  (pss_cons (ps_for PassesOwn.never rfl (pi_range1 rfl m_range (pa_cons pe_int pa_nil)) (pg_name (i := 5) sc__law_word.nd rfl (.inl rfl)) (pss_cons (ps_if (pt_cmp (pc_dnotin (hu_of hr) (pv 4) (pv 2))) (pss_one ps_break) pss_nil)
  (pss_one (ps_set (i := 4) sc__law_word.nd rfl (.inl rfl) (pe_op op_add_str (pe_ix ix_str pe_str (pe_op op_mod (pv 5) pe_int) (fun _ _ => rfl)) (pe_slice sl_str (pv 4) (po_some pe_int) po_none))))))
  (pss_cons (ps_dput (hu_of hr) (pv 2) (pv 4) pe_bl rfl)
  (pss_one (ps_ret (pv 4))))))), ?_⟩
    refine seq_merge (fun σ' H' => (∃ t, 0 ≤ t ∧ t < 26 ∧ σ' = [some (.ref r), some (.ref sp), some (.ref u), some (.int t), none, none]) ∧ Sta r sp H' ∧ Fr [sp] H H') ?_ (fun kont => ?_)
    rotate_left
    · exact asgA ⟨.ref r, rfl, .ref sp, rfl, r, sp, 26, rfl, st, by decide, fun t H1 t0 t1 st1 f1 => nameA (kont _ _ ⟨⟨t, t0, t1, rfl⟩, st1, f1⟩)⟩
    rintro σ' H' ⟨⟨t, t0, t1, rfl⟩, st1, f1⟩
    obtain ⟨c, hc⟩ := at_in (l := (PySem.Str.ofString "ABCDEFGHIJKLMNOPQRSTUVWXYZ").cps.toList) t0 (by rw [show (PySem.Str.ofString "ABCDEFGHIJKLMNOPQRSTUVWXYZ").cps.toList.length = 26 by decide +kernel]; exact t1)
    refine seq_merge (fun σ' H' => (∃ z, σ' = [some (.ref r), some (.ref sp), some (.ref u), some (.int t), some (.str z), none] ∧ z.length ≤ 13) ∧ Sta r sp H' ∧ Fr [sp] H H') ?_ (fun kont => ?_)
    rotate_left
    · refine asgA ⟨.int t, rfl, _, t, c, rfl, rfl, by decide, hc, .ref r, rfl, .ref sp, rfl, .ref r, rfl, .ref sp, rfl, .ref r, rfl, .ref sp, rfl, r, sp, 9, rfl, st1, by decide, fun z H1 a1 b1 st2 f2 => ⟨z, 0, rfl, rfl, _, rfl, ite2 (fun _ => ?_) (fun _ => ?_)⟩⟩
      · exact ⟨r, sp, 3, rfl, st2, by decide, fun z2 H2 a2 b2 st3 f3 => ⟨r, sp, z2, rfl, st3, by omega, by omega, fun w H3 hw st4 f4 => ⟨_, _, rfl, rfl, zl (by omega), nameA (kont _ _ ⟨⟨_, rfl, by rw [len_app]; show 1 + _ ≤ _; omega⟩, st4, f1.trans (f2.trans (f3.trans f4))⟩)⟩⟩⟩
      · exact ⟨r, sp, 12, rfl, st2, by decide, fun z2 H2 a2 b2 st3 f3 => ⟨r, sp, z2, rfl, st3, by omega, by omega, fun w H3 hw st4 f4 => ⟨_, _, rfl, rfl, zl (by omega), nameA (kont _ _ ⟨⟨_, rfl, by rw [len_app]; show 1 + _ ≤ _; omega⟩, st4, f1.trans (f2.trans (f3.trans f4))⟩)⟩⟩⟩
    rintro σ' H' ⟨⟨z, rfl, hz⟩, st1, f1⟩
    refine seq_merge (fun σ' H' => (∃ z c4, σ' = [some (.ref r), some (.ref sp), some (.ref u), some (.int t), some (.str z), c4] ∧ z.length ≤ 13 + 2 * 30) ∧ Sta r sp H' ∧ Fr [sp] H H') ?_ (fun kont => ?_)
    rotate_left
    · refine ⟨30, rfl, by decide, by decide, for_range (lo := 0) (n := 30) (fun i σ H' => (∃ z c4, σ = [some (.ref r), some (.ref sp), some (.ref u), some (.int t), some (.str z), c4] ∧ z.length ≤ 13 + 2 * i) ∧ Sta r sp H' ∧ Fr [sp] H H') ⟨⟨z, none, rfl, by omega⟩, st1, f1⟩ ?_ (fun σ H' p => kont _ _ p)⟩
      rintro i σ H2 hi ⟨⟨z2, c4, rfl, hz2⟩, st2, f2⟩
      refine nameA ?_
      dsimp only
      refine seq_merge (fun σ' H' => σ' = [some (.ref r), some (.ref sp), some (.ref u), some (.int t), some (.str z2), some (.int (0 + (i : Int)))] ∧ Sta r sp H' ∧ Fr [sp] H H') ?_ (fun kont2 => ?_)
      rotate_left
      · exact ifA ⟨.str z2, rfl, .ref u, rfl, u, _, rfl, DGet.k (k := .inr z2) (f2.u hu us), _, rfl, ite2 (fun e => kont _ _ ⟨⟨z2, _, rfl, by omega⟩, st2, f2⟩) (fun e => nextA (kont2 _ _ ⟨rfl, st2, f2⟩))⟩
      rintro σ3 H3 ⟨rfl, st3, f3⟩
      obtain ⟨c, hc⟩ := at_in (l := (PySem.Str.ofString "ABCDEFGHIJKLMNOPQRSTUVWXYZ").cps.toList) (i := (0 + (i : Int)) % 26) (Int.emod_nonneg _ (by decide)) (by rw [show (PySem.Str.ofString "ABCDEFGHIJKLMNOPQRSTUVWXYZ").cps.toList.length = 26 by decide +kernel]; exact Int.emod_lt_of_pos _ (by decide))
      have l1 := cutS_length z2 (some 1) none
      refine asgA ⟨.int (0 + (i : Int)), rfl, 0 + (i : Int), 26, rfl, rfl, (by decide : (0 : Int) < 26), _, _, c, rfl, rfl, by decide, hc, .str z2, rfl, 1, rfl, z2, rfl, Nat.le_trans (Nat.le_add_left _ _) (zl (by omega)), _, _, rfl, rfl, zl (by omega), nameA ⟨⟨_, _, rfl, ?_⟩, st3, f3⟩⟩
      rw [len_app]
      show 1 + _ ≤ _
      omega
    rintro σ' H' ⟨⟨z, c4, rfl, hz⟩, st1, f1⟩
    refine seqA ⟨.ref u, rfl, .str z, rfl, u, _, rfl, DPut.k (k := .inr z) (f1.u hu us) (Nat.lt_of_le_of_lt hkv (by decide)), ?_⟩
    dsimp only
    refine retA ?_
    exact ⟨.str z, rfl, q z _ _ (by omega) (st1.set ur us) (f1.two.set (List.mem_cons_self ..)) upd_same (length_putK _ _ _)⟩
end
end Cw

set_option Elab.async false
set_option linter.all false
set_option maxRecDepth 100000
set_option maxHeartbeats 4000000
namespace Cw
open PySem PySem.Spec PyProof.Rows L2
theorem Fr.new {sp p : Addr} {H H' : Hp} {o : HO} (hp : H p = none) (f : Fr [p, sp] (L2.upd H p o) H') : Fr [sp] H H' := ((Fr.of (same_upd hp)).trans f).drop hp
theorem Fr.named {sp u : Addr} {H H1 H2 : Hp} (h0 : H u = none) (f : Fr [sp] H H1) (g : Fr [u, sp] H1 H2) : Fr [sp] H H2 := (f.two.trans g).drop h0
def spNamed (K : PySem.W.Frag) : Sp := fun vs H Q _ => ∃ (r sp : Addr) (cap : Bool), vs = [.ref r, .ref sp, .bl cap] ∧ Sta r sp H ∧ ∀ (z : Str) H', z.length ≤ 201 → Sta r sp H' → Fr [sp] H H' → Q (.str z) H'
section
variable {P : Program} {w : World} {K : PySem.W.Frag} {mg : Str → Option Value} {base : Heap} {S : Addr → Option Sp}
abbrev s__law_free_named : Stmt := topS 60
theorem sc__law_free_named : FnScope ["row", "spot", "capital", "first"] ["row", "spot", "capital"] (defScope s__law_free_named) := ⟨rfl, rfl, rfl, by decide +kernel, rfl, by decide +kernel, by decide +kernel⟩
theorem ok__law_free_named {f : Addr} {fd : FuncData} (F : Fun K "_law_free_named" "_law_free_named" s__law_free_named f fd) {f__law_take : Addr} {d__law_take : FuncData} (h__law_take : Hd K mg "_law_take" s__law_take ["row", "spot", "limit"] f__law_take d__law_take) (G__law_take : FnOk P w K mg base CX0 2 f__law_take d__law_take ["row", "spot", "limit"] (spTk K)) {f__law_name : Addr} {d__law_name : FuncData} (h__law_name : Hd K mg "_law_name" s__law_name ["row", "spot", "used"] f__law_name d__law_name) (G__law_name : FnOk P w K mg base CX0 4 f__law_name d__law_name ["row", "spot", "used"] (spName K)) {f__law_word : Addr} {d__law_word : FuncData} (h__law_word : Hd K mg "_law_word" s__law_word ["row", "spot", "used"] f__law_word d__law_word) (G__law_word : FnOk P w K mg base CX0 4 f__law_word d__law_word ["row", "spot", "used"] (spName K)) : FnOk P w K mg base CX0 5 f fd ["row", "spot", "capital"] (spNamed K) := by
  refine F.ok sc__law_free_named (fun vs H Q E h => ?_) (fun cdv A outer s H vs Q E hr h => ?_)
  · obtain ⟨_, _, _, rfl, _⟩ := h
    rfl
  · obtain ⟨r, sp, cap, rfl, st, q⟩ := h
    have zl : ∀ {x : Nat}, x ≤ 300 → x ≤ sizeLine := fun h => Nat.le_trans h (by decide)
    refine ⟨_, (pss_cons (ps_set (i := 3) sc__law_free_named.nd rfl (.inl rfl) (pe_ifExp (pt_cmpR op_eq (pe_call G__law_take (hr.mono (by decide)) (by rfl) h__law_take.g h__law_take.F.kp h__law_take.b .nil pass0 (pa_cons (pv 0) (pa_cons (pv 1) (pa_cons pe_int pa_nil)))) pe_int (nomark _)) pe_str (pe_call G__law_name (hr.mono (by decide)) (by rfl) h__law_name.g h__law_name.F.kp h__law_name.b .nil pass0 (pa_cons (pv 0) (pa_cons (pv 1) (pa_cons pe_dnewK pa_nil))))))
  (pss_one (ps_ret (pe_op op_add_str (pe_op op_add_str (pv 3) pe_str) (pe_ifExp (pt_val (pv 2)) (pe_call G__law_word (hr.mono (by decide)) (by rfl) h__law_word.g h__law_word.F.kp h__law_word.b .nil pass0 (pa_cons (pv 0) (pa_cons (pv 1) (pa_cons pe_dnewK pa_nil)))) (pe_call G__law_name (hr.mono (by decide)) (by rfl) h__law_name.g h__law_name.F.kp h__law_name.b .nil pass0 (pa_cons (pv 0) (pa_cons (pv 1) (pa_cons pe_dnewK pa_nil))))))))), ?_⟩
    refine seq_merge (fun σ' H' => (∃ z, σ' = [some (.ref r), some (.ref sp), some (.bl cap), some (.str z)] ∧ z.length ≤ 100) ∧ Sta r sp H' ∧ Fr [sp] H H') ?_ (fun kont => ?_)
    rotate_left
    · refine asgA ⟨.ref r, rfl, .ref sp, rfl, r, sp, 5, rfl, st, by decide, fun t H1 t0 t1 st1 f1 => ⟨rfl, _, rfl, ite2 (fun _ => nameA (kont _ _ ⟨⟨"base", rfl, by decide⟩, st1, f1⟩)) (fun _ => ?_)⟩⟩
      exact ⟨.ref r, rfl, .ref sp, rfl, fun p hp => ⟨r, sp, p, [], rfl, st1.new hp, upd_same, by decide, fun z H2 kv' hz st2 f2 _ _ => nameA (kont _ _ ⟨⟨z, rfl, hz⟩, st2, f1.trans (f2.new hp)⟩)⟩⟩
    rintro σ' H' ⟨⟨z, rfl, hz⟩, st1, f1⟩
    have e1 : (z ++ (".": Str)).length = z.length + 1 := len_app _ _
    refine retA ⟨.str z, rfl, _, ".", rfl, rfl, zl (by show _ + 1 ≤ _; omega), .bl cap, rfl, cap, rfl, ite2 (fun _ => ?_) (fun _ => ?_)⟩
    · exact ⟨.ref r, rfl, .ref sp, rfl, fun p hp => ⟨r, sp, p, [], rfl, st1.new hp, upd_same, by decide, fun y H2 kv' hy st2 f2 _ _ => ⟨_, _, rfl, rfl, zl (by omega), q _ H2 (by rw [len_app]; omega) st2 (f1.trans (f2.new hp))⟩⟩⟩
    · exact ⟨.ref r, rfl, .ref sp, rfl, fun p hp => ⟨r, sp, p, [], rfl, st1.new hp, upd_same, by decide, fun y H2 kv' hy st2 f2 _ _ => ⟨_, _, rfl, rfl, zl (by omega), q _ H2 (by rw [len_app]; omega) st2 (f1.trans (f2.new hp))⟩⟩⟩
end
end Cw

set_option Elab.async false
set_option linter.all false
set_option maxRecDepth 100000
set_option maxHeartbeats 4000000
namespace Cw
open PySem PySem.Spec PyProof.Rows L2
/-- data without lists, of a depth, its texts and tuples not long -/
inductive Sz (k : Nat) : Nat → PyData → Prop
  | non (n : Nat) : Sz k n .none
  | bool (n : Nat) (b : Bool) : Sz k n (.bool b)
  | int (n : Nat) (i : Int) : Sz k n (.int i)
  | str (n : Nat) (z : Str) (h : z.length ≤ k) : Sz k n (.str z)
  | tuple (n : Nat) (l : List PyData) (h : l.length ≤ k) (t : ∀ d, d ∈ l → Sz k n d) : Sz k (n + 1) (.tuple l)
theorem sz_ont {k n : Nat} {d : PyData} (h : Sz k n d) : OnT d := by
  induction h with
  | non => exact .non
  | bool _ b => exact .bool b
  | int _ i => exact .int i
  | str _ z _ => exact .str z
  | tuple _ l _ _ ih => exact .tuple l ih
theorem sz_mono {k n : Nat} {d : PyData} (h : Sz k n d) : ∀ {k' n' : Nat}, k ≤ k' → n ≤ n' → Sz k' n' d := by
  induction h with
  | non => exact fun _ _ => .non _
  | bool _ b => exact fun _ _ => .bool _ b
  | int _ i => exact fun _ _ => .int _ i
  | str _ z h => exact fun a _ => .str _ z (Nat.le_trans h a)
  | tuple n l h _ ih =>
    intro k' n' a b
    match n', b with
    | m + 1, b => exact .tuple m l (Nat.le_trans h a) fun d hd => ih d hd a (by omega)
theorem sz_ok {k n : Nat} {d : PyData} (h : Sz k n d) (hk : k ≤ 100000) : Ok d := by
  induction h with
  | non => exact .non
  | bool _ b => exact .bool b
  | int _ i => exact .int i
  | str _ z h => exact .str z (by omega)
  | tuple _ l h _ ih => exact .tuple l (by omega) ih
theorem sz_okl {k n : Nat} {d : PyData} (h : Sz k n d) (hk : k ≤ 100000) : Ok (listed d) := by
  induction h with
  | non => rw [listed]; exact .non
  | bool _ b => rw [listed]; exact .bool b
  | int _ i => rw [listed]; exact .int i
  | str _ z h => rw [listed]; exact .str z (by omega)
  | tuple _ l h _ ih =>
    rw [listed_tup]
    refine .list _ (by rw [List.length_map]; omega) fun d m => ?_
    obtain ⟨e, me, rfl⟩ := List.mem_map.mp m
    exact ih e me
/-- the listed value stands in H0' , all of which is new -/
def spListed (K : PySem.W.Frag) : Nat → Sp
  | 0 => fun _ _ _ _ => False
  | n + 1 => fun vs H Q _ => ∃ x d H0, vs = [x] ∧ Same H0 H ∧ Dp K H0 x d ∧ Sz 10000 n d ∧ ∀ x' H' H0', Same H H' → Same H0 H0' → Same H0' H' → (∀ b, H b ≠ none → H0 b = none → H0' b = none) → Dp K H0' x' (listed d) → Q x' H'
/-- a value of tuples alone, from itself or from the listed one -/
def spTupled (K : PySem.W.Frag) : Nat → Sp
  | 0 => fun _ _ _ _ => False
  | n + 1 => fun vs H Q _ => ∃ x d e, vs = [x] ∧ (e = d ∨ e = listed d) ∧ Dp K H x e ∧ Sz 10000 n d ∧ ∀ x' H', Same H H' → Dp K H' x' d → Q x' H'
section
variable {P : Program} {w : World} {K : PySem.W.Frag} {mg : Str → Option Value} {base : Heap} {S : Addr → Option Sp}
abbrev s__law_listed : Stmt := topS 42
theorem sc__law_listed : FnScope ["value", "one"] ["value"] (defScope s__law_listed) := ⟨rfl, rfl, rfl, by decide +kernel, rfl, by decide +kernel, by decide +kernel⟩
theorem ok__law_listed {f : Addr} {fd : FuncData} (F : Fun K "_law_listed" "_law_listed" s__law_listed f fd) (m_isinstance : mg "isinstance" = none) (m_tuple : mg "tuple" = none) (bF : Binds K fd ["value"] []) (gF : mg "_law_listed" = some (.ref f)) : ∀ n, FnOk P w K mg base CX0 (1 + n) f fd ["value"] (spListed K n)
  | 0 => ⟨fun _ _ _ _ h => h.elim, fun _ _ _ _ _ _ _ _ _ _ _ _ _ h => h.elim⟩
  | n + 1 => by
    have G := ok__law_listed F m_isinstance m_tuple bF gF n
    refine F.ok sc__law_listed (fun vs H Q E h => ?_) (fun cdv A outer s H vs Q E hr h => ?_)
    · obtain ⟨_, _, _, rfl, _⟩ := h
      rfl
    · obtain ⟨x, d, H0, rfl, s0, hx, hz, q⟩ := h
      refine ⟨_, (pss_cons (ps_if (pt_val (pe_callB call_isi (by rfl) m_isinstance (by decide +kernel) (pa_cons (pv 0) (pa_cons (pe_bltn (v := .ty "tuple") (by rfl) m_tuple (by decide +kernel) rfl) pa_nil)))) (pss_one (ps_ret (pe_lc (own := [("one", 1)]) rfl sc__law_listed.nd (pi_seq (pv 0)) (blkOk_by (N := ["value", "one"]) (sc := defScope s__law_listed) (by decide +kernel)) (fun _ _ _ _ _ => by exact (pg_name (i := 1) sc__law_listed.nd rfl (.inl rfl))) (fun _ _ _ _ _ => by exact pts_nil) (fun _ _ _ _ _ => by exact (pe_call G hr (by rfl) gF F.kp bF .nil pass0 (pa_cons (pv 1) pa_nil)))))) pss_nil)
  (pss_one (ps_ret (pv 0)))), ?_⟩
      refine seqA (ifA ?_)
      refine r_isi rfl (dp_keep s0 hx) (kb_tu d) ?_
      have idn : listed d = d → tRet (tVar 0) { nx := fun x H' => Q V.non H', rt := Q } (L2.start ["value", "one"] [x]) H := fun e => ⟨x, rfl, q x H H0 (Same.refl H) (Same.refl H0) s0 (fun _ _ h => h) (by rw [e]; exact hx)⟩
      cases hx with
      | @tup a xs ds hq hd =>
        refine iteT (retA (lc_seq (fun R r => ⟨.ref a, rfl, r⟩) (.inr (sqt_keep s0 hq)) (fun D i H' => ∃ H0' acc, Same H H' ∧ Same H0 H0' ∧ Same H0' H' ∧ (∀ b, H b ≠ none → H0 b = none → H0' b = none) ∧ H0' D = none ∧ H' D = some (.lst acc) ∧ DpAll K H0' acc ((ds.take i).map listed)) ?_ ?_ ?_ ?_))
        · intro D hD
          have h0 : H0 D = none := by
            cases e : H0 D with
            | none => rfl
            | some o => rw [s0 _ _ e] at hD; cases hD
          exact ⟨H0, [], same_upd hD, Same.refl _, s0.trans (same_upd hD), fun _ _ h => h, h0, upd_same, .nil⟩
        · rintro D i H' ⟨_, _, s, _⟩
          exact s
        · rintro D i y H1 hD hy ⟨H2, acc, s1, s2, s3, fr, hn, hacc, hdp⟩
          have hi : i < ds.length := by
            rw [← (dp_get hd).1]
            exact (List.getElem?_eq_some_iff.mp hy).1
          obtain ⟨y', hy1, hy2⟩ := (dp_get hd).2 i ds[i] (List.getElem?_eq_getElem hi)
          obtain rfl : y' = y := Option.some.inj (hy1.symm.trans hy)
          match n, hz, G with
          | m + 1, hz, G =>
          have hzi : Sz 10000 m ds[i] := by
            cases hz with
            | tuple _ _ _ t => exact t _ (List.getElem_mem hi)
          have hlen : ds.length ≤ 10000 := by
            cases hz with
            | tuple _ _ h _ => exact h
          refine ⟨rfl, ?_⟩
          unfold tYes
          dsimp only
          rw [if_pos rfl]
          refine ⟨y', rfl, y', ds[i], H2, rfl, s3, dp_keep s2 hy2, hzi, fun x' H3 H4 t1 t2 t3 fr2 hx' => ?_⟩
          have hn4 : H4 D = none := fr2 D (by rw [hacc]; exact nofun) hn
          refine ⟨acc, t1 _ _ hacc, ?_, H4, acc ++ [x'], same_mut (s1.trans t1) hD, s2.trans t2, same_mut t3 hn4, fun b h1 h2 => ?_, hn4, upd_same, ?_⟩
          · have := (dp_get hdp).1
            rw [List.length_map, List.length_take] at this
            exact Nat.lt_of_le_of_lt (by omega : acc.length ≤ 10000) (by decide)
          · refine fr2 b ?_ (fr b h1 h2)
            cases e : H b with
            | none => exact absurd e h1
            | some o => rw [s1 _ _ e]; exact nofun
          · rw [List.take_add_one, List.getElem?_eq_getElem hi, List.map_append]
            exact dps_app (dps_keep t2 hdp) (.cons hx' .nil)
        · rintro D H1 hD ⟨H2, acc, s1, s2, s3, fr, hn, hacc, hdp⟩
          rw [(dp_get hd).1, List.take_length] at hdp
          have s4 : Same H2 (upd H2 D (.lst acc)) := same_upd hn
          refine q (.ref D) H1 (upd H2 D (.lst acc)) s1 (s2.trans s4) (fun b o e => ?_) (fun b h1 h2 => ?_) ?_
          · by_cases k : b = D
            · rw [k, upd_same] at e; rw [k, hacc]; exact e
            · rw [upd_ne k] at e; exact s3 _ _ e
          · have k : b ≠ D := fun k => h1 (by rw [k]; exact hD)
            rw [upd_ne k]
            exact fr b h1 h2
          · rw [listed_tup]
            exact .lst (SqL.of upd_same) (dps_keep s4 hdp)
      | non => exact iteF (idn rfl)
      | bl b => exact iteF (idn rfl)
      | int i => exact iteF (idn rfl)
      | str z => exact iteF (idn rfl)
      | lst h1 h2 => cases hz
end
end Cw

set_option Elab.async false
set_option linter.all false
set_option maxRecDepth 100000
set_option maxHeartbeats 4000000
namespace Cw
open PySem PySem.Spec PyProof.Rows L2
def isLi : PyData → Bool | .list _ => true | _ => false
theorem kb_li (d : PyData) : kitB (tyName d) "list" = some (isLi d) := match d with
  | .none => rfl
  | .bool _ => rfl
  | .int _ => rfl
  | .str _ => rfl
  | .list _ => rfl
  | .tuple _ => rfl
  | .dict _ => rfl
theorem r_isi2 {K : PySem.W.Frag} {te : TE} {x : V} {d : PyData} {n : String} {b : Bool} {σ : L2.St} {H : Hp} {Q : Bool → Hp → Prop} (e : ∀ R : V → Hp → Prop, R x H → te σ H R) (h : Dp K H x d) (kb : kitB (tyName d) n = some b) (q : Q b H) : tB (tCB (rIsi K) (tCons te (tCons (tC (V.ty n)) tNil))) σ H Q := by
  exact e _ ⟨x, .ty n, .type (tyName d), .type n, b, rfl, .ty n, ty_dp h, kit_ty kb, b, rfl, q⟩
theorem nt_lst {D : Addr} {H : Hp} {acc : List V} (h : H D = some (.lst acc)) : NoTup [D] H := fun b m xs e => by
  rcases List.mem_singleton.mp m with rfl
  rcases e with e | ⟨o, e⟩ <;> · rw [h] at e; cases e
theorem dps_set {K : PySem.W.Frag} {H : Hp} {D : Addr} {acc : List V} {o : HO} {xs : List V} {ds : List PyData} (h : H D = some (.lst acc)) (ho : ∀ d, d ∈ ds → OnT d) (hd : DpAll K H xs ds) : DpAll K (upd H D o) xs ds :=
  dps_fr ((Fr.refl H).set (List.mem_singleton.mpr rfl)) (nt_lst h) ho hd
theorem flat_of {d e : PyData} (o : OnT d) (he : e = d ∨ e = listed d) (h : (isLi e || isTu e) = false) : e = d := by
  rcases he with rfl | rfl
  · rfl
  · cases o with
    | tuple l t => rw [listed_tup] at h; cases h
    | _ => rw [listed]
theorem seqd_of {K : PySem.W.Frag} {H : Hp} {x : V} {d e : PyData} (o : OnT d) (he : e = d ∨ e = listed d) (hx : Dp K H x e) (h : (isLi e || isTu e) = true) : ∃ a xs ds es, x = .ref a ∧ d = .tuple ds ∧ (es = ds ∨ es = ds.map listed) ∧ SqA K H a xs ∧ DpAll K H xs es := by
  cases o with
  | tuple l t =>
    rcases he with rfl | rfl
    · cases hx with
      | tup hq hd => exact ⟨_, _, l, l, rfl, rfl, .inl rfl, .inr hq, hd⟩
    · rw [listed_tup] at hx
      cases hx with
      | lst hq hd => exact ⟨_, _, l, _, rfl, rfl, .inr rfl, .inl hq, hd⟩
  | non => rcases he with rfl | rfl <;> (try rw [listed] at h) <;> cases h
  | bool b => rcases he with rfl | rfl <;> (try rw [listed] at h) <;> cases h
  | int i => rcases he with rfl | rfl <;> (try rw [listed] at h) <;> cases h
  | str z => rcases he with rfl | rfl <;> (try rw [listed] at h) <;> cases h
/-- a value as it is, or listed -/
def spHanded (K : PySem.W.Frag) : Sp := fun vs H Q _ => ∃ (r sp : Addr) (x : V) (d : PyData), vs = [.ref r, .ref sp, x] ∧ Sta r sp H ∧ Dp K H x d ∧ Sz 10000 40 d ∧ ∀ x' e H', (e = d ∨ e = listed d) → Sta r sp H' → Fr [sp] H H' → Dp K H' x' e → Q x' H'
section
variable {P : Program} {w : World} {K : PySem.W.Frag} {mg : Str → Option Value} {base : Heap} {S : Addr → Option Sp}
abbrev s__law_tupled : Stmt := topS 43
theorem sc__law_tupled : FnScope ["value", "one"] ["value"] (defScope s__law_tupled) := ⟨rfl, rfl, rfl, by decide +kernel, rfl, by decide +kernel, by decide +kernel⟩
theorem ok__law_tupled {f : Addr} {fd : FuncData} (F : Fun K "_law_tupled" "_law_tupled" s__law_tupled f fd) (m_isinstance : mg "isinstance" = none) (m_list : mg "list" = none) (m_tuple : mg "tuple" = none) (bF : Binds K fd ["value"] []) (gF : mg "_law_tupled" = some (.ref f)) : ∀ n, FnOk P w K mg base CX0 (1 + n) f fd ["value"] (spTupled K n)
  | 0 => ⟨fun _ _ _ _ h => h.elim, fun _ _ _ _ _ _ _ _ _ _ _ _ _ h => h.elim⟩
  | n + 1 => by
    have G := ok__law_tupled F m_isinstance m_list m_tuple bF gF n
    refine F.ok sc__law_tupled (fun vs H Q E h => ?_) (fun cdv A outer s H vs Q E hr h => ?_)
    · obtain ⟨_, _, _, rfl, _⟩ := h
      rfl
    · obtain ⟨x, d, e, rfl, he, hx, hz, q⟩ := h
      refine ⟨_, (pss_cons (ps_if (PW.pt (pw_or (pt_val (pe_callB call_isi (by rfl) m_isinstance (by decide +kernel) (pa_cons (pv 0) (pa_cons (pe_bltn (v := .ty "list") (by rfl) m_list (by decide +kernel) rfl) pa_nil)))) (pw_or1 (pt_val (pe_callB call_isi (by rfl) m_isinstance (by decide +kernel) (pa_cons (pv 0) (pa_cons (pe_bltn (v := .ty "tuple") (by rfl) m_tuple (by decide +kernel) rfl) pa_nil))))))) (pss_one (ps_ret (pe_callTy call_tuple_of (by rfl) m_tuple (by decide +kernel) (pa_cons (pe_lc (own := [("one", 1)]) rfl sc__law_tupled.nd (pi_seq (pv 0)) (blkOk_by (N := ["value", "one"]) (sc := defScope s__law_tupled) (by decide +kernel)) (fun _ _ _ _ _ => by exact (pg_name (i := 1) sc__law_tupled.nd rfl (.inl rfl))) (fun _ _ _ _ _ => by exact pts_nil) (fun _ _ _ _ _ => by exact (pe_call G hr (by rfl) gF F.kp bF .nil pass0 (pa_cons (pv 1) pa_nil)))) pa_nil)))) pss_nil)
  (pss_one (ps_ret (pv 0)))), ?_⟩
      refine seqA (ifA ?_)
      refine or_q (b := isLi e) (c := isTu e) (fun R hR => r_isi rfl hx (kb_li e) hR) (fun _ R hR => r_isi rfl hx (kb_tu e) hR) (ite2 (fun h => ?_) (fun h => ?_))
      · obtain ⟨a, xs, ds, es, rfl, rfl, hes, hq, hd⟩ := seqd_of (sz_ont hz) he hx h
        have hlen : es.length = ds.length := by rcases hes with rfl | rfl; rfl; rw [List.length_map]
        refine retA (cb1 (lc_seq (fun R r => ⟨.ref a, rfl, r⟩) hq (fun D i H' => Same H H' ∧ ∃ acc, H' D = some (.lst acc) ∧ DpAll K H' acc (ds.take i)) ?_ ?_ ?_ ?_))
        · intro D hD
          exact ⟨same_upd hD, [], upd_same, .nil⟩
        · rintro D i H' ⟨s, _⟩
          exact s
        · rintro D i y H1 hD hy ⟨s1, acc, hacc, hdp⟩
          have hi : i < ds.length := by
            rw [← hlen, ← (dp_get hd).1]
            exact (List.getElem?_eq_some_iff.mp hy).1
          have hi2 : i < es.length := by omega
          obtain ⟨y', hy1, hy2⟩ := (dp_get hd).2 i es[i] (List.getElem?_eq_getElem hi2)
          obtain rfl : y' = y := Option.some.inj (hy1.symm.trans hy)
          have hei : es[i] = ds[i] ∨ es[i] = listed ds[i] := by
            rcases hes with rfl | rfl
            · exact .inl rfl
            · exact .inr (by rw [List.getElem_map])
          match n, hz, G with
          | m + 1, hz, G =>
          have hzi : Sz 10000 m ds[i] := by
            cases hz with
            | tuple _ _ _ t => exact t _ (List.getElem_mem hi)
          have hlen2 : ds.length ≤ 10000 := by
            cases hz with
            | tuple _ _ h _ => exact h
          refine ⟨rfl, ?_⟩
          unfold tYes
          dsimp only
          rw [if_pos rfl]
          refine ⟨y', rfl, y', ds[i], es[i], rfl, hei, dp_keep s1 hy2, hzi, fun x' H3 t1 hx' => ?_⟩
          refine ⟨acc, t1 _ _ hacc, ?_, same_mut (s1.trans t1) hD, acc ++ [x'], upd_same, ?_⟩
          · have := (dp_get hdp).1
            rw [List.length_take] at this
            exact Nat.lt_of_le_of_lt (by omega : acc.length ≤ 10000) (by decide)
          · rw [List.take_add_one, List.getElem?_eq_getElem hi]
            refine dps_app (dps_set (t1 _ _ hacc) (fun d m => ?_) (dps_keep t1 hdp)) (dps_set (t1 _ _ hacc) (fun d m => ?_) (.cons hx' .nil))
            · exact ont_mem (sz_ont hz) (List.mem_of_mem_take m)
            · rcases List.mem_singleton.mp m with rfl
              exact ont_mem (sz_ont hz) (List.getElem_mem hi)
        · rintro D H1 hD ⟨s1, acc, hacc, hdp⟩
          rw [(dp_get hd).1, hlen, List.take_length] at hdp
          exact ⟨D, acc, rfl, .inl ⟨SqL.of hacc, fun l hl => q (.ref l) _ (s1.trans (same_upd hl)) (.tup (.inl (.inl upd_same)) (dps_keep (same_upd hl) hdp))⟩⟩
      · refine nextA ⟨x, rfl, q x H (Same.refl H) ?_⟩
        rw [← flat_of (sz_ont hz) he (Bool.eq_false_iff.mpr h)]
        exact hx
abbrev s__law_handed : Stmt := topS 44
theorem sc__law_handed : FnScope ["row", "spot", "value"] ["row", "spot", "value"] (defScope s__law_handed) := ⟨rfl, rfl, rfl, by decide +kernel, rfl, by decide +kernel, by decide +kernel⟩
theorem ok__law_handed {f : Addr} {fd : FuncData} (F : Fun K "_law_handed" "_law_handed" s__law_handed f fd) {f__law_take : Addr} {d__law_take : FuncData} (h__law_take : Hd K mg "_law_take" s__law_take ["row", "spot", "limit"] f__law_take d__law_take) (G__law_take : FnOk P w K mg base CX0 2 f__law_take d__law_take ["row", "spot", "limit"] (spTk K)) {f__law_listed : Addr} {d__law_listed : FuncData} (h__law_listed : Hd K mg "_law_listed" s__law_listed ["value"] f__law_listed d__law_listed) (G__law_listed : FnOk P w K mg base CX0 42 f__law_listed d__law_listed ["value"] (spListed K 41)) : FnOk P w K mg base CX0 43 f fd ["row", "spot", "value"] (spHanded K) := by
  refine F.ok sc__law_handed (fun vs H Q E h => ?_) (fun cdv A outer s H vs Q E hr h => ?_)
  · obtain ⟨_, _, _, _, rfl, _⟩ := h
    rfl
  · obtain ⟨r, sp, x, d, rfl, st, hx, hz, q⟩ := h
    refine ⟨_, (pss_one (ps_ret (pe_ifExp (pt_cmpR op_eq (pe_call G__law_take (hr.mono (by decide)) (by rfl) h__law_take.g h__law_take.F.kp h__law_take.b .nil pass0 (pa_cons (pv 0) (pa_cons (pv 1) (pa_cons pe_int pa_nil)))) pe_int (nomark _)) (pe_call G__law_listed (hr.mono (by decide)) (by rfl) h__law_listed.g h__law_listed.F.kp h__law_listed.b .nil pass0 (pa_cons (pv 2) pa_nil)) (pv 2)))), ?_⟩
    refine retA ⟨.ref r, rfl, .ref sp, rfl, r, sp, 2, rfl, st, by decide, fun t H1 t0 t1 st1 f1 => ⟨rfl, _, rfl, ite2 (fun _ => ?_) (fun _ => ?_)⟩⟩
    · exact ⟨x, rfl, x, d, H1, rfl, Same.refl H1, dp_fr f1 st.nt (sz_ont hz) hx, hz, fun x' H2 H3 s1 s2 s3 _ hx' => q x' (listed d) H2 (.inr rfl) (st1.same s1) (f1.trans (Fr.of s1)) (dp_keep s3 hx')⟩
    · exact ⟨x, rfl, q x d H1 (.inl rfl) st1 f1 (dp_fr f1 st.nt (sz_ont hz) hx)⟩
end
end Cw

set_option Elab.async false
set_option linter.all false
set_option maxRecDepth 100000
set_option maxHeartbeats 4000000
namespace Cw
open PySem PySem.Spec PyProof.Rows L2
theorem eqi_q {i : Nat} {k j : Int} {σ : L2.St} {H : Hp} {Q : Bool → Hp → Prop} (e : σ[i]? = some (some (.int k))) (q : Q (decide (k = j)) H) : tTest (tOp rEq (tVar i) (tC (.int j))) σ H Q := by
  have h : decide (V.int k = V.int j) = decide (k = j) := decide_eq_decide.mpr ⟨fun h => V.int.inj h, fun h => by rw [h]⟩
  refine ⟨.int k, e, rfl, _, rfl, ?_⟩
  rw [h]
  exact q
theorem shape_leaf {n : Nat} {z : Str} {r : List PyData} (h : z = "int" ∨ z = "name" ∨ z = "next") : shapeE (n + 1) (.tuple (.str z :: r)) := by
  rcases h with rfl | rfl | rfl
  · exact ⟨⟨fun e => absurd e (by decide), fun e => absurd e (by decide), fun e => absurd e (by decide)⟩, fun d m => nomatch (show d ∈ ([] : List PyData) from m)⟩
  · exact ⟨⟨fun e => absurd e (by decide), fun e => absurd e (by decide), fun e => absurd e (by decide)⟩, fun d m => nomatch (show d ∈ ([] : List PyData) from m)⟩
  · exact ⟨⟨fun e => absurd e (by decide), fun e => absurd e (by decide), fun e => absurd e (by decide)⟩, fun d m => nomatch (show d ∈ ([] : List PyData) from m)⟩
theorem shape_nc {n : Nat} {z : Str} {y : PyData} {l : List PyData} (h : z = "new" ∨ z = "call") (t : ∀ d, d ∈ l → shapeE n d) : shapeE (n + 1) (.tuple [.str z, y, .tuple l]) := by
  rcases h with rfl | rfl
  · exact ⟨⟨fun e => ⟨_, _, rfl⟩, fun e => absurd e (by decide), fun e => absurd e (by decide)⟩, fun d m => t d m⟩
  · exact ⟨⟨fun e => ⟨_, _, rfl⟩, fun e => absurd e (by decide), fun e => absurd e (by decide)⟩, fun d m => t d m⟩
theorem shape_field {n : Nat} {a y v : PyData} (t : shapeE n a) : shapeE (n + 1) (.tuple [.str "field", a, y, v]) :=
  ⟨⟨fun e => absurd e (by decide), fun _ => rfl, fun e => absurd e (by decide)⟩, fun d m => by
    rcases List.mem_singleton.mp (show d ∈ [a] from m) with rfl
    exact t⟩
theorem shape_let {n : Nat} {a b y : PyData} (t : shapeE n a) (u : shapeE n b) : shapeE (n + 1) (.tuple [.str "let", y, a, b]) :=
  ⟨⟨fun e => absurd e (by decide), fun e => absurd e (by decide), fun _ => rfl⟩, fun d m => by
    rcases List.mem_cons.mp (show d ∈ [a, b] from m) with rfl | m
    · exact t
    rcases List.mem_singleton.mp m with rfl
    exact u⟩
theorem shape_if {n : Nat} {a b c : PyData} (t : shapeE n a) (u : shapeE n b) (v : shapeE n c) : shapeE (n + 1) (.tuple [.str "if", a, b, c]) :=
  ⟨⟨fun e => absurd e (by decide), fun e => absurd e (by decide), fun e => absurd e (by decide)⟩, fun d m => by
    rcases List.mem_cons.mp (show d ∈ [a, b, c] from m) with rfl | m
    · exact t
    rcases List.mem_cons.mp m with rfl | m
    · exact u
    rcases List.mem_singleton.mp m with rfl
    exact v⟩
theorem shape_sign {n : Nat} {z : Str} {a b : PyData} (h : z = "add" ∨ z = "sub" ∨ z = "mul") (t : shapeE n a) (u : shapeE n b) : shapeE (n + 1) (.tuple [.str z, a, b]) := by
  have key : ∀ d, d ∈ [a, b] → shapeE n d := fun d m => by
    rcases List.mem_cons.mp m with rfl | m
    · exact t
    rcases List.mem_singleton.mp m with rfl
    exact u
  rcases h with rfl | rfl | rfl
  · exact ⟨⟨fun e => absurd e (by decide), fun e => absurd e (by decide), fun e => absurd e (by decide)⟩, fun d m => key d m⟩
  · exact ⟨⟨fun e => absurd e (by decide), fun e => absurd e (by decide), fun e => absurd e (by decide)⟩, fun d m => key d m⟩
  · exact ⟨⟨fun e => absurd e (by decide), fun e => absurd e (by decide), fun e => absurd e (by decide)⟩, fun d m => key d m⟩
theorem szs {k n : Nat} {l : List PyData} (t : ∀ d, d ∈ l → Sz k n d) (h : l.length ≤ k) : Sz k (n + 1) (.tuple l) := .tuple n l h t
theorem mem2 {P : PyData → Prop} {a b : PyData} (ha : P a) (hb : P b) : ∀ d, d ∈ [a, b] → P d := fun d m => by
  rcases List.mem_cons.mp m with rfl | m
  · exact ha
  rcases List.mem_singleton.mp m with rfl
  exact hb
theorem mem3 {P : PyData → Prop} {a b c : PyData} (ha : P a) (hb : P b) (hc : P c) : ∀ d, d ∈ [a, b, c] → P d := fun d m => by
  rcases List.mem_cons.mp m with rfl | m
  · exact ha
  · exact mem2 hb hc d m
theorem mem4 {P : PyData → Prop} {a b c e : PyData} (ha : P a) (hb : P b) (hc : P c) (he : P e) : ∀ d, d ∈ [a, b, c, e] → P d := fun d m => by
  rcases List.mem_cons.mp m with rfl | m
  · exact ha
  · exact mem3 hb hc he d m
theorem mem5 {P : PyData → Prop} {a b c e f : PyData} (ha : P a) (hb : P b) (hc : P c) (he : P e) (hf : P f) : ∀ d, d ∈ [a, b, c, e, f] → P d := fun d m => by
  rcases List.mem_cons.mp m with rfl | m
  · exact ha
  · exact mem4 hb hc he hf d m
/-- a fresh tuple -/
theorem dp_new {K : PySem.W.Frag} {H : Hp} {p : Addr} {xs : List V} {ds : List PyData} (hp : H p = none) (h : DpAll K H xs ds) : Dp K (upd H p (.tup xs)) (.ref p) (.tuple ds) := .tup (.inl (.inl upd_same)) (dps_keep (same_upd hp) h)
theorem at3 {a b e c : Int} (h0 : 0 ≤ c) (h1 : c < 3) : ∃ w, atI [V.int a, V.int b, V.int e] c = some (.int w) := by
  obtain ⟨j, rfl⟩ := Int.eq_ofNat_of_zero_le h0
  match j, h1 with
  | 0, _ => exact ⟨_, atI_nat (j := 0) rfl⟩
  | 1, _ => exact ⟨_, atI_nat (j := 1) rfl⟩
  | 2, _ => exact ⟨_, atI_nat (j := 2) rfl⟩
/-- behind the making of the dict at u -/
def Inv (r sp u : Addr) (j : Nat) (H H1 : Hp) : Prop := H u = none ∧ Sta r sp H1 ∧ Fr [sp] H H1 ∧ ∃ kv, H1 u = some (.dK kv) ∧ kv.length ≤ j
theorem name_q {K : PySem.W.Frag} {σ : L2.St} {r sp u : Addr} {j : Nat} {H H1 : Hp} {Q : VK} (e0 : σ[0]? = some (some (.ref r))) (e1 : σ[1]? = some (some (.ref sp))) (e4 : σ[4]? = some (some (.ref u))) (hj : j ≤ 1000) (I : Inv r sp u j H H1)
    (q : ∀ z H2, z.length ≤ 100 → Inv r sp u (j + 1) H H2 → Fr [u, sp] H1 H2 → Q (.str z) H2) : tCall (spName K) [] E0 (tCons (tVar 0) (tCons (tVar 1) (tCons (tVar 4) tNil))) σ H1 Q := by
  obtain ⟨h0, st, f, kv, hk, hl⟩ := I
  exact ⟨.ref r, e0, .ref sp, e1, .ref u, e4, r, sp, u, kv, rfl, st, hk, by omega, fun z H2 kv' hz st2 f2 hk2 hl2 => q z H2 hz ⟨h0, st2, f.named h0 f2, kv', hk2, by omega⟩ f2⟩
theorem newn_q {K : PySem.W.Frag} {σ : L2.St} {r sp u : Addr} {j : Nat} {H H1 : Hp} {Q : VK} (e0 : σ[0]? = some (some (.ref r))) (e1 : σ[1]? = some (some (.ref sp))) (I : Inv r sp u j H H1)
    (q : ∀ z H2, z.length ≤ 100 → Inv r sp u j H H2 → Fr [sp] H1 H2 → Q (.str z) H2) : tCall (spName K) [] E0 (tCons (tVar 0) (tCons (tVar 1) (tCons tDNewK tNil))) σ H1 Q := by
  obtain ⟨h0, st, f, kv, hk, hl⟩ := I
  exact ⟨.ref r, e0, .ref sp, e1, fun p hp => ⟨r, sp, p, [], rfl, st.new hp, upd_same, Nat.le_of_ble_eq_true rfl, fun z H2 kv' hz st2 f2 hk2 hl2 => q z H2 hz ⟨h0, st2, f.trans (f2.new hp), kv, (f2.new hp).u hk (st.dk hk).2, hl⟩ (f2.new hp)⟩⟩
theorem take_q {K : PySem.W.Frag} {σ : L2.St} {r sp u : Addr} {j : Nat} {lim : Int} {H H1 : Hp} {Q : VK} (e0 : σ[0]? = some (some (.ref r))) (e1 : σ[1]? = some (some (.ref sp))) (hl : 0 < lim) (I : Inv r sp u j H H1)
    (q : ∀ (z : Int) H2, 0 ≤ z → z < lim → Inv r sp u j H H2 → Fr [sp] H1 H2 → Q (.int z) H2) : tCall (spTk K) [] E0 (tCons (tVar 0) (tCons (tVar 1) (tCons (tC (.int lim)) tNil))) σ H1 Q := by
  obtain ⟨h0, st, f, kv, hk, hkl⟩ := I
  exact ⟨.ref r, e0, .ref sp, e1, r, sp, lim, rfl, st, hl, fun z H2 z0 z1 st2 f2 => q z H2 z0 z1 ⟨h0, st2, f.trans f2, kv, f2.u hk (st.dk hk).2, hkl⟩ f2⟩
def spFx (K : PySem.W.Frag) : Nat → Sp
  | 0 => fun _ _ _ _ => False
  | n + 1 => fun vs H Q _ => ∃ (r sp : Addr), vs = [.ref r, .ref sp, .int (n : Int)] ∧ Sta r sp H ∧ ∀ x d H', Sta r sp H' → Fr [sp] H H' → Dp K H' x d → Sz 300 (2 * n + 1) d → shapeE (n + 1) d → Q x H'
theorem rec_q {K : PySem.W.Frag} {σ : L2.St} {r sp u : Addr} {j m : Nat} {H H1 : Hp} {Q : VK} (e0 : σ[0]? = some (some (.ref r))) (e1 : σ[1]? = some (some (.ref sp))) (e2 : σ[2]? = some (some (.int ((m + 1 : Nat) : Int)))) (I : Inv r sp u j H H1)
    (q : ∀ x d H2, Inv r sp u j H H2 → Fr [sp] H1 H2 → Dp K H2 x d → Sz 300 (2 * m + 1) d → shapeE (m + 1) d → Q x H2) : tCall (spFx K (m + 1)) [] E0 (tCons (tVar 0) (tCons (tVar 1) (tCons (tOp (rI0 fun i j => V.int (i - j)) (tVar 2) (tC (V.int 1))) tNil))) σ H1 Q := by
  obtain ⟨h0, st, f, kv, hk, hkl⟩ := I
  refine ⟨.ref r, e0, .ref sp, e1, .int ((m + 1 : Nat) : Int), e2, _, 1, rfl, rfl, r, sp, ?_, st, fun x d H2 st2 f2 hx hz hs => q x d H2 ⟨h0, st2, f.trans f2, kv, f2.u hk (st.dk hk).2, hkl⟩ f2 hx hz hs⟩
  show [V.ref r, V.ref sp, V.int (((m + 1 : Nat) : Int) - 1)] = [V.ref r, V.ref sp, V.int (m : Int)]
  rw [show ((m + 1 : Nat) : Int) - 1 = (m : Int) by omega]
theorem Inv.dp {K : PySem.W.Frag} {r sp u : Addr} {j : Nat} {H H1 H2 : Hp} {x : V} {d : PyData} (I : Inv r sp u j H H1) (f : Fr [sp] H1 H2) (o : OnT d) (h : Dp K H1 x d) : Dp K H2 x d := dp_fr f I.2.1.nt o h
theorem Inv.dp2 {K : PySem.W.Frag} {r sp u : Addr} {j : Nat} {H H1 H2 : Hp} {x : V} {d : PyData} (I : Inv r sp u j H H1) (f : Fr [u, sp] H1 H2) (o : OnT d) (h : Dp K H1 x d) : Dp K H2 x d := by
  obtain ⟨_, st, _, kv, hk, _⟩ := I
  exact dp_fr f (st.nt2 hk) o h
theorem Inv.fin {r sp u : Addr} {j : Nat} {H H1 : Hp} (I : Inv r sp u j H H1) {p : Addr} {o : HO} (hp : H1 p = none) : Sta r sp (upd H1 p o) ∧ Fr [sp] H (upd H1 p o) := ⟨I.2.1.new hp, I.2.2.1.trans (Fr.of (same_upd hp))⟩
theorem Inv.step {r sp u : Addr} {j : Nat} {H H1 H2 : Hp} (I : Inv r sp u j H H1) (st : Sta r sp H2) (f : Fr [sp] H1 H2) : Inv r sp u j H H2 := by
  obtain ⟨h0, st1, f1, kv, hk, hl⟩ := I
  exact ⟨h0, st, f1.trans f, kv, f.u hk (st1.dk hk).2, hl⟩
/-- a row of drawn data -/
theorem lc_data {K : PySem.W.Frag} {r sp : Addr} {wi : TI} {te : TE} {σ : L2.St} {H0 : Hp} {Q : VK} {i lo nb : Nat} (kd : PyData → Prop) (ko : ∀ d, kd d → OnT d) (hnb : nb ≤ 1000) (st0 : Sta r sp H0)
    (hw : ∀ R : It → Hp → Prop, (∀ n H1, lo ≤ n → n ≤ nb → Sta r sp H1 → Fr [sp] H0 H1 → R (Itr 0 n) H1) → wi σ H0 R)
    (hw2 : ∀ x, wipe ((wipe σ [i]).set i (some x)) [i] = wipe σ [i])
    (hs : ∀ x H1 (R : V → Hp → Prop), Sta r sp H1 → Fr [sp] H0 H1 → (∀ y d H2, Sta r sp H2 → Fr [sp] H1 H2 → Dp K H2 y d → kd d → R y H2) → te ((wipe σ [i]).set i (some x)) H1 R)
    (q : ∀ D acc ds H2, Sta r sp H2 → Fr [sp] H0 H2 → H2 D = some (.lst acc) → H0 D = none → DpAll K H2 acc ds → lo ≤ ds.length → ds.length ≤ nb → (∀ d, d ∈ ds → kd d) → Q (.ref D) H2) : tLc wi (gName i) tYes te [i] σ H0 Q := by
  refine hw _ fun n H1 hlo hn st1 f1 => fun D hD => ?_
  have hD0 : H0 D = none := by
    cases e : H0 D with
    | none => rfl
    | some o =>
      by_cases h : D = sp
      · exact absurd h (st1.sp_ne hD)
      · rw [f1 D o (fun m => h (List.mem_singleton.mp m)) e] at hD
        cases hD
  have dsp := st1.sp_ne hD
  have dr : D ≠ r := fun e => by
    obtain ⟨_, ⟨row, _, h⟩, _⟩ := st1
    rw [← e, hD] at h
    cases h
  refine lc_range (fun j H' => Sta r sp H' ∧ Fr [sp] H1 H' ∧ ∃ acc ds, H' D = some (.lst acc) ∧ DpAll K H' acc ds ∧ ds.length = j ∧ ∀ d, d ∈ ds → kd d) ⟨st1.new hD, Fr.of (same_upd hD), [], [], upd_same, .nil, rfl, fun _ m => nomatch m⟩ ?_ ?_
  · rintro j H2 hj ⟨st2, f2, acc, ds, hacc, hdp, hl, hk⟩
    refine ⟨hw2 _, ?_⟩
    unfold tYes
    dsimp only
    rw [if_pos rfl]
    refine hs _ H2 _ st2 (f1.trans f2) fun y d H3 st3 f3 hy hd => ?_
    have ha : H3 D = some (.lst acc) := f3 D _ (fun m => dsp (List.mem_singleton.mp m)) hacc
    have hdp3 : DpAll K H3 acc ds := dps_fr f3 st2.nt (fun d m => ko d (hk d m)) hdp
    refine ⟨acc, ha, ?_, st3.set dr dsp, (f2.trans f3).upd hD, acc ++ [y], ds ++ [d], upd_same, ?_, ?_, ?_⟩
    · rw [(dp_get hdp).1, hl]
      exact Nat.lt_of_lt_of_le (by omega : j < 1001) (by decide)
    · refine dps_set ha (fun e m => ?_) (dps_app hdp3 (.cons hy .nil))
      rcases List.mem_append.mp m with m | m
      · exact ko e (hk e m)
      · rcases List.mem_singleton.mp m with rfl
        exact ko _ hd
    · rw [List.length_append, hl]; rfl
    · intro e m
      rcases List.mem_append.mp m with m | m
      · exact hk e m
      · rcases List.mem_singleton.mp m with rfl
        exact hd
  · rintro H2 ⟨st2, f2, acc, ds, hacc, hdp, hl, hk⟩
    exact q D acc ds H2 st2 (f1.trans f2) hacc hD0 hdp (by omega) (by omega) hk
section
variable {P : Program} {w : World} {K : PySem.W.Frag} {mg : Str → Option Value} {base : Heap} {S : Addr → Option Sp}
abbrev s__law_free_expr : Stmt := topS 59
theorem sc__law_free_expr : FnScope ["row", "spot", "deep", "kind", "held", "many", "named", "parts", "one", "other", "k"] ["row", "spot", "deep"] (defScope s__law_free_expr) := ⟨rfl, rfl, rfl, by decide +kernel, rfl, by decide +kernel, by decide +kernel⟩
theorem ok__law_free_expr {f : Addr} {fd : FuncData} (F : Fun K "_law_free_expr" "_law_free_expr" s__law_free_expr f fd) {f__law_take : Addr} {d__law_take : FuncData} (h__law_take : Hd K mg "_law_take" s__law_take ["row", "spot", "limit"] f__law_take d__law_take) (G__law_take : FnOk P w K mg base CX0 2 f__law_take d__law_take ["row", "spot", "limit"] (spTk K)) {f__law_wide : Addr} {d__law_wide : FuncData} (h__law_wide : Hd K mg "_law_wide" s__law_wide ["row", "spot", "limit"] f__law_wide d__law_wide) (G__law_wide : FnOk P w K mg base CX0 3 f__law_wide d__law_wide ["row", "spot", "limit"] (spTk K)) {f__law_name : Addr} {d__law_name : FuncData} (h__law_name : Hd K mg "_law_name" s__law_name ["row", "spot", "used"] f__law_name d__law_name) (G__law_name : FnOk P w K mg base CX0 4 f__law_name d__law_name ["row", "spot", "used"] (spName K)) {f__law_word : Addr} {d__law_word : FuncData} (h__law_word : Hd K mg "_law_word" s__law_word ["row", "spot", "used"] f__law_word d__law_word) (G__law_word : FnOk P w K mg base CX0 4 f__law_word d__law_word ["row", "spot", "used"] (spName K)) (m_range : mg "range" = none) (m_max : mg "max" = none) (m_tuple : mg "tuple" = none) (bF : Binds K fd ["row", "spot", "deep"] []) (gF : mg "_law_free_expr" = some (.ref f)) : ∀ n, FnOk P w K mg base CX0 (6 + n) f fd ["row", "spot", "deep"] (spFx K n)
  | 0 => ⟨fun _ _ _ _ h => h.elim, fun _ _ _ _ _ _ _ _ _ _ _ _ _ h => h.elim⟩
  | n + 1 => by
    have G := ok__law_free_expr F h__law_take G__law_take h__law_wide G__law_wide h__law_name G__law_name h__law_word G__law_word m_range m_max m_tuple bF gF n
    refine F.ok sc__law_free_expr (fun vs H Q E h => ?_) (fun cdv A outer s H vs Q E hr h => ?_)
    · obtain ⟨_, _, rfl, _⟩ := h
      rfl
    · obtain ⟨r, sp, rfl, st, q⟩ := h
      have zl : ∀ {x : Nat}, x ≤ 1000 → x ≤ sizeLine := fun h => Nat.le_trans h (by decide)
      refine ⟨_, (pss_cons (ps_set (i := 3) sc__law_free_expr.nd rfl (.inl rfl) (pe_ifExp (pt_cmpR op_gt (pv 2) pe_int (nomark _)) (pe_call G__law_take (hr.mono (Nat.le_trans (by decide) (Nat.le_add_right 6 n))) (by rfl) h__law_take.g h__law_take.F.kp h__law_take.b .nil pass0 (pa_cons (pv 0) (pa_cons (pv 1) (pa_cons pe_int pa_nil)))) (pe_call G__law_take (hr.mono (Nat.le_trans (by decide) (Nat.le_add_right 6 n))) (by rfl) h__law_take.g h__law_take.F.kp h__law_take.b .nil pass0 (pa_cons (pv 0) (pa_cons (pv 1) (pa_cons pe_int pa_nil))))))
  (pss_cons (ps_set (i := 4) sc__law_free_expr.nd rfl (.inl rfl) pe_dnewK)
  (pss_cons (ps_if (pt_cmpR op_eq (pv 3) pe_int (nomark _)) (pss_one (ps_ret (pe_tup (pa_cons pe_str (pa_cons (pe_ix ix_list (pe_lst (pa_cons (pe_call G__law_take (hr.mono (Nat.le_trans (by decide) (Nat.le_add_right 6 n))) (by rfl) h__law_take.g h__law_take.F.kp h__law_take.b .nil pass0 (pa_cons (pv 0) (pa_cons (pv 1) (pa_cons pe_int pa_nil)))) (pa_cons (pe_call G__law_wide (hr.mono (Nat.le_trans (by decide) (Nat.le_add_right 6 n))) (by rfl) h__law_wide.g h__law_wide.F.kp h__law_wide.b .nil pass0 (pa_cons (pv 0) (pa_cons (pv 1) (pa_cons pe_int pa_nil)))) (pa_cons pe_int pa_nil)))) (pe_call G__law_take (hr.mono (Nat.le_trans (by decide) (Nat.le_add_right 6 n))) (by rfl) h__law_take.g h__law_take.F.kp h__law_take.b .nil pass0 (pa_cons (pv 0) (pa_cons (pv 1) (pa_cons pe_int pa_nil)))) (fun _ _ => rfl)) pa_nil))))) pss_nil)
  (pss_cons (ps_if (pt_cmpR op_eq (pv 3) pe_int (nomark _)) (pss_one (ps_ret (pe_tup (pa_cons pe_str (pa_cons (pe_call G__law_name (hr.mono (Nat.le_trans (by decide) (Nat.le_add_right 6 n))) (by rfl) h__law_name.g h__law_name.F.kp h__law_name.b .nil pass0 (pa_cons (pv 0) (pa_cons (pv 1) (pa_cons (pv 4) pa_nil)))) pa_nil))))) pss_nil)
  (pss_cons (ps_if (pt_cmpR op_eq (pv 3) pe_int (nomark _)) (pss_one (ps_ret (pe_tup (pa_cons pe_str pa_nil)))) pss_nil)
  (pss_cons (ps_set (i := 5) sc__law_free_expr.nd rfl (.inl rfl) (pe_call G__law_take (hr.mono (Nat.le_trans (by decide) (Nat.le_add_right 6 n))) (by rfl) h__law_take.g h__law_take.F.kp h__law_take.b .nil pass0 (pa_cons (pv 0) (pa_cons (pv 1) (pa_cons pe_int pa_nil)))))
  (pss_cons (ps_if (PW.pt (pw_or (pt_cmpR op_eq (pv 3) pe_int (nomark _)) (pw_or1 (pt_cmpR op_eq (pv 3) pe_int (nomark _))))) (pss_cons (ps_set (i := 6) sc__law_free_expr.nd rfl (.inl rfl) (pe_op op_add_str (pe_op op_add_str (pe_call G__law_name (hr.mono (Nat.le_trans (by decide) (Nat.le_add_right 6 n))) (by rfl) h__law_name.g h__law_name.F.kp h__law_name.b .nil pass0 (pa_cons (pv 0) (pa_cons (pv 1) (pa_cons (pv 4) pa_nil)))) pe_str) (pe_ifExp (pt_cmpR op_eq (pv 3) pe_int (nomark _)) (pe_call G__law_word (hr.mono (Nat.le_trans (by decide) (Nat.le_add_right 6 n))) (by rfl) h__law_word.g h__law_word.F.kp h__law_word.b .nil pass0 (pa_cons (pv 0) (pa_cons (pv 1) (pa_cons pe_dnewK pa_nil)))) (pe_call G__law_name (hr.mono (Nat.le_trans (by decide) (Nat.le_add_right 6 n))) (by rfl) h__law_name.g h__law_name.F.kp h__law_name.b .nil pass0 (pa_cons (pv 0) (pa_cons (pv 1) (pa_cons (pv 4) pa_nil)))))))
  (pss_cons (ps_setLc (i := 7) (own := [("k", 10)]) rfl sc__law_free_expr.nd rfl rfl rfl (pi_range1 rfl m_range (pa_cons (pe_ifExp (pt_cmpR op_eq (pv 3) pe_int (nomark _)) (pv 5) (pe_callB (call_max2 rfl) (by rfl) m_max (by decide +kernel) (pa_cons pe_int (pa_cons (pv 5) pa_nil)))) pa_nil)) (blkOk_by (N := ["row", "spot", "deep", "kind", "held", "many", "named", "parts", "one", "other", "k"]) (sc := defScope s__law_free_expr) (by decide +kernel)) (fun _ _ _ _ _ => by exact (pg_name (i := 10) sc__law_free_expr.nd rfl (.inl rfl))) (fun _ _ _ _ _ => by exact pts_nil) (fun _ _ _ _ _ => by exact (pe_call G hr (by rfl) gF F.kp bF .nil pass0 (pa_cons (pv 0) (pa_cons (pv 1) (pa_cons (pe_op op_sub (pv 2) pe_int) pa_nil))))))
  (pss_one (ps_ret (pe_tup (pa_cons (pe_ifExp (pt_cmpR op_eq (pv 3) pe_int (nomark _)) pe_str pe_str) (pa_cons (pv 6) (pa_cons (pe_callTy call_tuple_of (by rfl) m_tuple (by decide +kernel) (pa_cons (pv 7) pa_nil)) pa_nil)))))))) pss_nil)
  (pss_cons (ps_set (i := 8) sc__law_free_expr.nd rfl (.inl rfl) (pe_call G hr (by rfl) gF F.kp bF .nil pass0 (pa_cons (pv 0) (pa_cons (pv 1) (pa_cons (pe_op op_sub (pv 2) pe_int) pa_nil)))))
  (pss_cons (ps_if (pt_cmpR op_eq (pv 3) pe_int (nomark _)) (pss_one (ps_ret (pe_tup (pa_cons pe_str (pa_cons (pv 8) (pa_cons (pe_op op_add_str (pe_op op_add_str (pe_call G__law_name (hr.mono (Nat.le_trans (by decide) (Nat.le_add_right 6 n))) (by rfl) h__law_name.g h__law_name.F.kp h__law_name.b .nil pass0 (pa_cons (pv 0) (pa_cons (pv 1) (pa_cons (pv 4) pa_nil)))) pe_str) (pe_call G__law_word (hr.mono (Nat.le_trans (by decide) (Nat.le_add_right 6 n))) (by rfl) h__law_word.g h__law_word.F.kp h__law_word.b .nil pass0 (pa_cons (pv 0) (pa_cons (pv 1) (pa_cons pe_dnewK pa_nil))))) (pa_cons (pe_call G__law_name (hr.mono (Nat.le_trans (by decide) (Nat.le_add_right 6 n))) (by rfl) h__law_name.g h__law_name.F.kp h__law_name.b .nil pass0 (pa_cons (pv 0) (pa_cons (pv 1) (pa_cons (pv 4) pa_nil)))) pa_nil))))))) pss_nil)
  (pss_cons (ps_set (i := 9) sc__law_free_expr.nd rfl (.inl rfl) (pe_call G hr (by rfl) gF F.kp bF .nil pass0 (pa_cons (pv 0) (pa_cons (pv 1) (pa_cons (pe_op op_sub (pv 2) pe_int) pa_nil)))))
  (pss_cons (ps_if (pt_cmpR op_eq (pv 3) pe_int (nomark _)) (pss_one (ps_ret (pe_tup (pa_cons pe_str (pa_cons (pe_call G__law_name (hr.mono (Nat.le_trans (by decide) (Nat.le_add_right 6 n))) (by rfl) h__law_name.g h__law_name.F.kp h__law_name.b .nil pass0 (pa_cons (pv 0) (pa_cons (pv 1) (pa_cons (pv 4) pa_nil)))) (pa_cons (pv 8) (pa_cons (pv 9) pa_nil))))))) pss_nil)
  (pss_cons (ps_if (pt_cmpR op_eq (pv 3) pe_int (nomark _)) (pss_one (ps_ret (pe_tup (pa_cons pe_str (pa_cons (pv 8) (pa_cons (pv 9) (pa_cons (pe_call G hr (by rfl) gF F.kp bF .nil pass0 (pa_cons (pv 0) (pa_cons (pv 1) (pa_cons (pe_op op_sub (pv 2) pe_int) pa_nil)))) pa_nil))))))) pss_nil)
  (pss_one (ps_ret (pe_tup (pa_cons (pe_ix ix_list (pe_lst (pa_cons pe_str (pa_cons pe_str (pa_cons pe_str pa_nil)))) (pe_op op_sub (pv 3) pe_int) (fun _ _ => rfl)) (pa_cons (pv 8) (pa_cons (pv 9) pa_nil)))))))))))))))))), ?_⟩
      refine seq_merge (fun σ' H' => (∃ k : Int, 0 ≤ k ∧ k < 11 ∧ (n = 0 → k < 3) ∧ σ' = [some (.ref r), some (.ref sp), some (.int n), some (.int k), none, none, none, none, none, none, none]) ∧ Sta r sp H' ∧ Fr [sp] H H') ?_ (fun kont => ?_)
      rotate_left
      · refine asgA ⟨.int n, rfl, n, 0, rfl, rfl, _, rfl, ite2 (fun e => ?_) (fun e => ?_)⟩
        · have e := of_decide_eq_true e
          exact ⟨.ref r, rfl, .ref sp, rfl, r, sp, 11, rfl, st, by decide, fun t H1 t0 t1 st1 f1 => nameA (kont _ _ ⟨⟨t, t0, t1, fun h => by omega, rfl⟩, st1, f1⟩)⟩
        · exact ⟨.ref r, rfl, .ref sp, rfl, r, sp, 3, rfl, st, by decide, fun t H1 t0 t1 st1 f1 => nameA (kont _ _ ⟨⟨t, t0, by omega, fun _ => t1, rfl⟩, st1, f1⟩)⟩
      rintro σ' H1 ⟨⟨k, k0, k1, k2, rfl⟩, st1, f1⟩
      refine seqA (asgA fun u hu => nameA ?_)
      dsimp only
      have hu0 : H u = none := by
        cases e : H u with
        | none => rfl
        | some o =>
          by_cases h : u = sp
          · exact absurd h (st1.sp_ne hu)
          · rw [f1 u o (fun m => h (List.mem_singleton.mp m)) e] at hu
            cases hu
      have I2 : Inv r sp u 0 H (upd H1 u (.dK [])) := ⟨hu0, st1.new hu, f1.upd hu0, [], upd_same, Nat.le_refl _⟩
      generalize upd H1 u (.dK []) = H2 at I2 ⊢
      refine seqA (ifA (eqi_q rfl (ite2 (fun e => retA ?_) (fun e0 => nextA ?_))))
      · refine take_q rfl rfl (by decide) I2 fun a H3 _ _ I3 f3 => ?_
        refine ⟨.ref r, rfl, .ref sp, rfl, r, sp, 65536, rfl, I3.2.1, by decide, fun b H4 _ _ st4 f4 => ?_⟩
        refine ⟨zl (Nat.le_of_ble_eq_true rfl), fun p hp => ⟨.ref r, rfl, .ref sp, rfl, r, sp, 3, rfl, st4.new hp, by decide, fun c H5 c0 c1 st5 f5 => ?_⟩⟩
        obtain ⟨wv, hw⟩ := at3 (a := a) (b := b) (e := 65535) c0 c1
        have pk : H5 p = some (.lst [.int a, .int b, .int 65535]) := f5 p _ (fun m => st4.sp_ne hp (List.mem_singleton.mp m)) upd_same
        refine ⟨p, _, c, _, rfl, rfl, SqL.of pk, hw, zl (Nat.le_of_ble_eq_true rfl), fun p2 hp2 => ?_⟩
        exact q _ (.tuple [.str "int", .int wv]) _ (st5.new hp2) ((I3.2.2.1.trans (f4.trans ((Fr.of (same_upd hp)).trans f5))).trans (Fr.of (same_upd hp2))) (dp_new hp2 (.cons (.str _) (.cons (.int _) .nil))) (szs (mem2 (.str _ _ (Nat.le_of_ble_eq_true rfl)) (.int _ _)) (Nat.le_of_ble_eq_true rfl)) (shape_leaf (.inl rfl))
      dsimp only
      refine seqA (ifA (eqi_q rfl (ite2 (fun e => retA ?_) (fun e1 => nextA ?_))))
      · refine name_q rfl rfl rfl (by decide) I2 fun z H3 hz I3 _ => ⟨zl (Nat.le_of_ble_eq_true rfl), fun p hp => ?_⟩
        exact q _ (.tuple [.str "name", .str z]) _ (I3.fin hp).1 (I3.fin hp).2 (dp_new hp (.cons (.str _) (.cons (.str _) .nil))) (szs (mem2 (.str _ _ (Nat.le_of_ble_eq_true rfl)) (.str _ _ (by omega))) (Nat.le_of_ble_eq_true rfl)) (shape_leaf (.inr (.inl rfl)))
      dsimp only
      refine seqA (ifA (eqi_q rfl (ite2 (fun e => retA ?_) (fun e2 => nextA ?_))))
      · refine ⟨zl (Nat.le_of_ble_eq_true rfl), fun p hp => ?_⟩
        exact q _ (.tuple [.str "next"]) _ (I2.fin hp).1 (I2.fin hp).2 (dp_new hp (.cons (.str _) .nil)) (szs (fun d m => by rcases List.mem_singleton.mp m with rfl; exact .str _ _ (Nat.le_of_ble_eq_true rfl)) (Nat.le_of_ble_eq_true rfl)) (shape_leaf (.inr (.inr rfl)))
      dsimp only
      have e0 := of_decide_eq_false (Bool.eq_false_iff.mpr e0)
      have e1 := of_decide_eq_false (Bool.eq_false_iff.mpr e1)
      have e2 := of_decide_eq_false (Bool.eq_false_iff.mpr e2)
      obtain ⟨m, rfl⟩ : ∃ m, n = m + 1 := ⟨n - 1, by omega⟩
      refine seqA (asgA (take_q rfl rfl (by decide) I2 fun many H3 m0 m1 I3 f3 => nameA ?_))
      dsimp only
      refine seq_merge (fun σ' H' => σ' = [some (.ref r), some (.ref sp), some (.int ((m + 1 : Nat) : Int)), some (.int k), some (.ref u), some (.int many), none, none, none, none, none] ∧ Inv r sp u 0 H H' ∧ k ≠ 3 ∧ k ≠ 4) ?_ (fun kont => ?_)
      rotate_left
      · refine ifA (or_q (b := decide (k = 3)) (c := decide (k = 4)) (fun R hR => eqi_q rfl hR) (fun _ R hR => eqi_q rfl hR) (ite2 (fun e => ?_) (fun e => nextA (kont _ _ ⟨rfl, I3, fun h => e (by rw [decide_eq_true h]; rfl), fun h => e (by rw [decide_eq_true h, Bool.or_true])⟩))))
        refine seq_merge (fun σ' H' => (∃ z, z.length ≤ 201 ∧ σ' = [some (.ref r), some (.ref sp), some (.int ((m + 1 : Nat) : Int)), some (.int k), some (.ref u), some (.int many), some (.str z), none, none, none, none]) ∧ Inv r sp u 2 H H') ?_ (fun kont2 => ?_)
        rotate_left
        · refine asgA (name_q rfl rfl rfl (by decide) I3 fun z H4 hz I4 f4 => ?_)
          have l1 : (z ++ (".": Str)).length = z.length + 1 := len_app _ _
          refine ⟨_, ".", rfl, rfl, zl (by show _ + 1 ≤ _; omega), eqi_q rfl (ite2 (fun e => ?_) (fun e => ?_))⟩
          · refine newn_q rfl rfl I4 fun y H5 hy I5 f5 => ⟨_, _, rfl, rfl, zl (by omega), nameA (kont2 _ _ ⟨⟨_, ?_, rfl⟩, I5.1, I5.2.1, I5.2.2.1, ?_⟩)⟩
            · rw [len_app]; omega
            · obtain ⟨kv, hk, hl⟩ := I5.2.2.2
              exact ⟨kv, hk, by omega⟩
          · refine name_q rfl rfl rfl (by decide) I4 fun y H5 hy I5 f5 => ⟨_, _, rfl, rfl, zl (by omega), nameA (kont2 _ _ ⟨⟨_, ?_, rfl⟩, I5⟩)⟩
            rw [len_app]; omega
        rintro σ' H4 ⟨⟨z, hz, rfl⟩, I4⟩
        refine seq_merge (fun σ' H' => (∃ D acc ds c10, ds.length ≤ 4 ∧ H' D = some (.lst acc) ∧ DpAll K H' acc ds ∧ (∀ d, d ∈ ds → Sz 300 (2 * m + 1) d ∧ shapeE (m + 1) d) ∧ σ' = [some (.ref r), some (.ref sp), some (.int ((m + 1 : Nat) : Int)), some (.int k), some (.ref u), some (.int many), some (.str z), some (.ref D), none, none, c10]) ∧ Inv r sp u 2 H H') ?_ (fun kont3 => ?_)
        rotate_left
        · refine asgA (lc_data (K := K) (lo := 0) (nb := 4) (fun d => Sz 300 (2 * m + 1) d ∧ shapeE (m + 1) d) (fun d h => sz_ont h.1) (by decide) I4.2.1 (fun R hR => ?_) (fun _ => rfl) (fun x H5 R st5 f5 hR => ?_) fun D acc ds H5 st5 f5 hD hD0 hdp _ hl hk => ?_)
          · exact eqi_q rfl (ite2 (fun e => ⟨.int many, rfl, many, rfl, by omega, by omega, hR _ H4 (Nat.zero_le _) (by omega) I4.2.1 (Fr.refl H4)⟩) (fun e => ⟨.int many, rfl, 1, many, rfl, _, rfl, by split <;> omega, by split <;> omega, hR _ H4 (Nat.zero_le _) (by split <;> omega) I4.2.1 (Fr.refl H4)⟩))
          · exact rec_q rfl rfl rfl (I4.step st5 f5) fun y d H6 I6 f6 hy hz2 hs2 => hR y d H6 I6.2.1 f6 hy ⟨hz2, hs2⟩
          · exact nameA (kont3 _ _ ⟨⟨D, acc, ds, none, hl, hD, hdp, hk, rfl⟩, I4.step st5 f5⟩)
        rintro σ' H5 ⟨⟨D, acc, ds, c10, hl, hD, hdp, hds, rfl⟩, I5⟩
        have fin : ∀ w : Str, (w = "new" ∨ w = "call") → w.length ≤ 4 → ∀ l, H5 l = none → ∀ p, upd H5 l (.tup acc) p = none → Q (.ref p) (upd (upd H5 l (.tup acc)) p (.tup [.str w, .str z, .ref l])) := fun w hw hwl l hl1 p hp => by
          refine q _ (.tuple [.str w, .str z, .tuple ds]) _ ((I5.2.1.new hl1).new hp) ((I5.2.2.1.trans (Fr.of (same_upd hl1))).trans (Fr.of (same_upd hp))) (dp_new hp (.cons (.str _) (.cons (.str _) (.cons (dp_new hl1 hdp) .nil)))) ?_ (shape_nc hw fun d m => (hds d m).2)
          exact szs (n := 2 * m + 2) (mem3 (.str _ _ (by omega)) (.str _ _ (by omega)) (szs (n := 2 * m + 1) (fun d m => (hds d m).1) (by omega))) (Nat.le_of_ble_eq_true rfl)
        refine retA (eqi_q rfl (ite2 (fun e => ?_) (fun e => ?_)))
        · exact ⟨.str z, rfl, .ref D, rfl, D, acc, rfl, .inl ⟨SqL.of hD, fun l hl1 => ⟨zl (Nat.le_of_ble_eq_true rfl), fun p hp => fin "new" (.inl rfl) (by decide) l hl1 p hp⟩⟩⟩
        · exact ⟨.str z, rfl, .ref D, rfl, D, acc, rfl, .inl ⟨SqL.of hD, fun l hl1 => ⟨zl (Nat.le_of_ble_eq_true rfl), fun p hp => fin "call" (.inr rfl) (by decide) l hl1 p hp⟩⟩⟩
      rintro σ' H4 ⟨rfl, I4, e3, e4⟩
      refine seqA (asgA (rec_q rfl rfl rfl I4 fun x1 d1 H5 I5 f5 h1 z1 s1 => nameA ?_))
      dsimp only
      have o1 := sz_ont z1
      refine seqA (ifA (eqi_q rfl (ite2 (fun e => retA ?_) (fun e5 => nextA ?_))))
      · refine ⟨x1, rfl, name_q rfl rfl rfl (by decide) I5 fun z H6 hz I6 f6 => ?_⟩
        have l1 : (z ++ (".": Str)).length = z.length + 1 := len_app _ _
        refine ⟨_, ".", rfl, rfl, zl (by show _ + 1 ≤ _; omega), newn_q rfl rfl I6 fun y H7 hy I7 f7 => ⟨_, _, rfl, rfl, zl (by omega), name_q rfl rfl rfl (by decide) I7 fun v H8 hv I8 f8 => ⟨zl (Nat.le_of_ble_eq_true rfl), fun p hp => ?_⟩⟩⟩
        have l2 : (z ++ (".": Str) ++ y).length = z.length + 1 + y.length := by rw [len_app, l1]
        exact q _ (.tuple [.str "field", d1, .str (z ++ (".": Str) ++ y), .str v]) _ (I8.fin hp).1 (I8.fin hp).2 (dp_new hp (.cons (.str _) (.cons (I7.dp2 f8 o1 (I6.dp f7 o1 (I5.dp2 f6 o1 h1))) (.cons (.str _) (.cons (.str _) .nil))))) (szs (n := 2 * m + 2) (mem4 (.str _ _ (Nat.le_of_ble_eq_true rfl)) (sz_mono z1 (Nat.le_refl _) (by omega)) (.str _ _ (by omega)) (.str _ _ (by omega))) (Nat.le_of_ble_eq_true rfl)) (shape_field s1)
      dsimp only
      refine seqA (asgA (rec_q rfl rfl rfl I5 fun x2 d2 H6 I6 f6 h2 z2 s2 => nameA ?_))
      dsimp only
      have o2 := sz_ont z2
      have h1b := I5.dp f6 o1 h1
      refine seqA (ifA (eqi_q rfl (ite2 (fun e => retA ?_) (fun e6 => nextA ?_))))
      · refine name_q rfl rfl rfl (by decide) I6 fun z H7 hz I7 f7 => ⟨x1, rfl, x2, rfl, zl (Nat.le_of_ble_eq_true rfl), fun p hp => ?_⟩
        exact q _ (.tuple [.str "let", .str z, d1, d2]) _ (I7.fin hp).1 (I7.fin hp).2 (dp_new hp (.cons (.str _) (.cons (.str _) (.cons (I6.dp2 f7 o1 h1b) (.cons (I6.dp2 f7 o2 h2) .nil))))) (szs (n := 2 * m + 2) (mem4 (.str _ _ (Nat.le_of_ble_eq_true rfl)) (.str _ _ (by omega)) (sz_mono z1 (Nat.le_refl _) (by omega)) (sz_mono z2 (Nat.le_refl _) (by omega))) (Nat.le_of_ble_eq_true rfl)) (shape_let s1 s2)
      dsimp only
      refine seqA (ifA (eqi_q rfl (ite2 (fun e => retA ?_) (fun e7 => nextA ?_))))
      · refine ⟨x1, rfl, x2, rfl, rec_q rfl rfl rfl I6 fun x3 d3 H7 I7 f7 h3 z3 s3 => ⟨zl (Nat.le_of_ble_eq_true rfl), fun p hp => ?_⟩⟩
        exact q _ (.tuple [.str "if", d1, d2, d3]) _ (I7.fin hp).1 (I7.fin hp).2 (dp_new hp (.cons (.str _) (.cons (I6.dp f7 o1 h1b) (.cons (I6.dp f7 o2 h2) (.cons h3 .nil))))) (szs (n := 2 * m + 2) (mem4 (.str _ _ (Nat.le_of_ble_eq_true rfl)) (sz_mono z1 (Nat.le_refl _) (by omega)) (sz_mono z2 (Nat.le_refl _) (by omega)) (sz_mono z3 (Nat.le_refl _) (by omega))) (Nat.le_of_ble_eq_true rfl)) (shape_if s1 s2 s3)
      dsimp only
      have e5 := of_decide_eq_false (Bool.eq_false_iff.mpr e5)
      have e6 := of_decide_eq_false (Bool.eq_false_iff.mpr e6)
      have e7 := of_decide_eq_false (Bool.eq_false_iff.mpr e7)
      obtain ⟨w, hw, hat⟩ : ∃ w : Str, (w = "add" ∨ w = "sub" ∨ w = "mul") ∧ atI [V.str "add", V.str "sub", V.str "mul"] (k - 8) = some (.str w) := by
        rcases (by omega : k = 8 ∨ k = 9 ∨ k = 10) with rfl | rfl | rfl
        · exact ⟨_, .inl rfl, rfl⟩
        · exact ⟨_, .inr (.inl rfl), rfl⟩
        · exact ⟨_, .inr (.inr rfl), rfl⟩
      have hwl : w.length ≤ 300 := by rcases hw with rfl | rfl | rfl <;> exact Nat.le_of_ble_eq_true rfl
      refine retA ⟨zl (Nat.le_of_ble_eq_true rfl), fun p hp => ⟨.int k, rfl, k, 8, rfl, rfl, p, _, k - 8, .str w, rfl, rfl, SqL.of upd_same, hat, x1, rfl, x2, rfl, zl (Nat.le_of_ble_eq_true rfl), fun p2 hp2 => ?_⟩⟩
      exact q _ (.tuple [.str w, d1, d2]) _ ((I6.2.1.new hp).new hp2) ((I6.fin hp).2.trans (Fr.of (same_upd hp2))) (dp_new hp2 (.cons (.str _) (.cons (dp_keep (same_upd hp) h1b) (.cons (dp_keep (same_upd hp) h2) .nil)))) (szs (n := 2 * m + 2) (mem3 (.str _ _ hwl) (sz_mono z1 (Nat.le_refl _) (by omega)) (sz_mono z2 (Nat.le_refl _) (by omega))) (Nat.le_of_ble_eq_true rfl)) (shape_sign hw s1 s2)
end
end Cw

set_option Elab.async false
set_option linter.all false
set_option maxRecDepth 100000
set_option maxHeartbeats 4000000
namespace Cw
open PySem PySem.Spec PyProof.Rows L2
theorem shape_mono : ∀ (n m : Nat) (d : PyData), n ≤ m → shapeE n d → shapeE m d
  | n + 1, m + 1, .tuple (.str z :: r), h, s => ⟨s.1, fun d hd => shape_mono n m d (by omega) (s.2 d hd)⟩
  | n + 1, 0, _, h, _ => absurd h (by omega)
  | 0, _, .none, _, s => s.elim
  | 0, _, .bool _, _, s => s.elim
  | 0, _, .int _, _, s => s.elim
  | 0, _, .str _, _, s => s.elim
  | 0, _, .list _, _, s => s.elim
  | 0, _, .dict _, _, s => s.elim
  | 0, _, .tuple _, _, s => s.elim
  | _ + 1, _, .none, _, s => s.elim
  | _ + 1, _, .bool _, _, s => s.elim
  | _ + 1, _, .int _, _, s => s.elim
  | _ + 1, _, .str _, _, s => s.elim
  | _ + 1, _, .list _, _, s => s.elim
  | _ + 1, _, .dict _, _, s => s.elim
  | _ + 1, _, .tuple [], _, s => s.elim
  | _ + 1, _, .tuple (.none :: _), _, s => s.elim
  | _ + 1, _, .tuple (.bool _ :: _), _, s => s.elim
  | _ + 1, _, .tuple (.int _ :: _), _, s => s.elim
  | _ + 1, _, .tuple (.list _ :: _), _, s => s.elim
  | _ + 1, _, .tuple (.dict _ :: _), _, s => s.elim
  | _ + 1, _, .tuple (.tuple _ :: _), _, s => s.elim
/-- an expression of any depth up to ten -/
def spFxA (K : PySem.W.Frag) : Sp := fun vs H Q _ => ∃ (n : Nat) (r sp : Addr), n ≤ 10 ∧ vs = [.ref r, .ref sp, .int (n : Int)] ∧ Sta r sp H ∧ ∀ x d H', Sta r sp H' → Fr [sp] H H' → Dp K H' x d → Sz 300 (2 * n + 1) d → shapeE (n + 1) d → Q x H'
theorem ok_fxa {P : Program} {w : World} {K : PySem.W.Frag} {mg : Str → Option Value} {base : Heap} {f : Addr} {fd : FuncData} {ps : List Str} (h : ∀ n, FnOk P w K mg base CX0 (6 + n) f fd ps (spFx K n)) : FnOk P w K mg base CX0 17 f fd ps (spFxA K) :=
  ⟨fun vs H Q E q => by
    obtain ⟨n, r, sp, hn, e, st, q⟩ := q
    exact (h (n + 1)).len vs H Q E ⟨r, sp, e, st, q⟩,
  fun A outer s H args us vs Q E hr he hb hv q => by
    obtain ⟨n, r, sp, hn, e, st, q⟩ := q
    exact ((h (n + 1)).mono (by omega)).run A outer s H args us vs Q E hr he hb hv ⟨r, sp, e, st, q⟩⟩
def spMod (K : PySem.W.Frag) : Sp := fun vs H Q _ => ∃ (r sp : Addr), vs = [.ref r, .ref sp] ∧ Sta r sp H ∧ ∀ x d H', Sta r sp H' → Fr [sp] H H' → Dp K H' x d → Sz 300 10 d → Q x H'
def rTupOf (K : PySem.W.Frag) : List V → Hp → VK → Prop := fun xs H Q => ∃ p ys, xs = [.ref p] ∧ ((SqL K H p ys ∧ ∀ l, H l = none → Q (.ref l) (upd H l (.tup ys))) ∨ (SqT K H p ys ∧ Q (.ref p) H))
/-- a tuple of drawn data -/
theorem tup_data {K : PySem.W.Frag} {r sp : Addr} {wi : TI} {te : TE} {σ : L2.St} {H0 : Hp} {Q : VK} {i lo nb : Nat} (kd : PyData → Prop) (ko : ∀ d, kd d → OnT d) (hnb : nb ≤ 1000) (st0 : Sta r sp H0)
    (hw : ∀ R : It → Hp → Prop, (∀ n H1, lo ≤ n → n ≤ nb → Sta r sp H1 → Fr [sp] H0 H1 → R (Itr 0 n) H1) → wi σ H0 R)
    (hw2 : ∀ x, wipe ((wipe σ [i]).set i (some x)) [i] = wipe σ [i])
    (hs : ∀ x H1 (R : V → Hp → Prop), Sta r sp H1 → Fr [sp] H0 H1 → (∀ y d H2, Sta r sp H2 → Fr [sp] H1 H2 → Dp K H2 y d → kd d → R y H2) → te ((wipe σ [i]).set i (some x)) H1 R)
    (q : ∀ x ds H2, Sta r sp H2 → Fr [sp] H0 H2 → Dp K H2 x (.tuple ds) → lo ≤ ds.length → ds.length ≤ nb → (∀ d, d ∈ ds → kd d) → Q x H2) : tCB (rTupOf K) (tCons (tLc wi (gName i) tYes te [i]) tNil) σ H0 Q :=
  cb1 (lc_data kd ko hnb st0 hw hw2 hs fun D acc ds H2 st2 f2 hD _ hdp hlo hl hk => ⟨D, acc, rfl, .inl ⟨SqL.of hD, fun l hl1 => q _ ds _ (st2.new hl1) (f2.trans (Fr.of (same_upd hl1))) (dp_new hl1 hdp) hlo hl hk⟩⟩)
theorem Fr.app {C sp : Addr} {H0 H1 H2 : Hp} {o : HO} (f : Fr [C, sp] H0 H1) (g : Fr [sp] H1 H2) : Fr [C, sp] H0 (L2.upd H2 C o) := (f.trans g.two).set (List.mem_cons_self ..)
/-- a loop that appends drawn data to the list at C -/
theorem for_data {K : PySem.W.Frag} {r sp C : Addr} {wi : TI} {g : TG} {tb : TS} {D : Ends} {σ : L2.St} {H0 : Hp} {nb : Nat} (Sg : L2.St → Prop) (kd : PyData → Prop) (ko : ∀ d, kd d → OnT d) (hnb : nb ≤ 1000) (st0 : Sta r sp H0) (hC : H0 C = some (.lst [])) (cr : C ≠ r) (cs : C ≠ sp) (sg : Sg σ)
    (hw : ∀ R : It → Hp → Prop, (∀ n H1, 0 ≤ n → n ≤ nb → Sta r sp H1 → Fr [sp] H0 H1 → R (Itr 0 n) H1) → wi σ H0 R)
    (hs : ∀ x σ1 H1 acc (D' : Ends), Sg σ1 → Sta r sp H1 → Fr [C, sp] H0 H1 → H1 C = some (.lst acc) → acc.length < sizeLine → (∀ σ2 y d H2, Sg σ2 → Sta r sp H2 → Fr [sp] H1 H2 → Dp K H2 y d → kd d → D'.nx σ2 (upd H2 C (.lst (acc ++ [y])))) → g x σ1 H1 fun σ2 H2 => tb D' σ2 H2)
    (hd : ∀ σ2 acc ds H2, Sg σ2 → Sta r sp H2 → Fr [C, sp] H0 H2 → H2 C = some (.lst acc) → DpAll K H2 acc ds → ds.length ≤ nb → (∀ d, d ∈ ds → kd d) → D.nx σ2 H2) : tFor wi g tb D σ H0 := by
  refine hw _ fun n H1 _ hn st1 f1 => ?_
  refine for_range (fun j σ' H' => Sg σ' ∧ Sta r sp H' ∧ Fr [C, sp] H0 H' ∧ ∃ acc ds, H' C = some (.lst acc) ∧ DpAll K H' acc ds ∧ ds.length = j ∧ ∀ d, d ∈ ds → kd d) ⟨sg, st1, f1.two, [], [], f1 _ _ (fun m => cs (List.mem_singleton.mp m)) hC, .nil, rfl, fun _ m => nomatch m⟩ ?_ ?_
  · rintro j σ1 H2 hj ⟨sg1, st2, f2, acc, ds, hacc, hdp, hl, hk⟩
    refine hs _ σ1 H2 acc _ sg1 st2 f2 hacc ?_ fun σ2 y d H3 sg2 st3 f3 hy hd => ?_
    · rw [(dp_get hdp).1, hl]
      exact Nat.lt_of_lt_of_le (by omega : j < 1001) (by decide)
    have ha : H3 C = some (.lst acc) := f3 C _ (fun m => cs (List.mem_singleton.mp m)) hacc
    have hdp3 : DpAll K H3 acc ds := dps_fr f3 st2.nt (fun d m => ko d (hk d m)) hdp
    refine ⟨sg2, st3.set cr cs, f2.app f3, acc ++ [y], ds ++ [d], upd_same, ?_, ?_, ?_⟩
    · refine dps_set ha (fun e m => ?_) (dps_app hdp3 (.cons hy .nil))
      rcases List.mem_append.mp m with m | m
      · exact ko e (hk e m)
      · rcases List.mem_singleton.mp m with rfl
        exact ko _ hd
    · rw [List.length_append, hl]; rfl
    · intro e m
      rcases List.mem_append.mp m with m | m
      · exact hk e m
      · rcases List.mem_singleton.mp m with rfl
        exact hd
  · rintro σ2 H2 ⟨sg2, st2, f2, acc, ds, hacc, hdp, hl, hk⟩
    exact hd σ2 acc ds H2 sg2 st2 f2 hacc hdp (by omega) hk
theorem tk_q {K : PySem.W.Frag} {σ : L2.St} {r sp : Addr} {lim : Int} {H1 : Hp} {Q : VK} (e0 : σ[0]? = some (some (.ref r))) (e1 : σ[1]? = some (some (.ref sp))) (hl : 0 < lim) (st : Sta r sp H1)
    (q : ∀ (z : Int) H2, 0 ≤ z → z < lim → Sta r sp H2 → Fr [sp] H1 H2 → Q (.int z) H2) : tCall (spTk K) [] E0 (tCons (tVar 0) (tCons (tVar 1) (tCons (tC (.int lim)) tNil))) σ H1 Q :=
  ⟨.ref r, e0, .ref sp, e1, r, sp, lim, rfl, st, hl, q⟩
theorem fresh_q {K : PySem.W.Frag} {σ : L2.St} {r sp : Addr} {H1 : Hp} {Q : VK} (e0 : σ[0]? = some (some (.ref r))) (e1 : σ[1]? = some (some (.ref sp))) (st : Sta r sp H1)
    (q : ∀ (z : Str) H2, z.length ≤ 100 → Sta r sp H2 → Fr [sp] H1 H2 → Q (.str z) H2) : tCall (spName K) [] E0 (tCons (tVar 0) (tCons (tVar 1) (tCons tDNewK tNil))) σ H1 Q :=
  ⟨.ref r, e0, .ref sp, e1, fun p hp => ⟨r, sp, p, [], rfl, st.new hp, upd_same, Nat.le_of_ble_eq_true rfl, fun z H2 kv' hz st2 f2 hk2 hl2 => q z H2 hz st2 (f2.new hp)⟩⟩
theorem nm_q {K : PySem.W.Frag} {σ : L2.St} {r sp : Addr} {cap : Bool} {H1 : Hp} {Q : VK} (e0 : σ[0]? = some (some (.ref r))) (e1 : σ[1]? = some (some (.ref sp))) (st : Sta r sp H1)
    (q : ∀ (z : Str) H2, z.length ≤ 201 → Sta r sp H2 → Fr [sp] H1 H2 → Q (.str z) H2) : tCall (spNamed K) [] E0 (tCons (tVar 0) (tCons (tVar 1) (tCons (tC (.bl cap)) tNil))) σ H1 Q :=
  ⟨.ref r, e0, .ref sp, e1, r, sp, cap, rfl, st, q⟩
theorem rng_q {K : PySem.W.Frag} {σ : L2.St} {r sp : Addr} {lim : Int} {H0 : Hp} {nb : Nat} (e0 : σ[0]? = some (some (.ref r))) (e1 : σ[1]? = some (some (.ref sp))) (hl : 0 < lim) (hl2 : lim ≤ nb + 1) (hnb : nb ≤ 1000) (st : Sta r sp H0) :
    ∀ R : It → Hp → Prop, (∀ n H1, 0 ≤ n → n ≤ nb → Sta r sp H1 → Fr [sp] H0 H1 → R (Itr 0 n) H1) → iRng1 (tCons (tCall (spTk K) [] E0 (tCons (tVar 0) (tCons (tVar 1) (tCons (tC (.int lim)) tNil)))) tNil) σ H0 R :=
  fun R hR => tk_q e0 e1 hl st fun z H2 z0 z1 st2 f2 => ⟨z, rfl, by omega, by omega, hR _ H2 (Nat.zero_le _) (by omega) st2 f2⟩
theorem rng1_q {K : PySem.W.Frag} {σ : L2.St} {r sp : Addr} {lim : Int} {H0 : Hp} {nb : Nat} (e0 : σ[0]? = some (some (.ref r))) (e1 : σ[1]? = some (some (.ref sp))) (hl : 0 < lim) (hl2 : lim ≤ nb) (hnb : nb ≤ 1000) (st : Sta r sp H0) :
    ∀ R : It → Hp → Prop, (∀ n H1, 1 ≤ n → n ≤ nb → Sta r sp H1 → Fr [sp] H0 H1 → R (Itr 0 n) H1) → iRng1 (tCons (tOp (rI0 fun i j => V.int (i + j)) (tC (.int 1)) (tCall (spTk K) [] E0 (tCons (tVar 0) (tCons (tVar 1) (tCons (tC (.int lim)) tNil))))) tNil) σ H0 R :=
  fun R hR => tk_q e0 e1 hl st fun z H2 z0 z1 st2 f2 => ⟨1, z, rfl, rfl, 1 + z, rfl, by omega, by omega, hR _ H2 (by omega) (by omega) st2 f2⟩
theorem at4 {c : Int} (h0 : 0 ≤ c) (h1 : c < 4) : ∃ w : Int, 0 ≤ w ∧ w ≤ 11 ∧ atI [V.int 0, V.int 0, V.int 1, V.int 11] c = some (.int w) := by
  rcases (by omega : c = 0 ∨ c = 1 ∨ c = 2 ∨ c = 3) with rfl | rfl | rfl | rfl
  · exact ⟨0, by decide, by decide, rfl⟩
  · exact ⟨0, by decide, by decide, rfl⟩
  · exact ⟨1, by decide, by decide, rfl⟩
  · exact ⟨11, by decide, by decide, rfl⟩
theorem at2 {c : Int} (h0 : 0 ≤ c) (h1 : c < 2) : ∃ w : Str, w.length ≤ 300 ∧ atI [V.str "open", V.str "sealed"] c = some (.str w) := by
  rcases (by omega : c = 0 ∨ c = 1) with rfl | rfl
  · exact ⟨"open", Nat.le_of_ble_eq_true rfl, rfl⟩
  · exact ⟨"sealed", Nat.le_of_ble_eq_true rfl, rfl⟩
theorem rng2_q {K : PySem.W.Frag} {σ : L2.St} {r sp : Addr} {H0 : Hp} (e0 : σ[0]? = some (some (.ref r))) (e1 : σ[1]? = some (some (.ref sp))) (st : Sta r sp H0) :
    ∀ R : It → Hp → Prop, (∀ n H1, 1 ≤ n → n ≤ 12 → Sta r sp H1 → Fr [sp] H0 H1 → R (Itr 0 n) H1) → iRng1 (tCons (tOp (rI0 fun i j => V.int (i + j)) (tC (.int 1)) (tOp (rIxL K) (tLst (tCons (tC (V.int 0)) (tCons (tC (V.int 0)) (tCons (tC (V.int 1)) (tCons (tC (V.int 11)) tNil))))) (tCall (spTk K) [] E0 (tCons (tVar 0) (tCons (tVar 1) (tCons (tC (.int 4)) tNil)))))) tNil) σ H0 R :=
  fun R hR => ⟨Nat.le_of_ble_eq_true rfl, fun p hp => tk_q e0 e1 (by decide) (st.new hp) fun z H2 z0 z1 st2 f2 => by
    obtain ⟨w, w0, w1, hw⟩ := at4 z0 z1
    exact ⟨p, _, z, _, rfl, rfl, SqL.of (f2 p _ (fun m => st.sp_ne hp (List.mem_singleton.mp m)) upd_same), hw, 1, w, rfl, rfl, 1 + w, rfl, by omega, by omega, hR _ H2 (by omega) (by omega) st2 ((Fr.of (same_upd hp)).trans f2)⟩⟩
theorem pair_q {K : PySem.W.Frag} {σ : L2.St} {r sp : Addr} {cap : Bool} {H1 : Hp} {R : VK} (e0 : σ[0]? = some (some (.ref r))) (e1 : σ[1]? = some (some (.ref sp))) (st : Sta r sp H1)
    (q : ∀ y d H2, Sta r sp H2 → Fr [sp] H1 H2 → Dp K H2 y d → Sz 300 1 d → R y H2) : tTup (tCons (tCall (spName K) [] E0 (tCons (tVar 0) (tCons (tVar 1) (tCons tDNewK tNil)))) (tCons (tCall (spNamed K) [] E0 (tCons (tVar 0) (tCons (tVar 1) (tCons (tC (.bl cap)) tNil)))) tNil)) σ H1 R :=
  fresh_q e0 e1 st fun a H2 ha st2 f2 => nm_q e0 e1 st2 fun b H3 hb st3 f3 => ⟨Nat.le_of_ble_eq_true rfl, fun p hp => q _ (.tuple [.str a, .str b]) _ (st3.new hp) ((f2.trans f3).trans (Fr.of (same_upd hp))) (dp_new hp (.cons (.str _) (.cons (.str _) .nil))) (szs (n := 0) (mem2 (.str _ _ (by omega)) (.str _ _ (by omega))) (Nat.le_of_ble_eq_true rfl))⟩
theorem none_back {r sp C : Addr} {H H1 : Hp} (st : Sta r sp H1) (f : Fr [sp] H H1) (h : H1 C = none) : H C = none := by
  cases e : H C with
  | none => rfl
  | some o =>
    by_cases k : C = sp
    · exact absurd k (st.sp_ne h)
    · rw [f C o (fun m => k (List.mem_singleton.mp m)) e] at h
      cases h
theorem Sta.r_ne {r sp p : Addr} {H : Hp} (h : Sta r sp H) (hp : H p = none) : p ≠ r := fun e => by
  obtain ⟨_, ⟨row, _, h4⟩, _⟩ := h
  rw [← e, hp] at h4
  cases h4
/-- a list of data -/
def Lst (K : PySem.W.Frag) (k : Nat) (H : Hp) (C : Addr) (dc : List PyData) : Prop := ∃ acc, H C = some (.lst acc) ∧ DpAll K H acc dc ∧ dc.length ≤ 8 ∧ ∀ d, d ∈ dc → Sz 300 k d
theorem Lst.fr {K : PySem.W.Frag} {k : Nat} {A : List Addr} {H H' : Hp} {C : Addr} {dc : List PyData} (h : Lst K k H C dc) (f : Fr A H H') (n : NoTup A H) (hc : C ∉ A) : Lst K k H' C dc := by
  obtain ⟨acc, h1, h2, h3, h4⟩ := h
  exact ⟨acc, f _ _ hc h1, dps_fr f n (fun d m => sz_ont (h4 d m)) h2, h3, h4⟩
theorem Sta.nt3 {r sp C : Addr} {H : Hp} {acc : List V} (h : Sta r sp H) (hC : H C = some (.lst acc)) : NoTup [C, sp] H := fun b m xs e => by
  rcases List.mem_cons.mp m with rfl | m
  · exact nt_lst hC b (List.mem_singleton.mpr rfl) xs e
  · exact h.nt b m xs e
theorem Lst.ne {K : PySem.W.Frag} {k : Nat} {H : Hp} {C p : Addr} {dc : List PyData} (h : Lst K k H C dc) (hp : H p = none) : C ≠ p := fun e => by
  obtain ⟨acc, h1, _⟩ := h
  rw [e, hp] at h1
  cases h1
theorem Lst.new {K : PySem.W.Frag} {k : Nat} {H : Hp} {C p : Addr} {o : HO} {dc : List PyData} (h : Lst K k H C dc) (hp : H p = none) : Lst K k (upd H p o) C dc := by
  obtain ⟨acc, h1, h2, h3, h4⟩ := h
  exact ⟨acc, same_upd hp _ _ h1, dps_keep (same_upd hp) h2, h3, h4⟩
theorem nsp {C sp : Addr} (h : C ≠ sp) : C ∉ [sp] := fun m => h (List.mem_singleton.mp m)
theorem nsp2 {C G sp : Addr} (h1 : C ≠ G) (h : C ≠ sp) : C ∉ [G, sp] := fun m => by
  rcases List.mem_cons.mp m with rfl | m
  · exact h1 rfl
  · exact h (List.mem_singleton.mp m)
section
variable {P : Program} {w : World} {K : PySem.W.Frag} {mg : Str → Option Value} {base : Heap} {S : Addr → Option Sp}
abbrev s__law_free_module : Stmt := topS 61
theorem sc__law_free_module : FnScope ["row", "spot", "uses", "classes", "k", "parents", "fields", "kind", "generics", "takes", "methods", "params", "body", "name", "at"] ["row", "spot"] (defScope s__law_free_module) := ⟨rfl, rfl, rfl, by decide +kernel, rfl, by decide +kernel, by decide +kernel⟩
theorem ok__law_free_module {f : Addr} {fd : FuncData} (F : Fun K "_law_free_module" "_law_free_module" s__law_free_module f fd) {f__law_take : Addr} {d__law_take : FuncData} (h__law_take : Hd K mg "_law_take" s__law_take ["row", "spot", "limit"] f__law_take d__law_take) (G__law_take : FnOk P w K mg base CX0 2 f__law_take d__law_take ["row", "spot", "limit"] (spTk K)) {f__law_name : Addr} {d__law_name : FuncData} (h__law_name : Hd K mg "_law_name" s__law_name ["row", "spot", "used"] f__law_name d__law_name) (G__law_name : FnOk P w K mg base CX0 4 f__law_name d__law_name ["row", "spot", "used"] (spName K)) {f__law_free_named : Addr} {d__law_free_named : FuncData} (h__law_free_named : Hd K mg "_law_free_named" s__law_free_named ["row", "spot", "capital"] f__law_free_named d__law_free_named) (G__law_free_named : FnOk P w K mg base CX0 5 f__law_free_named d__law_free_named ["row", "spot", "capital"] (spNamed K)) {f__law_word : Addr} {d__law_word : FuncData} (h__law_word : Hd K mg "_law_word" s__law_word ["row", "spot", "used"] f__law_word d__law_word) (G__law_word : FnOk P w K mg base CX0 4 f__law_word d__law_word ["row", "spot", "used"] (spName K)) {f__law_free_expr : Addr} {d__law_free_expr : FuncData} (h__law_free_expr : Hd K mg "_law_free_expr" s__law_free_expr ["row", "spot", "deep"] f__law_free_expr d__law_free_expr) (G__law_free_expr : FnOk P w K mg base CX0 17 f__law_free_expr d__law_free_expr ["row", "spot", "deep"] (spFxA K)) {f__law_count : Addr} {d__law_count : FuncData} (h__law_count : Hd K mg "_law_count" s__law_count ["value"] f__law_count d__law_count) (G__law_count : FnOk P w K mg base CX0 9 f__law_count d__law_count ["value"] (spCount K 7)) (m_tuple : mg "tuple" = none) (m_range : mg "range" = none) (m_len : mg "len" = none) : FnOk P w K mg base CX0 18 f fd ["row", "spot"] (spMod K) := by
  refine F.ok sc__law_free_module (fun vs H Q E h => ?_) (fun cdv A outer s H vs Q E hr h => ?_)
  · obtain ⟨_, _, rfl, _⟩ := h
    rfl
  · obtain ⟨r, sp, rfl, st, q⟩ := h
    refine ⟨_, (pss_cons (ps_set (i := 2) sc__law_free_module.nd rfl (.inl rfl) (pe_callTy call_tuple_of (by rfl) m_tuple (by decide +kernel) (pa_cons (pe_lc (own := [("k", 4)]) rfl sc__law_free_module.nd (pi_range1 rfl m_range (pa_cons (pe_call G__law_take (hr.mono (by decide)) (by rfl) h__law_take.g h__law_take.F.kp h__law_take.b .nil pass0 (pa_cons (pv 0) (pa_cons (pv 1) (pa_cons pe_int pa_nil)))) pa_nil)) (blkOk_by (N := ["row", "spot", "uses", "classes", "k", "parents", "fields", "kind", "generics", "takes", "methods", "params", "body", "name", "at"]) (sc := defScope s__law_free_module) (by decide +kernel)) (fun _ _ _ _ _ => by exact (pg_name (i := 4) sc__law_free_module.nd rfl (.inl rfl))) (fun _ _ _ _ _ => by exact pts_nil) (fun _ _ _ _ _ => by exact (pe_call G__law_name (hr.mono (by decide)) (by rfl) h__law_name.g h__law_name.F.kp h__law_name.b .nil pass0 (pa_cons (pv 0) (pa_cons (pv 1) (pa_cons pe_dnewK pa_nil)))))) pa_nil)))
  (pss_cons (ps_set (i := 3) sc__law_free_module.nd rfl (.inl rfl) (pe_lst pa_nil))
  (pss_cons (ps_for PassesOwn.never rfl (pi_range1 rfl m_range (pa_cons (pe_call G__law_take (hr.mono (by decide)) (by rfl) h__law_take.g h__law_take.F.kp h__law_take.b .nil pass0 (pa_cons (pv 0) (pa_cons (pv 1) (pa_cons pe_int pa_nil)))) pa_nil)) (pg_name (i := 4) sc__law_free_module.nd rfl (.inl rfl)) (pss_cons (ps_set (i := 5) sc__law_free_module.nd rfl (.inl rfl) (pe_callTy call_tuple_of (by rfl) m_tuple (by decide +kernel) (pa_cons (pe_lc (own := [("at", 14)]) rfl sc__law_free_module.nd (pi_range1 rfl m_range (pa_cons (pe_op op_add pe_int (pe_ix ix_list (pe_lst (pa_cons pe_int (pa_cons pe_int (pa_cons pe_int (pa_cons pe_int pa_nil))))) (pe_call G__law_take (hr.mono (by decide)) (by rfl) h__law_take.g h__law_take.F.kp h__law_take.b .nil pass0 (pa_cons (pv 0) (pa_cons (pv 1) (pa_cons pe_int pa_nil)))) (fun _ _ => rfl))) pa_nil)) (blkOk_by (N := ["row", "spot", "uses", "classes", "k", "parents", "fields", "kind", "generics", "takes", "methods", "params", "body", "name", "at"]) (sc := defScope s__law_free_module) (by decide +kernel)) (fun _ _ _ _ _ => by exact (pg_name (i := 14) sc__law_free_module.nd rfl (.inl rfl))) (fun _ _ _ _ _ => by exact pts_nil) (fun _ _ _ _ _ => by exact (pe_call G__law_free_named (hr.mono (by decide)) (by rfl) h__law_free_named.g h__law_free_named.F.kp h__law_free_named.b .nil pass0 (pa_cons (pv 0) (pa_cons (pv 1) (pa_cons pe_bl pa_nil)))))) pa_nil)))
  (pss_cons (ps_set (i := 6) sc__law_free_module.nd rfl (.inl rfl) (pe_callTy call_tuple_of (by rfl) m_tuple (by decide +kernel) (pa_cons (pe_lc (own := [("at", 14)]) rfl sc__law_free_module.nd (pi_range1 rfl m_range (pa_cons (pe_call G__law_take (hr.mono (by decide)) (by rfl) h__law_take.g h__law_take.F.kp h__law_take.b .nil pass0 (pa_cons (pv 0) (pa_cons (pv 1) (pa_cons pe_int pa_nil)))) pa_nil)) (blkOk_by (N := ["row", "spot", "uses", "classes", "k", "parents", "fields", "kind", "generics", "takes", "methods", "params", "body", "name", "at"]) (sc := defScope s__law_free_module) (by decide +kernel)) (fun _ _ _ _ _ => by exact (pg_name (i := 14) sc__law_free_module.nd rfl (.inl rfl))) (fun _ _ _ _ _ => by exact pts_nil) (fun _ _ _ _ _ => by exact (pe_tup (pa_cons (pe_call G__law_name (hr.mono (by decide)) (by rfl) h__law_name.g h__law_name.F.kp h__law_name.b .nil pass0 (pa_cons (pv 0) (pa_cons (pv 1) (pa_cons pe_dnewK pa_nil)))) (pa_cons (pe_call G__law_free_named (hr.mono (by decide)) (by rfl) h__law_free_named.g h__law_free_named.F.kp h__law_free_named.b .nil pass0 (pa_cons (pv 0) (pa_cons (pv 1) (pa_cons pe_bl pa_nil)))) pa_nil))))) pa_nil)))
  (pss_cons (ps_set (i := 7) sc__law_free_module.nd rfl (.inl rfl) (pe_ix ix_list (pe_lst (pa_cons pe_str (pa_cons pe_str pa_nil))) (pe_call G__law_take (hr.mono (by decide)) (by rfl) h__law_take.g h__law_take.F.kp h__law_take.b .nil pass0 (pa_cons (pv 0) (pa_cons (pv 1) (pa_cons pe_int pa_nil)))) (fun _ _ => rfl)))
  (pss_one (ps_expr (pe_bm PySem.F.plainAttrs_list PySem.F.slot_list_append PySem.F.type_list_append mt_append (pv 3) (pa_cons (pe_tup (pa_cons (pe_call G__law_word (hr.mono (by decide)) (by rfl) h__law_word.g h__law_word.F.kp h__law_word.b .nil pass0 (pa_cons (pv 0) (pa_cons (pv 1) (pa_cons pe_dnewK pa_nil)))) (pa_cons (pv 7) (pa_cons (pe_cmpR op_eq (pe_call G__law_take (hr.mono (by decide)) (by rfl) h__law_take.g h__law_take.F.kp h__law_take.b .nil pass0 (pa_cons (pv 0) (pa_cons (pv 1) (pa_cons pe_int pa_nil)))) pe_int (nomark _)) (pa_cons (pv 5) (pa_cons (pv 6) pa_nil)))))) pa_nil))))))))
  (pss_cons (ps_set (i := 8) sc__law_free_module.nd rfl (.inl rfl) (pe_lst pa_nil))
  (pss_cons (ps_for PassesOwn.never rfl (pi_range1 rfl m_range (pa_cons (pe_call G__law_take (hr.mono (by decide)) (by rfl) h__law_take.g h__law_take.F.kp h__law_take.b .nil pass0 (pa_cons (pv 0) (pa_cons (pv 1) (pa_cons pe_int pa_nil)))) pa_nil)) (pg_name (i := 4) sc__law_free_module.nd rfl (.inl rfl)) (pss_cons (ps_set (i := 9) sc__law_free_module.nd rfl (.inl rfl) (pe_callTy call_tuple_of (by rfl) m_tuple (by decide +kernel) (pa_cons (pe_lc (own := [("at", 14)]) rfl sc__law_free_module.nd (pi_range1 rfl m_range (pa_cons (pe_op op_add pe_int (pe_call G__law_take (hr.mono (by decide)) (by rfl) h__law_take.g h__law_take.F.kp h__law_take.b .nil pass0 (pa_cons (pv 0) (pa_cons (pv 1) (pa_cons pe_int pa_nil))))) pa_nil)) (blkOk_by (N := ["row", "spot", "uses", "classes", "k", "parents", "fields", "kind", "generics", "takes", "methods", "params", "body", "name", "at"]) (sc := defScope s__law_free_module) (by decide +kernel)) (fun _ _ _ _ _ => by exact (pg_name (i := 14) sc__law_free_module.nd rfl (.inl rfl))) (fun _ _ _ _ _ => by exact pts_nil) (fun _ _ _ _ _ => by exact (pe_call G__law_free_named (hr.mono (by decide)) (by rfl) h__law_free_named.g h__law_free_named.F.kp h__law_free_named.b .nil pass0 (pa_cons (pv 0) (pa_cons (pv 1) (pa_cons pe_bl pa_nil)))))) pa_nil)))
  (pss_one (ps_expr (pe_bm PySem.F.plainAttrs_list PySem.F.slot_list_append PySem.F.type_list_append mt_append (pv 8) (pa_cons (pe_tup (pa_cons (pe_call G__law_name (hr.mono (by decide)) (by rfl) h__law_name.g h__law_name.F.kp h__law_name.b .nil pass0 (pa_cons (pv 0) (pa_cons (pv 1) (pa_cons pe_dnewK pa_nil)))) (pa_cons (pv 9) (pa_cons (pe_op op_add pe_int (pe_call G__law_take (hr.mono (by decide)) (by rfl) h__law_take.g h__law_take.F.kp h__law_take.b .nil pass0 (pa_cons (pv 0) (pa_cons (pv 1) (pa_cons (pe_callB call_len_seq (by rfl) m_len PySem.boot_len (pa_cons (pv 9) pa_nil)) pa_nil))))) (pa_cons (pe_call G__law_free_named (hr.mono (by decide)) (by rfl) h__law_free_named.g h__law_free_named.F.kp h__law_free_named.b .nil pass0 (pa_cons (pv 0) (pa_cons (pv 1) (pa_cons pe_bl pa_nil)))) pa_nil))))) pa_nil))))))
  (pss_cons (ps_set (i := 10) sc__law_free_module.nd rfl (.inl rfl) (pe_lst pa_nil))
  (pss_cons (ps_for PassesOwn.never rfl (pi_range1 rfl m_range (pa_cons (pe_call G__law_take (hr.mono (by decide)) (by rfl) h__law_take.g h__law_take.F.kp h__law_take.b .nil pass0 (pa_cons (pv 0) (pa_cons (pv 1) (pa_cons pe_int pa_nil)))) pa_nil)) (pg_name (i := 4) sc__law_free_module.nd rfl (.inl rfl)) (pss_cons (ps_set (i := 11) sc__law_free_module.nd rfl (.inl rfl) (pe_callTy call_tuple_of (by rfl) m_tuple (by decide +kernel) (pa_cons (pe_lc (own := [("at", 14)]) rfl sc__law_free_module.nd (pi_range1 rfl m_range (pa_cons (pe_op op_add pe_int (pe_call G__law_take (hr.mono (by decide)) (by rfl) h__law_take.g h__law_take.F.kp h__law_take.b .nil pass0 (pa_cons (pv 0) (pa_cons (pv 1) (pa_cons pe_int pa_nil))))) pa_nil)) (blkOk_by (N := ["row", "spot", "uses", "classes", "k", "parents", "fields", "kind", "generics", "takes", "methods", "params", "body", "name", "at"]) (sc := defScope s__law_free_module) (by decide +kernel)) (fun _ _ _ _ _ => by exact (pg_name (i := 14) sc__law_free_module.nd rfl (.inl rfl))) (fun _ _ _ _ _ => by exact pts_nil) (fun _ _ _ _ _ => by exact (pe_tup (pa_cons (pe_call G__law_name (hr.mono (by decide)) (by rfl) h__law_name.g h__law_name.F.kp h__law_name.b .nil pass0 (pa_cons (pv 0) (pa_cons (pv 1) (pa_cons pe_dnewK pa_nil)))) (pa_cons (pe_call G__law_free_named (hr.mono (by decide)) (by rfl) h__law_free_named.g h__law_free_named.F.kp h__law_free_named.b .nil pass0 (pa_cons (pv 0) (pa_cons (pv 1) (pa_cons pe_bl pa_nil)))) pa_nil))))) pa_nil)))
  (pss_cons (ps_set (i := 12) sc__law_free_module.nd rfl (.inl rfl) (pe_call G__law_free_expr (hr.mono (by decide)) (by rfl) h__law_free_expr.g h__law_free_expr.F.kp h__law_free_expr.b .nil pass0 (pa_cons (pv 0) (pa_cons (pv 1) (pa_cons (pe_call G__law_take (hr.mono (by decide)) (by rfl) h__law_take.g h__law_take.F.kp h__law_take.b .nil pass0 (pa_cons (pv 0) (pa_cons (pv 1) (pa_cons pe_int pa_nil)))) pa_nil)))))
  (pss_one (ps_expr (pe_bm PySem.F.plainAttrs_list PySem.F.slot_list_append PySem.F.type_list_append mt_append (pv 10) (pa_cons (pe_tup (pa_cons (pe_call G__law_free_named (hr.mono (by decide)) (by rfl) h__law_free_named.g h__law_free_named.F.kp h__law_free_named.b .nil pass0 (pa_cons (pv 0) (pa_cons (pv 1) (pa_cons pe_bl pa_nil)))) (pa_cons (pv 11) (pa_cons (pe_ifExp (pt_cmpR op_lt (pe_call G__law_count (hr.mono (by decide)) (by rfl) h__law_count.g h__law_count.F.kp h__law_count.b .nil pass0 (pa_cons (pv 12) pa_nil)) pe_int (nomark _)) (pv 12) (pe_tup (pa_cons pe_str pa_nil))) pa_nil)))) pa_nil)))))))
  (pss_cons (ps_set (i := 13) sc__law_free_module.nd rfl (.inl rfl) (pe_ifExp (pt_cmpR op_eq (pe_call G__law_take (hr.mono (by decide)) (by rfl) h__law_take.g h__law_take.F.kp h__law_take.b .nil pass0 (pa_cons (pv 0) (pa_cons (pv 1) (pa_cons pe_int pa_nil)))) pe_int (nomark _)) pe_str (pe_call G__law_name (hr.mono (by decide)) (by rfl) h__law_name.g h__law_name.F.kp h__law_name.b .nil pass0 (pa_cons (pv 0) (pa_cons (pv 1) (pa_cons pe_dnewK pa_nil))))))
  (pss_one (ps_ret (pe_tup (pa_cons (pv 13) (pa_cons (pv 2) (pa_cons (pe_callTy call_tuple_of (by rfl) m_tuple (by decide +kernel) (pa_cons (pv 3) pa_nil)) (pa_cons (pe_callTy call_tuple_of (by rfl) m_tuple (by decide +kernel) (pa_cons (pv 8) pa_nil)) (pa_cons (pe_callTy call_tuple_of (by rfl) m_tuple (by decide +kernel) (pa_cons (pv 10) pa_nil)) pa_nil)))))))))))))))), ?_⟩
    have zl : ∀ {x : Nat}, x ≤ 1000 → x ≤ sizeLine := fun h => Nat.le_trans h (by decide)
    -- uses
    refine seq_merge (fun σ' H' => ∃ xu du, σ' = [some (.ref r), some (.ref sp), some xu, none, none, none, none, none, none, none, none, none, none, none, none] ∧ Dp K H' xu (.tuple du) ∧ du.length ≤ 4 ∧ (∀ d, d ∈ du → Sz 300 0 d) ∧ Sta r sp H' ∧ Fr [sp] H H') ?_ (fun kont => ?_)
    rotate_left
    · exact asgA (tup_data (K := K) (nb := 4) (Sz 300 0) (fun d h => sz_ont h) (by decide) st (rng_q rfl rfl (by decide) (by decide) (by decide) st) (fun _ => rfl)
        (fun x H1 R st1 f1 hR => fresh_q rfl rfl st1 fun z H2 hz st2 f2 => hR _ (.str z) H2 st2 f2 (.str z) (.str _ _ (by omega)))
        fun x ds H2 st2 f2 hx _ hl hk => nameA (kont _ _ ⟨x, ds, rfl, hx, hl, hk, st2, f2⟩))
    rintro σ' H1 ⟨xu, du, rfl, hxu, hlu, hku, st1, f1⟩
    refine seqA (asgA ⟨zl (Nat.le_of_ble_eq_true rfl), fun C hC => nameA ?_⟩)
    dsimp only
    have hC0 := none_back st1 f1 hC
    have cs := st1.sp_ne hC
    have cr := st1.r_ne hC
    have st2 := st1.new (o := .lst []) hC
    have f2 : Fr [sp] H (upd H1 C (.lst [])) := f1.upd hC0
    have hxu2 := dp_keep (same_upd (o := .lst []) hC) hxu
    have hCe : upd H1 C (.lst []) C = some (.lst []) := upd_same
    generalize upd H1 C (.lst []) = H2 at st2 f2 hxu2 hCe ⊢
    refine seq_merge (fun σ' H' => ∃ dc a b c d, σ' = [some (.ref r), some (.ref sp), some xu, some (.ref C), a, b, c, d, none, none, none, none, none, none, none] ∧ Dp K H' xu (.tuple du) ∧ Lst K 3 H' C dc ∧ Sta r sp H' ∧ Fr [sp] H H') ?_ (fun kont => ?_)
    rotate_left
    · refine for_data (K := K) (r := r) (sp := sp) (C := C) (nb := 6) (fun σ' => ∃ a b c d, σ' = [some (.ref r), some (.ref sp), some xu, some (.ref C), a, b, c, d, none, none, none, none, none, none, none]) (Sz 300 3) (fun d h => sz_ont h) (by decide) st2 hCe cr cs ⟨_, _, _, _, rfl⟩ (rng_q rfl rfl (by decide) (by decide) (by decide) st2) ?_ ?_
      · rintro x σ1 H3 acc D' ⟨a, b, c, d, rfl⟩ st3 f3 hC3 hacc fin
        refine nameA ?_
        refine seq_merge (fun σ' H' => ∃ x1 d1, σ' = [some (.ref r), some (.ref sp), some xu, some (.ref C), some x, some x1, c, d, none, none, none, none, none, none, none] ∧ Dp K H' x1 (.tuple d1) ∧ d1.length ≤ 12 ∧ (∀ d, d ∈ d1 → Sz 300 0 d) ∧ Sta r sp H' ∧ Fr [sp] H3 H') ?_ (fun kont1 => ?_)
        rotate_left
        · exact asgA (tup_data (K := K) (lo := 1) (nb := 12) (Sz 300 0) (fun d h => sz_ont h) (by decide) st3 (rng2_q rfl rfl st3) (fun _ => rfl)
            (fun x H4 R st4 f4 hR => nm_q rfl rfl st4 fun z H5 hz st5 f5 => hR _ (.str z) H5 st5 f5 (.str z) (.str _ _ (by omega)))
            fun x ds H4 st4 f4 hx _ hl hk => nameA (kont1 _ _ ⟨x, ds, rfl, hx, hl, hk, st4, f4⟩))
        rintro σ' H4 ⟨x1, d1, rfl, hx1, hl1, hk1, st4, f4⟩
        have ox1 : OnT (.tuple d1) := .tuple _ fun d m => sz_ont (hk1 d m)
        refine seq_merge (fun σ' H' => ∃ x2 d2, σ' = [some (.ref r), some (.ref sp), some xu, some (.ref C), some x, some x1, some x2, d, none, none, none, none, none, none, none] ∧ Dp K H' x1 (.tuple d1) ∧ Dp K H' x2 (.tuple d2) ∧ d2.length ≤ 3 ∧ (∀ d, d ∈ d2 → Sz 300 1 d) ∧ Sta r sp H' ∧ Fr [sp] H3 H') ?_ (fun kont2 => ?_)
        rotate_left
        · exact asgA (tup_data (K := K) (lo := 0) (nb := 3) (Sz 300 1) (fun d h => sz_ont h) (by decide) st4 (rng_q rfl rfl (by decide) (by decide) (by decide) st4) (fun _ => rfl)
            (fun x H5 R st5 f5 hR => pair_q rfl rfl st5 hR)
            fun x ds H5 st5 f5 hx _ hl hk => nameA (kont2 _ _ ⟨x, ds, rfl, dp_fr f5 st4.nt ox1 hx1, hx, hl, hk, st5, f4.trans f5⟩))
        rintro σ' H5 ⟨x2, d2, rfl, hx15, hx2, hl2, hk2, st5, f5⟩
        have ox2 : OnT (.tuple d2) := .tuple _ fun d m => sz_ont (hk2 d m)
        refine seq_merge (fun σ' H' => ∃ wv : Str, wv.length ≤ 300 ∧ σ' = [some (.ref r), some (.ref sp), some xu, some (.ref C), some x, some x1, some x2, some (.str wv), none, none, none, none, none, none, none] ∧ Dp K H' x1 (.tuple d1) ∧ Dp K H' x2 (.tuple d2) ∧ Sta r sp H' ∧ Fr [sp] H3 H') ?_ (fun kont3 => ?_)
        rotate_left
        · refine asgA ⟨zl (Nat.le_of_ble_eq_true rfl), fun p hp => tk_q rfl rfl (by decide) (st5.new hp) fun z H6 z0 z1 st6 f6 => ?_⟩
          obtain ⟨wv, hwl, hw⟩ := at2 z0 z1
          exact ⟨p, _, z, _, rfl, rfl, SqL.of (f6 p _ (nsp (st5.sp_ne hp)) upd_same), hw, nameA (kont3 _ _ ⟨wv, hwl, rfl, dp_fr f6 (st5.new hp).nt ox1 (dp_keep (same_upd hp) hx15), dp_fr f6 (st5.new hp).nt ox2 (dp_keep (same_upd hp) hx2), st6, (f5.trans (Fr.of (same_upd hp))).trans f6⟩)⟩
        rintro σ' H6 ⟨wv, hwl, rfl, hx16, hx26, st6, f6⟩
        refine ⟨.ref C, rfl, .inl ⟨rfl, _, SqL.of (f6 _ _ (nsp cs) hC3)⟩, fresh_q rfl rfl st6 fun z H7 hz st7 f7 => ⟨.str wv, rfl, tk_q rfl rfl (by decide) st7 fun t H8 t0 t1 st8 f8 => ⟨rfl, x1, rfl, x2, rfl, zl (Nat.le_of_ble_eq_true rfl), fun p hp => ⟨C, acc, _, rfl, rfl, ?_, hacc, ?_⟩⟩⟩⟩
        · exact same_upd hp _ _ (f8 _ _ (nsp cs) (f7 _ _ (nsp cs) (f6 _ _ (nsp cs) hC3)))
        · have g1 := dp_fr f8 st7.nt ox1 (dp_fr f7 st6.nt ox1 hx16)
          have g2 := dp_fr f8 st7.nt ox2 (dp_fr f7 st6.nt ox2 hx26)
          exact fin _ _ (.tuple [.str z, .str wv, .bool _, .tuple d1, .tuple d2]) _ ⟨_, _, _, _, rfl⟩ (st8.new hp) ((f6.trans (f7.trans f8)).trans (Fr.of (same_upd hp))) (dp_new hp (.cons (.str _) (.cons (.str _) (.cons (.bl _) (.cons g1 (.cons g2 .nil))))))
            (szs (n := 2) (mem5 (.str _ _ (by omega)) (.str _ _ hwl) (.bool _ _) (szs (n := 1) (fun d m => sz_mono (hk1 d m) (Nat.le_refl _) (by omega)) (by omega)) (szs (n := 1) hk2 (by omega))) (Nat.le_of_ble_eq_true rfl))
      · rintro σ2 acc ds H3 ⟨a, b, c, d, rfl⟩ st3 f3 hC3 hdp hl hk
        exact kont _ _ ⟨ds, a, b, c, d, rfl, dp_fr f3 (st2.nt3 hCe) (.tuple _ fun d m => sz_ont (hku d m)) hxu2, ⟨acc, hC3, hdp, by omega, hk⟩, st3, (f2.two.trans f3).drop hC0⟩
    rintro σ' H1 ⟨dc, a0, b, c, d, rfl, hxu1, hLc, st1, f1⟩
    have oxu : OnT (.tuple du) := .tuple _ fun d m => sz_ont (hku d m)
    refine seqA (asgA ⟨zl (Nat.le_of_ble_eq_true rfl), fun Gg hG => nameA ?_⟩)
    dsimp only
    have hG0 := none_back st1 f1 hG
    have gs := st1.sp_ne hG
    have gr := st1.r_ne hG
    have cg := hLc.ne hG
    have st2 := st1.new (o := .lst []) hG
    have f2 : Fr [sp] H (upd H1 Gg (.lst [])) := f1.upd hG0
    have hxu2 := dp_keep (same_upd (o := .lst []) hG) hxu1
    have hLc2 := hLc.new (o := .lst []) hG
    have hGe : upd H1 Gg (.lst []) Gg = some (.lst []) := upd_same
    generalize upd H1 Gg (.lst []) = H2 at st2 f2 hxu2 hGe hLc2 ⊢
    refine seq_merge (fun σ' H' => ∃ dg a t, σ' = [some (.ref r), some (.ref sp), some xu, some (.ref C), a, b, c, d, some (.ref Gg), t, none, none, none, none, none] ∧ Dp K H' xu (.tuple du) ∧ Lst K 3 H' C dc ∧ Lst K 2 H' Gg dg ∧ Sta r sp H' ∧ Fr [sp] H H') ?_ (fun kont => ?_)
    rotate_left
    · refine for_data (K := K) (r := r) (sp := sp) (C := Gg) (nb := 3) (fun σ' => ∃ a t, σ' = [some (.ref r), some (.ref sp), some xu, some (.ref C), a, b, c, d, some (.ref Gg), t, none, none, none, none, none]) (Sz 300 2) (fun d h => sz_ont h) (by decide) st2 hGe gr gs ⟨_, _, rfl⟩ (rng_q rfl rfl (by decide) (by decide) (by decide) st2) ?_ ?_
      · rintro x σ1 H3 acc D' ⟨a, t, rfl⟩ st3 f3 hC3 hacc fin
        refine nameA ?_
        refine seq_merge (fun σ' H' => ∃ x1 d1, σ' = [some (.ref r), some (.ref sp), some xu, some (.ref C), some x, b, c, d, some (.ref Gg), some x1, none, none, none, none, none] ∧ Dp K H' x1 (.tuple d1) ∧ 1 ≤ d1.length ∧ d1.length ≤ 3 ∧ (∀ d, d ∈ d1 → Sz 300 0 d) ∧ Sta r sp H' ∧ Fr [sp] H3 H') ?_ (fun kont1 => ?_)
        rotate_left
        · exact asgA (tup_data (K := K) (lo := 1) (nb := 3) (Sz 300 0) (fun d h => sz_ont h) (by decide) st3 (rng1_q rfl rfl (by decide) (by decide) (by decide) st3) (fun _ => rfl)
            (fun x H4 R st4 f4 hR => nm_q rfl rfl st4 fun z H5 hz st5 f5 => hR _ (.str z) H5 st5 f5 (.str z) (.str _ _ (by omega)))
            fun x ds H4 st4 f4 hx hlo hl hk => nameA (kont1 _ _ ⟨x, ds, rfl, hx, hlo, hl, hk, st4, f4⟩))
        rintro σ' H4 ⟨x1, d1, rfl, hx1, hlo1, hl1, hk1, st4, f4⟩
        have ox1 : OnT (.tuple d1) := .tuple _ fun d m => sz_ont (hk1 d m)
        obtain ⟨at1, ys, _, rfl, he, hq, hd⟩ := tu_of hx1 rfl
        obtain rfl := PyData.tuple.inj he
        have hyl := (dp_get hd).1
        refine ⟨.ref Gg, rfl, .inl ⟨rfl, _, SqL.of (f4 _ _ (nsp gs) hC3)⟩, fresh_q rfl rfl st4 fun z H5 hz st5 f5 => ⟨.ref at1, rfl, .ref r, rfl, .ref sp, rfl, .ref at1, rfl, at1, ys, rfl, .inr (sqt_fr f5 st4.nt hq), r, sp, _, rfl, st5, ?_, fun v H6 v0 v1 st6 f6 => ⟨1, v, rfl, rfl, nm_q rfl rfl st6 fun y H7 hy st7 f7 => ⟨zl (Nat.le_of_ble_eq_true rfl), fun p hp => ⟨Gg, acc, _, rfl, rfl, ?_, hacc, ?_⟩⟩⟩⟩⟩
        · omega
        · exact same_upd hp _ _ (f7 _ _ (nsp gs) (f6 _ _ (nsp gs) (f5 _ _ (nsp gs) (f4 _ _ (nsp gs) hC3))))
        · have g1 := dp_fr f7 st6.nt ox1 (dp_fr f6 st5.nt ox1 (dp_fr f5 st4.nt ox1 hx1))
          exact fin _ _ (.tuple [.str z, .tuple _, .int (1 + v), .str y]) _ ⟨_, _, rfl⟩ (st7.new hp) ((f4.trans (f5.trans (f6.trans f7))).trans (Fr.of (same_upd hp))) (dp_new hp (.cons (.str _) (.cons g1 (.cons (.int _) (.cons (.str _) .nil)))))
            (szs (n := 1) (mem4 (.str _ _ (by omega)) (szs (n := 0) hk1 (by omega)) (.int _ _) (.str _ _ (by omega))) (Nat.le_of_ble_eq_true rfl))
      · rintro σ2 acc ds H3 ⟨a, t, rfl⟩ st3 f3 hC3 hdp hl hk
        have nt := st2.nt3 hGe
        exact kont _ _ ⟨ds, a, t, rfl, dp_fr f3 nt oxu hxu2, hLc2.fr f3 nt (nsp2 cg cs), ⟨acc, hC3, hdp, by omega, hk⟩, st3, (f2.two.trans f3).drop hG0⟩
    rintro σ' H1 ⟨dg, a1, t, rfl, hxu1, hLc, hLg, st1, f1⟩
    refine seqA (asgA ⟨zl (Nat.le_of_ble_eq_true rfl), fun M hM => nameA ?_⟩)
    dsimp only
    have hM0 := none_back st1 f1 hM
    have ms := st1.sp_ne hM
    have mr := st1.r_ne hM
    have cm := hLc.ne hM
    have gm := hLg.ne hM
    have st2 := st1.new (o := .lst []) hM
    have f2 : Fr [sp] H (upd H1 M (.lst [])) := f1.upd hM0
    have hxu2 := dp_keep (same_upd (o := .lst []) hM) hxu1
    have hLc2 := hLc.new (o := .lst []) hM
    have hLg2 := hLg.new (o := .lst []) hM
    have hMe : upd H1 M (.lst []) M = some (.lst []) := upd_same
    generalize upd H1 M (.lst []) = H2 at st2 f2 hxu2 hMe hLc2 hLg2 ⊢
    refine seq_merge (fun σ' H' => ∃ dm a u v, σ' = [some (.ref r), some (.ref sp), some xu, some (.ref C), a, b, c, d, some (.ref Gg), t, some (.ref M), u, v, none, none] ∧ Dp K H' xu (.tuple du) ∧ Lst K 3 H' C dc ∧ Lst K 2 H' Gg dg ∧ Lst K 8 H' M dm ∧ Sta r sp H' ∧ Fr [sp] H H') ?_ (fun kont => ?_)
    rotate_left
    · refine for_data (K := K) (r := r) (sp := sp) (C := M) (nb := 8) (fun σ' => ∃ a u v, σ' = [some (.ref r), some (.ref sp), some xu, some (.ref C), a, b, c, d, some (.ref Gg), t, some (.ref M), u, v, none, none]) (Sz 300 8) (fun d h => sz_ont h) (by decide) st2 hMe mr ms ⟨_, _, _, rfl⟩ (rng_q rfl rfl (by decide) (by decide) (by decide) st2) ?_ ?_
      · rintro x σ1 H3 acc D' ⟨a, u, v, rfl⟩ st3 f3 hC3 hacc fin
        refine nameA ?_
        refine seq_merge (fun σ' H' => ∃ x1 d1, σ' = [some (.ref r), some (.ref sp), some xu, some (.ref C), some x, b, c, d, some (.ref Gg), t, some (.ref M), some x1, v, none, none] ∧ Dp K H' x1 (.tuple d1) ∧ d1.length ≤ 3 ∧ (∀ d, d ∈ d1 → Sz 300 1 d) ∧ Sta r sp H' ∧ Fr [sp] H3 H') ?_ (fun kont1 => ?_)
        rotate_left
        · exact asgA (tup_data (K := K) (lo := 1) (nb := 3) (Sz 300 1) (fun d h => sz_ont h) (by decide) st3 (rng1_q rfl rfl (by decide) (by decide) (by decide) st3) (fun _ => rfl)
            (fun x H4 R st4 f4 hR => pair_q rfl rfl st4 hR)
            fun x ds H4 st4 f4 hx _ hl hk => nameA (kont1 _ _ ⟨x, ds, rfl, hx, hl, hk, st4, f4⟩))
        rintro σ' H4 ⟨x1, d1, rfl, hx1, hl1, hk1, st4, f4⟩
        have ox1 : OnT (.tuple d1) := .tuple _ fun d m => sz_ont (hk1 d m)
        refine seq_merge (fun σ' H' => ∃ x2 d2, σ' = [some (.ref r), some (.ref sp), some xu, some (.ref C), some x, b, c, d, some (.ref Gg), t, some (.ref M), some x1, some x2, none, none] ∧ Dp K H' x1 (.tuple d1) ∧ Dp K H' x2 d2 ∧ Sz 300 7 d2 ∧ shapeE 7 d2 ∧ Sta r sp H' ∧ Fr [sp] H3 H') ?_ (fun kont2 => ?_)
        rotate_left
        · refine asgA ⟨.ref r, rfl, .ref sp, rfl, tk_q rfl rfl (by decide) st4 fun z H5 z0 z1 st5 f5 => ⟨z.toNat, r, sp, by omega, ?_, st5, fun x d H6 st6 f6 hx hz hs => nameA (kont2 _ _ ⟨x, d, rfl, dp_fr f6 st5.nt ox1 (dp_fr f5 st4.nt ox1 hx1), hx, sz_mono hz (Nat.le_refl _) (by omega), shape_mono _ _ _ (by omega) hs, st6, f4.trans (f5.trans f6)⟩)⟩⟩
          show [V.ref r, V.ref sp, V.int z] = [V.ref r, V.ref sp, V.int (z.toNat : Int)]
          rw [Int.toNat_of_nonneg z0]
        rintro σ' H5 ⟨x2, d2, rfl, hx15, hx2, hz2, hs2, st5, f5⟩
        have ox2 := sz_ont hz2
        refine ⟨.ref M, rfl, .inl ⟨rfl, _, SqL.of (f5 _ _ (nsp ms) hC3)⟩, nm_q rfl rfl st5 fun z H6 hz st6 f6 => ⟨x1, rfl, x2, rfl, x2, d2, rfl, dp_fr f6 st5.nt ox2 hx2, hs2, sz_ok hz2 (by decide), fun H7 s7 => ⟨_, 61, rfl, rfl, _, rfl, ite2 (fun _ => ⟨x2, rfl, zl (Nat.le_of_ble_eq_true rfl), fun p hp => ⟨M, acc, _, rfl, rfl, ?_, hacc, ?_⟩⟩) (fun _ => ⟨zl (Nat.le_of_ble_eq_true rfl), fun p2 hp2 => ⟨zl (Nat.le_of_ble_eq_true rfl), fun p hp => ⟨M, acc, _, rfl, rfl, ?_, hacc, ?_⟩⟩⟩)⟩⟩⟩
        · exact same_upd hp _ _ (s7 _ _ (f6 _ _ (nsp ms) (f5 _ _ (nsp ms) hC3)))
        · have g1 := dp_keep s7 (dp_fr f6 st5.nt ox1 hx15)
          have g2 := dp_keep s7 (dp_fr f6 st5.nt ox2 hx2)
          exact fin _ _ (.tuple [.str z, .tuple d1, d2]) _ ⟨_, _, _, rfl⟩ ((st6.same s7).new hp) ((f5.trans (f6.trans (Fr.of s7))).trans (Fr.of (same_upd hp))) (dp_new hp (.cons (.str _) (.cons g1 (.cons g2 .nil))))
            (szs (n := 7) (mem3 (.str _ _ (by omega)) (szs (n := 6) (fun d m => sz_mono (hk1 d m) (Nat.le_refl _) (by omega)) (by omega)) hz2) (Nat.le_of_ble_eq_true rfl))
        · exact same_upd hp _ _ (same_upd hp2 _ _ (s7 _ _ (f6 _ _ (nsp ms) (f5 _ _ (nsp ms) hC3))))
        · have g1 := dp_keep (same_upd (o := .tup [.str "next"]) hp2) (dp_keep s7 (dp_fr f6 st5.nt ox1 hx15))
          exact fin _ _ (.tuple [.str z, .tuple d1, .tuple [.str "next"]]) _ ⟨_, _, _, rfl⟩ (((st6.same s7).new hp2).new hp) (((f5.trans (f6.trans (Fr.of s7))).trans (Fr.of (same_upd hp2))).trans (Fr.of (same_upd hp))) (dp_new hp (.cons (.str _) (.cons g1 (.cons (dp_new hp2 (.cons (.str _) .nil)) .nil))))
            (szs (n := 7) (mem3 (.str _ _ (by omega)) (szs (n := 6) (fun d m => sz_mono (hk1 d m) (Nat.le_refl _) (by omega)) (by omega)) (szs (n := 6) (fun d m => by rcases List.mem_singleton.mp m with rfl; exact .str _ _ (Nat.le_of_ble_eq_true rfl)) (Nat.le_of_ble_eq_true rfl))) (Nat.le_of_ble_eq_true rfl))
      · rintro σ2 acc ds H3 ⟨a, u, v, rfl⟩ st3 f3 hC3 hdp hl hk
        have nt := st2.nt3 hMe
        exact kont _ _ ⟨ds, a, u, v, rfl, dp_fr f3 nt oxu hxu2, hLc2.fr f3 nt (nsp2 cm cs), hLg2.fr f3 nt (nsp2 gm gs), ⟨acc, hC3, hdp, by omega, hk⟩, st3, (f2.two.trans f3).drop hM0⟩
    rintro σ' H1 ⟨dm, a2, u, v, rfl, hxu1, hLc, hLg, hLm, st1, f1⟩
    refine seq_merge (fun σ' H' => ∃ z : Str, z.length ≤ 100 ∧ σ' = [some (.ref r), some (.ref sp), some xu, some (.ref C), a2, b, c, d, some (.ref Gg), t, some (.ref M), u, v, some (.str z), none] ∧ Dp K H' xu (.tuple du) ∧ Lst K 3 H' C dc ∧ Lst K 2 H' Gg dg ∧ Lst K 8 H' M dm ∧ Sta r sp H' ∧ Fr [sp] H H') ?_ (fun kont => ?_)
    rotate_left
    · refine asgA (tk_q rfl rfl (by decide) st1 fun z H2 z0 z1 st2 f2 => ⟨rfl, _, rfl, ite2 (fun _ => ?_) (fun _ => ?_)⟩)
      · exact nameA (kont _ _ ⟨"base", Nat.le_of_ble_eq_true rfl, rfl, dp_fr f2 st1.nt oxu hxu1, hLc.fr f2 st1.nt (nsp cs), hLg.fr f2 st1.nt (nsp gs), hLm.fr f2 st1.nt (nsp ms), st2, f1.trans f2⟩)
      · refine fresh_q rfl rfl st2 fun y H3 hy st3 f3 => ?_
        have f4 := f2.trans f3
        exact nameA (kont _ _ ⟨y, hy, rfl, dp_fr f4 st1.nt oxu hxu1, hLc.fr f4 st1.nt (nsp cs), hLg.fr f4 st1.nt (nsp gs), hLm.fr f4 st1.nt (nsp ms), st3, f1.trans f4⟩)
    rintro σ' H2 ⟨z, hz, rfl, hxu2, ⟨ac, c1, c2, c3, c4⟩, ⟨ag, g1, g2, g3, g4⟩, ⟨am, m1, m2, m3, m4⟩, st2, f2⟩
    refine retA ⟨.str z, rfl, xu, rfl, .ref C, rfl, C, ac, rfl, .inl ⟨SqL.of c1, fun p1 hp1 => ⟨.ref Gg, rfl, Gg, ag, rfl, .inl ⟨SqL.of (same_upd hp1 _ _ g1), fun p2 hp2 => ⟨.ref M, rfl, M, am, rfl, .inl ⟨SqL.of (same_upd hp2 _ _ (same_upd hp1 _ _ m1)), fun p3 hp3 => ⟨zl (Nat.le_of_ble_eq_true rfl), fun p hp => ?_⟩⟩⟩⟩⟩⟩⟩
    have s12 := same_upd (o := .tup ag) hp2
    have s23 := same_upd (o := .tup am) hp3
    have e1 := dp_keep s23 (dp_keep s12 (dp_new hp1 c2))
    have e2 := dp_keep s23 (dp_new hp2 (dps_keep (same_upd hp1) g2))
    have e3 := dp_new hp3 (dps_keep s12 (dps_keep (same_upd hp1) m2))
    have e0 := dp_keep s23 (dp_keep s12 (dp_keep (same_upd (o := .tup ac) hp1) hxu2))
    exact q _ (.tuple [.str z, .tuple du, .tuple dc, .tuple dg, .tuple dm]) _ ((((st2.new hp1).new hp2).new hp3).new hp) ((((f2.trans (Fr.of (same_upd hp1))).trans (Fr.of s12)).trans (Fr.of s23)).trans (Fr.of (same_upd hp))) (dp_new hp (.cons (.str _) (.cons e0 (.cons e1 (.cons e2 (.cons e3 .nil))))))
      (szs (n := 9) (mem5 (.str _ _ (by omega)) (szs (n := 8) (fun d m => sz_mono (hku d m) (Nat.le_refl _) (by omega)) (by omega)) (szs (n := 8) (fun d m => sz_mono (c4 d m) (Nat.le_refl _) (by omega)) (by omega)) (szs (n := 8) (fun d m => sz_mono (g4 d m) (Nat.le_refl _) (by omega)) (by omega)) (szs (n := 8) m4 (by omega))) (Nat.le_of_ble_eq_true rfl))
end
end Cw

set_option Elab.async false
set_option linter.all false
set_option maxRecDepth 100000
set_option maxHeartbeats 4000000
namespace Cw
open PySem PySem.Spec PyProof.Rows L2
def rAddDB : R2 := fun x y H Q => (∃ i j, x = .int i ∧ y = .int j ∧ Q (.int (i + j)) H) ∨ (∃ k j, x = .bl k ∧ y = .int j ∧ Q (.int ((if k = true then (1 : Int) else 0) + j)) H)
theorem op_addDB {X : Cx} : OpR X (binaryOp .Add) rAddDB := by
  intro pins s σ H x y v u Q I rx ry h
  rcases h with ⟨i, j, rfl, rfl, q⟩ | ⟨k, j, rfl, rfl, q⟩
  · exact op_add pins s σ H _ _ v u Q I rx ry ⟨i, j, rfl, rfl, q⟩
  · cases rx
    obtain ⟨t, rfl⟩ := ry
    exact PySem.IntBool.add_bool_int ⟨.int _, H, I.tok _, ⟨_, rfl⟩, q⟩
def spChg (K : PySem.W.Frag) : Nat → Sp
  | 0 => fun _ _ _ _ => False
  | n + 1 => fun vs H Q _ => ∃ (r sp : Addr) (x : V) (d : PyData) (k : Nat), vs = [.ref r, .ref sp, x] ∧ Sta r sp H ∧ Dp K H x d ∧ Sz k n d ∧ 10 ≤ k ∧ k ≤ 10000 ∧ ∀ x' d' H', Sta r sp H' → Fr [sp] H H' → Dp K H' x' d' → Sz (3 * k) (n + 1) d' → Q x' H'
theorem dps_drop {K : PySem.W.Frag} {H : Hp} : ∀ (n : Nat) {xs : List V} {ds : List PyData}, DpAll K H xs ds → DpAll K H (xs.drop n) (ds.drop n)
  | 0, _, _, h => h
  | _ + 1, _, _, .nil => .nil
  | n + 1, _, _, .cons _ t => dps_drop n t
theorem dps_tk {K : PySem.W.Frag} {H : Hp} : ∀ (n : Nat) {xs : List V} {ds : List PyData}, DpAll K H xs ds → DpAll K H (xs.take n) (ds.take n)
  | 0, _, _, _ => .nil
  | _ + 1, _, _, .nil => .nil
  | n + 1, _, _, .cons h t => .cons h (dps_tk n t)
theorem cat_data {K : PySem.W.Frag} {x y : V} {ds es : List PyData} {H : Hp} {Q : VK} (hx : Dp K H x (.tuple ds)) (hy : Dp K H y (.tuple es)) (hl : ds.length + es.length ≤ 100000) (q : ∀ z H', Same H H' → Dp K H' z (.tuple (ds ++ es)) → Q z H') : rCatA K x y H Q := by
  obtain ⟨a, xs, _, rfl, e1, h1, h2⟩ := tu_of hx rfl
  obtain rfl := PyData.tuple.inj e1
  obtain ⟨b, ys, _, rfl, e2, h3, h4⟩ := tu_of hy rfl
  obtain rfl := PyData.tuple.inj e2
  refine ⟨a, b, xs, ys, rfl, rfl, h1, h3, ?_, fun e => ?_, fun _ e => ?_, fun _ _ p hp => q _ _ (same_upd hp) (dp_new hp (dps_app h2 h4))⟩
  · rw [(dp_get h2).1, (dp_get h4).1]
    exact Nat.le_trans hl (by decide)
  · subst e
    cases h2
    exact q _ H (Same.refl H) hy
  · subst e
    cases h4
    refine q _ H (Same.refl H) ?_
    rw [List.append_nil]
    exact hx
theorem sl_data {K : PySem.W.Frag} {x : V} {ds : List PyData} {H : Hp} {Q : VK} {lo hi : Option Int} (hx : Dp K H x (.tuple ds)) (q : ∀ z es H', Same H H' → Dp K H' z (.tuple es) → es.length ≤ ds.length → (∀ d, d ∈ es → d ∈ ds) → Q z H') : rSlA K x lo hi H Q := by
  obtain ⟨a, xs, _, rfl, e1, h1, h2⟩ := tu_of hx rfl
  obtain rfl := PyData.tuple.inj e1
  refine ⟨a, xs, rfl, h1, fun _ => q _ _ H (Same.refl H) hx (Nat.le_refl _) (fun _ m => m), fun _ p hp => ?_⟩
  have hc := dps_tk (HT.sIx xs.length xs.length hi - HT.sIx xs.length 0 lo) (dps_drop (HT.sIx xs.length 0 lo) h2)
  refine q _ _ _ (same_upd hp) (dp_new hp hc) ?_ fun d m => List.mem_of_mem_drop (List.mem_of_mem_take m)
  rw [List.length_take, List.length_drop]
  omega
theorem len0_q {K : PySem.W.Frag} {σ : L2.St} {H : Hp} {Q : Bool → Hp → Prop} {x : V} {d : PyData} (e : σ[2]? = some (some x)) (hx : Dp K H x d) (ht : isTu d = true) (q : Q (decide (0 < (items d).length)) H) :
    tTest (tOp (rI0 fun i j => V.bl (decide (j < i))) (tCB (fun xs H Q => ∃ p ys, xs = [V.ref p] ∧ (SqL K H p ys ∨ SqT K H p ys) ∧ Q (V.int (ys.length : Nat)) H) (tCons (tVar 2) tNil)) (tC (V.int 0))) σ H Q := by
  obtain ⟨a, xs, ds, rfl, rfl, hq, hd⟩ := tu_of hx ht
  refine ⟨.ref a, e, a, xs, rfl, .inr hq, _, 0, rfl, rfl, _, rfl, ?_⟩
  have e1 : decide ((0 : Int) < (xs.length : Int)) = decide (0 < (items (.tuple ds)).length) := decide_eq_decide.mpr (by
    show (0 : Int) < (xs.length : Int) ↔ 0 < ds.length
    rw [(dp_get hd).1]
    omega)
  rw [e1]
  exact q
/-- one of a written row of data -/
theorem pick_q {K : PySem.W.Frag} {σ : L2.St} {r sp : Addr} {lim : Int} {kk : Nat} {ys : List V} {H : Hp} {Q : VK} (e0 : σ[0]? = some (some (.ref r))) (e1 : σ[1]? = some (some (.ref sp))) (st : Sta r sp H) (hl : (ys.length : Int) = lim) (hl0 : 0 < lim) (hl1 : lim ≤ 1000)
    (hy : ∀ v, v ∈ ys → ∃ d, Dp K H v d ∧ Sz kk 1 d) (q : ∀ v d H2, Sta r sp H2 → Fr [sp] H H2 → Dp K H2 v d → Sz kk 1 d → Q v H2) :
    ys.length ≤ sizeLine ∧ ∀ p, H p = none → (fun x H1 => tCall (spTk K) [] E0 (tCons (tVar 0) (tCons (tVar 1) (tCons (tC (.int lim)) tNil))) σ H1 fun y H2 => rIxL K x y H2 Q) (.ref p) (upd H p (.lst ys)) := by
  refine ⟨Nat.le_trans (by omega : ys.length ≤ 1000) (by decide), fun p hp => tk_q e0 e1 hl0 (st.new hp) fun z H2 z0 z1 st2 f2 => ?_⟩
  obtain ⟨v, hv⟩ := at_in (l := ys) z0 (by omega)
  obtain ⟨j, rfl⟩ := Int.eq_ofNat_of_zero_le z0
  have hj : j < ys.length := by omega
  obtain rfl : ys[j] = v := Option.some.inj ((atI_nat (List.getElem?_eq_getElem hj)).symm.trans hv)
  obtain ⟨d, h1, h2⟩ := hy _ (List.getElem_mem hj)
  refine ⟨p, ys, (j : Int), _, rfl, rfl, SqL.of (f2 p _ (nsp (st.sp_ne hp)) upd_same), hv, ?_⟩
  exact q _ d H2 st2 ((Fr.of (same_upd hp)).trans f2) (dp_fr f2 (st.new hp).nt (sz_ont h2) (dp_keep (same_upd hp) h1)) h2
section
variable {P : Program} {w : World} {K : PySem.W.Frag} {mg : Str → Option Value} {base : Heap} {S : Addr → Option Sp}
abbrev s__law_part_changed : Stmt := topS 62
theorem sc__law_part_changed : FnScope ["row", "spot", "value", "at", "kind"] ["row", "spot", "value"] (defScope s__law_part_changed) := ⟨rfl, rfl, rfl, by decide +kernel, rfl, by decide +kernel, by decide +kernel⟩
theorem ok__law_part_changed {f : Addr} {fd : FuncData} (F : Fun K "_law_part_changed" "_law_part_changed" s__law_part_changed f fd) {f__law_take : Addr} {d__law_take : FuncData} (h__law_take : Hd K mg "_law_take" s__law_take ["row", "spot", "limit"] f__law_take d__law_take) (G__law_take : FnOk P w K mg base CX0 2 f__law_take d__law_take ["row", "spot", "limit"] (spTk K)) (m_isinstance : mg "isinstance" = none) (m_tuple : mg "tuple" = none) (m_len : mg "len" = none) (m_str : mg "str" = none) (m_int : mg "int" = none) (bF : Binds K fd ["row", "spot", "value"] []) (gF : mg "_law_part_changed" = some (.ref f)) : ∀ n, FnOk P w K mg base CX0 (3 + n) f fd ["row", "spot", "value"] (spChg K n)
  | 0 => ⟨fun _ _ _ _ h => h.elim, fun _ _ _ _ _ _ _ _ _ _ _ _ _ h => h.elim⟩
  | n + 1 => by
    have G := ok__law_part_changed F h__law_take G__law_take m_isinstance m_tuple m_len m_str m_int bF gF n
    refine F.ok sc__law_part_changed (fun vs H Q E h => ?_) (fun cdv A outer s H vs Q E hr h => ?_)
    · obtain ⟨_, _, _, _, _, rfl, _⟩ := h
      rfl
    · obtain ⟨r, sp, x, d, k, rfl, st, hx, hz, k0, k1, q⟩ := h
      refine ⟨_, (pss_cons (ps_if (PW.pt (pw_and (pt_val (pe_callB call_isi (by rfl) m_isinstance (by decide +kernel) (pa_cons (pv 2) (pa_cons (pe_bltn (v := .ty "tuple") (by rfl) m_tuple (by decide +kernel) rfl) pa_nil)))) (pw_and (pt_cmpR op_gt (pe_callB call_len_seq (by rfl) m_len PySem.boot_len (pa_cons (pv 2) pa_nil)) pe_int (nomark _)) (pw_and1 (pt_cmpR op_gt (pe_call G__law_take (hr.mono (Nat.le_trans (by decide) (Nat.le_add_right 3 n))) (by rfl) h__law_take.g h__law_take.F.kp h__law_take.b .nil pass0 (pa_cons (pv 0) (pa_cons (pv 1) (pa_cons pe_int pa_nil)))) pe_int (nomark _)))))) (pss_cons (ps_set (i := 3) sc__law_part_changed.nd rfl (.inl rfl) (pe_call G__law_take (hr.mono (Nat.le_trans (by decide) (Nat.le_add_right 3 n))) (by rfl) h__law_take.g h__law_take.F.kp h__law_take.b .nil pass0 (pa_cons (pv 0) (pa_cons (pv 1) (pa_cons (pe_callB call_len_seq (by rfl) m_len PySem.boot_len (pa_cons (pv 2) pa_nil)) pa_nil)))))
  (pss_one (ps_ret (pe_op op_catA (pe_op op_catA (pe_slice sl_tupA (pv 2) po_none (po_some (pv 3))) (pe_tup (pa_cons (pe_call G hr (by rfl) gF F.kp bF .nil pass0 (pa_cons (pv 0) (pa_cons (pv 1) (pa_cons (pe_ix ix_tup (pv 2) (pv 3) (fun _ _ => rfl)) pa_nil)))) pa_nil))) (pe_slice sl_tupA (pv 2) (po_some (pe_op op_add (pv 3) pe_int)) po_none))))) pss_nil)
  (pss_cons (ps_set (i := 4) sc__law_part_changed.nd rfl (.inl rfl) (pe_call G__law_take (hr.mono (Nat.le_trans (by decide) (Nat.le_add_right 3 n))) (by rfl) h__law_take.g h__law_take.F.kp h__law_take.b .nil pass0 (pa_cons (pv 0) (pa_cons (pv 1) (pa_cons pe_int pa_nil)))))
  (pss_cons (ps_if (PW.pt (pw_and (pt_val (pe_callB call_isi (by rfl) m_isinstance (by decide +kernel) (pa_cons (pv 2) (pa_cons (pe_bltn (v := .ty "tuple") (by rfl) m_tuple (by decide +kernel) rfl) pa_nil)))) (pw_and (pt_cmpR op_eq (pv 4) pe_int (nomark _)) (pw_and1 (pt_cmpR op_gt (pe_callB call_len_seq (by rfl) m_len PySem.boot_len (pa_cons (pv 2) pa_nil)) pe_int (nomark _)))))) (pss_one (ps_ret (pe_op op_catA (pv 2) (pe_slice sl_tupA (pv 2) po_none (po_some pe_int))))) pss_nil)
  (pss_cons (ps_if (PW.pt (pw_and (pt_val (pe_callB call_isi (by rfl) m_isinstance (by decide +kernel) (pa_cons (pv 2) (pa_cons (pe_bltn (v := .ty "tuple") (by rfl) m_tuple (by decide +kernel) rfl) pa_nil)))) (pw_and (pt_cmpR op_eq (pv 4) pe_int (nomark _)) (pw_and1 (pt_cmpR op_gt (pe_callB call_len_seq (by rfl) m_len PySem.boot_len (pa_cons (pv 2) pa_nil)) pe_int (nomark _)))))) (pss_one (ps_ret (pe_slice sl_tupA (pv 2) (po_some pe_int) po_none))) pss_nil)
  (pss_cons (ps_if (PW.pt (pw_and (pt_val (pe_callB call_isi (by rfl) m_isinstance (by decide +kernel) (pa_cons (pv 2) (pa_cons (pe_bltn (v := .ty "str") (by rfl) m_str (by decide +kernel) rfl) pa_nil)))) (pw_and1 (pt_cmpR op_lt (pv 4) pe_int (nomark _))))) (pss_one (ps_ret (pe_ix ix_list (pe_lst (pa_cons (pe_upper (pv 2)) (pa_cons (pe_op op_add_str (pv 2) pe_str) (pa_cons (pe_op op_add_str (pv 2) pe_str) (pa_cons (pe_slice sl_str (pv 2) (po_some pe_int) po_none) (pa_cons pe_str (pa_cons (pe_op op_add_str (pv 2) pe_str) (pa_cons (pe_op op_add_str pe_str (pv 2)) pa_nil)))))))) (pe_call G__law_take (hr.mono (Nat.le_trans (by decide) (Nat.le_add_right 3 n))) (by rfl) h__law_take.g h__law_take.F.kp h__law_take.b .nil pass0 (pa_cons (pv 0) (pa_cons (pv 1) (pa_cons pe_int pa_nil)))) (fun _ _ => rfl)))) pss_nil)
  (pss_cons (ps_if (PW.pt (pw_and (pt_val (pe_callB call_isi (by rfl) m_isinstance (by decide +kernel) (pa_cons (pv 2) (pa_cons (pe_bltn (v := .ty "int") (by rfl) m_int (by decide +kernel) rfl) pa_nil)))) (pw_and1 (pt_cmpR op_lt (pv 4) pe_int (nomark _))))) (pss_one (ps_ret (pe_ix ix_list (pe_lst (pa_cons (pe_op op_addDB (pv 2) pe_int) (pa_cons (pe_un un_neg pe_int) (pa_cons pe_int (pa_cons pe_int (pa_cons pe_non (pa_cons pe_bl pa_nil))))))) (pe_call G__law_take (hr.mono (Nat.le_trans (by decide) (Nat.le_add_right 3 n))) (by rfl) h__law_take.g h__law_take.F.kp h__law_take.b .nil pass0 (pa_cons (pv 0) (pa_cons (pv 1) (pa_cons pe_int pa_nil)))) (fun _ _ => rfl)))) pss_nil)
  (pss_one (ps_ret (pe_ix ix_list (pe_lst (pa_cons pe_non (pa_cons pe_int (pa_cons pe_bl (pa_cons pe_str (pa_cons pe_str (pa_cons (pe_tup pa_nil) (pa_cons (pe_tup (pa_cons pe_str pa_nil)) (pa_cons pe_str (pa_cons pe_str (pa_cons (pe_tup (pa_cons pe_str (pa_cons pe_int pa_nil))) pa_nil))))))))))) (pe_call G__law_take (hr.mono (Nat.le_trans (by decide) (Nat.le_add_right 3 n))) (by rfl) h__law_take.g h__law_take.F.kp h__law_take.b .nil pass0 (pa_cons (pv 0) (pa_cons (pv 1) (pa_cons pe_int pa_nil)))) (fun _ _ => rfl)))))))))), ?_⟩
      have zl : ∀ {x : Nat}, x ≤ 100000 → x ≤ sizeLine := fun h => Nat.le_trans h (by decide)
      have od := sz_ont hz
      refine seq_merge (fun σ' H' => σ' = [some (.ref r), some (.ref sp), some x, none, none] ∧ Dp K H' x d ∧ Sta r sp H' ∧ Fr [sp] H H') ?_ (fun kont => ?_)
      rotate_left
      · refine ifA (r_isi rfl hx (kb_tu d) ?_)
        cases etu : isTu d with
        | false => exact iteF (iteF (nextA (kont _ _ ⟨rfl, hx, st, Fr.refl H⟩)))
        | true =>
        refine iteT (len0_q rfl hx etu (ite2 (fun e => ?_) (fun e => iteF (nextA (kont _ _ ⟨rfl, hx, st, Fr.refl H⟩)))))
        refine tk_q rfl rfl (by decide) st fun z H1 z0 z1 st1 f1 => ⟨z, 0, rfl, rfl, _, rfl, ite2 (fun e2 => ?_) (fun e2 => nextA (kont _ _ ⟨rfl, dp_fr f1 st.nt od hx, st1, f1⟩))⟩
        have hx1 := dp_fr f1 st.nt od hx
        obtain ⟨a, xs, ds, rfl, rfl, hq, hd⟩ := tu_of hx1 etu
        have hlen := (dp_get hd).1
        have hpos : 0 < ds.length := of_decide_eq_true e
        match n, hz, G with
        | m + 1, hz, G =>
        obtain ⟨hdk, hzs⟩ : ds.length ≤ k ∧ ∀ d, d ∈ ds → Sz k m d := by
          cases hz with
          | tuple _ _ h t => exact ⟨h, t⟩
        refine seqA (asgA ⟨.ref r, rfl, .ref sp, rfl, .ref a, rfl, a, xs, rfl, .inr hq, r, sp, _, rfl, st1, by omega, fun v H2 v0 v1 st2 f2 => nameA ?_⟩)
        dsimp only
        obtain ⟨j, rfl⟩ := Int.eq_ofNat_of_zero_le v0
        have hj : j < ds.length := by omega
        obtain ⟨xv, hxv, hdv⟩ := (dp_get hd).2 j ds[j] (List.getElem?_eq_getElem hj)
        have hx2 := dp_fr f2 st1.nt od hx1
        have ov := sz_ont (hzs _ (List.getElem_mem hj))
        have hv2 := dp_fr f2 st1.nt ov hdv
        have hq2 := sqt_fr f2 st1.nt hq
        refine retA ⟨.ref a, rfl, .int (j : Int), rfl, _, rfl, sl_data hx2 fun y1 es1 H3 s3 hy1 l1 m1 => ?_⟩
        have o1 : OnT (.tuple es1) := .tuple _ fun d m => ont_mem od (m1 d m)
        refine ⟨.ref r, rfl, .ref sp, rfl, .ref a, rfl, .int (j : Int), rfl, a, xs, (j : Int), xv, rfl, rfl, sqt_keep s3 hq2, atI_nat hxv, r, sp, xv, ds[j], k, rfl, st2.same s3, dp_keep s3 hv2, hzs _ (List.getElem_mem hj), k0, k1, fun x' d' H4 st4 f4 hx' hz' => ?_⟩
        refine ⟨zl (Nat.le_of_ble_eq_true rfl), fun p hp => ?_⟩
        have hy14 := dp_keep (same_upd (o := .tup [x']) hp) (dp_fr f4 (st2.same s3).nt o1 hy1)
        have hx4 := dp_keep (same_upd (o := .tup [x']) hp) (dp_fr f4 (st2.same s3).nt od (dp_keep s3 hx2))
        refine cat_data hy14 (dp_new hp (.cons hx' .nil)) (by show es1.length + 1 ≤ _; omega) fun y2 H5 s5 hy2 => ?_
        refine ⟨.ref a, rfl, .int (j : Int), rfl, _, 1, rfl, rfl, _, rfl, ?_⟩
        dsimp only [tNoPart]
        refine sl_data (dp_keep s5 hx4) fun y3 es3 H6 s6 hy3 l3 m3 => ?_
        refine cat_data (dp_keep s6 hy2) hy3 (by rw [List.length_append]; show es1.length + 1 + es3.length ≤ _; omega) fun y4 H7 s7 hy4 => ?_
        refine q y4 _ H7 ((((st4.new hp).same s5).same s6).same s7) (f1.trans (f2.trans ((Fr.of s3).trans (f4.trans ((Fr.of (same_upd hp)).trans ((Fr.of s5).trans ((Fr.of s6).trans (Fr.of s7)))))))) hy4 ?_
        refine .tuple _ _ (by rw [List.length_append, List.length_append]; show es1.length + 1 + es3.length ≤ _; omega) fun e m => ?_
        rcases List.mem_append.mp m with m | m
        · rcases List.mem_append.mp m with m | m
          · exact sz_mono (hzs _ (m1 e m)) (by omega) (by omega)
          · rcases List.mem_singleton.mp m with rfl
            exact hz'
        · exact sz_mono (hzs _ (m3 e m)) (by omega) (by omega)
      rintro σ' H1 ⟨rfl, hx1, st1, f1⟩
      refine seqA (asgA (tk_q rfl rfl (by decide) st1 fun kd H2 kd0 kd1 st2 f2 => nameA ?_))
      dsimp only
      have hx2 := dp_fr f2 st1.nt od hx1
      have f02 := f1.trans f2
      clear hx1 hx
      have tdat : isTu d = true → ∃ ds, d = .tuple ds ∧ ds.length ≤ k ∧ ∀ e, e ∈ ds → Sz k (n - 1) e ∧ 1 ≤ n := fun e => by
        cases hz with
        | tuple m l h t => exact ⟨l, rfl, h, fun d hd => ⟨by simpa using t d hd, by omega⟩⟩
        | _ => cases e
      refine seqA (ifA (and_q (b := isTu d) (c := decide (kd = 0) && decide (0 < (items d).length)) (fun R hR => r_isi rfl hx2 (kb_tu d) hR) (fun hb R hR => and_q (fun R hR => eqi_q rfl hR) (fun _ R hR => len0_q rfl hx2 hb hR) hR) (ite2 (fun e => retA ?_) (fun e3 => nextA ?_))))
      · obtain ⟨ds, rfl, hdk, hzs⟩ := tdat (by cases h : isTu d with | true => rfl | false => rw [h] at e; cases e)
        refine ⟨x, rfl, x, rfl, 1, rfl, ?_⟩
        show rSlA K x none _ H2 _
        refine sl_data hx2 fun y1 es1 H3 s3 hy1 l1 m1 => ?_
        refine cat_data (dp_keep s3 hx2) hy1 (by omega) fun y2 H4 s4 hy2 => ?_
        refine q y2 _ H4 ((st2.same s3).same s4) (f02.trans ((Fr.of s3).trans (Fr.of s4))) hy2 (.tuple _ _ (by rw [List.length_append]; omega) fun e m => ?_)
        have hm : e ∈ ds := by
          rcases List.mem_append.mp m with m | m
          · exact m
          · exact m1 e m
        exact sz_mono (hzs e hm).1 (by omega) (by omega)
      dsimp only
      refine seqA (ifA (and_q (b := isTu d) (c := decide (kd = 1) && decide (0 < (items d).length)) (fun R hR => r_isi rfl hx2 (kb_tu d) hR) (fun hb R hR => and_q (fun R hR => eqi_q rfl hR) (fun _ R hR => len0_q rfl hx2 hb hR) hR) (ite2 (fun e => retA ?_) (fun e4 => nextA ?_))))
      · obtain ⟨ds, rfl, hdk, hzs⟩ := tdat (by cases h : isTu d with | true => rfl | false => rw [h] at e; cases e)
        refine ⟨x, rfl, 1, rfl, ?_⟩
        show rSlA K x _ none H2 _
        refine sl_data hx2 fun y1 es1 H3 s3 hy1 l1 m1 => ?_
        exact q y1 _ H3 (st2.same s3) (f02.trans (Fr.of s3)) hy1 (.tuple _ _ (by omega) fun e m => sz_mono (hzs e (m1 e m)).1 (by omega) (by omega))
      dsimp only
      have lt2 : ∀ {R : Bool → Hp → Prop}, R (decide (kd < 2)) H2 → tTest (tOp (rI0 fun i j => V.bl (decide (i < j))) (tVar 4) (tC (V.int 2))) ([some (V.ref r), some (V.ref sp), some x, none, none].set 4 (some (V.int kd))) H2 R := fun {R} hR => ⟨.int kd, rfl, kd, 2, rfl, rfl, _, rfl, hR⟩
      refine seqA (ifA (and_q (b := isSt d) (c := decide (kd < 2)) (fun R hR => r_isi rfl hx2 (kb_st d) hR) (fun hb R hR => lt2 hR) (ite2 (fun e => retA ?_) (fun e5 => nextA ?_))))
      · have es : isSt d = true := by cases h : isSt d with | true => rfl | false => rw [h] at e; cases e
        cases hx2 with
        | str z =>
          have hzl : z.length ≤ k := by cases hz with | str _ _ h => exact h
          have la : ∀ w : Str, (z ++ w).length = z.length + w.length := fun w => len_app z w
          have lu := PyProof.Rows.len_upper z
          refine ⟨.str z, rfl, ⟨_, rfl⟩, z, rfl, rfl, by omega, .str z, rfl, _, "q", rfl, rfl, zl (by show _ + 1 ≤ _; omega), .str z, rfl, _, ".q", rfl, rfl, zl (by show _ + 2 ≤ _; omega), .str z, rfl, 1, rfl, z, rfl, zl (by omega), .str z, rfl, _, "abcdefghijkl", rfl, rfl, zl (by show _ + 12 ≤ _; omega), .str z, rfl, "Q", z, rfl, rfl, zl (by show 1 + _ ≤ _; omega), ?_⟩
          refine pick_q (kk := 3 * k) rfl rfl st2 rfl (by decide) (by decide) (fun v m => ?_) fun v d' H3 st3 f3 hv hz' => q v d' H3 st3 (f02.trans f3) hv (sz_mono hz' (Nat.le_refl _) (by omega))
          have g : ∀ w : Str, w.length ≤ 3 * k → ∃ d', Dp K H2 (.str w) d' ∧ Sz (3 * k) 1 d' := fun w h => ⟨.str w, .str w, .str _ _ h⟩
          simp only [List.mem_cons, List.not_mem_nil, or_false] at m
          rcases m with rfl | rfl | rfl | rfl | rfl | rfl | rfl
          · exact g _ (by omega)
          · exact g _ (by rw [la]; show _ + 1 ≤ _; omega)
          · exact g _ (by rw [la]; show _ + 2 ≤ _; omega)
          · exact g _ (by have := cutS_length z (some 1) none; omega)
          · exact g _ (by show 3 ≤ _; omega)
          · exact g _ (by rw [la]; show _ + 12 ≤ _; omega)
          · exact g _ (by rw [len_app]; show 1 + _ ≤ _; omega)
        | _ => cases es
      dsimp only
      refine seqA (ifA (and_q (b := isIn d) (c := decide (kd < 2)) (fun R hR => r_isi rfl hx2 (kb_in d) hR) (fun hb R hR => lt2 hR) (ite2 (fun e => retA ?_) (fun e6 => nextA ?_))))
      · have es : isIn d = true := by cases h : isIn d with | true => rfl | false => rw [h] at e; cases e
        have g : ∀ i : Int, ∃ d', Dp K H2 (.int i) d' ∧ Sz (3 * k) 1 d' := fun i => ⟨.int i, .int i, .int _ i⟩
        have fin : ∀ i : Int, _ := fun i => pick_q (K := K) (σ := [some (.ref r), some (.ref sp), some x, none, some (.int kd)]) (kk := 3 * k) (ys := [.int i, .int (-1), .int 65536, .int 4, .non, .bl true]) (lim := 6) (Q := Q) rfl rfl st2 rfl (by decide) (by decide) (fun v m => by
          simp only [List.mem_cons, List.not_mem_nil, or_false] at m
          rcases m with rfl | rfl | rfl | rfl | rfl | rfl
          · exact g _
          · exact g _
          · exact g _
          · exact g _
          · exact ⟨.none, .non, .non _⟩
          · exact ⟨.bool true, .bl true, .bool _ _⟩) fun v d' H3 st3 f3 hv hz' => q v d' H3 st3 (f02.trans f3) hv (sz_mono hz' (Nat.le_refl _) (by omega))
        cases hx2 with
        | int i => exact ⟨.int i, rfl, .inl ⟨i, 1, rfl, rfl, 1, rfl, fin (i + 1)⟩⟩
        | bl b => exact ⟨.bl b, rfl, .inr ⟨b, 1, rfl, rfl, 1, rfl, fin _⟩⟩
        | _ => cases es
      dsimp only
      refine retA ⟨zl (Nat.le_of_ble_eq_true rfl), fun p1 hp1 => ⟨zl (Nat.le_of_ble_eq_true rfl), fun p2 hp2 => ⟨zl (Nat.le_of_ble_eq_true rfl), fun p3 hp3 => ?_⟩⟩⟩
      have s1 := same_upd (o := .tup []) hp1
      have s2 := same_upd (o := .tup [.str "next"]) hp2
      have s3 := same_upd (o := .tup [.str "int", .int 3]) hp3
      have g1 := dp_keep s3 (dp_keep s2 (dp_new (K := K) hp1 .nil))
      have g2 := dp_keep s3 (dp_new (K := K) hp2 (.cons (.str "next") .nil))
      have g3 := dp_new (K := K) hp3 (.cons (.str "int") (.cons (.int 3) .nil))
      refine pick_q (kk := 3 * k) rfl rfl (((st2.new hp1).new hp2).new hp3) rfl (by decide) (by decide) (fun v m => ?_) fun v d' H3 st3 f3 hv hz' => q v d' H3 st3 (f02.trans ((Fr.of s1).trans ((Fr.of s2).trans ((Fr.of s3).trans f3)))) hv (sz_mono hz' (Nat.le_refl _) (by omega))
      have gs : ∀ w : Str, w.length ≤ 10 → ∃ d', Dp K (upd (upd (upd H2 p1 (.tup [])) p2 (.tup [.str "next"])) p3 (.tup [.str "int", .int 3])) (.str w) d' ∧ Sz (3 * k) 1 d' := fun w h => ⟨.str w, .str w, .str _ _ (by omega)⟩
      simp only [List.mem_cons, List.not_mem_nil, or_false] at m
      rcases m with rfl | rfl | rfl | rfl | rfl | rfl | rfl | rfl | rfl | rfl
      · exact ⟨.none, .non, .non _⟩
      · exact ⟨.int 7, .int 7, .int _ _⟩
      · exact ⟨.bool true, .bl true, .bool _ _⟩
      · exact gs _ (Nat.le_of_ble_eq_true rfl)
      · exact gs _ (Nat.le_of_ble_eq_true rfl)
      · exact ⟨_, g1, szs (n := 0) (fun d m => nomatch m) (Nat.zero_le _)⟩
      · exact ⟨_, g2, szs (n := 0) (fun d m => by rcases List.mem_singleton.mp m with rfl; exact .str _ _ (by show 4 ≤ _; omega)) (by show 1 ≤ _; omega)⟩
      · exact gs _ (Nat.le_of_ble_eq_true rfl)
      · exact gs _ (Nat.le_of_ble_eq_true rfl)
      · exact ⟨_, g3, szs (n := 0) (mem2 (.str _ _ (by show 3 ≤ _; omega)) (.int _ _)) (by show 2 ≤ _; omega)⟩
end
end Cw

set_option Elab.async false
set_option linter.all false
set_option maxRecDepth 100000
set_option maxHeartbeats 4000000
namespace L2
open PySem PySem.Spec PyProof.Rows
section
variable {X : Cx} {CX : CXT} {k n : Nat} {f : Addr} {fd : FuncData} {ps ks : List Str} {sp : Sp} {E : XK} {x : Str} {p pos : Pos} {kws : List Keyword} {tk : TA} {g : List Value → List Value → List Value} {gV : List V → List V → List V}
/-- f(k = v, ..) -/
theorem pe_callN0 (F : FnOk X.prog X.w X.K X.mg X.base CX k f fd ps sp) (hr : Room k X.A) (hg : Gl X x) (hm : X.mg x = some (.ref f)) (hk : PySem.W.keepIn X.K (.ref f) = true) (hb : KBn X.K fd ps 0 ks g gV) (hx : Passes CX X E) (hkw : PK X kws tk)
    (hall : (backToKw pos (keywordEach kws X.env)).all (·.1.isSome) = true := by rfl) (hks : (backToKw pos (keywordEach kws X.env)).filterMap (·.1) = ks := by rfl) (hdb : (x == ("__debug__" : Str)) = false := by decide)
    (hpl : ((backTo pos (starEach [] X.env)).any (·.1) || (backToKw pos (keywordEach kws X.env)).any (·.1.isNone)) = false := by rfl) :
    PE X (.Call (.Name x p) [] kws pos) (tCallN 0 ks.length sp gV E tNil tk) := by
  refine ⟨fun pins s σ H Q I h => ?_⟩
  refine wpAny_Call_Name_kw (ld_glob I hg hm ?_ hdb)
  refine PySem.W.callWith_KW0 (h₀ := X.base) I.ok.mod.kin hk hall ?_ hpl
  refine thn (hkw.run pos pins s σ H _ I h) fun ws s2 ⟨zs, H2, I2, rz, l1, l2, q2⟩ => ⟨I2.kIn, ?_⟩
  rw [hks]
  exact run_fnN (us := []) F hr hb hx I2 .nil rz rfl l2 q2
end
/-- a call of a plain def with its one parameter by name -/
theorem Fun.kb1 {K : PySem.W.Frag} {x qual v : Str} {st : Stmt} {f : Addr} {fd : FuncData} (F : Fun K x qual st f fd)
    (h : ∀ (kV doc pm : Value) (an : Option Addr) (cdv ct u : Value), bindArgs (PySem.W.fnOf x qual (defArgs st) (defBody st) (defScope st) .none kV doc pm an cdv ct) ⟨[], [(v, u)]⟩ = pure [(v, u)]) : KBn K fd [v] 0 [v] (fun _ ws => ws) (fun _ zs => zs) := by
  obtain ⟨oc, od, kV, doc, pm, an, cdv, ct, osl, rfl, lk, hcd⟩ := F.ex
  refine ⟨fun s us ws X l1 l2 => ?_, fun _ r => r⟩
  match us, l1, ws, l2 with
  | [], _, [u], _ => exact .of_eq (h kV doc pm an cdv ct u)
end L2
namespace Cw
open PySem PySem.Spec PyProof.Rows L2
theorem beq_str_refl (z : Str) : (z == z) = true := beq_self_eq_true z
theorem so_refl : ∀ (n : Nat) (d : PyData), OnT d → fits n d → so n d d = true := by
  intro n
  induction n with
  | zero =>
    intro d o h
    cases o with
    | tuple l t => exact h.elim
    | non => rfl
    | bool b => rw [so_bool]; exact beq_self_eq_true b
    | int i => rw [so_int]; exact beq_self_eq_true i
    | str z => rw [so_str]; exact beq_self_eq_true z
  | succ n ih =>
    intro d o h
    cases o with
    | tuple l t =>
      show (l.length == l.length && (List.range l.length).all (fun i => so n (l.getD i .none) (l.getD i .none))) = true
      rw [beq_self_eq_true, Bool.true_and, List.all_eq_true]
      intro i hi
      have hl : i < l.length := List.mem_range.mp hi
      rw [List.getD_eq_getElem?_getD, List.getElem?_eq_getElem hl]
      exact ih _ (t _ (List.getElem_mem hl)) (h.2 _ (List.getElem_mem hl))
    | non => rfl
    | bool b => rw [so_bool]; exact beq_self_eq_true b
    | int i => rw [so_int]; exact beq_self_eq_true i
    | str z => rw [so_str]; exact beq_self_eq_true z
theorem fits_of {k n : Nat} {d : PyData} (h : Sz k n d) (hk : k ≤ 1000) : fits n d := by
  induction h with
  | tuple n l h t ih => exact ⟨by omega, ih⟩
  | non n => cases n <;> trivial
  | bool n b => cases n <;> trivial
  | int n i => cases n <;> trivial
  | str n z _ => cases n <;> trivial
def spLaw (K : PySem.W.Frag) : Sp := fun vs H Q _ => ∃ (a : Addr) (ns : List Int), vs = [.ref a] ∧ SqL K H a (ns.map V.int) ∧ ns.length ≤ 63 ∧ ∀ H', Q (.bl true) H'
def spChgA (K : PySem.W.Frag) : Sp := fun vs H Q _ => ∃ (n : Nat) (r sp : Addr) (x : V) (d : PyData) (k : Nat), n ≤ 40 ∧ vs = [.ref r, .ref sp, x] ∧ Sta r sp H ∧ Dp K H x d ∧ Sz k n d ∧ 10 ≤ k ∧ k ≤ 10000 ∧ ∀ x' d' H', Sta r sp H' → Fr [sp] H H' → Dp K H' x' d' → Sz (3 * k) (n + 1) d' → Q x' H'
theorem ok_chga {P : Program} {w : World} {K : PySem.W.Frag} {mg : Str → Option Value} {base : Heap} {f : Addr} {fd : FuncData} {ps : List Str} (h : ∀ n, FnOk P w K mg base CX0 (3 + n) f fd ps (spChg K n)) : FnOk P w K mg base CX0 44 f fd ps (spChgA K) :=
  ⟨fun vs H Q E q => by
    obtain ⟨n, r, sp, x, d, k, hn, q⟩ := q
    exact (h (n + 1)).len vs H Q E ⟨r, sp, x, d, k, q⟩,
  fun A outer s H args us vs Q E hr he hb hv q => by
    obtain ⟨n, r, sp, x, d, k, hn, q⟩ := q
    exact ((h (n + 1)).mono (by omega)).run A outer s H args us vs Q E hr he hb hv ⟨r, sp, x, d, k, q⟩⟩
theorem mod_eq {d e : PyData} (o : OnT d) (h : e = d ∨ e = listed d) : isModule e = lawModule (lawMethod lawRx) d := by
  rcases h with rfl | rfl
  · exact module_law o
  · rw [module_l o]; exact module_law o
theorem exp_eq {d e : PyData} (o : OnT d) (h : e = d ∨ e = listed d) : isExpr e = lawRx d := by
  rcases h with rfl | rfl
  · exact expr_law o
  · rw [expr_l o]; exact expr_law o
theorem ok_e {k n : Nat} {d e : PyData} (z : Sz k n d) (hk : k ≤ 100000) (h : e = d ∨ e = listed d) : Ok e := by
  rcases h with rfl | rfl
  · exact sz_ok z hk
  · exact sz_okl z hk
abbrev s__law_numbers : Stmt := topS 37
abbrev s__law_so : Stmt := topS 36
section
variable {P : Program} {w : World} {K : PySem.W.Frag} {mg : Str → Option Value} {base : Heap} {S : Addr → Option Sp}
abbrev s_law : Stmt := topS 63
theorem sc_law : FnScope ["script", "row", "spot", "module", "handed", "again", "changed", "value"] ["script"] (defScope s_law) := ⟨rfl, rfl, rfl, by decide +kernel, rfl, by decide +kernel, by decide +kernel⟩
theorem ok_law {f : Addr} {fd : FuncData} (F : Fun K "law" "law" s_law f fd) {f__law_numbers : Addr} {d__law_numbers : FuncData} (h__law_numbers : Hd K mg "_law_numbers" s__law_numbers ["script"] f__law_numbers d__law_numbers) (G__law_numbers : FnOk P w K mg base CX0 1 f__law_numbers d__law_numbers ["script"] (spNum K)) {f__law_free_module : Addr} {d__law_free_module : FuncData} (h__law_free_module : Hd K mg "_law_free_module" s__law_free_module ["row", "spot"] f__law_free_module d__law_free_module) (G__law_free_module : FnOk P w K mg base CX0 18 f__law_free_module d__law_free_module ["row", "spot"] (spMod K)) {f__law_handed : Addr} {d__law_handed : FuncData} (h__law_handed : Hd K mg "_law_handed" s__law_handed ["row", "spot", "value"] f__law_handed d__law_handed) (G__law_handed : FnOk P w K mg base CX0 43 f__law_handed d__law_handed ["row", "spot", "value"] (spHanded K)) {f__law_so : Addr} {d__law_so : FuncData} (h__law_so : Hd K mg "_law_so" s__law_so ["found", "meant"] f__law_so d__law_so) (G__law_so : FnOk P w K mg base CX0 13 f__law_so d__law_so ["found", "meant"] (spSo K 12)) {f_is_module : Addr} {d_is_module : FuncData} (h_is_module : Hd K mg "is_module" s_is_module ["value"] f_is_module d_is_module) (G_is_module : FnOk P w K mg base CX0 12 f_is_module d_is_module ["value"] (sp1 K isModule)) {f__law_is_module : Addr} {d__law_is_module : FuncData} (h__law_is_module : Hd K mg "_law_is_module" s__law_is_module ["value"] f__law_is_module d__law_is_module) (G__law_is_module : FnOk P w K mg base CX0 16 f__law_is_module d__law_is_module ["value"] (sp1 K (lawModule (lawMethod lawRx)))) {f__law_tupled : Addr} {d__law_tupled : FuncData} (h__law_tupled : Hd K mg "_law_tupled" s__law_tupled ["value"] f__law_tupled d__law_tupled) (G__law_tupled : FnOk P w K mg base CX0 42 f__law_tupled d__law_tupled ["value"] (spTupled K 41)) {f__law_part_changed : Addr} {d__law_part_changed : FuncData} (h__law_part_changed : Hd K mg "_law_part_changed" s__law_part_changed ["row", "spot", "value"] f__law_part_changed d__law_part_changed) (G__law_part_changed : FnOk P w K mg base CX0 44 f__law_part_changed d__law_part_changed ["row", "spot", "value"] (spChgA K)) {f__law_free_expr : Addr} {d__law_free_expr : FuncData} (h__law_free_expr : Hd K mg "_law_free_expr" s__law_free_expr ["row", "spot", "deep"] f__law_free_expr d__law_free_expr) (G__law_free_expr : FnOk P w K mg base CX0 17 f__law_free_expr d__law_free_expr ["row", "spot", "deep"] (spFxA K)) {f__law_take : Addr} {d__law_take : FuncData} (h__law_take : Hd K mg "_law_take" s__law_take ["row", "spot", "limit"] f__law_take d__law_take) (G__law_take : FnOk P w K mg base CX0 2 f__law_take d__law_take ["row", "spot", "limit"] (spTk K)) {f_is_expression : Addr} {d_is_expression : FuncData} (h_is_expression : Hd K mg "is_expression" s_is_expression ["value"] f_is_expression d_is_expression) (G_is_expression : FnOk P w K mg base CX0 6 f_is_expression d_is_expression ["value"] (sp1 K isExpr)) {f__law_is_right_expr : Addr} {d__law_is_right_expr : FuncData} (h__law_is_right_expr : Hd K mg "_law_is_right_expr" s__law_is_right_expr ["value"] f__law_is_right_expr d__law_is_right_expr) (G__law_is_right_expr : FnOk P w K mg base CX0 14 f__law_is_right_expr d__law_is_right_expr ["value"] (sp1 K lawRx)) (m_range : mg "range" = none) (kb_is_module : KBn K d_is_module ["value"] 0 ["value"] (fun _ ws => ws) (fun _ zs => zs)) (kb_is_expression : KBn K d_is_expression ["value"] 0 ["value"] (fun _ ws => ws) (fun _ zs => zs)) : FnOk P w K mg base CX0 60 f fd ["script"] (spLaw K) := by
  refine F.ok sc_law (fun vs H Q E h => ?_) (fun cdv A outer s H vs Q E hr h => ?_)
  · obtain ⟨_, _, rfl, _⟩ := h
    rfl
  · obtain ⟨a, ns, rfl, hS, hlen, q⟩ := h
    refine ⟨_, (pss_cons (ps_set (i := 1) sc_law.nd rfl (.inl rfl) (pe_call G__law_numbers (hr.mono (by decide)) (by rfl) h__law_numbers.g h__law_numbers.F.kp h__law_numbers.b .nil pass0 (pa_cons (pv 0) pa_nil)))
  (pss_cons (ps_set (i := 2) sc_law.nd rfl (.inl rfl) (pe_lst (pa_cons pe_int pa_nil)))
  (pss_cons (ps_set (i := 3) sc_law.nd rfl (.inl rfl) (pe_call G__law_free_module (hr.mono (by decide)) (by rfl) h__law_free_module.g h__law_free_module.F.kp h__law_free_module.b .nil pass0 (pa_cons (pv 1) (pa_cons (pv 2) pa_nil))))
  (pss_cons (ps_set (i := 4) sc_law.nd rfl (.inl rfl) (pe_call G__law_handed (hr.mono (by decide)) (by rfl) h__law_handed.g h__law_handed.F.kp h__law_handed.b .nil pass0 (pa_cons (pv 1) (pa_cons (pv 2) (pa_cons (pv 3) pa_nil)))))
  (pss_cons (ps_if (PW.pt (pw_or (pt_not (pt_val (pe_call G__law_so (hr.mono (by decide)) (by rfl) h__law_so.g h__law_so.F.kp h__law_so.b .nil pass0 (pa_cons (pe_callN0 G_is_module (hr.mono (by decide)) (by rfl) h_is_module.g h_is_module.F.kp kb_is_module pass0 (pk_cons (pv 4) pk_nil)) (pa_cons (pe_call G__law_is_module (hr.mono (by decide)) (by rfl) h__law_is_module.g h__law_is_module.F.kp h__law_is_module.b .nil pass0 (pa_cons (pv 3) pa_nil)) pa_nil))))) (pw_or1 (pt_not (pt_val (pe_call G__law_so (hr.mono (by decide)) (by rfl) h__law_so.g h__law_so.F.kp h__law_so.b .nil pass0 (pa_cons (pe_call G__law_tupled (hr.mono (by decide)) (by rfl) h__law_tupled.g h__law_tupled.F.kp h__law_tupled.b .nil pass0 (pa_cons (pv 4) pa_nil)) (pa_cons (pv 3) pa_nil)))))))) (pss_one (ps_ret pe_bl)) pss_nil)
  (pss_cons (ps_for PassesOwn.never rfl (pi_range1 rfl m_range (pa_cons pe_int pa_nil)) (pg_name (i := 5) sc_law.nd rfl (.inl rfl)) (pss_cons (ps_set (i := 6) sc_law.nd rfl (.inl rfl) (pe_call G__law_part_changed (hr.mono (by decide)) (by rfl) h__law_part_changed.g h__law_part_changed.F.kp h__law_part_changed.b .nil pass0 (pa_cons (pv 1) (pa_cons (pv 2) (pa_cons (pv 3) pa_nil)))))
  (pss_one (ps_if (pt_not (pt_val (pe_call G__law_so (hr.mono (by decide)) (by rfl) h__law_so.g h__law_so.F.kp h__law_so.b .nil pass0 (pa_cons (pe_call G_is_module (hr.mono (by decide)) (by rfl) h_is_module.g h_is_module.F.kp h_is_module.b .nil pass0 (pa_cons (pe_call G__law_handed (hr.mono (by decide)) (by rfl) h__law_handed.g h__law_handed.F.kp h__law_handed.b .nil pass0 (pa_cons (pv 1) (pa_cons (pv 2) (pa_cons (pv 6) pa_nil)))) pa_nil)) (pa_cons (pe_call G__law_is_module (hr.mono (by decide)) (by rfl) h__law_is_module.g h__law_is_module.F.kp h__law_is_module.b .nil pass0 (pa_cons (pv 6) pa_nil)) pa_nil))))) (pss_one (ps_ret pe_bl)) pss_nil))))
  (pss_cons (ps_set (i := 7) sc_law.nd rfl (.inl rfl) (pe_call G__law_free_expr (hr.mono (by decide)) (by rfl) h__law_free_expr.g h__law_free_expr.F.kp h__law_free_expr.b .nil pass0 (pa_cons (pv 1) (pa_cons (pv 2) (pa_cons (pe_call G__law_take (hr.mono (by decide)) (by rfl) h__law_take.g h__law_take.F.kp h__law_take.b .nil pass0 (pa_cons (pv 1) (pa_cons (pv 2) (pa_cons pe_int pa_nil)))) pa_nil)))))
  (pss_cons (ps_for PassesOwn.never rfl (pi_range1 rfl m_range (pa_cons pe_int pa_nil)) (pg_name (i := 5) sc_law.nd rfl (.inl rfl)) (pss_cons (ps_if (pt_not (pt_val (pe_call G__law_so (hr.mono (by decide)) (by rfl) h__law_so.g h__law_so.F.kp h__law_so.b .nil pass0 (pa_cons (pe_callN0 G_is_expression (hr.mono (by decide)) (by rfl) h_is_expression.g h_is_expression.F.kp kb_is_expression pass0 (pk_cons (pe_call G__law_handed (hr.mono (by decide)) (by rfl) h__law_handed.g h__law_handed.F.kp h__law_handed.b .nil pass0 (pa_cons (pv 1) (pa_cons (pv 2) (pa_cons (pv 7) pa_nil)))) pk_nil)) (pa_cons (pe_call G__law_is_right_expr (hr.mono (by decide)) (by rfl) h__law_is_right_expr.g h__law_is_right_expr.F.kp h__law_is_right_expr.b .nil pass0 (pa_cons (pv 7) pa_nil)) pa_nil))))) (pss_one (ps_ret pe_bl)) pss_nil)
  (pss_one (ps_set (i := 7) sc_law.nd rfl (.inl rfl) (pe_call G__law_part_changed (hr.mono (by decide)) (by rfl) h__law_part_changed.g h__law_part_changed.F.kp h__law_part_changed.b .nil pass0 (pa_cons (pv 1) (pa_cons (pv 2) (pa_cons (pv 7) pa_nil))))))))
  (pss_one (ps_ret pe_bl)))))))))), ?_⟩
    have zl : ∀ {x : Nat}, x ≤ 100000 → x ≤ sizeLine := fun h => Nat.le_trans h (by decide)
    refine seqA (asgA ⟨.ref a, rfl, a, ns, rfl, hS, hlen, fun H1 r row s1 hr0 hr1 hne hl => nameA ?_⟩)
    dsimp only
    refine seqA (asgA ⟨zl (Nat.le_of_ble_eq_true rfl), fun sp hsp => nameA ?_⟩)
    dsimp only
    have st : Sta r sp (upd H1 sp (.lst [.int 0])) := ⟨fun e => (by rw [← e, hr1] at hsp; cases hsp), ⟨row, hne, same_upd hsp _ _ hr1⟩, 0, upd_same⟩
    generalize upd H1 sp (.lst [.int 0]) = H2 at st ⊢
    refine seqA (asgA ⟨.ref r, rfl, .ref sp, rfl, r, sp, rfl, st, fun xm dm H3 st3 f3 hm hzm => nameA ?_⟩)
    dsimp only
    have om := sz_ont hzm
    refine seqA (asgA ⟨.ref r, rfl, .ref sp, rfl, xm, rfl, r, sp, xm, dm, rfl, st3, hm, sz_mono hzm (by decide) (by decide), fun xh eh H4 he st4 f4 hh => nameA ?_⟩)
    dsimp only
    have hm4 := dp_fr f4 st3.nt om hm
    have smod : ∀ (b : Bool), so 11 (.bool b) (.bool b) = true := fun b => by rw [so_bool]; exact beq_self_eq_true b
    refine seq_merge (fun σ' H' => σ' = [some (.ref a), some (.ref r), some (.ref sp), some xm, some xh, none, none, none] ∧ Dp K H' xm dm ∧ Sta r sp H') ?_ (fun kont => ?_)
    rotate_left
    · refine ifA ⟨xh, rfl, rfl, rfl, xh, eh, rfl, hh, ok_e hzm (by decide) he, fun H5 s5 => ⟨xm, rfl, xm, dm, rfl, dp_keep s5 hm4, sz_ok hzm (by decide), fun H6 s6 => ⟨_, _, .bool (isModule eh), .bool (lawModule (lawMethod lawRx) dm), rfl, .bl _, .bl _, trivial, _, rfl, ?_⟩⟩⟩
      rw [mod_eq om he, smod]
      have hh6 := dp_keep (s5.trans s6) hh
      have hm6 := dp_keep (s5.trans s6) hm4
      refine iteF ⟨xh, rfl, xh, dm, eh, rfl, he, hh6, sz_mono hzm (by decide) (by decide), fun x' H7 s7 hx' => ⟨xm, rfl, x', xm, dm, dm, rfl, hx', dp_keep s7 hm6, fits_of (sz_mono hzm (Nat.le_refl _) (by decide)) (by decide), _, rfl, ?_⟩⟩
      rw [so_refl 11 dm om (fits_of (sz_mono hzm (Nat.le_refl _) (by decide)) (by decide))]
      exact iteF (nextA (kont _ _ ⟨rfl, dp_keep s7 hm6, st4.same (s5.trans (s6.trans s7))⟩))
    rintro σ' H5 ⟨rfl, hm5, st5⟩
    refine seq_merge (fun σ' H' => (∃ c5 c6, σ' = [some (.ref a), some (.ref r), some (.ref sp), some xm, some xh, c5, c6, none]) ∧ Sta r sp H') ?_ (fun kont => ?_)
    rotate_left
    · refine ⟨6, rfl, by decide, by decide, for_range (lo := 0) (n := 6) (fun i σ H' => (∃ c5 c6, σ = [some (.ref a), some (.ref r), some (.ref sp), some xm, some xh, c5, c6, none]) ∧ Sta r sp H' ∧ Fr [sp] H5 H') ⟨⟨_, _, rfl⟩, st5, Fr.refl _⟩ ?_ (fun σ H' p => kont _ _ ⟨p.1, p.2.1⟩)⟩
      rintro i σ H6 hi ⟨⟨c5, c6, rfl⟩, st6, f6⟩
      refine nameA ?_
      dsimp only
      refine seqA (asgA ⟨.ref r, rfl, .ref sp, rfl, xm, rfl, 10, r, sp, xm, dm, 300, by decide, rfl, st6, dp_fr f6 st5.nt om hm5, hzm, by decide, by decide, fun xc dc H7 st7 f7 hc hzc => nameA ?_⟩)
      dsimp only
      have oc := sz_ont hzc
      refine ifA ⟨.ref r, rfl, .ref sp, rfl, xc, rfl, r, sp, xc, dc, rfl, st7, hc, sz_mono hzc (by decide) (by decide), fun xg eg H8 hg st8 f8 hh8 => ⟨xg, eg, rfl, hh8, ok_e hzc (by decide) hg, fun H9 s9 => ⟨xc, rfl, xc, dc, rfl, dp_keep s9 (dp_fr f8 st7.nt oc hc), sz_ok hzc (by decide), fun H10 s10 => ⟨_, _, .bool (isModule eg), .bool (lawModule (lawMethod lawRx) dc), rfl, .bl _, .bl _, trivial, _, rfl, ?_⟩⟩⟩⟩
      rw [mod_eq oc hg, smod]
      exact iteF (nextA ⟨⟨_, _, rfl⟩, st8.same (s9.trans s10), f6.trans (f7.trans (f8.trans (Fr.of (s9.trans s10))))⟩)
    rintro σ' H6 ⟨⟨c5, c6, rfl⟩, st6⟩
    refine seqA (asgA ⟨.ref r, rfl, .ref sp, rfl, .ref r, rfl, .ref sp, rfl, r, sp, 6, rfl, st6, by decide, fun z H7 z0 z1 st7 f7 => ⟨z.toNat, r, sp, by omega, ?_, st7, fun xv dv H8 st8 f8 hv hzv _ => nameA ?_⟩⟩)
    · show [V.ref r, V.ref sp, V.int z] = [V.ref r, V.ref sp, V.int (z.toNat : Int)]
      rw [Int.toNat_of_nonneg z0]
    dsimp only
    have hzv : Sz 300 11 dv := sz_mono hzv (Nat.le_refl _) (by omega)
    refine seqA ⟨4, rfl, by decide, by decide, for_range (lo := 0) (n := 4) (fun i σ H' => ∃ c5 y d, σ = [some (.ref a), some (.ref r), some (.ref sp), some xm, some xh, c5, c6, some y] ∧ Sta r sp H' ∧ Dp K H' y d ∧ Sz (300 * 3 ^ i) (11 + i) d) ⟨c5, xv, dv, rfl, st8, hv, hzv⟩ ?_ ?_⟩
    · rintro i σ H9 hi ⟨c7, y, d, rfl, st9, hy, hz⟩
      have hb : 300 * 3 ^ i ≤ 10000 ∧ 10 ≤ 300 * 3 ^ i := by
        rcases (by omega : i = 0 ∨ i = 1 ∨ i = 2 ∨ i = 3) with rfl | rfl | rfl | rfl <;> decide
      have od := sz_ont hz
      refine nameA ?_
      dsimp only
      refine seq_merge (fun σ' H' => σ' = [some (.ref a), some (.ref r), some (.ref sp), some xm, some xh, some (.int (0 + (i : Int))), c6, some y] ∧ Sta r sp H' ∧ Dp K H' y d) ?_ (fun kont => ?_)
      rotate_left
      · refine ifA ⟨.ref r, rfl, .ref sp, rfl, y, rfl, r, sp, y, d, rfl, st9, hy, sz_mono hz hb.1 (by omega), fun xg eg H10 hg st10 f10 hh => ⟨rfl, rfl, xg, eg, rfl, hh, ok_e hz (by omega) hg, fun H11 s11 => ⟨y, rfl, y, d, rfl, dp_keep s11 (dp_fr f10 st9.nt od hy), sz_ok hz (by omega), fun H12 s12 => ⟨_, _, .bool (isExpr eg), .bool (lawRx d), rfl, .bl _, .bl _, trivial, _, rfl, ?_⟩⟩⟩⟩
        rw [exp_eq od hg, smod]
        exact iteF (nextA (kont _ _ ⟨rfl, st10.same (s11.trans s12), dp_keep (s11.trans s12) (dp_fr f10 st9.nt od hy)⟩))
      rintro σ' H10 ⟨rfl, st10, hy10⟩
      refine asgA ⟨.ref r, rfl, .ref sp, rfl, y, rfl, 11 + i, r, sp, y, d, 300 * 3 ^ i, by omega, rfl, st10, hy10, hz, hb.2, hb.1, fun x' d' H11 st11 f11 hx' hz' => nameA ⟨_, x', d', rfl, st11, hx', ?_⟩⟩
      refine sz_mono hz' ?_ (by omega)
      rw [Nat.pow_succ]
      omega
    · rintro σ H9 ⟨c7, y, d, rfl, st9, hy, hz⟩
      exact q H9
end
end Cw

set_option Elab.async false
set_option linter.all false
set_option maxRecDepth 100000
set_option maxHeartbeats 0
namespace Cw
open PySem PySem.Spec PyProof.Rows L2
/-! ### the written rows -/
def strOf : Value → Option Str
  | .str z _ => some z
  | _ => none
def tupStr (K : PySem.W.Frag) (p : Addr) : Option (List (Option Str)) := match K.lookup p with
  | some ⟨.type c, _, .seq its _, _⟩ => if c = "tuple" ∧ its.size ≤ 100 then some (its.toList.map strOf) else none
  | _ => none
theorem vals_strs : ∀ {l : List Value} {zs : List Str}, l.map strOf = zs.map some → Vals (zs.map V.str) l
  | [], [], _ => .nil
  | [], _ :: _, h => by cases h
  | _ :: _, [], h => by cases h
  | v :: l, z :: zs, h => by
    have h1 : strOf v :: l.map strOf = some z :: zs.map some := h
    injection h1 with h2 h3
    refine .cons ?_ (vals_strs h3)
    cases v with
    | str x t =>
      have e : x = z := Option.some.inj h2
      subst e
      exact ⟨t, rfl⟩
    | _ => cases h2
theorem tup_of {K : PySem.W.Frag} {p : Addr} {zs : List Str} (h : tupStr K p = some (zs.map some)) (H : Hp) : SqT K H p (zs.map V.str) := by
  unfold tupStr at h
  split at h
  · rename_i c d its n sl q
    split at h
    · rename_i hc
      have e := Option.some.inj h
      obtain ⟨e1, e2⟩ := hc
      exact .inr ⟨_, its, n, q, by rw [e1], rfl, Nat.le_trans e2 (by decide), vals_strs e⟩
    · cases h
  · cases h
def rowK (K : PySem.W.Frag) (e : DictEntry) : Option (Str × Option (List (Option Str))) := match e.key, e.val with
  | .str x _, .ref p => some (x, tupStr K p)
  | _, _ => none
def formRows : List (Str × List Str) := [("int", ["number"]), ("name", ["name"]), ("next", []), ("new", ["class", "values"]), ("field", ["part", "class", "name"]), ("call", ["generic", "arguments"]), ("add", ["part", "part"]), ("sub", ["part", "part"]), ("mul", ["part", "part"]), ("if", ["part", "part", "part"]), ("let", ["name", "part", "part"])]
def rowOfF (r : Str × List Str) : Option (Str × Option (List (Option Str))) := some (r.1, some (r.2.map some))
def formsB (K : PySem.W.Frag) (a : Addr) : Bool := match K.lookup a with
  | some ⟨_, _, .dict es _, _⟩ => decide (es.toList.map (rowK K) = formRows.map rowOfF)
  | _ => false
def lookR (z : Str) : List (Str × List Str) → Option (List Str)
  | [] => none
  | r :: l => if z = r.1 then some r.2 else lookR z l
theorem kinds_rows (z : Str) : kindsOf z = lookR z formRows := rfl
theorem find_rows {K : PySem.W.Frag} (z : Str) : ∀ (l : List DictEntry) (rows : List (Str × List Str)), l.map (rowK K) = rows.map rowOfF →
    (lookR z rows = none → l.find? (·.key.isStr z) = none) ∧ (l.any (·.refKey) = false) ∧ ∀ ks, lookR z rows = some ks → ∃ e p, l.find? (·.key.isStr z) = some e ∧ e.val = .ref p ∧ tupStr K p = some (ks.map some)
  | [], [], _ => ⟨fun _ => rfl, rfl, fun _ h => nomatch h⟩
  | [], _ :: _, h => by cases h
  | _ :: _, [], h => by cases h
  | e :: l, r :: rows, h => by
    have h1 : rowK K e :: l.map (rowK K) = rowOfF r :: rows.map rowOfF := h
    injection h1 with h2 h3
    obtain ⟨i1, i2, i3⟩ := find_rows z l rows h3
    obtain ⟨hh, ek, ev⟩ := e
    unfold rowK rowOfF at h2
    split at h2
    · rename_i x t p q1 q2
      have q1 : ek = .str x t := q1
      have q2 : ev = .ref p := q2
      subst q1 q2
      have h4 := Option.some.inj h2
      obtain ⟨h5, h6⟩ := Prod.mk.inj h4
      have ks : ∀ y : Str, (Value.str x t).isStr y = (x == y) := fun y => rfl
      refine ⟨fun g => ?_, ?_, fun ks' g => ?_⟩
      · unfold lookR at g
        by_cases c : z = r.1
        · rw [if_pos c] at g; cases g
        · rw [if_neg c] at g
          rw [List.find?_cons_of_neg]
          · exact i1 g
          · show ¬ (x == z) = true
            rw [beq_iff_eq]
            exact fun c2 => c (by rw [← c2, h5])
      · rw [List.any_cons, i2]
        rfl
      · unfold lookR at g
        by_cases c : z = r.1
        · rw [if_pos c] at g
          have g := Option.some.inj g
          subst g
          refine ⟨_, p, List.find?_cons_of_pos ?_, rfl, h6⟩
          show (x == z) = true
          rw [beq_iff_eq, h5, c]
        · rw [if_neg c] at g
          obtain ⟨e, p', j1, j2, j3⟩ := i3 ks' g
          refine ⟨e, p', ?_, j2, j3⟩
          rw [List.find?_cons_of_neg]
          · exact j1
          · show ¬ (x == z) = true
            rw [beq_iff_eq]
            exact fun c2 => c (by rw [← c2, h5])
    · cases h2
theorem forms_of {K : PySem.W.Frag} {w : World} {a : Addr} (hd : ∃ es n, KDict K w a es n) (h : formsB K a = true) : Forms K w a := by
  obtain ⟨es, n, D⟩ := hd
  refine ⟨es, n, D, fun z => ?_⟩
  unfold formsB at h
  rw [D.at_] at h
  have h1 : es.toList.map (rowK K) = formRows.map rowOfF := of_decide_eq_true h
  obtain ⟨i1, i2, i3⟩ := find_rows z es.toList formRows h1
  rw [kinds_rows]
  refine ⟨fun g => ?_, fun ks g => ?_⟩
  · unfold PySem.W.nsIn
    rw [D.at_]
    show (match es.toList.find? (·.key.isStr z) with | some e => some (some e.val) | none => if es.toList.any (·.refKey) then none else some none) = some none
    rw [i1 g, i2]
    rfl
  · obtain ⟨e, p, j1, j2, j3⟩ := i3 ks g
    refine ⟨p, ?_, tup_of j3⟩
    unfold PySem.W.nsIn
    rw [D.at_]
    show (match es.toList.find? (·.key.isStr z) with | some e => some (some e.val) | none => if es.toList.any (·.refKey) then none else some none) = some (some (.ref p))
    rw [j1, ← j2]
theorem all_mk {l : PySem.W.OpenLaw} {w : World} {K : PySem.W.Frag} {h : Heap} {mg : Str → Option Value} {fa a_RESERVED a_FORMS a_ROWS g_is_integer g_is_sequence g_are_lower g_is_name g_is_class_word g_is_class_name g_is_generic_name g_is_module g_is_expression g_are_all g_is_class g_is_generic g_is_method g_is_named_class g_form_parts g_is_member g__law_so g__law_numbers g__law_draw g__law_take g__law_wide g__law_whole g__law_listed g__law_tupled g__law_handed g__law_letters g__law_name g__law_reserved g__law_word g__law_is_word g__law_is_class_name g__law_is_class g__law_inner_parts g__law_is_expr g__law_count g__law_is_right_expr g__law_is_generic g__law_is_method g__law_is_module g__law_free_expr g__law_free_named g__law_free_module g__law_part_changed g_law : Addr} (X : K.In h) (G : h.Ns mainGlobals mg) (hfa : mg "law" = some (.ref fa))
    {oc_is_integer : Value} {od_is_integer an_is_integer : Option Addr} {sl_is_integer : Array (Option Value)} {kV_is_integer doc_is_integer pm_is_integer cd_is_integer ct_is_integer : Value} (da_is_integer : PySem.W.nsIn K mainGlobals "is_integer" = some (some (.ref g_is_integer))) (dl_is_integer : K.lookup g_is_integer = some ⟨oc_is_integer, od_is_integer, .func (PySem.W.fnOf "is_integer" "is_integer" (defArgs s_is_integer) (defBody s_is_integer) (defScope s_is_integer) .none kV_is_integer doc_is_integer pm_is_integer an_is_integer cd_is_integer ct_is_integer), sl_is_integer⟩) (dc_is_integer : PySem.W.codeIn K cd_is_integer "is_integer" = true) (dk_is_integer : PySem.W.keepIn K (.ref g_is_integer) = true)
    {oc_is_sequence : Value} {od_is_sequence an_is_sequence : Option Addr} {sl_is_sequence : Array (Option Value)} {kV_is_sequence doc_is_sequence pm_is_sequence cd_is_sequence ct_is_sequence : Value} (da_is_sequence : PySem.W.nsIn K mainGlobals "is_sequence" = some (some (.ref g_is_sequence))) (dl_is_sequence : K.lookup g_is_sequence = some ⟨oc_is_sequence, od_is_sequence, .func (PySem.W.fnOf "is_sequence" "is_sequence" (defArgs s_is_sequence) (defBody s_is_sequence) (defScope s_is_sequence) .none kV_is_sequence doc_is_sequence pm_is_sequence an_is_sequence cd_is_sequence ct_is_sequence), sl_is_sequence⟩) (dc_is_sequence : PySem.W.codeIn K cd_is_sequence "is_sequence" = true) (dk_is_sequence : PySem.W.keepIn K (.ref g_is_sequence) = true)
    {oc_are_lower : Value} {od_are_lower an_are_lower : Option Addr} {sl_are_lower : Array (Option Value)} {kV_are_lower doc_are_lower pm_are_lower cd_are_lower ct_are_lower : Value} (da_are_lower : PySem.W.nsIn K mainGlobals "are_lower" = some (some (.ref g_are_lower))) (dl_are_lower : K.lookup g_are_lower = some ⟨oc_are_lower, od_are_lower, .func (PySem.W.fnOf "are_lower" "are_lower" (defArgs s_are_lower) (defBody s_are_lower) (defScope s_are_lower) .none kV_are_lower doc_are_lower pm_are_lower an_are_lower cd_are_lower ct_are_lower), sl_are_lower⟩) (dc_are_lower : PySem.W.codeIn K cd_are_lower "are_lower" = true) (dk_are_lower : PySem.W.keepIn K (.ref g_are_lower) = true)
    {oc_is_name : Value} {od_is_name an_is_name : Option Addr} {sl_is_name : Array (Option Value)} {kV_is_name doc_is_name pm_is_name cd_is_name ct_is_name : Value} (da_is_name : PySem.W.nsIn K mainGlobals "is_name" = some (some (.ref g_is_name))) (dl_is_name : K.lookup g_is_name = some ⟨oc_is_name, od_is_name, .func (PySem.W.fnOf "is_name" "is_name" (defArgs s_is_name) (defBody s_is_name) (defScope s_is_name) .none kV_is_name doc_is_name pm_is_name an_is_name cd_is_name ct_is_name), sl_is_name⟩) (dc_is_name : PySem.W.codeIn K cd_is_name "is_name" = true) (dk_is_name : PySem.W.keepIn K (.ref g_is_name) = true)
    {oc_is_class_word : Value} {od_is_class_word an_is_class_word : Option Addr} {sl_is_class_word : Array (Option Value)} {kV_is_class_word doc_is_class_word pm_is_class_word cd_is_class_word ct_is_class_word : Value} (da_is_class_word : PySem.W.nsIn K mainGlobals "is_class_word" = some (some (.ref g_is_class_word))) (dl_is_class_word : K.lookup g_is_class_word = some ⟨oc_is_class_word, od_is_class_word, .func (PySem.W.fnOf "is_class_word" "is_class_word" (defArgs s_is_class_word) (defBody s_is_class_word) (defScope s_is_class_word) .none kV_is_class_word doc_is_class_word pm_is_class_word an_is_class_word cd_is_class_word ct_is_class_word), sl_is_class_word⟩) (dc_is_class_word : PySem.W.codeIn K cd_is_class_word "is_class_word" = true) (dk_is_class_word : PySem.W.keepIn K (.ref g_is_class_word) = true)
    {oc_is_class_name : Value} {od_is_class_name an_is_class_name : Option Addr} {sl_is_class_name : Array (Option Value)} {kV_is_class_name doc_is_class_name pm_is_class_name cd_is_class_name ct_is_class_name : Value} (da_is_class_name : PySem.W.nsIn K mainGlobals "is_class_name" = some (some (.ref g_is_class_name))) (dl_is_class_name : K.lookup g_is_class_name = some ⟨oc_is_class_name, od_is_class_name, .func (PySem.W.fnOf "is_class_name" "is_class_name" (defArgs s_is_class_name) (defBody s_is_class_name) (defScope s_is_class_name) .none kV_is_class_name doc_is_class_name pm_is_class_name an_is_class_name cd_is_class_name ct_is_class_name), sl_is_class_name⟩) (dc_is_class_name : PySem.W.codeIn K cd_is_class_name "is_class_name" = true) (dk_is_class_name : PySem.W.keepIn K (.ref g_is_class_name) = true)
    {oc_is_generic_name : Value} {od_is_generic_name an_is_generic_name : Option Addr} {sl_is_generic_name : Array (Option Value)} {kV_is_generic_name doc_is_generic_name pm_is_generic_name cd_is_generic_name ct_is_generic_name : Value} (da_is_generic_name : PySem.W.nsIn K mainGlobals "is_generic_name" = some (some (.ref g_is_generic_name))) (dl_is_generic_name : K.lookup g_is_generic_name = some ⟨oc_is_generic_name, od_is_generic_name, .func (PySem.W.fnOf "is_generic_name" "is_generic_name" (defArgs s_is_generic_name) (defBody s_is_generic_name) (defScope s_is_generic_name) .none kV_is_generic_name doc_is_generic_name pm_is_generic_name an_is_generic_name cd_is_generic_name ct_is_generic_name), sl_is_generic_name⟩) (dc_is_generic_name : PySem.W.codeIn K cd_is_generic_name "is_generic_name" = true) (dk_is_generic_name : PySem.W.keepIn K (.ref g_is_generic_name) = true)
    {oc_is_module : Value} {od_is_module an_is_module : Option Addr} {sl_is_module : Array (Option Value)} {kV_is_module doc_is_module pm_is_module cd_is_module ct_is_module : Value} (da_is_module : PySem.W.nsIn K mainGlobals "is_module" = some (some (.ref g_is_module))) (dl_is_module : K.lookup g_is_module = some ⟨oc_is_module, od_is_module, .func (PySem.W.fnOf "is_module" "is_module" (defArgs s_is_module) (defBody s_is_module) (defScope s_is_module) .none kV_is_module doc_is_module pm_is_module an_is_module cd_is_module ct_is_module), sl_is_module⟩) (dc_is_module : PySem.W.codeIn K cd_is_module "is_module" = true) (dk_is_module : PySem.W.keepIn K (.ref g_is_module) = true)
    {oc_is_expression : Value} {od_is_expression an_is_expression : Option Addr} {sl_is_expression : Array (Option Value)} {kV_is_expression doc_is_expression pm_is_expression cd_is_expression ct_is_expression : Value} (da_is_expression : PySem.W.nsIn K mainGlobals "is_expression" = some (some (.ref g_is_expression))) (dl_is_expression : K.lookup g_is_expression = some ⟨oc_is_expression, od_is_expression, .func (PySem.W.fnOf "is_expression" "is_expression" (defArgs s_is_expression) (defBody s_is_expression) (defScope s_is_expression) .none kV_is_expression doc_is_expression pm_is_expression an_is_expression cd_is_expression ct_is_expression), sl_is_expression⟩) (dc_is_expression : PySem.W.codeIn K cd_is_expression "is_expression" = true) (dk_is_expression : PySem.W.keepIn K (.ref g_is_expression) = true)
    {oc_are_all : Value} {od_are_all an_are_all : Option Addr} {sl_are_all : Array (Option Value)} {kV_are_all doc_are_all pm_are_all cd_are_all ct_are_all : Value} (da_are_all : PySem.W.nsIn K mainGlobals "are_all" = some (some (.ref g_are_all))) (dl_are_all : K.lookup g_are_all = some ⟨oc_are_all, od_are_all, .func (PySem.W.fnOf "are_all" "are_all" (defArgs s_are_all) (defBody s_are_all) (defScope s_are_all) .none kV_are_all doc_are_all pm_are_all an_are_all cd_are_all ct_are_all), sl_are_all⟩) (dc_are_all : PySem.W.codeIn K cd_are_all "are_all" = true) (dk_are_all : PySem.W.keepIn K (.ref g_are_all) = true)
    {oc_is_class : Value} {od_is_class an_is_class : Option Addr} {sl_is_class : Array (Option Value)} {kV_is_class doc_is_class pm_is_class cd_is_class ct_is_class : Value} (da_is_class : PySem.W.nsIn K mainGlobals "is_class" = some (some (.ref g_is_class))) (dl_is_class : K.lookup g_is_class = some ⟨oc_is_class, od_is_class, .func (PySem.W.fnOf "is_class" "is_class" (defArgs s_is_class) (defBody s_is_class) (defScope s_is_class) .none kV_is_class doc_is_class pm_is_class an_is_class cd_is_class ct_is_class), sl_is_class⟩) (dc_is_class : PySem.W.codeIn K cd_is_class "is_class" = true) (dk_is_class : PySem.W.keepIn K (.ref g_is_class) = true)
    {oc_is_generic : Value} {od_is_generic an_is_generic : Option Addr} {sl_is_generic : Array (Option Value)} {kV_is_generic doc_is_generic pm_is_generic cd_is_generic ct_is_generic : Value} (da_is_generic : PySem.W.nsIn K mainGlobals "is_generic" = some (some (.ref g_is_generic))) (dl_is_generic : K.lookup g_is_generic = some ⟨oc_is_generic, od_is_generic, .func (PySem.W.fnOf "is_generic" "is_generic" (defArgs s_is_generic) (defBody s_is_generic) (defScope s_is_generic) .none kV_is_generic doc_is_generic pm_is_generic an_is_generic cd_is_generic ct_is_generic), sl_is_generic⟩) (dc_is_generic : PySem.W.codeIn K cd_is_generic "is_generic" = true) (dk_is_generic : PySem.W.keepIn K (.ref g_is_generic) = true)
    {oc_is_method : Value} {od_is_method an_is_method : Option Addr} {sl_is_method : Array (Option Value)} {kV_is_method doc_is_method pm_is_method cd_is_method ct_is_method : Value} (da_is_method : PySem.W.nsIn K mainGlobals "is_method" = some (some (.ref g_is_method))) (dl_is_method : K.lookup g_is_method = some ⟨oc_is_method, od_is_method, .func (PySem.W.fnOf "is_method" "is_method" (defArgs s_is_method) (defBody s_is_method) (defScope s_is_method) .none kV_is_method doc_is_method pm_is_method an_is_method cd_is_method ct_is_method), sl_is_method⟩) (dc_is_method : PySem.W.codeIn K cd_is_method "is_method" = true) (dk_is_method : PySem.W.keepIn K (.ref g_is_method) = true)
    {oc_is_named_class : Value} {od_is_named_class an_is_named_class : Option Addr} {sl_is_named_class : Array (Option Value)} {kV_is_named_class doc_is_named_class pm_is_named_class cd_is_named_class ct_is_named_class : Value} (da_is_named_class : PySem.W.nsIn K mainGlobals "is_named_class" = some (some (.ref g_is_named_class))) (dl_is_named_class : K.lookup g_is_named_class = some ⟨oc_is_named_class, od_is_named_class, .func (PySem.W.fnOf "is_named_class" "is_named_class" (defArgs s_is_named_class) (defBody s_is_named_class) (defScope s_is_named_class) .none kV_is_named_class doc_is_named_class pm_is_named_class an_is_named_class cd_is_named_class ct_is_named_class), sl_is_named_class⟩) (dc_is_named_class : PySem.W.codeIn K cd_is_named_class "is_named_class" = true) (dk_is_named_class : PySem.W.keepIn K (.ref g_is_named_class) = true)
    {oc_form_parts : Value} {od_form_parts an_form_parts : Option Addr} {sl_form_parts : Array (Option Value)} {kV_form_parts doc_form_parts pm_form_parts cd_form_parts ct_form_parts : Value} (da_form_parts : PySem.W.nsIn K mainGlobals "form_parts" = some (some (.ref g_form_parts))) (dl_form_parts : K.lookup g_form_parts = some ⟨oc_form_parts, od_form_parts, .func (PySem.W.fnOf "form_parts" "form_parts" (defArgs s_form_parts) (defBody s_form_parts) (defScope s_form_parts) .none kV_form_parts doc_form_parts pm_form_parts an_form_parts cd_form_parts ct_form_parts), sl_form_parts⟩) (dc_form_parts : PySem.W.codeIn K cd_form_parts "form_parts" = true) (dk_form_parts : PySem.W.keepIn K (.ref g_form_parts) = true)
    {oc_is_member : Value} {od_is_member an_is_member : Option Addr} {sl_is_member : Array (Option Value)} {kV_is_member doc_is_member pm_is_member cd_is_member ct_is_member : Value} (da_is_member : PySem.W.nsIn K mainGlobals "is_member" = some (some (.ref g_is_member))) (dl_is_member : K.lookup g_is_member = some ⟨oc_is_member, od_is_member, .func (PySem.W.fnOf "is_member" "is_member" (defArgs s_is_member) (defBody s_is_member) (defScope s_is_member) .none kV_is_member doc_is_member pm_is_member an_is_member cd_is_member ct_is_member), sl_is_member⟩) (dc_is_member : PySem.W.codeIn K cd_is_member "is_member" = true) (dk_is_member : PySem.W.keepIn K (.ref g_is_member) = true)
    {oc__law_so : Value} {od__law_so an__law_so : Option Addr} {sl__law_so : Array (Option Value)} {kV__law_so doc__law_so pm__law_so cd__law_so ct__law_so : Value} (da__law_so : PySem.W.nsIn K mainGlobals "_law_so" = some (some (.ref g__law_so))) (dl__law_so : K.lookup g__law_so = some ⟨oc__law_so, od__law_so, .func (PySem.W.fnOf "_law_so" "_law_so" (defArgs sSo) (defBody sSo) (defScope sSo) .none kV__law_so doc__law_so pm__law_so an__law_so cd__law_so ct__law_so), sl__law_so⟩) (dc__law_so : PySem.W.codeIn K cd__law_so "_law_so" = true) (dk__law_so : PySem.W.keepIn K (.ref g__law_so) = true)
    {oc__law_numbers : Value} {od__law_numbers an__law_numbers : Option Addr} {sl__law_numbers : Array (Option Value)} {kV__law_numbers doc__law_numbers pm__law_numbers cd__law_numbers ct__law_numbers : Value} (da__law_numbers : PySem.W.nsIn K mainGlobals "_law_numbers" = some (some (.ref g__law_numbers))) (dl__law_numbers : K.lookup g__law_numbers = some ⟨oc__law_numbers, od__law_numbers, .func (PySem.W.fnOf "_law_numbers" "_law_numbers" (defArgs sNum) (defBody sNum) (defScope sNum) .none kV__law_numbers doc__law_numbers pm__law_numbers an__law_numbers cd__law_numbers ct__law_numbers), sl__law_numbers⟩) (dc__law_numbers : PySem.W.codeIn K cd__law_numbers "_law_numbers" = true) (dk__law_numbers : PySem.W.keepIn K (.ref g__law_numbers) = true)
    {oc__law_draw : Value} {od__law_draw an__law_draw : Option Addr} {sl__law_draw : Array (Option Value)} {kV__law_draw doc__law_draw pm__law_draw cd__law_draw ct__law_draw : Value} (da__law_draw : PySem.W.nsIn K mainGlobals "_law_draw" = some (some (.ref g__law_draw))) (dl__law_draw : K.lookup g__law_draw = some ⟨oc__law_draw, od__law_draw, .func (PySem.W.fnOf "_law_draw" "_law_draw" (defArgs sDraw) (defBody sDraw) (defScope sDraw) .none kV__law_draw doc__law_draw pm__law_draw an__law_draw cd__law_draw ct__law_draw), sl__law_draw⟩) (dc__law_draw : PySem.W.codeIn K cd__law_draw "_law_draw" = true) (dk__law_draw : PySem.W.keepIn K (.ref g__law_draw) = true)
    {oc__law_take : Value} {od__law_take an__law_take : Option Addr} {sl__law_take : Array (Option Value)} {kV__law_take doc__law_take pm__law_take cd__law_take ct__law_take : Value} (da__law_take : PySem.W.nsIn K mainGlobals "_law_take" = some (some (.ref g__law_take))) (dl__law_take : K.lookup g__law_take = some ⟨oc__law_take, od__law_take, .func (PySem.W.fnOf "_law_take" "_law_take" (defArgs sTake) (defBody sTake) (defScope sTake) .none kV__law_take doc__law_take pm__law_take an__law_take cd__law_take ct__law_take), sl__law_take⟩) (dc__law_take : PySem.W.codeIn K cd__law_take "_law_take" = true) (dk__law_take : PySem.W.keepIn K (.ref g__law_take) = true)
    {oc__law_wide : Value} {od__law_wide an__law_wide : Option Addr} {sl__law_wide : Array (Option Value)} {kV__law_wide doc__law_wide pm__law_wide cd__law_wide ct__law_wide : Value} (da__law_wide : PySem.W.nsIn K mainGlobals "_law_wide" = some (some (.ref g__law_wide))) (dl__law_wide : K.lookup g__law_wide = some ⟨oc__law_wide, od__law_wide, .func (PySem.W.fnOf "_law_wide" "_law_wide" (defArgs s__law_wide) (defBody s__law_wide) (defScope s__law_wide) .none kV__law_wide doc__law_wide pm__law_wide an__law_wide cd__law_wide ct__law_wide), sl__law_wide⟩) (dc__law_wide : PySem.W.codeIn K cd__law_wide "_law_wide" = true) (dk__law_wide : PySem.W.keepIn K (.ref g__law_wide) = true)
    {oc__law_whole : Value} {od__law_whole an__law_whole : Option Addr} {sl__law_whole : Array (Option Value)} {kV__law_whole doc__law_whole pm__law_whole cd__law_whole ct__law_whole : Value} (da__law_whole : PySem.W.nsIn K mainGlobals "_law_whole" = some (some (.ref g__law_whole))) (dl__law_whole : K.lookup g__law_whole = some ⟨oc__law_whole, od__law_whole, .func (PySem.W.fnOf "_law_whole" "_law_whole" (defArgs s__law_whole) (defBody s__law_whole) (defScope s__law_whole) .none kV__law_whole doc__law_whole pm__law_whole an__law_whole cd__law_whole ct__law_whole), sl__law_whole⟩) (dc__law_whole : PySem.W.codeIn K cd__law_whole "_law_whole" = true) (dk__law_whole : PySem.W.keepIn K (.ref g__law_whole) = true)
    {oc__law_listed : Value} {od__law_listed an__law_listed : Option Addr} {sl__law_listed : Array (Option Value)} {kV__law_listed doc__law_listed pm__law_listed cd__law_listed ct__law_listed : Value} (da__law_listed : PySem.W.nsIn K mainGlobals "_law_listed" = some (some (.ref g__law_listed))) (dl__law_listed : K.lookup g__law_listed = some ⟨oc__law_listed, od__law_listed, .func (PySem.W.fnOf "_law_listed" "_law_listed" (defArgs s__law_listed) (defBody s__law_listed) (defScope s__law_listed) .none kV__law_listed doc__law_listed pm__law_listed an__law_listed cd__law_listed ct__law_listed), sl__law_listed⟩) (dc__law_listed : PySem.W.codeIn K cd__law_listed "_law_listed" = true) (dk__law_listed : PySem.W.keepIn K (.ref g__law_listed) = true)
    {oc__law_tupled : Value} {od__law_tupled an__law_tupled : Option Addr} {sl__law_tupled : Array (Option Value)} {kV__law_tupled doc__law_tupled pm__law_tupled cd__law_tupled ct__law_tupled : Value} (da__law_tupled : PySem.W.nsIn K mainGlobals "_law_tupled" = some (some (.ref g__law_tupled))) (dl__law_tupled : K.lookup g__law_tupled = some ⟨oc__law_tupled, od__law_tupled, .func (PySem.W.fnOf "_law_tupled" "_law_tupled" (defArgs s__law_tupled) (defBody s__law_tupled) (defScope s__law_tupled) .none kV__law_tupled doc__law_tupled pm__law_tupled an__law_tupled cd__law_tupled ct__law_tupled), sl__law_tupled⟩) (dc__law_tupled : PySem.W.codeIn K cd__law_tupled "_law_tupled" = true) (dk__law_tupled : PySem.W.keepIn K (.ref g__law_tupled) = true)
    {oc__law_handed : Value} {od__law_handed an__law_handed : Option Addr} {sl__law_handed : Array (Option Value)} {kV__law_handed doc__law_handed pm__law_handed cd__law_handed ct__law_handed : Value} (da__law_handed : PySem.W.nsIn K mainGlobals "_law_handed" = some (some (.ref g__law_handed))) (dl__law_handed : K.lookup g__law_handed = some ⟨oc__law_handed, od__law_handed, .func (PySem.W.fnOf "_law_handed" "_law_handed" (defArgs s__law_handed) (defBody s__law_handed) (defScope s__law_handed) .none kV__law_handed doc__law_handed pm__law_handed an__law_handed cd__law_handed ct__law_handed), sl__law_handed⟩) (dc__law_handed : PySem.W.codeIn K cd__law_handed "_law_handed" = true) (dk__law_handed : PySem.W.keepIn K (.ref g__law_handed) = true)
    {oc__law_letters : Value} {od__law_letters an__law_letters : Option Addr} {sl__law_letters : Array (Option Value)} {kV__law_letters doc__law_letters pm__law_letters cd__law_letters ct__law_letters : Value} (da__law_letters : PySem.W.nsIn K mainGlobals "_law_letters" = some (some (.ref g__law_letters))) (dl__law_letters : K.lookup g__law_letters = some ⟨oc__law_letters, od__law_letters, .func (PySem.W.fnOf "_law_letters" "_law_letters" (defArgs s__law_letters) (defBody s__law_letters) (defScope s__law_letters) .none kV__law_letters doc__law_letters pm__law_letters an__law_letters cd__law_letters ct__law_letters), sl__law_letters⟩) (dc__law_letters : PySem.W.codeIn K cd__law_letters "_law_letters" = true) (dk__law_letters : PySem.W.keepIn K (.ref g__law_letters) = true)
    {oc__law_name : Value} {od__law_name an__law_name : Option Addr} {sl__law_name : Array (Option Value)} {kV__law_name doc__law_name pm__law_name cd__law_name ct__law_name : Value} (da__law_name : PySem.W.nsIn K mainGlobals "_law_name" = some (some (.ref g__law_name))) (dl__law_name : K.lookup g__law_name = some ⟨oc__law_name, od__law_name, .func (PySem.W.fnOf "_law_name" "_law_name" (defArgs s__law_name) (defBody s__law_name) (defScope s__law_name) .none kV__law_name doc__law_name pm__law_name an__law_name cd__law_name ct__law_name), sl__law_name⟩) (dc__law_name : PySem.W.codeIn K cd__law_name "_law_name" = true) (dk__law_name : PySem.W.keepIn K (.ref g__law_name) = true)
    {oc__law_reserved : Value} {od__law_reserved an__law_reserved : Option Addr} {sl__law_reserved : Array (Option Value)} {kV__law_reserved doc__law_reserved pm__law_reserved cd__law_reserved ct__law_reserved : Value} (da__law_reserved : PySem.W.nsIn K mainGlobals "_law_reserved" = some (some (.ref g__law_reserved))) (dl__law_reserved : K.lookup g__law_reserved = some ⟨oc__law_reserved, od__law_reserved, .func (PySem.W.fnOf "_law_reserved" "_law_reserved" (defArgs s__law_reserved) (defBody s__law_reserved) (defScope s__law_reserved) .none kV__law_reserved doc__law_reserved pm__law_reserved an__law_reserved cd__law_reserved ct__law_reserved), sl__law_reserved⟩) (dc__law_reserved : PySem.W.codeIn K cd__law_reserved "_law_reserved" = true) (dk__law_reserved : PySem.W.keepIn K (.ref g__law_reserved) = true)
    {oc__law_word : Value} {od__law_word an__law_word : Option Addr} {sl__law_word : Array (Option Value)} {kV__law_word doc__law_word pm__law_word cd__law_word ct__law_word : Value} (da__law_word : PySem.W.nsIn K mainGlobals "_law_word" = some (some (.ref g__law_word))) (dl__law_word : K.lookup g__law_word = some ⟨oc__law_word, od__law_word, .func (PySem.W.fnOf "_law_word" "_law_word" (defArgs s__law_word) (defBody s__law_word) (defScope s__law_word) .none kV__law_word doc__law_word pm__law_word an__law_word cd__law_word ct__law_word), sl__law_word⟩) (dc__law_word : PySem.W.codeIn K cd__law_word "_law_word" = true) (dk__law_word : PySem.W.keepIn K (.ref g__law_word) = true)
    {oc__law_is_word : Value} {od__law_is_word an__law_is_word : Option Addr} {sl__law_is_word : Array (Option Value)} {kV__law_is_word doc__law_is_word pm__law_is_word cd__law_is_word ct__law_is_word : Value} (da__law_is_word : PySem.W.nsIn K mainGlobals "_law_is_word" = some (some (.ref g__law_is_word))) (dl__law_is_word : K.lookup g__law_is_word = some ⟨oc__law_is_word, od__law_is_word, .func (PySem.W.fnOf "_law_is_word" "_law_is_word" (defArgs s__law_is_word) (defBody s__law_is_word) (defScope s__law_is_word) .none kV__law_is_word doc__law_is_word pm__law_is_word an__law_is_word cd__law_is_word ct__law_is_word), sl__law_is_word⟩) (dc__law_is_word : PySem.W.codeIn K cd__law_is_word "_law_is_word" = true) (dk__law_is_word : PySem.W.keepIn K (.ref g__law_is_word) = true)
    {oc__law_is_class_name : Value} {od__law_is_class_name an__law_is_class_name : Option Addr} {sl__law_is_class_name : Array (Option Value)} {kV__law_is_class_name doc__law_is_class_name pm__law_is_class_name cd__law_is_class_name ct__law_is_class_name : Value} (da__law_is_class_name : PySem.W.nsIn K mainGlobals "_law_is_class_name" = some (some (.ref g__law_is_class_name))) (dl__law_is_class_name : K.lookup g__law_is_class_name = some ⟨oc__law_is_class_name, od__law_is_class_name, .func (PySem.W.fnOf "_law_is_class_name" "_law_is_class_name" (defArgs s__law_is_class_name) (defBody s__law_is_class_name) (defScope s__law_is_class_name) .none kV__law_is_class_name doc__law_is_class_name pm__law_is_class_name an__law_is_class_name cd__law_is_class_name ct__law_is_class_name), sl__law_is_class_name⟩) (dc__law_is_class_name : PySem.W.codeIn K cd__law_is_class_name "_law_is_class_name" = true) (dk__law_is_class_name : PySem.W.keepIn K (.ref g__law_is_class_name) = true)
    {oc__law_is_class : Value} {od__law_is_class an__law_is_class : Option Addr} {sl__law_is_class : Array (Option Value)} {kV__law_is_class doc__law_is_class pm__law_is_class cd__law_is_class ct__law_is_class : Value} (da__law_is_class : PySem.W.nsIn K mainGlobals "_law_is_class" = some (some (.ref g__law_is_class))) (dl__law_is_class : K.lookup g__law_is_class = some ⟨oc__law_is_class, od__law_is_class, .func (PySem.W.fnOf "_law_is_class" "_law_is_class" (defArgs s__law_is_class) (defBody s__law_is_class) (defScope s__law_is_class) .none kV__law_is_class doc__law_is_class pm__law_is_class an__law_is_class cd__law_is_class ct__law_is_class), sl__law_is_class⟩) (dc__law_is_class : PySem.W.codeIn K cd__law_is_class "_law_is_class" = true) (dk__law_is_class : PySem.W.keepIn K (.ref g__law_is_class) = true)
    {oc__law_inner_parts : Value} {od__law_inner_parts an__law_inner_parts : Option Addr} {sl__law_inner_parts : Array (Option Value)} {kV__law_inner_parts doc__law_inner_parts pm__law_inner_parts cd__law_inner_parts ct__law_inner_parts : Value} (da__law_inner_parts : PySem.W.nsIn K mainGlobals "_law_inner_parts" = some (some (.ref g__law_inner_parts))) (dl__law_inner_parts : K.lookup g__law_inner_parts = some ⟨oc__law_inner_parts, od__law_inner_parts, .func (PySem.W.fnOf "_law_inner_parts" "_law_inner_parts" (defArgs s__law_inner_parts) (defBody s__law_inner_parts) (defScope s__law_inner_parts) .none kV__law_inner_parts doc__law_inner_parts pm__law_inner_parts an__law_inner_parts cd__law_inner_parts ct__law_inner_parts), sl__law_inner_parts⟩) (dc__law_inner_parts : PySem.W.codeIn K cd__law_inner_parts "_law_inner_parts" = true) (dk__law_inner_parts : PySem.W.keepIn K (.ref g__law_inner_parts) = true)
    {oc__law_is_expr : Value} {od__law_is_expr an__law_is_expr : Option Addr} {sl__law_is_expr : Array (Option Value)} {kV__law_is_expr doc__law_is_expr pm__law_is_expr cd__law_is_expr ct__law_is_expr : Value} (da__law_is_expr : PySem.W.nsIn K mainGlobals "_law_is_expr" = some (some (.ref g__law_is_expr))) (dl__law_is_expr : K.lookup g__law_is_expr = some ⟨oc__law_is_expr, od__law_is_expr, .func (PySem.W.fnOf "_law_is_expr" "_law_is_expr" (defArgs s__law_is_expr) (defBody s__law_is_expr) (defScope s__law_is_expr) .none kV__law_is_expr doc__law_is_expr pm__law_is_expr an__law_is_expr cd__law_is_expr ct__law_is_expr), sl__law_is_expr⟩) (dc__law_is_expr : PySem.W.codeIn K cd__law_is_expr "_law_is_expr" = true) (dk__law_is_expr : PySem.W.keepIn K (.ref g__law_is_expr) = true)
    {oc__law_count : Value} {od__law_count an__law_count : Option Addr} {sl__law_count : Array (Option Value)} {kV__law_count doc__law_count pm__law_count cd__law_count ct__law_count : Value} (da__law_count : PySem.W.nsIn K mainGlobals "_law_count" = some (some (.ref g__law_count))) (dl__law_count : K.lookup g__law_count = some ⟨oc__law_count, od__law_count, .func (PySem.W.fnOf "_law_count" "_law_count" (defArgs s__law_count) (defBody s__law_count) (defScope s__law_count) .none kV__law_count doc__law_count pm__law_count an__law_count cd__law_count ct__law_count), sl__law_count⟩) (dc__law_count : PySem.W.codeIn K cd__law_count "_law_count" = true) (dk__law_count : PySem.W.keepIn K (.ref g__law_count) = true)
    {oc__law_is_right_expr : Value} {od__law_is_right_expr an__law_is_right_expr : Option Addr} {sl__law_is_right_expr : Array (Option Value)} {kV__law_is_right_expr doc__law_is_right_expr pm__law_is_right_expr cd__law_is_right_expr ct__law_is_right_expr : Value} (da__law_is_right_expr : PySem.W.nsIn K mainGlobals "_law_is_right_expr" = some (some (.ref g__law_is_right_expr))) (dl__law_is_right_expr : K.lookup g__law_is_right_expr = some ⟨oc__law_is_right_expr, od__law_is_right_expr, .func (PySem.W.fnOf "_law_is_right_expr" "_law_is_right_expr" (defArgs s__law_is_right_expr) (defBody s__law_is_right_expr) (defScope s__law_is_right_expr) .none kV__law_is_right_expr doc__law_is_right_expr pm__law_is_right_expr an__law_is_right_expr cd__law_is_right_expr ct__law_is_right_expr), sl__law_is_right_expr⟩) (dc__law_is_right_expr : PySem.W.codeIn K cd__law_is_right_expr "_law_is_right_expr" = true) (dk__law_is_right_expr : PySem.W.keepIn K (.ref g__law_is_right_expr) = true)
    {oc__law_is_generic : Value} {od__law_is_generic an__law_is_generic : Option Addr} {sl__law_is_generic : Array (Option Value)} {kV__law_is_generic doc__law_is_generic pm__law_is_generic cd__law_is_generic ct__law_is_generic : Value} (da__law_is_generic : PySem.W.nsIn K mainGlobals "_law_is_generic" = some (some (.ref g__law_is_generic))) (dl__law_is_generic : K.lookup g__law_is_generic = some ⟨oc__law_is_generic, od__law_is_generic, .func (PySem.W.fnOf "_law_is_generic" "_law_is_generic" (defArgs s__law_is_generic) (defBody s__law_is_generic) (defScope s__law_is_generic) .none kV__law_is_generic doc__law_is_generic pm__law_is_generic an__law_is_generic cd__law_is_generic ct__law_is_generic), sl__law_is_generic⟩) (dc__law_is_generic : PySem.W.codeIn K cd__law_is_generic "_law_is_generic" = true) (dk__law_is_generic : PySem.W.keepIn K (.ref g__law_is_generic) = true)
    {oc__law_is_method : Value} {od__law_is_method an__law_is_method : Option Addr} {sl__law_is_method : Array (Option Value)} {kV__law_is_method doc__law_is_method pm__law_is_method cd__law_is_method ct__law_is_method : Value} (da__law_is_method : PySem.W.nsIn K mainGlobals "_law_is_method" = some (some (.ref g__law_is_method))) (dl__law_is_method : K.lookup g__law_is_method = some ⟨oc__law_is_method, od__law_is_method, .func (PySem.W.fnOf "_law_is_method" "_law_is_method" (defArgs s__law_is_method) (defBody s__law_is_method) (defScope s__law_is_method) .none kV__law_is_method doc__law_is_method pm__law_is_method an__law_is_method cd__law_is_method ct__law_is_method), sl__law_is_method⟩) (dc__law_is_method : PySem.W.codeIn K cd__law_is_method "_law_is_method" = true) (dk__law_is_method : PySem.W.keepIn K (.ref g__law_is_method) = true)
    {oc__law_is_module : Value} {od__law_is_module an__law_is_module : Option Addr} {sl__law_is_module : Array (Option Value)} {kV__law_is_module doc__law_is_module pm__law_is_module cd__law_is_module ct__law_is_module : Value} (da__law_is_module : PySem.W.nsIn K mainGlobals "_law_is_module" = some (some (.ref g__law_is_module))) (dl__law_is_module : K.lookup g__law_is_module = some ⟨oc__law_is_module, od__law_is_module, .func (PySem.W.fnOf "_law_is_module" "_law_is_module" (defArgs s__law_is_module) (defBody s__law_is_module) (defScope s__law_is_module) .none kV__law_is_module doc__law_is_module pm__law_is_module an__law_is_module cd__law_is_module ct__law_is_module), sl__law_is_module⟩) (dc__law_is_module : PySem.W.codeIn K cd__law_is_module "_law_is_module" = true) (dk__law_is_module : PySem.W.keepIn K (.ref g__law_is_module) = true)
    {oc__law_free_expr : Value} {od__law_free_expr an__law_free_expr : Option Addr} {sl__law_free_expr : Array (Option Value)} {kV__law_free_expr doc__law_free_expr pm__law_free_expr cd__law_free_expr ct__law_free_expr : Value} (da__law_free_expr : PySem.W.nsIn K mainGlobals "_law_free_expr" = some (some (.ref g__law_free_expr))) (dl__law_free_expr : K.lookup g__law_free_expr = some ⟨oc__law_free_expr, od__law_free_expr, .func (PySem.W.fnOf "_law_free_expr" "_law_free_expr" (defArgs s__law_free_expr) (defBody s__law_free_expr) (defScope s__law_free_expr) .none kV__law_free_expr doc__law_free_expr pm__law_free_expr an__law_free_expr cd__law_free_expr ct__law_free_expr), sl__law_free_expr⟩) (dc__law_free_expr : PySem.W.codeIn K cd__law_free_expr "_law_free_expr" = true) (dk__law_free_expr : PySem.W.keepIn K (.ref g__law_free_expr) = true)
    {oc__law_free_named : Value} {od__law_free_named an__law_free_named : Option Addr} {sl__law_free_named : Array (Option Value)} {kV__law_free_named doc__law_free_named pm__law_free_named cd__law_free_named ct__law_free_named : Value} (da__law_free_named : PySem.W.nsIn K mainGlobals "_law_free_named" = some (some (.ref g__law_free_named))) (dl__law_free_named : K.lookup g__law_free_named = some ⟨oc__law_free_named, od__law_free_named, .func (PySem.W.fnOf "_law_free_named" "_law_free_named" (defArgs s__law_free_named) (defBody s__law_free_named) (defScope s__law_free_named) .none kV__law_free_named doc__law_free_named pm__law_free_named an__law_free_named cd__law_free_named ct__law_free_named), sl__law_free_named⟩) (dc__law_free_named : PySem.W.codeIn K cd__law_free_named "_law_free_named" = true) (dk__law_free_named : PySem.W.keepIn K (.ref g__law_free_named) = true)
    {oc__law_free_module : Value} {od__law_free_module an__law_free_module : Option Addr} {sl__law_free_module : Array (Option Value)} {kV__law_free_module doc__law_free_module pm__law_free_module cd__law_free_module ct__law_free_module : Value} (da__law_free_module : PySem.W.nsIn K mainGlobals "_law_free_module" = some (some (.ref g__law_free_module))) (dl__law_free_module : K.lookup g__law_free_module = some ⟨oc__law_free_module, od__law_free_module, .func (PySem.W.fnOf "_law_free_module" "_law_free_module" (defArgs s__law_free_module) (defBody s__law_free_module) (defScope s__law_free_module) .none kV__law_free_module doc__law_free_module pm__law_free_module an__law_free_module cd__law_free_module ct__law_free_module), sl__law_free_module⟩) (dc__law_free_module : PySem.W.codeIn K cd__law_free_module "_law_free_module" = true) (dk__law_free_module : PySem.W.keepIn K (.ref g__law_free_module) = true)
    {oc__law_part_changed : Value} {od__law_part_changed an__law_part_changed : Option Addr} {sl__law_part_changed : Array (Option Value)} {kV__law_part_changed doc__law_part_changed pm__law_part_changed cd__law_part_changed ct__law_part_changed : Value} (da__law_part_changed : PySem.W.nsIn K mainGlobals "_law_part_changed" = some (some (.ref g__law_part_changed))) (dl__law_part_changed : K.lookup g__law_part_changed = some ⟨oc__law_part_changed, od__law_part_changed, .func (PySem.W.fnOf "_law_part_changed" "_law_part_changed" (defArgs s__law_part_changed) (defBody s__law_part_changed) (defScope s__law_part_changed) .none kV__law_part_changed doc__law_part_changed pm__law_part_changed an__law_part_changed cd__law_part_changed ct__law_part_changed), sl__law_part_changed⟩) (dc__law_part_changed : PySem.W.codeIn K cd__law_part_changed "_law_part_changed" = true) (dk__law_part_changed : PySem.W.keepIn K (.ref g__law_part_changed) = true)
    {oc_law : Value} {od_law an_law : Option Addr} {sl_law : Array (Option Value)} {kV_law doc_law pm_law cd_law ct_law : Value} (da_law : PySem.W.nsIn K mainGlobals "law" = some (some (.ref g_law))) (dl_law : K.lookup g_law = some ⟨oc_law, od_law, .func (PySem.W.fnOf "law" "law" (defArgs s_law) (defBody s_law) (defScope s_law) .none kV_law doc_law pm_law an_law cd_law ct_law), sl_law⟩) (dc_law : PySem.W.codeIn K cd_law "law" = true) (dk_law : PySem.W.keepIn K (.ref g_law) = true)
    {t_LARGEST : Tok} (ca_LARGEST : PySem.W.nsIn K mainGlobals "LARGEST" = some (some (.int 65535 t_LARGEST)))
    {t_MOST_LETTERS : Tok} (ca_MOST_LETTERS : PySem.W.nsIn K mainGlobals "MOST_LETTERS" = some (some (.int 12 t_MOST_LETTERS)))
    {t_MOST_VALUES : Tok} (ca_MOST_VALUES : PySem.W.nsIn K mainGlobals "MOST_VALUES" = some (some (.int 12 t_MOST_VALUES)))
    {t_MOST_TAKES : Tok} (ca_MOST_TAKES : PySem.W.nsIn K mainGlobals "MOST_TAKES" = some (some (.int 3 t_MOST_TAKES)))
    {t_MOST_LEVELS : Tok} (ca_MOST_LEVELS : PySem.W.nsIn K mainGlobals "MOST_LEVELS" = some (some (.int 7 t_MOST_LEVELS)))
    {t_MOST_EXPRESSIONS : Tok} (ca_MOST_EXPRESSIONS : PySem.W.nsIn K mainGlobals "MOST_EXPRESSIONS" = some (some (.int 60 t_MOST_EXPRESSIONS)))
    {t_MOST_PARENTS : Tok} (ca_MOST_PARENTS : PySem.W.nsIn K mainGlobals "MOST_PARENTS" = some (some (.int 12 t_MOST_PARENTS)))
    {t_MOST_FIELDS : Tok} (ca_MOST_FIELDS : PySem.W.nsIn K mainGlobals "MOST_FIELDS" = some (some (.int 3 t_MOST_FIELDS)))
    {t_MOST_USES : Tok} (ca_MOST_USES : PySem.W.nsIn K mainGlobals "MOST_USES" = some (some (.int 4 t_MOST_USES)))
    {t_MOST_CLASSES : Tok} (ca_MOST_CLASSES : PySem.W.nsIn K mainGlobals "MOST_CLASSES" = some (some (.int 6 t_MOST_CLASSES)))
    {t_MOST_GENERICS : Tok} (ca_MOST_GENERICS : PySem.W.nsIn K mainGlobals "MOST_GENERICS" = some (some (.int 3 t_MOST_GENERICS)))
    {t_MOST_METHODS : Tok} (ca_MOST_METHODS : PySem.W.nsIn K mainGlobals "MOST_METHODS" = some (some (.int 8 t_MOST_METHODS)))
    {t_LOWER : Tok} (ca_LOWER : PySem.W.nsIn K mainGlobals "LOWER" = some (some (.str "abcdefghijklmnopqrstuvwxyz" t_LOWER)))
    {t_UPPER : Tok} (ca_UPPER : PySem.W.nsIn K mainGlobals "UPPER" = some (some (.str "ABCDEFGHIJKLMNOPQRSTUVWXYZ" t_UPPER)))
    (ca_RESERVED : PySem.W.nsIn K mainGlobals "RESERVED" = some (some (.ref a_RESERVED)))
    (ca_FORMS : PySem.W.nsIn K mainGlobals "FORMS" = some (some (.ref a_FORMS)))
    (ca_ROWS : PySem.W.nsIn K mainGlobals "ROWS" = some (some (.ref a_ROWS)))
    (bR : tupStr K a_RESERVED = some (reserved.map some)) (bRo : tupStr K a_ROWS = some ((["values", "arguments"] : List Str).map some)) (bF : formsB K a_FORMS = true) (bD : He.dicW K a_FORMS = some (He.keysIn w.params (formRows.map (·.1))))
    (ne0 : decide (g_is_named_class = g_is_class_name) = false)
    (ne1 : decide (g_is_class = g_is_name) = false)
    (ne2 : decide (g_is_generic = g_is_name) = false)
    (ne3 : decide (g_is_method = g_is_name) = false)
    (ne4 : decide (g_is_generic = g_is_class) = false)
    (ne5 : decide (g_is_method = g_is_class) = false)
    (ne6 : decide (g_is_method = g_is_generic) = false)
    (z_isinstance : PySem.W.nsIn K mainGlobals "isinstance" = some none)
    (z_len : PySem.W.nsIn K mainGlobals "len" = some none)
    (z_range : PySem.W.nsIn K mainGlobals "range" = some none)
    (z_int : PySem.W.nsIn K mainGlobals "int" = some none)
    (z_tuple : PySem.W.nsIn K mainGlobals "tuple" = some none)
    (z_bool : PySem.W.nsIn K mainGlobals "bool" = some none)
    (z_str : PySem.W.nsIn K mainGlobals "str" = some none)
    (z_list : PySem.W.nsIn K mainGlobals "list" = some none)
    (z_all : PySem.W.nsIn K mainGlobals "all" = some none)
    (z_zip : PySem.W.nsIn K mainGlobals "zip" = some none)
    (z_sum : PySem.W.nsIn K mainGlobals "sum" = some none)
    (z_max : PySem.W.nsIn K mainGlobals "max" = some none) :
    ∃ fd : FuncData, (∀ (s : Shared) (v : Value), BindsTo s fd ⟨[v], []⟩ [("script", v)]) ∧ ∀ base : Heap, K.In base → base.Ns mainGlobals mg → FnOk l.prog w K mg base CX0 60 fa fd ["script"] (spLaw K) := by
  have e := hfa.symm.trans (PySem.W.mg_of X G da_law)
  cases e
  have F_is_integer := fun_mk (st := s_is_integer) dl_is_integer dc_is_integer dk_is_integer
  have h_is_integer : Hd K mg "is_integer" s_is_integer ["value", "least", "most"] _ _ := ⟨F_is_integer, F_is_integer.binds fun _ _ _ _ _ _ us hl => match us, hl with | [_, _, _], _ => rfl, PySem.W.mg_of X G da_is_integer⟩
  have F_is_sequence := fun_mk (st := s_is_sequence) dl_is_sequence dc_is_sequence dk_is_sequence
  have h_is_sequence : Hd K mg "is_sequence" s_is_sequence ["value", "least", "most"] _ _ := ⟨F_is_sequence, F_is_sequence.binds fun _ _ _ _ _ _ us hl => match us, hl with | [_, _, _], _ => rfl, PySem.W.mg_of X G da_is_sequence⟩
  have F_are_lower := fun_mk (st := s_are_lower) dl_are_lower dc_are_lower dk_are_lower
  have h_are_lower : Hd K mg "are_lower" s_are_lower ["text"] _ _ := ⟨F_are_lower, F_are_lower.binds fun _ _ _ _ _ _ us hl => match us, hl with | [_], _ => rfl, PySem.W.mg_of X G da_are_lower⟩
  have F_is_name := fun_mk (st := s_is_name) dl_is_name dc_is_name dk_is_name
  have h_is_name : Hd K mg "is_name" s_is_name ["value"] _ _ := ⟨F_is_name, F_is_name.binds fun _ _ _ _ _ _ us hl => match us, hl with | [_], _ => rfl, PySem.W.mg_of X G da_is_name⟩
  have F_is_class_word := fun_mk (st := s_is_class_word) dl_is_class_word dc_is_class_word dk_is_class_word
  have h_is_class_word : Hd K mg "is_class_word" s_is_class_word ["value"] _ _ := ⟨F_is_class_word, F_is_class_word.binds fun _ _ _ _ _ _ us hl => match us, hl with | [_], _ => rfl, PySem.W.mg_of X G da_is_class_word⟩
  have F_is_class_name := fun_mk (st := s_is_class_name) dl_is_class_name dc_is_class_name dk_is_class_name
  have h_is_class_name : Hd K mg "is_class_name" s_is_class_name ["value"] _ _ := ⟨F_is_class_name, F_is_class_name.binds fun _ _ _ _ _ _ us hl => match us, hl with | [_], _ => rfl, PySem.W.mg_of X G da_is_class_name⟩
  have F_is_generic_name := fun_mk (st := s_is_generic_name) dl_is_generic_name dc_is_generic_name dk_is_generic_name
  have h_is_generic_name : Hd K mg "is_generic_name" s_is_generic_name ["value"] _ _ := ⟨F_is_generic_name, F_is_generic_name.binds fun _ _ _ _ _ _ us hl => match us, hl with | [_], _ => rfl, PySem.W.mg_of X G da_is_generic_name⟩
  have F_is_module := fun_mk (st := s_is_module) dl_is_module dc_is_module dk_is_module
  have h_is_module : Hd K mg "is_module" s_is_module ["value"] _ _ := ⟨F_is_module, F_is_module.binds fun _ _ _ _ _ _ us hl => match us, hl with | [_], _ => rfl, PySem.W.mg_of X G da_is_module⟩
  have F_is_expression := fun_mk (st := s_is_expression) dl_is_expression dc_is_expression dk_is_expression
  have h_is_expression : Hd K mg "is_expression" s_is_expression ["value"] _ _ := ⟨F_is_expression, F_is_expression.binds fun _ _ _ _ _ _ us hl => match us, hl with | [_], _ => rfl, PySem.W.mg_of X G da_is_expression⟩
  have F_are_all := fun_mk (st := s_are_all) dl_are_all dc_are_all dk_are_all
  have h_are_all : Hd K mg "are_all" s_are_all ["value", "least", "most", "test"] _ _ := ⟨F_are_all, F_are_all.binds fun _ _ _ _ _ _ us hl => match us, hl with | [_, _, _, _], _ => rfl, PySem.W.mg_of X G da_are_all⟩
  have F_is_class := fun_mk (st := s_is_class) dl_is_class dc_is_class dk_is_class
  have h_is_class : Hd K mg "is_class" s_is_class ["value"] _ _ := ⟨F_is_class, F_is_class.binds fun _ _ _ _ _ _ us hl => match us, hl with | [_], _ => rfl, PySem.W.mg_of X G da_is_class⟩
  have F_is_generic := fun_mk (st := s_is_generic) dl_is_generic dc_is_generic dk_is_generic
  have h_is_generic : Hd K mg "is_generic" s_is_generic ["value"] _ _ := ⟨F_is_generic, F_is_generic.binds fun _ _ _ _ _ _ us hl => match us, hl with | [_], _ => rfl, PySem.W.mg_of X G da_is_generic⟩
  have F_is_method := fun_mk (st := s_is_method) dl_is_method dc_is_method dk_is_method
  have h_is_method : Hd K mg "is_method" s_is_method ["value"] _ _ := ⟨F_is_method, F_is_method.binds fun _ _ _ _ _ _ us hl => match us, hl with | [_], _ => rfl, PySem.W.mg_of X G da_is_method⟩
  have F_is_named_class := fun_mk (st := s_is_named_class) dl_is_named_class dc_is_named_class dk_is_named_class
  have h_is_named_class : Hd K mg "is_named_class" s_is_named_class ["value"] _ _ := ⟨F_is_named_class, F_is_named_class.binds fun _ _ _ _ _ _ us hl => match us, hl with | [_], _ => rfl, PySem.W.mg_of X G da_is_named_class⟩
  have F_form_parts := fun_mk (st := s_form_parts) dl_form_parts dc_form_parts dk_form_parts
  have h_form_parts : Hd K mg "form_parts" s_form_parts ["value"] _ _ := ⟨F_form_parts, F_form_parts.binds fun _ _ _ _ _ _ us hl => match us, hl with | [_], _ => rfl, PySem.W.mg_of X G da_form_parts⟩
  have F_is_member := fun_mk (st := s_is_member) dl_is_member dc_is_member dk_is_member
  have h_is_member : Hd K mg "is_member" s_is_member ["kind", "value"] _ _ := ⟨F_is_member, F_is_member.binds fun _ _ _ _ _ _ us hl => match us, hl with | [_, _], _ => rfl, PySem.W.mg_of X G da_is_member⟩
  have F__law_so := fun_mk (st := sSo) dl__law_so dc__law_so dk__law_so
  have h__law_so : Hd K mg "_law_so" sSo ["found", "meant"] _ _ := ⟨F__law_so, F__law_so.binds fun _ _ _ _ _ _ us hl => match us, hl with | [_, _], _ => rfl, PySem.W.mg_of X G da__law_so⟩
  have F__law_numbers := fun_mk (st := sNum) dl__law_numbers dc__law_numbers dk__law_numbers
  have h__law_numbers : Hd K mg "_law_numbers" sNum ["script"] _ _ := ⟨F__law_numbers, F__law_numbers.binds fun _ _ _ _ _ _ us hl => match us, hl with | [_], _ => rfl, PySem.W.mg_of X G da__law_numbers⟩
  have F__law_draw := fun_mk (st := sDraw) dl__law_draw dc__law_draw dk__law_draw
  have h__law_draw : Hd K mg "_law_draw" sDraw ["row", "at", "limit"] _ _ := ⟨F__law_draw, F__law_draw.binds fun _ _ _ _ _ _ us hl => match us, hl with | [_, _, _], _ => rfl, PySem.W.mg_of X G da__law_draw⟩
  have F__law_take := fun_mk (st := sTake) dl__law_take dc__law_take dk__law_take
  have h__law_take : Hd K mg "_law_take" sTake ["row", "spot", "limit"] _ _ := ⟨F__law_take, F__law_take.binds fun _ _ _ _ _ _ us hl => match us, hl with | [_, _, _], _ => rfl, PySem.W.mg_of X G da__law_take⟩
  have F__law_wide := fun_mk (st := s__law_wide) dl__law_wide dc__law_wide dk__law_wide
  have h__law_wide : Hd K mg "_law_wide" s__law_wide ["row", "spot", "limit"] _ _ := ⟨F__law_wide, F__law_wide.binds fun _ _ _ _ _ _ us hl => match us, hl with | [_, _, _], _ => rfl, PySem.W.mg_of X G da__law_wide⟩
  have F__law_whole := fun_mk (st := s__law_whole) dl__law_whole dc__law_whole dk__law_whole
  have h__law_whole : Hd K mg "_law_whole" s__law_whole ["value"] _ _ := ⟨F__law_whole, F__law_whole.binds fun _ _ _ _ _ _ us hl => match us, hl with | [_], _ => rfl, PySem.W.mg_of X G da__law_whole⟩
  have F__law_listed := fun_mk (st := s__law_listed) dl__law_listed dc__law_listed dk__law_listed
  have h__law_listed : Hd K mg "_law_listed" s__law_listed ["value"] _ _ := ⟨F__law_listed, F__law_listed.binds fun _ _ _ _ _ _ us hl => match us, hl with | [_], _ => rfl, PySem.W.mg_of X G da__law_listed⟩
  have F__law_tupled := fun_mk (st := s__law_tupled) dl__law_tupled dc__law_tupled dk__law_tupled
  have h__law_tupled : Hd K mg "_law_tupled" s__law_tupled ["value"] _ _ := ⟨F__law_tupled, F__law_tupled.binds fun _ _ _ _ _ _ us hl => match us, hl with | [_], _ => rfl, PySem.W.mg_of X G da__law_tupled⟩
  have F__law_handed := fun_mk (st := s__law_handed) dl__law_handed dc__law_handed dk__law_handed
  have h__law_handed : Hd K mg "_law_handed" s__law_handed ["row", "spot", "value"] _ _ := ⟨F__law_handed, F__law_handed.binds fun _ _ _ _ _ _ us hl => match us, hl with | [_, _, _], _ => rfl, PySem.W.mg_of X G da__law_handed⟩
  have F__law_letters := fun_mk (st := s__law_letters) dl__law_letters dc__law_letters dk__law_letters
  have h__law_letters : Hd K mg "_law_letters" s__law_letters ["row", "spot", "many"] _ _ := ⟨F__law_letters, F__law_letters.binds fun _ _ _ _ _ _ us hl => match us, hl with | [_, _, _], _ => rfl, PySem.W.mg_of X G da__law_letters⟩
  have F__law_name := fun_mk (st := s__law_name) dl__law_name dc__law_name dk__law_name
  have h__law_name : Hd K mg "_law_name" s__law_name ["row", "spot", "used"] _ _ := ⟨F__law_name, F__law_name.binds fun _ _ _ _ _ _ us hl => match us, hl with | [_, _, _], _ => rfl, PySem.W.mg_of X G da__law_name⟩
  have F__law_reserved := fun_mk (st := s__law_reserved) dl__law_reserved dc__law_reserved dk__law_reserved
  have h__law_reserved : Hd K mg "_law_reserved" s__law_reserved [] _ _ := ⟨F__law_reserved, F__law_reserved.binds fun _ _ _ _ _ _ us hl => match us, hl with | [], _ => rfl, PySem.W.mg_of X G da__law_reserved⟩
  have F__law_word := fun_mk (st := s__law_word) dl__law_word dc__law_word dk__law_word
  have h__law_word : Hd K mg "_law_word" s__law_word ["row", "spot", "used"] _ _ := ⟨F__law_word, F__law_word.binds fun _ _ _ _ _ _ us hl => match us, hl with | [_, _, _], _ => rfl, PySem.W.mg_of X G da__law_word⟩
  have F__law_is_word := fun_mk (st := s__law_is_word) dl__law_is_word dc__law_is_word dk__law_is_word
  have h__law_is_word : Hd K mg "_law_is_word" s__law_is_word ["value", "capital"] _ _ := ⟨F__law_is_word, F__law_is_word.binds fun _ _ _ _ _ _ us hl => match us, hl with | [_, _], _ => rfl, PySem.W.mg_of X G da__law_is_word⟩
  have F__law_is_class_name := fun_mk (st := s__law_is_class_name) dl__law_is_class_name dc__law_is_class_name dk__law_is_class_name
  have h__law_is_class_name : Hd K mg "_law_is_class_name" s__law_is_class_name ["value", "capital"] _ _ := ⟨F__law_is_class_name, F__law_is_class_name.binds fun _ _ _ _ _ _ us hl => match us, hl with | [_, _], _ => rfl, PySem.W.mg_of X G da__law_is_class_name⟩
  have F__law_is_class := fun_mk (st := s__law_is_class) dl__law_is_class dc__law_is_class dk__law_is_class
  have h__law_is_class : Hd K mg "_law_is_class" s__law_is_class ["value"] _ _ := ⟨F__law_is_class, F__law_is_class.binds fun _ _ _ _ _ _ us hl => match us, hl with | [_], _ => rfl, PySem.W.mg_of X G da__law_is_class⟩
  have F__law_inner_parts := fun_mk (st := s__law_inner_parts) dl__law_inner_parts dc__law_inner_parts dk__law_inner_parts
  have h__law_inner_parts : Hd K mg "_law_inner_parts" s__law_inner_parts ["value"] _ _ := ⟨F__law_inner_parts, F__law_inner_parts.binds fun _ _ _ _ _ _ us hl => match us, hl with | [_], _ => rfl, PySem.W.mg_of X G da__law_inner_parts⟩
  have F__law_is_expr := fun_mk (st := s__law_is_expr) dl__law_is_expr dc__law_is_expr dk__law_is_expr
  have h__law_is_expr : Hd K mg "_law_is_expr" s__law_is_expr ["value", "deep"] _ _ := ⟨F__law_is_expr, F__law_is_expr.binds fun _ _ _ _ _ _ us hl => match us, hl with | [_, _], _ => rfl, PySem.W.mg_of X G da__law_is_expr⟩
  have F__law_count := fun_mk (st := s__law_count) dl__law_count dc__law_count dk__law_count
  have h__law_count : Hd K mg "_law_count" s__law_count ["value"] _ _ := ⟨F__law_count, F__law_count.binds fun _ _ _ _ _ _ us hl => match us, hl with | [_], _ => rfl, PySem.W.mg_of X G da__law_count⟩
  have F__law_is_right_expr := fun_mk (st := s__law_is_right_expr) dl__law_is_right_expr dc__law_is_right_expr dk__law_is_right_expr
  have h__law_is_right_expr : Hd K mg "_law_is_right_expr" s__law_is_right_expr ["value"] _ _ := ⟨F__law_is_right_expr, F__law_is_right_expr.binds fun _ _ _ _ _ _ us hl => match us, hl with | [_], _ => rfl, PySem.W.mg_of X G da__law_is_right_expr⟩
  have F__law_is_generic := fun_mk (st := s__law_is_generic) dl__law_is_generic dc__law_is_generic dk__law_is_generic
  have h__law_is_generic : Hd K mg "_law_is_generic" s__law_is_generic ["value"] _ _ := ⟨F__law_is_generic, F__law_is_generic.binds fun _ _ _ _ _ _ us hl => match us, hl with | [_], _ => rfl, PySem.W.mg_of X G da__law_is_generic⟩
  have F__law_is_method := fun_mk (st := s__law_is_method) dl__law_is_method dc__law_is_method dk__law_is_method
  have h__law_is_method : Hd K mg "_law_is_method" s__law_is_method ["value"] _ _ := ⟨F__law_is_method, F__law_is_method.binds fun _ _ _ _ _ _ us hl => match us, hl with | [_], _ => rfl, PySem.W.mg_of X G da__law_is_method⟩
  have F__law_is_module := fun_mk (st := s__law_is_module) dl__law_is_module dc__law_is_module dk__law_is_module
  have h__law_is_module : Hd K mg "_law_is_module" s__law_is_module ["value"] _ _ := ⟨F__law_is_module, F__law_is_module.binds fun _ _ _ _ _ _ us hl => match us, hl with | [_], _ => rfl, PySem.W.mg_of X G da__law_is_module⟩
  have F__law_free_expr := fun_mk (st := s__law_free_expr) dl__law_free_expr dc__law_free_expr dk__law_free_expr
  have h__law_free_expr : Hd K mg "_law_free_expr" s__law_free_expr ["row", "spot", "deep"] _ _ := ⟨F__law_free_expr, F__law_free_expr.binds fun _ _ _ _ _ _ us hl => match us, hl with | [_, _, _], _ => rfl, PySem.W.mg_of X G da__law_free_expr⟩
  have F__law_free_named := fun_mk (st := s__law_free_named) dl__law_free_named dc__law_free_named dk__law_free_named
  have h__law_free_named : Hd K mg "_law_free_named" s__law_free_named ["row", "spot", "capital"] _ _ := ⟨F__law_free_named, F__law_free_named.binds fun _ _ _ _ _ _ us hl => match us, hl with | [_, _, _], _ => rfl, PySem.W.mg_of X G da__law_free_named⟩
  have F__law_free_module := fun_mk (st := s__law_free_module) dl__law_free_module dc__law_free_module dk__law_free_module
  have h__law_free_module : Hd K mg "_law_free_module" s__law_free_module ["row", "spot"] _ _ := ⟨F__law_free_module, F__law_free_module.binds fun _ _ _ _ _ _ us hl => match us, hl with | [_, _], _ => rfl, PySem.W.mg_of X G da__law_free_module⟩
  have F__law_part_changed := fun_mk (st := s__law_part_changed) dl__law_part_changed dc__law_part_changed dk__law_part_changed
  have h__law_part_changed : Hd K mg "_law_part_changed" s__law_part_changed ["row", "spot", "value"] _ _ := ⟨F__law_part_changed, F__law_part_changed.binds fun _ _ _ _ _ _ us hl => match us, hl with | [_, _, _], _ => rfl, PySem.W.mg_of X G da__law_part_changed⟩
  have F_law := fun_mk (st := s_law) dl_law dc_law dk_law
  have h_LARGEST : Cst K mg "LARGEST" (.int 65535) _ := ⟨PySem.W.mg_of X G ca_LARGEST, ⟨_, rfl⟩⟩
  have h_MOST_LETTERS : Cst K mg "MOST_LETTERS" (.int 12) _ := ⟨PySem.W.mg_of X G ca_MOST_LETTERS, ⟨_, rfl⟩⟩
  have h_MOST_VALUES : Cst K mg "MOST_VALUES" (.int 12) _ := ⟨PySem.W.mg_of X G ca_MOST_VALUES, ⟨_, rfl⟩⟩
  have h_MOST_TAKES : Cst K mg "MOST_TAKES" (.int 3) _ := ⟨PySem.W.mg_of X G ca_MOST_TAKES, ⟨_, rfl⟩⟩
  have h_MOST_LEVELS : Cst K mg "MOST_LEVELS" (.int 7) _ := ⟨PySem.W.mg_of X G ca_MOST_LEVELS, ⟨_, rfl⟩⟩
  have h_MOST_EXPRESSIONS : Cst K mg "MOST_EXPRESSIONS" (.int 60) _ := ⟨PySem.W.mg_of X G ca_MOST_EXPRESSIONS, ⟨_, rfl⟩⟩
  have h_MOST_PARENTS : Cst K mg "MOST_PARENTS" (.int 12) _ := ⟨PySem.W.mg_of X G ca_MOST_PARENTS, ⟨_, rfl⟩⟩
  have h_MOST_FIELDS : Cst K mg "MOST_FIELDS" (.int 3) _ := ⟨PySem.W.mg_of X G ca_MOST_FIELDS, ⟨_, rfl⟩⟩
  have h_MOST_USES : Cst K mg "MOST_USES" (.int 4) _ := ⟨PySem.W.mg_of X G ca_MOST_USES, ⟨_, rfl⟩⟩
  have h_MOST_CLASSES : Cst K mg "MOST_CLASSES" (.int 6) _ := ⟨PySem.W.mg_of X G ca_MOST_CLASSES, ⟨_, rfl⟩⟩
  have h_MOST_GENERICS : Cst K mg "MOST_GENERICS" (.int 3) _ := ⟨PySem.W.mg_of X G ca_MOST_GENERICS, ⟨_, rfl⟩⟩
  have h_MOST_METHODS : Cst K mg "MOST_METHODS" (.int 8) _ := ⟨PySem.W.mg_of X G ca_MOST_METHODS, ⟨_, rfl⟩⟩
  have h_LOWER : Cst K mg "LOWER" (.str "abcdefghijklmnopqrstuvwxyz") _ := ⟨PySem.W.mg_of X G ca_LOWER, ⟨_, rfl⟩⟩
  have h_UPPER : Cst K mg "UPPER" (.str "ABCDEFGHIJKLMNOPQRSTUVWXYZ") _ := ⟨PySem.W.mg_of X G ca_UPPER, ⟨_, rfl⟩⟩
  have h_RESERVED : Cst K mg "RESERVED" (.ref a_RESERVED) _ := ⟨PySem.W.mg_of X G ca_RESERVED, rfl⟩
  have h_FORMS : Cst K mg "FORMS" (.ref a_FORMS) _ := ⟨PySem.W.mg_of X G ca_FORMS, rfl⟩
  have h_ROWS : Cst K mg "ROWS" (.ref a_ROWS) _ := ⟨PySem.W.mg_of X G ca_ROWS, rfl⟩
  have t_RESERVED : ∀ H : Hp, SqT K H a_RESERVED (reserved.map V.str) := tup_of bR
  have t_ROWS : ∀ H : Hp, SqT K H a_ROWS (((["values", "arguments"] : List Str)).map V.str) := tup_of bRo
  have t_FORMS : Forms K w a_FORMS := forms_of (He.dicW_ok bD) bF
  have m_isinstance := PySem.W.mg_none_of X G z_isinstance
  have m_len := PySem.W.mg_none_of X G z_len
  have m_range := PySem.W.mg_none_of X G z_range
  have m_int := PySem.W.mg_none_of X G z_int
  have m_tuple := PySem.W.mg_none_of X G z_tuple
  have m_bool := PySem.W.mg_none_of X G z_bool
  have m_str := PySem.W.mg_none_of X G z_str
  have m_list := PySem.W.mg_none_of X G z_list
  have m_all := PySem.W.mg_none_of X G z_all
  have m_zip := PySem.W.mg_none_of X G z_zip
  have m_sum := PySem.W.mg_none_of X G z_sum
  have m_max := PySem.W.mg_none_of X G z_max
  have kb_is_module := F_is_module.kb1 (v := "value") fun _ _ _ _ _ _ _ => rfl
  have kb_is_expression := F_is_expression.kb1 (v := "value") fun _ _ _ _ _ _ _ => rfl
  have n0 : g_is_named_class ≠ g_is_class_name := of_decide_eq_false ne0
  have n1 : g_is_class ≠ g_is_name := of_decide_eq_false ne1
  have n2 : g_is_generic ≠ g_is_name := of_decide_eq_false ne2
  have n3 : g_is_method ≠ g_is_name := of_decide_eq_false ne3
  have n4 : g_is_generic ≠ g_is_class := of_decide_eq_false ne4
  have n5 : g_is_method ≠ g_is_class := of_decide_eq_false ne5
  have n6 : g_is_method ≠ g_is_generic := of_decide_eq_false ne6
  refine ⟨PySem.W.fnOf "law" "law" (defArgs s_law) (defBody s_law) (defScope s_law) .none kV_law doc_law pm_law an_law cd_law ct_law, fun s v => .of_eq rfl, fun base _ _ => ?_⟩
  have G__law_numbers := ok_num (P := l.prog) (w := w) (base := base) (k := 0) F__law_numbers m_range m_int m_len
  have G_take0 := ok_take (P := l.prog) (w := w) (base := base) (k := 0) F__law_take F__law_draw h__law_draw.b h__law_draw.g m_int m_len
  have G__law_take := ok_tk G_take0
  have G__law_so : FnOk l.prog w K mg base CX0 13 _ _ ["found", "meant"] (spSo K 12) := ok_so (k := 1) F__law_so h__law_so.b h__law_so.g m_isinstance m_len m_range m_tuple m_bool m_int m_str 12
  have G_is_integer := ok_is_integer (P := l.prog) (w := w) (mg := mg) (base := base)  F_is_integer m_isinstance m_int m_bool
  have G_is_sequence := ok_is_sequence (P := l.prog) (w := w) (mg := mg) (base := base)  F_is_sequence m_isinstance m_list m_tuple m_len
  have G_are_lower := ok_are_lower (P := l.prog) (w := w) (mg := mg) (base := base)  F_are_lower h_LOWER
  have G_is_name := ok_is_name (P := l.prog) (w := w) (mg := mg) (base := base)  F_is_name h_are_lower G_are_lower h_MOST_LETTERS h_RESERVED t_RESERVED m_isinstance m_str m_len
  have G_is_class_word := ok_is_class_word (P := l.prog) (w := w) (mg := mg) (base := base)  F_is_class_word h_are_lower G_are_lower h_MOST_LETTERS h_UPPER m_isinstance m_str m_len
  have G_is_class_name := ok_is_class_name (P := l.prog) (w := w) (mg := mg) (base := base)  F_is_class_name h_is_name G_is_name h_is_class_word G_is_class_word m_isinstance m_str
  have G_is_generic_name := ok_is_generic_name (P := l.prog) (w := w) (mg := mg) (base := base)  F_is_generic_name h_is_name G_is_name m_isinstance m_str
  have G_is_named_class := ok_is_named_class (P := l.prog) (w := w) (mg := mg) (base := base)  F_is_named_class h_is_sequence G_is_sequence h_is_name G_is_name h_is_class_name G_is_class_name
  have G_is_member := ok_is_member (P := l.prog) (w := w) (mg := mg) (base := base)  F_is_member h_is_integer G_is_integer h_is_name G_is_name h_is_class_name G_is_class_name h_is_generic_name G_is_generic_name h_is_sequence G_is_sequence h_LARGEST h_MOST_VALUES h_MOST_TAKES
  have G_form_parts := ok_form_parts (P := l.prog) (w := w) (mg := mg) (base := base)  F_form_parts h_is_member G_is_member h_FORMS t_FORMS h_ROWS t_ROWS m_isinstance m_list m_tuple m_len m_str m_zip
  have G_is_expression := ok_is_expression (P := l.prog) (w := w) (mg := mg) (base := base)  F_is_expression h_form_parts G_form_parts h_MOST_LEVELS h_MOST_EXPRESSIONS m_range m_len
  let S1 : Addr → Option Sp := fun a => if a = g_is_class_name then some (sp1 K isCname) else if a = g_is_named_class then some (sp1 K isNamed) else none
  have s1a : S1 g_is_class_name = some (sp1 K isCname) := if_pos rfl
  have s1b : S1 g_is_named_class = some (sp1 K isNamed) := (if_neg n0).trans (if_pos rfl)
  have A1 : ∀ f sp, S1 f = some sp → Held l.prog w K mg base 8 f sp := fun f sp h => by
    by_cases c1 : f = g_is_class_name
    · subst c1
      obtain rfl := Option.some.inj (s1a.symm.trans h)
      exact ⟨⟨_, _, G_is_class_name.mono (by decide), F_is_class_name.kp, h_is_class_name.b⟩⟩
    by_cases c2 : f = g_is_named_class
    · subst c2
      obtain rfl := Option.some.inj (s1b.symm.trans h)
      exact ⟨⟨_, _, G_is_named_class.mono (by decide), F_is_named_class.kp, h_is_named_class.b⟩⟩
    have e : S1 f = none := (if_neg c1).trans (if_neg c2)
    rw [e] at h
    cases h
  have G_all1 := ok_are_all (P := l.prog) (w := w) (base := base) (S := S1) F_are_all h_is_sequence G_is_sequence m_all (n := 8) (by decide) A1
  have G_is_class := ok_is_class (P := l.prog) (w := w) (mg := mg) (base := base) (S := S1) F_is_class h_is_sequence G_is_sequence h_is_class_word G_is_class_word h_are_all G_all1 h_is_class_name h_is_named_class h_MOST_PARENTS h_MOST_FIELDS m_isinstance m_bool s1a s1b
  have G_is_generic := ok_is_generic (P := l.prog) (w := w) (mg := mg) (base := base) (S := S1) F_is_generic h_is_sequence G_is_sequence h_is_name G_is_name h_are_all G_all1 h_is_class_name G_is_class_name h_is_integer G_is_integer h_MOST_TAKES m_len s1a
  have G_is_method := ok_is_method (P := l.prog) (w := w) (mg := mg) (base := base) (S := S1) F_is_method h_is_sequence G_is_sequence h_is_generic_name G_is_generic_name h_are_all G_all1 h_is_named_class h_is_expression G_is_expression h_MOST_TAKES s1b
  let S2 : Addr → Option Sp := fun a => if a = g_is_name then some (sp1 K isName) else if a = g_is_class then some (sp1 K isClass) else if a = g_is_generic then some (sp1 K isGeneric) else if a = g_is_method then some (sp1 K isMethod) else none
  have s2a : S2 g_is_name = some (sp1 K isName) := if_pos rfl
  have s2b : S2 g_is_class = some (sp1 K isClass) := (if_neg n1).trans (if_pos rfl)
  have s2c : S2 g_is_generic = some (sp1 K isGeneric) := (if_neg n2).trans ((if_neg n4).trans (if_pos rfl))
  have s2d : S2 g_is_method = some (sp1 K isMethod) := (if_neg n3).trans ((if_neg n5).trans ((if_neg n6).trans (if_pos rfl)))
  have A2 : ∀ f sp, S2 f = some sp → Held l.prog w K mg base 10 f sp := fun f sp h => by
    by_cases c1 : f = g_is_name
    · subst c1
      obtain rfl := Option.some.inj (s2a.symm.trans h)
      exact ⟨⟨_, _, G_is_name.mono (by decide), F_is_name.kp, h_is_name.b⟩⟩
    by_cases c2 : f = g_is_class
    · subst c2
      obtain rfl := Option.some.inj (s2b.symm.trans h)
      exact ⟨⟨_, _, G_is_class, F_is_class.kp, h_is_class.b⟩⟩
    by_cases c3 : f = g_is_generic
    · subst c3
      obtain rfl := Option.some.inj (s2c.symm.trans h)
      exact ⟨⟨_, _, G_is_generic, F_is_generic.kp, h_is_generic.b⟩⟩
    by_cases c4 : f = g_is_method
    · subst c4
      obtain rfl := Option.some.inj (s2d.symm.trans h)
      exact ⟨⟨_, _, G_is_method, F_is_method.kp, h_is_method.b⟩⟩
    have e : S2 f = none := (if_neg c1).trans ((if_neg c2).trans ((if_neg c3).trans (if_neg c4)))
    rw [e] at h
    cases h
  have G_all2 := ok_are_all (P := l.prog) (w := w) (base := base) (S := S2) F_are_all h_is_sequence G_is_sequence m_all (n := 10) (by decide) A2
  have G_is_module := ok_is_module (P := l.prog) (w := w) (mg := mg) (base := base) (S := S2) F_is_module h_is_sequence G_is_sequence h_is_name G_is_name h_are_all G_all2 h_is_class h_is_generic h_is_method h_MOST_USES h_MOST_CLASSES h_MOST_GENERICS h_MOST_METHODS s2a s2b s2c s2d
  have G__law_whole := ok__law_whole (P := l.prog) (w := w) (mg := mg) (base := base)  F__law_whole m_isinstance m_int m_bool
  have G__law_reserved := ok__law_reserved (P := l.prog) (w := w) (mg := mg) (base := base)  F__law_reserved
  have G__law_is_word := ok__law_is_word (P := l.prog) (w := w) (mg := mg) (base := base)  F__law_is_word h__law_reserved G__law_reserved m_isinstance m_str m_len m_range
  have G__law_is_class_name := ok__law_is_class_name (P := l.prog) (w := w) (mg := mg) (base := base)  F__law_is_class_name h__law_is_word G__law_is_word m_isinstance m_str
  have G__law_is_class := ok__law_is_class (P := l.prog) (w := w) (mg := mg) (base := base)  F__law_is_class h__law_is_word G__law_is_word h__law_is_class_name G__law_is_class_name m_isinstance m_tuple m_len m_bool
  have G__law_is_generic := ok__law_is_generic (P := l.prog) (w := w) (mg := mg) (base := base)  F__law_is_generic h__law_is_word G__law_is_word h__law_whole G__law_whole h__law_is_class_name G__law_is_class_name m_isinstance m_tuple m_len
  have G__law_inner_parts := ok__law_inner_parts (P := l.prog) (w := w) (mg := mg) (base := base)  F__law_inner_parts m_list
  have G__law_is_expr : FnOk l.prog w K mg base CX0 12 _ _ ["value", "deep"] (spExpr K 8) := ok__law_is_expr (P := l.prog) (w := w) (mg := mg) (base := base) F__law_is_expr h__law_whole G__law_whole h__law_is_word G__law_is_word h__law_is_class_name G__law_is_class_name h__law_inner_parts G__law_inner_parts m_isinstance m_tuple m_len m_str h__law_is_expr.b h__law_is_expr.g 8
  have G__law_count : FnOk l.prog w K mg base CX0 9 _ _ ["value"] (spCount K 7) := ok__law_count (P := l.prog) (w := w) (mg := mg) (base := base) F__law_count h__law_inner_parts G__law_inner_parts m_sum h__law_count.b h__law_count.g 7
  have G__law_is_right_expr := ok__law_is_right_expr (P := l.prog) (w := w) (mg := mg) (base := base)  F__law_is_right_expr h__law_is_expr G__law_is_expr h__law_count G__law_count
  have G__law_is_method := ok__law_is_method (P := l.prog) (w := w) (mg := mg) (base := base) (rx := lawRx) F__law_is_method h__law_is_class_name G__law_is_class_name h__law_is_word G__law_is_word h__law_is_right_expr G__law_is_right_expr m_isinstance m_tuple m_len
  have G__law_is_module := ok__law_is_module (P := l.prog) (w := w) (mg := mg) (base := base) (rm := lawMethod lawRx) F__law_is_module h__law_is_word G__law_is_word h__law_is_class G__law_is_class h__law_is_generic G__law_is_generic h__law_is_method G__law_is_method m_isinstance m_tuple m_len m_range
  have G__law_wide := ok__law_wide (P := l.prog) (w := w) (mg := mg) (base := base)  F__law_wide h__law_take G__law_take m_int
  have G__law_letters := ok__law_letters (P := l.prog) (w := w) (mg := mg) (base := base)  F__law_letters h__law_take G__law_take m_range
  have G__law_name := ok__law_name (P := l.prog) (w := w) (mg := mg) (base := base)  F__law_name h__law_letters G__law_letters h__law_take G__law_take h__law_reserved G__law_reserved m_range
  have G__law_word := ok__law_word (P := l.prog) (w := w) (mg := mg) (base := base)  F__law_word h__law_take G__law_take h__law_letters G__law_letters m_range
  have G__law_free_named := ok__law_free_named (P := l.prog) (w := w) (mg := mg) (base := base)  F__law_free_named h__law_take G__law_take h__law_name G__law_name h__law_word G__law_word
  have G__law_listed : FnOk l.prog w K mg base CX0 42 _ _ ["value"] (spListed K 41) := ok__law_listed (P := l.prog) (w := w) (mg := mg) (base := base) F__law_listed m_isinstance m_tuple h__law_listed.b h__law_listed.g 41
  have G__law_tupled : FnOk l.prog w K mg base CX0 42 _ _ ["value"] (spTupled K 41) := ok__law_tupled (P := l.prog) (w := w) (mg := mg) (base := base) F__law_tupled m_isinstance m_list m_tuple h__law_tupled.b h__law_tupled.g 41
  have G__law_handed := ok__law_handed (P := l.prog) (w := w) (mg := mg) (base := base)  F__law_handed h__law_take G__law_take h__law_listed G__law_listed
  have G__law_free_expr := ok_fxa (ok__law_free_expr (P := l.prog) (w := w) (mg := mg) (base := base) F__law_free_expr h__law_take G__law_take h__law_wide G__law_wide h__law_name G__law_name h__law_word G__law_word m_range m_max m_tuple h__law_free_expr.b h__law_free_expr.g)
  have G__law_free_module := ok__law_free_module (P := l.prog) (w := w) (mg := mg) (base := base)  F__law_free_module h__law_take G__law_take h__law_name G__law_name h__law_free_named G__law_free_named h__law_word G__law_word h__law_free_expr G__law_free_expr h__law_count G__law_count m_tuple m_range m_len
  have G__law_part_changed := ok_chga (ok__law_part_changed (P := l.prog) (w := w) (mg := mg) (base := base) F__law_part_changed h__law_take G__law_take m_isinstance m_tuple m_len m_str m_int h__law_part_changed.b h__law_part_changed.g)
  exact ok_law (P := l.prog) (w := w) (mg := mg) (base := base) F_law h__law_numbers G__law_numbers h__law_free_module G__law_free_module h__law_handed G__law_handed h__law_so G__law_so h_is_module G_is_module h__law_is_module G__law_is_module h__law_tupled G__law_tupled h__law_part_changed G__law_part_changed h__law_free_expr G__law_free_expr h__law_take G__law_take h_is_expression G_is_expression h__law_is_right_expr G__law_is_right_expr m_range kb_is_module kb_is_expression
end Cw

set_option Elab.async false
set_option linter.all false
set_option maxRecDepth 100000
set_option maxHeartbeats 0
open PySem PySem.W PyProof.Rows
theorem PySem.Challenge.cw_callwarrant_k62_modules_told_apart_holds : PySem.Challenge.rw_callwarrant_k62_modules_told_apart.Holds := by
  w_on; o_law; k_head; (case hw => w_witness2)
  k_fill
  refine L2.walk_of (l := PySem.Challenge.rw_callwarrant_k62_modules_told_apart) (n := 63) (k := 60) (x := "script") (CX := fun _ => L2.CX0) (sp := fun w => Cw.spLaw _) rfl (by decide) rfl ⟨rfl, by decide, by decide⟩ (fun w h Y => PySem.W.kIn_of Y) ?F (fun _ _ a ns hl _ hS => ⟨a, ns, rfl, hS, hl, fun _ => rfl⟩) (fun _ _ _ _ _ h => h)
  case F =>
    intro w mg fa h KX G hmg
    refine' Cw.all_mk KX G hmg ?da_is_integer ?dl_is_integer ?dc_is_integer ?dk_is_integer ?da_is_sequence ?dl_is_sequence ?dc_is_sequence ?dk_is_sequence ?da_are_lower ?dl_are_lower ?dc_are_lower ?dk_are_lower ?da_is_name ?dl_is_name ?dc_is_name ?dk_is_name ?da_is_class_word ?dl_is_class_word ?dc_is_class_word ?dk_is_class_word ?da_is_class_name ?dl_is_class_name ?dc_is_class_name ?dk_is_class_name ?da_is_generic_name ?dl_is_generic_name ?dc_is_generic_name ?dk_is_generic_name ?da_is_module ?dl_is_module ?dc_is_module ?dk_is_module ?da_is_expression ?dl_is_expression ?dc_is_expression ?dk_is_expression ?da_are_all ?dl_are_all ?dc_are_all ?dk_are_all ?da_is_class ?dl_is_class ?dc_is_class ?dk_is_class ?da_is_generic ?dl_is_generic ?dc_is_generic ?dk_is_generic ?da_is_method ?dl_is_method ?dc_is_method ?dk_is_method ?da_is_named_class ?dl_is_named_class ?dc_is_named_class ?dk_is_named_class ?da_form_parts ?dl_form_parts ?dc_form_parts ?dk_form_parts ?da_is_member ?dl_is_member ?dc_is_member ?dk_is_member ?da__law_so ?dl__law_so ?dc__law_so ?dk__law_so ?da__law_numbers ?dl__law_numbers ?dc__law_numbers ?dk__law_numbers ?da__law_draw ?dl__law_draw ?dc__law_draw ?dk__law_draw ?da__law_take ?dl__law_take ?dc__law_take ?dk__law_take ?da__law_wide ?dl__law_wide ?dc__law_wide ?dk__law_wide ?da__law_whole ?dl__law_whole ?dc__law_whole ?dk__law_whole ?da__law_listed ?dl__law_listed ?dc__law_listed ?dk__law_listed ?da__law_tupled ?dl__law_tupled ?dc__law_tupled ?dk__law_tupled ?da__law_handed ?dl__law_handed ?dc__law_handed ?dk__law_handed ?da__law_letters ?dl__law_letters ?dc__law_letters ?dk__law_letters ?da__law_name ?dl__law_name ?dc__law_name ?dk__law_name ?da__law_reserved ?dl__law_reserved ?dc__law_reserved ?dk__law_reserved ?da__law_word ?dl__law_word ?dc__law_word ?dk__law_word ?da__law_is_word ?dl__law_is_word ?dc__law_is_word ?dk__law_is_word ?da__law_is_class_name ?dl__law_is_class_name ?dc__law_is_class_name ?dk__law_is_class_name ?da__law_is_class ?dl__law_is_class ?dc__law_is_class ?dk__law_is_class ?da__law_inner_parts ?dl__law_inner_parts ?dc__law_inner_parts ?dk__law_inner_parts ?da__law_is_expr ?dl__law_is_expr ?dc__law_is_expr ?dk__law_is_expr ?da__law_count ?dl__law_count ?dc__law_count ?dk__law_count ?da__law_is_right_expr ?dl__law_is_right_expr ?dc__law_is_right_expr ?dk__law_is_right_expr ?da__law_is_generic ?dl__law_is_generic ?dc__law_is_generic ?dk__law_is_generic ?da__law_is_method ?dl__law_is_method ?dc__law_is_method ?dk__law_is_method ?da__law_is_module ?dl__law_is_module ?dc__law_is_module ?dk__law_is_module ?da__law_free_expr ?dl__law_free_expr ?dc__law_free_expr ?dk__law_free_expr ?da__law_free_named ?dl__law_free_named ?dc__law_free_named ?dk__law_free_named ?da__law_free_module ?dl__law_free_module ?dc__law_free_module ?dk__law_free_module ?da__law_part_changed ?dl__law_part_changed ?dc__law_part_changed ?dk__law_part_changed ?da_law ?dl_law ?dc_law ?dk_law ?ca_LARGEST ?ca_MOST_LETTERS ?ca_MOST_VALUES ?ca_MOST_TAKES ?ca_MOST_LEVELS ?ca_MOST_EXPRESSIONS ?ca_MOST_PARENTS ?ca_MOST_FIELDS ?ca_MOST_USES ?ca_MOST_CLASSES ?ca_MOST_GENERICS ?ca_MOST_METHODS ?ca_LOWER ?ca_UPPER ?ca_RESERVED ?ca_FORMS ?ca_ROWS ?bR ?bRo ?bF ?bD ?ne0 ?ne1 ?ne2 ?ne3 ?ne4 ?ne5 ?ne6 ?z_isinstance ?z_len ?z_range ?z_int ?z_tuple ?z_bool ?z_str ?z_list ?z_all ?z_zip ?z_sum ?z_max
    (case da_is_integer => k_is)
    (case dl_is_integer => k_is)
    (case dc_is_integer => k_is)
    (case dk_is_integer => k_is)
    (case da_is_sequence => k_is)
    (case dl_is_sequence => k_is)
    (case dc_is_sequence => k_is)
    (case dk_is_sequence => k_is)
    (case da_are_lower => k_is)
    (case dl_are_lower => k_is)
    (case dc_are_lower => k_is)
    (case dk_are_lower => k_is)
    (case da_is_name => k_is)
    (case dl_is_name => k_is)
    (case dc_is_name => k_is)
    (case dk_is_name => k_is)
    (case da_is_class_word => k_is)
    (case dl_is_class_word => k_is)
    (case dc_is_class_word => k_is)
    (case dk_is_class_word => k_is)
    (case da_is_class_name => k_is)
    (case dl_is_class_name => k_is)
    (case dc_is_class_name => k_is)
    (case dk_is_class_name => k_is)
    (case da_is_generic_name => k_is)
    (case dl_is_generic_name => k_is)
    (case dc_is_generic_name => k_is)
    (case dk_is_generic_name => k_is)
    (case da_is_module => k_is)
    (case dl_is_module => k_is)
    (case dc_is_module => k_is)
    (case dk_is_module => k_is)
    (case da_is_expression => k_is)
    (case dl_is_expression => k_is)
    (case dc_is_expression => k_is)
    (case dk_is_expression => k_is)
    (case da_are_all => k_is)
    (case dl_are_all => k_is)
    (case dc_are_all => k_is)
    (case dk_are_all => k_is)
    (case da_is_class => k_is)
    (case dl_is_class => k_is)
    (case dc_is_class => k_is)
    (case dk_is_class => k_is)
    (case da_is_generic => k_is)
    (case dl_is_generic => k_is)
    (case dc_is_generic => k_is)
    (case dk_is_generic => k_is)
    (case da_is_method => k_is)
    (case dl_is_method => k_is)
    (case dc_is_method => k_is)
    (case dk_is_method => k_is)
    (case da_is_named_class => k_is)
    (case dl_is_named_class => k_is)
    (case dc_is_named_class => k_is)
    (case dk_is_named_class => k_is)
    (case da_form_parts => k_is)
    (case dl_form_parts => k_is)
    (case dc_form_parts => k_is)
    (case dk_form_parts => k_is)
    (case da_is_member => k_is)
    (case dl_is_member => k_is)
    (case dc_is_member => k_is)
    (case dk_is_member => k_is)
    (case da__law_so => k_is)
    (case dl__law_so => k_is)
    (case dc__law_so => k_is)
    (case dk__law_so => k_is)
    (case da__law_numbers => k_is)
    (case dl__law_numbers => k_is)
    (case dc__law_numbers => k_is)
    (case dk__law_numbers => k_is)
    (case da__law_draw => k_is)
    (case dl__law_draw => k_is)
    (case dc__law_draw => k_is)
    (case dk__law_draw => k_is)
    (case da__law_take => k_is)
    (case dl__law_take => k_is)
    (case dc__law_take => k_is)
    (case dk__law_take => k_is)
    (case da__law_wide => k_is)
    (case dl__law_wide => k_is)
    (case dc__law_wide => k_is)
    (case dk__law_wide => k_is)
    (case da__law_whole => k_is)
    (case dl__law_whole => k_is)
    (case dc__law_whole => k_is)
    (case dk__law_whole => k_is)
    (case da__law_listed => k_is)
    (case dl__law_listed => k_is)
    (case dc__law_listed => k_is)
    (case dk__law_listed => k_is)
    (case da__law_tupled => k_is)
    (case dl__law_tupled => k_is)
    (case dc__law_tupled => k_is)
    (case dk__law_tupled => k_is)
    (case da__law_handed => k_is)
    (case dl__law_handed => k_is)
    (case dc__law_handed => k_is)
    (case dk__law_handed => k_is)
    (case da__law_letters => k_is)
    (case dl__law_letters => k_is)
    (case dc__law_letters => k_is)
    (case dk__law_letters => k_is)
    (case da__law_name => k_is)
    (case dl__law_name => k_is)
    (case dc__law_name => k_is)
    (case dk__law_name => k_is)
    (case da__law_reserved => k_is)
    (case dl__law_reserved => k_is)
    (case dc__law_reserved => k_is)
    (case dk__law_reserved => k_is)
    (case da__law_word => k_is)
    (case dl__law_word => k_is)
    (case dc__law_word => k_is)
    (case dk__law_word => k_is)
    (case da__law_is_word => k_is)
    (case dl__law_is_word => k_is)
    (case dc__law_is_word => k_is)
    (case dk__law_is_word => k_is)
    (case da__law_is_class_name => k_is)
    (case dl__law_is_class_name => k_is)
    (case dc__law_is_class_name => k_is)
    (case dk__law_is_class_name => k_is)
    (case da__law_is_class => k_is)
    (case dl__law_is_class => k_is)
    (case dc__law_is_class => k_is)
    (case dk__law_is_class => k_is)
    (case da__law_inner_parts => k_is)
    (case dl__law_inner_parts => k_is)
    (case dc__law_inner_parts => k_is)
    (case dk__law_inner_parts => k_is)
    (case da__law_is_expr => k_is)
    (case dl__law_is_expr => k_is)
    (case dc__law_is_expr => k_is)
    (case dk__law_is_expr => k_is)
    (case da__law_count => k_is)
    (case dl__law_count => k_is)
    (case dc__law_count => k_is)
    (case dk__law_count => k_is)
    (case da__law_is_right_expr => k_is)
    (case dl__law_is_right_expr => k_is)
    (case dc__law_is_right_expr => k_is)
    (case dk__law_is_right_expr => k_is)
    (case da__law_is_generic => k_is)
    (case dl__law_is_generic => k_is)
    (case dc__law_is_generic => k_is)
    (case dk__law_is_generic => k_is)
    (case da__law_is_method => k_is)
    (case dl__law_is_method => k_is)
    (case dc__law_is_method => k_is)
    (case dk__law_is_method => k_is)
    (case da__law_is_module => k_is)
    (case dl__law_is_module => k_is)
    (case dc__law_is_module => k_is)
    (case dk__law_is_module => k_is)
    (case da__law_free_expr => k_is)
    (case dl__law_free_expr => k_is)
    (case dc__law_free_expr => k_is)
    (case dk__law_free_expr => k_is)
    (case da__law_free_named => k_is)
    (case dl__law_free_named => k_is)
    (case dc__law_free_named => k_is)
    (case dk__law_free_named => k_is)
    (case da__law_free_module => k_is)
    (case dl__law_free_module => k_is)
    (case dc__law_free_module => k_is)
    (case dk__law_free_module => k_is)
    (case da__law_part_changed => k_is)
    (case dl__law_part_changed => k_is)
    (case dc__law_part_changed => k_is)
    (case dk__law_part_changed => k_is)
    (case da_law => k_is)
    (case dl_law => k_is)
    (case dc_law => k_is)
    (case dk_law => k_is)
    (case ca_LARGEST => k_is)
    (case ca_MOST_LETTERS => k_is)
    (case ca_MOST_VALUES => k_is)
    (case ca_MOST_TAKES => k_is)
    (case ca_MOST_LEVELS => k_is)
    (case ca_MOST_EXPRESSIONS => k_is)
    (case ca_MOST_PARENTS => k_is)
    (case ca_MOST_FIELDS => k_is)
    (case ca_MOST_USES => k_is)
    (case ca_MOST_CLASSES => k_is)
    (case ca_MOST_GENERICS => k_is)
    (case ca_MOST_METHODS => k_is)
    (case ca_LOWER => k_is)
    (case ca_UPPER => k_is)
    (case ca_RESERVED => k_is)
    (case ca_FORMS => k_is)
    (case ca_ROWS => k_is)
    (case bR => kernel_rfl)
    (case bRo => kernel_rfl)
    (case bF => kernel_rfl)
    (case bD => kernel_rfl)
    (case ne0 => kernel_rfl)
    (case ne1 => kernel_rfl)
    (case ne2 => kernel_rfl)
    (case ne3 => kernel_rfl)
    (case ne4 => kernel_rfl)
    (case ne5 => kernel_rfl)
    (case ne6 => kernel_rfl)
    (case z_isinstance => k_is)
    (case z_len => k_is)
    (case z_range => k_is)
    (case z_int => k_is)
    (case z_tuple => k_is)
    (case z_bool => k_is)
    (case z_str => k_is)
    (case z_list => k_is)
    (case z_all => k_is)
    (case z_zip => k_is)
    (case z_sum => k_is)
    (case z_max => k_is)
