import PyProof.Rows.All
import Wide.All
import OpenK.AllK
import Wide.FinOn
import PyProof.EqAt
import PyProof.EqKinds
import PyProof.TupleCall
import HandS.ForMost
import HandS.IsInst
import HandS.Flow
import HandS.Walk
import HandS.CallLocal
import HandS.StrMore
import Wide.Txt
import HandS.NoneIn
import HandS.TupAny
import HandS.Zip
import HandS.Zip0
import HandS.More
import PyProof.AutoSeq1
import HandS.Text
import HandS.Replace
import PyProof.StrLawsIn
import PyProof.NeData
import PySem.PyData
import HandS.Defaults
import HandS.MakeKwOnly
import HandS.HeadHook3
import PySem.Challenge.RW_callwarrant_k64_expressions_printed_and
set_option Elab.async false
set_option linter.all false
set_option maxRecDepth 100000
set_option maxHeartbeats 4000000
namespace Cw
open PySem PySem.Spec PyProof.Rows L2
def topS (i : Nat) : Stmt := PySem.Challenge.pw_callwarrant_k64_expressions_printed_and.main.body.getD i (.Pass ⟨0, 0, 0, 0⟩)
abbrev sNum : Stmt := topS 76
theorem scNum : FnScope ["script", "row", "cell", "left", "k", "mixed"] ["script"] (defScope sNum) := ⟨rfl, rfl, rfl, by decide +kernel, rfl, by decide +kernel, by decide +kernel⟩
theorem same_upd {H : Hp} {p : Addr} {o : HO} (h : H p = none) : Same H (upd H p o) := fun b x e => by
  rw [upd_ne (ne_of_none e h)]
  exact e
/-- H' keeps what H tracks, p (new to H) apart -/
theorem same_mut {H H' : Hp} {p : Addr} {o : HO} (s : Same H H') (h : H p = none) : Same H (upd H' p o) := fun b x e => by
  rw [upd_ne (ne_of_none e h)]
  exact s b x e
def spNum (K : PySem.W.Frag) : Sp := fun vs H Q _ => ∃ (a : Addr) (ns : List Int), vs = [.ref a] ∧ SqL K H a (ns.map V.int) ∧ ns.length ≤ 63 ∧
  ∀ H' p (row : List Int), Same H H' → H p = none → H' p = some (.lst (row.map V.int)) → row ≠ [] → row.length ≤ 4000 → Q (.ref p) H'
section
variable {P : Program} {w : World} {K : PySem.W.Frag} {mg : Str → Option Value} {base : Heap}
theorem ok_num {f : Addr} {fd : FuncData} {k : Nat} (F : Fun K "_law_numbers" "_law_numbers" sNum f fd) (mr : mg "range" = none) (mi : mg "int" = none) (ml : mg "len" = none) : FnOk P w K mg base CX0 (k + 1) f fd ["script"] (spNum K) := by
  refine F.ok scNum (fun vs H Q E h => ?_) (fun cdv A outer s H vs Q E hr h => ?_)
  · obtain ⟨a, ns, rfl, _⟩ := h
    rfl
  · obtain ⟨a, ns, rfl, hS, hlen, q⟩ := h
    refine ⟨_, pss_cons (ps_set (i := 1) scNum.nd rfl (.inl rfl) (pe_lst pa_nil))
      (pss_cons (ps_for PassesOwn.never rfl (pi_list (pe_slice sl_list (pv 0) po_none (po_some pe_int))) (pg_name (i := 2) scNum.nd rfl (.inl rfl))
        (pss_one (ps_if (pt_cmpR op_ge (pv 2) (pe_op op_pow pe_int pe_int) (nomark _))
          (pss_cons (ps_set (i := 3) scNum.nd rfl (.inl rfl) (pv 2))
            (pss_one (ps_for PassesOwn.never rfl (pi_range1 rfl mr (pa_cons pe_int pa_nil)) (pg_name (i := 4) scNum.nd rfl (.inl rfl))
              (pss_cons (ps_if (pt_cmpR op_eq (pv 3) pe_int (nomark _)) (pss_one ps_break) pss_nil)
              (pss_cons (ps_expr (pe_bm PySem.F.plainAttrs_list PySem.F.slot_list_append PySem.F.type_list_append mt_append (pv 1) (pa_cons (pe_op op_mod (pe_callTy call_int1 (by rfl) mi (by decide +kernel) (pa_cons (pv 3) pa_nil)) pe_int) pa_nil)))
              (pss_one (ps_set (i := 3) scNum.nd rfl (.inl rfl) (pe_op op_fdiv (pv 3) pe_int))))))))
          (pss_one (ps_for PassesOwn.never rfl (pi_range1 rfl mr (pa_cons pe_int pa_nil)) (pg_name (i := 4) scNum.nd rfl (.inl rfl))
              (pss_cons (ps_set (i := 5) scNum.nd rfl (.inl rfl) (pe_op op_mod (pe_callTy call_int1 (by rfl) mi (by decide +kernel) (pa_cons (pe_op op_add (pe_op op_add (pe_op op_mul (pv 2) pe_int) (pe_op op_mul (pv 4) pe_int)) pe_int) pa_nil)) pe_int))
              (pss_one (ps_expr (pe_bm PySem.F.plainAttrs_list PySem.F.slot_list_append PySem.F.type_list_append mt_append (pv 1) (pa_cons (pe_op op_mod (pe_callTy call_int1 (by rfl) mi (by decide +kernel) (pa_cons (pe_op op_add (pe_op op_mul (pv 5) pe_int) (pv 4)) pa_nil)) pe_int) pa_nil))))))))))
      (pss_cons (ps_if (pt_cmpR op_eq (pe_callB call_len_seq (by rfl) ml PySem.boot_len (pa_cons (pv 1) pa_nil)) pe_int (nomark _)) (pss_one (ps_expr (pe_bm PySem.F.plainAttrs_list PySem.F.slot_list_append PySem.F.type_list_append mt_append (pv 1) (pa_cons pe_int pa_nil)))) pss_nil)
      (pss_one (ps_ret (pv 1))))), ?_⟩
    refine ⟨Nat.zero_le _, fun o no => ?_⟩
    have s1 : Same H (upd H o (.lst [])) := same_upd no
    have cut : ∃ ms : List Int, cutV (ns.map V.int) none (some 63) = ms.map V.int ∧ ms.length ≤ 63 :=
      ⟨_, by unfold cutV; rw [← List.map_drop, ← List.map_take], by rw [List.length_take, List.length_drop]; omega⟩
    obtain ⟨ms, ems, lms⟩ := cut
    refine ⟨.ref a, rfl, 63, rfl, a, ns.map V.int, rfl, s1.seq hS, fun c nc => ?_⟩
    rw [ems]
    have oc : o ≠ c := fun z => by rw [← z, upd_same] at nc; cases nc
    have nc0 : H c = none := by rw [upd_ne (Ne.symm oc)] at nc; exact nc
    refine ⟨c, rfl, ⟨_, .inl (.inl upd_same)⟩, for_list (xs := ms.map V.int)
      (fun i σ H' => ∃ c2 c3 c4 c5, σ = [some (.ref a), some (.ref o), c2, c3, c4, c5] ∧ ∃ row : List Int, Same H H' ∧ H' c = some (.lst (ms.map V.int)) ∧ H' o = some (.lst (row.map V.int)) ∧ row.length ≤ 60 * i)
      ⟨none, none, none, none, rfl, [], same_mut s1 nc0, upd_same, by rw [upd_ne oc]; exact upd_same, Nat.le_refl _⟩
      (fun i σ H' _ hp => by obtain ⟨_, _, _, _, _, _, _, e, _⟩ := hp; exact .inl (.inl e)) ?_ ?_⟩
    · rintro i x σ H' hx ⟨c2, c3, c4, c5, rfl, row, sm, hc, ho, hl⟩
      have hi : i < 63 := by
        have := (List.getElem?_eq_some_iff.mp hx).1
        rw [List.length_map] at this
        omega
      obtain ⟨z, rfl⟩ : ∃ z, x = V.int z := by
        rw [List.getElem?_map] at hx
        cases e : ms[i]? with
        | none => rw [e] at hx; cases hx
        | some z => rw [e] at hx; exact ⟨z, (Option.some.inj hx).symm⟩
      refine ⟨_, rfl, 10, 18, rfl, rfl, ⟨by decide, by decide, by decide⟩, z, _, rfl, rfl, _, rfl, ite2 (fun _ => ?_) (fun _ => ?_)⟩
      · refine ⟨_, rfl, 60, rfl, by decide, by decide, for_range (lo := 0) (n := 60)
          (fun j σ H2 => ∃ l c4 c5, σ = [some (.ref a), some (.ref o), some (.int z), some (.int l), c4, c5] ∧ ∃ row : List Int, Same H H2 ∧ H2 c = some (.lst (ms.map V.int)) ∧ H2 o = some (.lst (row.map V.int)) ∧ row.length ≤ 60 * i + j)
          ⟨z, _, _, rfl, row, sm, hc, ho, hl⟩ ?_ ?_⟩
        · rintro j σ H2 hj ⟨l, d4, d5, rfl, row2, sm2, hc2, ho2, hl2⟩
          refine ⟨_, rfl, rfl, _, rfl, ite2 (fun _ => ?_) (fun _ => ?_)⟩
          · exact ⟨_, _, _, _, rfl, row2, sm2, hc2, ho2, by omega⟩
          · refine ⟨.ref o, rfl, .inl ⟨rfl, _, .inl (.inl ho2)⟩, .int l, rfl, .inl ⟨l, rfl, l, 997, rfl, rfl, by show (0 : Int) < 997; decide, o, _, _, rfl, rfl, ho2, ?_, ?_⟩⟩
            · rw [List.length_map]
              exact Nat.lt_of_lt_of_le (show row2.length < 4000 by omega) (by decide)
            · refine ⟨_, rfl, l, 997, rfl, rfl, ⟨by decide, by decide⟩, ?_⟩
              exact ⟨_, _, _, rfl, row2 ++ [l % 997], same_mut sm2 no, by rw [upd_ne (Ne.symm oc)]; exact hc2, by rw [upd_same, List.map_append]; rfl, by rw [List.length_append]; show row2.length + 1 ≤ _; omega⟩
        · rintro σ H2 ⟨l, d4, d5, rfl, row2, sm2, hc2, ho2, hl2⟩
          exact ⟨_, _, _, _, rfl, row2, sm2, hc2, ho2, by omega⟩
      · refine ⟨4, rfl, by decide, by decide, for_range (lo := 0) (n := 4)
          (fun j σ H2 => ∃ c3 c4 c5, σ = [some (.ref a), some (.ref o), some (.int z), c3, c4, c5] ∧ ∃ row : List Int, Same H H2 ∧ H2 c = some (.lst (ms.map V.int)) ∧ H2 o = some (.lst (row.map V.int)) ∧ row.length ≤ 60 * i + j)
          ⟨_, _, _, rfl, row, sm, hc, ho, hl⟩ ?_ ?_⟩
        · rintro j σ H2 hj ⟨d3, d4, d5, rfl, row2, sm2, hc2, ho2, hl2⟩
          refine ⟨_, rfl, z, 48271, rfl, rfl, .inr (by decide), _, rfl, _, 69621, rfl, rfl, .inr (by decide), _, _, rfl, rfl, _, _, rfl, rfl, .inl ⟨_, rfl, _, 2147483647, rfl, rfl, by show (0 : Int) < 2147483647; decide, ?_⟩⟩
          refine ⟨.ref o, rfl, .inl ⟨rfl, _, .inl (.inl ho2)⟩, _, rfl, _, 16807, rfl, rfl, .inr (by decide), _, rfl, _, _, rfl, rfl, .inl ⟨_, rfl, _, 2147483629, rfl, rfl, by show (0 : Int) < 2147483629; decide, o, _, _, rfl, rfl, ho2, ?_, ?_⟩⟩
          · rw [List.length_map]
            exact Nat.lt_of_lt_of_le (show row2.length < 4000 by omega) (by decide)
          · exact ⟨_, _, _, rfl, row2 ++ [_], same_mut sm2 no, by rw [upd_ne (Ne.symm oc)]; exact hc2, by rw [upd_same, List.map_append]; rfl, by rw [List.length_append]; show row2.length + 1 ≤ _; omega⟩
        · rintro σ H2 ⟨d3, d4, d5, rfl, row2, sm2, hc2, ho2, hl2⟩
          exact ⟨_, _, _, _, rfl, row2, sm2, hc2, ho2, by omega⟩
    · rintro σ H' ⟨c2, c3, c4, c5, rfl, row, sm, hc, ho, hl⟩
      rw [List.length_map] at hl
      refine ⟨.ref o, rfl, o, _, rfl, .inl (.inl (.inl ho)), rfl, _, rfl, ite2 (fun e => ?_) (fun e => ?_)⟩
      · refine ⟨.ref o, rfl, .inl ⟨rfl, _, .inl (.inl ho)⟩, o, _, _, rfl, rfl, ho, ?_, ?_⟩
        · rw [List.length_map]
          exact Nat.lt_of_lt_of_le (show row.length < 4000 by omega) (by decide)
        · exact ⟨.ref o, rfl, q _ o (row ++ [0]) (same_mut sm no) no (by rw [upd_same, List.map_append]; rfl) (by simp) (by rw [List.length_append]; show row.length + 1 ≤ _; omega)⟩
      · refine ⟨.ref o, rfl, q _ o row sm no ho (fun z => ?_) (by omega)⟩
        subst z
        exact e rfl
end
end Cw
set_option Elab.async false
set_option linter.all false
set_option maxRecDepth 100000
set_option maxHeartbeats 4000000
namespace Cw
open PySem PySem.Spec PyProof.Rows L2
abbrev sDraw : Stmt := topS 77
abbrev sTake : Stmt := topS 78
theorem scDraw : FnScope ["row", "at", "limit", "mixed"] ["row", "at", "limit"] (defScope sDraw) := ⟨rfl, rfl, rfl, by decide +kernel, rfl, by decide +kernel, by decide +kernel⟩
theorem scTake : FnScope ["row", "spot", "limit"] ["row", "spot", "limit"] (defScope sTake) := ⟨rfl, rfl, rfl, by decide +kernel, rfl, by decide +kernel, by decide +kernel⟩
def spDraw (K : PySem.W.Frag) : Sp := fun vs H Q _ => ∃ (r : Addr) (row : List Int) (i lim : Int), vs = [.ref r, .int i, .int lim] ∧ SqL K H r (row.map V.int) ∧ row ≠ [] ∧ 0 ≤ i ∧ 0 < lim ∧ ∀ z : Int, 0 ≤ z → z < lim → Q (.int z) H
def spTake (K : PySem.W.Frag) : Sp := fun vs H Q _ => ∃ (r sp : Addr) (row : List Int) (n : Nat) (lim : Int), vs = [.ref r, .ref sp, .int lim] ∧ H r = some (.lst (row.map V.int)) ∧ row ≠ [] ∧ r ≠ sp ∧ H sp = some (.lst [.int (n : Int)]) ∧ 0 < lim ∧
  ∀ z : Int, 0 ≤ z → z < lim → Q (.int z) (upd H sp (.lst [.int ((n + 1 : Nat) : Int)]))
theorem at_int {l : List Int} {i : Int} (h0 : 0 ≤ i) (h : i < (l.length : Int)) : ∃ z, atI (l.map V.int) i = some (.int z) := by
  obtain ⟨j, rfl⟩ := Int.eq_ofNat_of_zero_le h0
  have hj : j < l.length := Int.ofNat_lt.mp h
  exact ⟨l[j], atI_nat (by rw [List.getElem?_map, List.getElem?_eq_getElem hj]; rfl)⟩
section
variable {P : Program} {w : World} {K : PySem.W.Frag} {mg : Str → Option Value} {base : Heap}
theorem ok_draw {f : Addr} {fd : FuncData} {k : Nat} (F : Fun K "_law_draw" "_law_draw" sDraw f fd) (mi : mg "int" = none) (ml : mg "len" = none) : FnOk P w K mg base CX0 (k + 1) f fd ["row", "at", "limit"] (spDraw K) := by
  refine F.ok scDraw (fun vs H Q E h => ?_) (fun cdv A outer s H vs Q E hr h => ?_)
  · obtain ⟨_, _, _, _, rfl, _⟩ := h
    rfl
  · obtain ⟨r, row, i, lim, rfl, hS, hne, hi, hl, q⟩ := h
    refine ⟨_, pss_cons (ps_if (pt_cmpR op_lt (pv 1) (pe_callB call_len_seq (by rfl) ml PySem.boot_len (pa_cons (pv 0) pa_nil)) (nomark _))
        (pss_one (ps_ret (pe_op op_mod (pe_callTy call_int1 (by rfl) mi (by decide +kernel) (pa_cons (pe_ix ix_list (pv 0) (pv 1) (fun _ _ => rfl)) pa_nil)) (pv 2)))) pss_nil)
      (pss_cons (ps_set (i := 3) scDraw.nd rfl (.inl rfl) (pe_op op_mod (pe_callTy call_int1 (by rfl) mi (by decide +kernel) (pa_cons (pe_op op_add (pe_op op_add
          (pe_op op_mul (pe_ix ix_list (pv 0) (pe_op op_mod (pe_callTy call_int1 (by rfl) mi (by decide +kernel) (pa_cons (pv 1) pa_nil)) (pe_callB call_len_seq (by rfl) ml PySem.boot_len (pa_cons (pv 0) pa_nil))) (fun _ _ => rfl)) pe_int)
          (pe_op op_mul (pv 1) pe_int)) pe_int) pa_nil)) pe_int))
      (pss_one (ps_ret (pe_op op_mod (pe_callTy call_int1 (by rfl) mi (by decide +kernel) (pa_cons (pe_op op_mod (pe_callTy call_int1 (by rfl) mi (by decide +kernel) (pa_cons (pe_op op_add (pe_op op_mul (pv 3) pe_int) (pv 1)) pa_nil)) pe_int) pa_nil)) (pv 2))))), ?_⟩
    have pos : 0 < row.length := List.length_pos_iff.mpr hne
    refine ⟨_, rfl, .ref r, rfl, r, _, rfl, .inl hS, i, _, rfl, rfl, _, rfl, ite2 (fun e => ?_) (fun e => ?_)⟩
    · have e1 : i < ((row.map V.int).length : Int) := of_decide_eq_true e
      rw [List.length_map] at e1
      obtain ⟨z, hz⟩ := at_int hi e1
      exact ⟨.ref r, rfl, _, rfl, r, _, i, _, rfl, rfl, hS, hz, .inl ⟨z, rfl, _, rfl, z, lim, rfl, rfl, hl, q _ (Int.emod_nonneg _ (by omega)) (Int.emod_lt_of_pos _ hl)⟩⟩
    · have lp : (0 : Int) < ((row.map V.int).length : Int) := by rw [List.length_map]; omega
      obtain ⟨z, hz⟩ := at_int (l := row) (i := i % ((row.map V.int).length : Int)) (Int.emod_nonneg _ (by omega)) (by have := Int.emod_lt_of_pos i lp; rw [List.length_map] at this ⊢; exact this)
      refine ⟨.ref r, rfl, _, rfl, .inl ⟨i, rfl, .ref r, rfl, r, _, rfl, .inl hS, i, _, rfl, rfl, lp, r, _, _, _, rfl, rfl, hS, hz, z, 40692, rfl, rfl, .inr (by decide), _, rfl, i, 7919, rfl, rfl, .inr (by decide), _, _, rfl, rfl, _, 3, rfl, rfl, .inl ⟨_, rfl, _, 2147483399, rfl, rfl, by show (0 : Int) < 2147483399; decide, ?_⟩⟩⟩
      exact ⟨_, rfl, _, 48271, rfl, rfl, .inr (by decide), _, rfl, _, i, rfl, rfl, .inl ⟨_, rfl, _, 2147483647, rfl, rfl, by show (0 : Int) < 2147483647; decide, .inl ⟨_, rfl, _, rfl, _, lim, rfl, rfl, hl, q _ (Int.emod_nonneg _ (by omega)) (Int.emod_lt_of_pos _ hl)⟩⟩⟩
theorem ok_take {f fD : Addr} {fd fdD : FuncData} {k : Nat} (F : Fun K "_law_take" "_law_take" sTake f fd) (FD : Fun K "_law_draw" "_law_draw" sDraw fD fdD) (bD : Binds K fdD ["row", "at", "limit"] []) (gD : mg "_law_draw" = some (.ref fD)) (mi : mg "int" = none) (ml : mg "len" = none) :
    FnOk P w K mg base CX0 (k + 2) f fd ["row", "spot", "limit"] (spTake K) := by
  have GD : FnOk P w K mg base CX0 (k + 1) fD fdD ["row", "at", "limit"] (spDraw K) := ok_draw FD mi ml
  refine F.ok scTake (fun vs H Q E h => ?_) (fun cdv A outer s H vs Q E hr h => ?_)
  · obtain ⟨_, _, _, _, _, rfl, _⟩ := h
    rfl
  · obtain ⟨r, sp, row, n, lim, rfl, hR, hne, hrs, hs, hl, q⟩ := h
    refine ⟨_, pss_cons (ps_asg (pe_op op_add (pe_ix ix_list (pv 1) pe_int (fun _ _ => rfl)) pe_int) (pg_sub (pv 1) pe_int set_list))
      (pss_one (ps_ret (pe_call GD hr (by rfl) gD FD.kp bD .nil pass0 (pa_cons (pv 0) (pa_cons (pe_op op_sub (pe_ix ix_list (pv 1) pe_int (fun _ _ => rfl)) pe_int) (pa_cons (pv 2) pa_nil)))))), ?_⟩
    refine ⟨.ref sp, rfl, sp, [.int (n : Int)], 0, _, rfl, rfl, SqL.of hs, atI_nat (j := 0) rfl, n, 1, rfl, rfl, .ref sp, rfl, sp, [.int (n : Int)], 0, 0, rfl, rfl, hs, rfl, ?_⟩
    have h1 : ([V.int (n : Int)].set 0 (V.int ((n : Int) + 1))) = [V.int ((n + 1 : Nat) : Int)] := rfl
    refine ⟨.ref r, rfl, .ref sp, rfl, sp, _, 0, .int ((n : Int) + 1), rfl, rfl, SqL.of upd_same, atI_nat (j := 0) rfl, (n : Int) + 1, 1, rfl, rfl, .int lim, rfl, r, row, _, lim, rfl, ?_, hne, by omega, hl, fun z z0 z1 => ?_⟩
    · exact SqL.of (by rw [upd_ne hrs]; exact hR)
    · exact q z z0 z1
end
end Cw
set_option Elab.async false
set_option linter.all false
set_option maxRecDepth 100000
set_option maxHeartbeats 4000000
namespace Cw
open PySem PySem.Spec PyProof.Rows L2
/-! ### data: what a value's class is, and what it is equal to -/
def tyName : PyData → String
  | .none => "NoneType" | .bool _ => "bool" | .int _ => "int" | .str _ => "str" | .list _ => "list" | .tuple _ => "tuple" | .dict _ => "dict"
def isTy (n : String) (d : PyData) : Bool := (kitB (tyName d) n).getD false
theorem ty_dp {K : PySem.W.Frag} {H : Hp} {x : V} {d : PyData} (h : Dp K H x d) : TyX K H x (.type (tyName d)) := by
  cases h with
  | non => exact .base .non
  | bl b => exact .base (.bl b)
  | int i => exact .base (.int i)
  | str s => exact .base (.str s)
  | lst hs _ =>
    rcases hs with (e | ⟨o, e⟩) | ⟨o, its, n, e, c, _⟩
    · exact .base (.lst e)
    · exact .base (.frz e)
    · exact .kList e c
  | tup hs _ =>
    rcases hs with (e | ⟨o, e⟩) | ⟨o, its, n, e, c, _⟩
    · exact .base (.tup e)
    · exact .fTuple e
    · exact .kTuple e c
theorem dp_get {K : PySem.W.Frag} {H : Hp} : ∀ {xs : List V} {ds : List PyData}, DpAll K H xs ds → xs.length = ds.length ∧ ∀ (i : Nat) (d : PyData), ds[i]? = some d → ∃ x, xs[i]? = some x ∧ Dp K H x d
  | _, _, .nil => ⟨rfl, fun (i : Nat) d h => by simp at h⟩
  | _, _, .cons h t => by
    obtain ⟨l, g⟩ := dp_get t
    refine ⟨congrArg Nat.succ l, fun i d e => ?_⟩
    cases i with
    | zero => obtain rfl := Option.some.inj e; exact ⟨_, rfl, h⟩
    | succ j => exact g j d e
theorem dp_scal {K : PySem.W.Frag} {H : Hp} {x y : V} {b c : Bool} (h : Dp K H x (.bool b)) (g : Dp K H y (.bool c)) : x = .bl b ∧ y = .bl c := by
  cases h; cases g; exact ⟨rfl, rfl⟩
def isN : PyData → Bool | .none => true | _ => false
/-- the law's own equality: found, meant -/
def so : Nat → PyData → PyData → Bool
  | _, f, .none => isN f
  | _, f, .bool b => match f with | .bool c => c == b | _ => false
  | _, f, .int i => match f with | .int j => j == i | _ => false
  | _, f, .str s => match f with | .str t => t == s | _ => false
  | 0, _, .tuple _ => false
  | n + 1, f, .tuple ms => match f with | .tuple fs => fs.length == ms.length && (List.range ms.length).all (fun i => so n (fs.getD i .none) (ms.getD i .none)) | _ => false
  | _, _, .list _ => false
  | _, _, .dict _ => false
theorem so_none (n : Nat) (f : PyData) : so n f .none = isN f := by cases n <;> rfl
theorem so_bool (n : Nat) (f : PyData) (b : Bool) : so n f (.bool b) = (match f with | .bool c => c == b | _ => false) := by cases n <;> rfl
theorem so_int (n : Nat) (f : PyData) (i : Int) : so n f (.int i) = (match f with | .int j => j == i | _ => false) := by cases n <;> rfl
theorem so_str (n : Nat) (f : PyData) (x : Str) : so n f (.str x) = (match f with | .str t => t == x | _ => false) := by cases n <;> rfl
theorem so_list (n : Nat) (f : PyData) (l : List PyData) : so n f (.list l) = false := by cases n <;> rfl
def fits : Nat → PyData → Prop
  | 0, .tuple _ => False
  | n + 1, .tuple ds => ds.length ≤ 1000 ∧ ∀ d, d ∈ ds → fits n d
  | _, _ => True
def isTu : PyData → Bool | .tuple _ => true | _ => false
def isBo : PyData → Bool | .bool _ => true | _ => false
def isIn : PyData → Bool | .bool _ => true | .int _ => true | _ => false
def isSt : PyData → Bool | .str _ => true | _ => false
theorem kb_tu (d : PyData) : kitB (tyName d) "tuple" = some (isTu d) := match d with
  | .none => (by decide +kernel : kitB "NoneType" "tuple" = some false)
  | .bool _ => (by decide +kernel : kitB "bool" "tuple" = some false)
  | .int _ => (by decide +kernel : kitB "int" "tuple" = some false)
  | .str _ => (by decide +kernel : kitB "str" "tuple" = some false)
  | .list _ => (by decide +kernel : kitB "list" "tuple" = some false)
  | .tuple _ => (by decide +kernel : kitB "tuple" "tuple" = some true)
  | .dict _ => (by decide +kernel : kitB "dict" "tuple" = some false)
theorem kb_bo (d : PyData) : kitB (tyName d) "bool" = some (isBo d) := match d with
  | .none => (by decide +kernel : kitB "NoneType" "bool" = some false)
  | .bool _ => (by decide +kernel : kitB "bool" "bool" = some true)
  | .int _ => (by decide +kernel : kitB "int" "bool" = some false)
  | .str _ => (by decide +kernel : kitB "str" "bool" = some false)
  | .list _ => (by decide +kernel : kitB "list" "bool" = some false)
  | .tuple _ => (by decide +kernel : kitB "tuple" "bool" = some false)
  | .dict _ => (by decide +kernel : kitB "dict" "bool" = some false)
theorem kb_in (d : PyData) : kitB (tyName d) "int" = some (isIn d) := match d with
  | .none => (by decide +kernel : kitB "NoneType" "int" = some false)
  | .bool _ => (by decide +kernel : kitB "bool" "int" = some true)
  | .int _ => (by decide +kernel : kitB "int" "int" = some true)
  | .str _ => (by decide +kernel : kitB "str" "int" = some false)
  | .list _ => (by decide +kernel : kitB "list" "int" = some false)
  | .tuple _ => (by decide +kernel : kitB "tuple" "int" = some false)
  | .dict _ => (by decide +kernel : kitB "dict" "int" = some false)
theorem kb_st (d : PyData) : kitB (tyName d) "str" = some (isSt d) := match d with
  | .none => (by decide +kernel : kitB "NoneType" "str" = some false)
  | .bool _ => (by decide +kernel : kitB "bool" "str" = some false)
  | .int _ => (by decide +kernel : kitB "int" "str" = some false)
  | .str _ => (by decide +kernel : kitB "str" "str" = some true)
  | .list _ => (by decide +kernel : kitB "list" "str" = some false)
  | .tuple _ => (by decide +kernel : kitB "tuple" "str" = some false)
  | .dict _ => (by decide +kernel : kitB "dict" "str" = some false)
theorem r_isi {K : PySem.W.Frag} {σ : L2.St} {H : Hp} {x : V} {d : PyData} {n : String} {b : Bool} {i : Nat} {Q : Bool → Hp → Prop} (e : σ[i]? = some (some x)) (h : Dp K H x d) (kb : kitB (tyName d) n = some b) (q : Q b H) :
    tB (tCB (rIsi K) (tCons (tVar i) (tCons (tC (.ty n)) tNil))) σ H Q := ⟨x, e, x, .ty n, .type (tyName d), .type n, b, rfl, .ty n, ty_dp h, kit_ty kb, b, rfl, q⟩
theorem v_isi {K : PySem.W.Frag} {σ : L2.St} {H : Hp} {x : V} {d : PyData} {n : String} {b : Bool} {i : Nat} {Q : VK} (e : σ[i]? = some (some x)) (h : Dp K H x d) (kb : kitB (tyName d) n = some b) (q : Q (.bl b) H) :
    tCB (rIsi K) (tCons (tVar i) (tCons (tC (.ty n)) tNil)) σ H Q := ⟨x, e, x, .ty n, .type (tyName d), .type n, b, rfl, .ty n, ty_dp h, kit_ty kb, q⟩
theorem dp_non {K : PySem.W.Frag} {H : Hp} {x : V} {d : PyData} (h : Dp K H x d) : decide (x = V.non) = isN d := by
  cases h <;> rfl
abbrev sSo : Stmt := topS 75
theorem scSo : FnScope ["found", "meant", "k"] ["found", "meant"] (defScope sSo) := ⟨rfl, rfl, rfl, by decide +kernel, rfl, by decide +kernel, by decide +kernel⟩
def spSo (K : PySem.W.Frag) : Nat → Sp
  | 0 => fun _ _ _ _ => False
  | n + 1 => fun vs H Q _ => ∃ x y f m, vs = [x, y] ∧ Dp K H x f ∧ Dp K H y m ∧ fits n m ∧ Q (.bl (so n f m)) H
section
variable {P : Program} {w : World} {K : PySem.W.Frag} {mg : Str → Option Value} {base : Heap}
theorem ok_so {f : Addr} {fd : FuncData} {k : Nat} (F : Fun K "_law_so" "_law_so" sSo f fd) (bF : Binds K fd ["found", "meant"] []) (gF : mg "_law_so" = some (.ref f))
    (ms : mg "isinstance" = none) (ml : mg "len" = none) (mr : mg "range" = none) (m1 : mg "tuple" = none) (m2 : mg "bool" = none) (m3 : mg "int" = none) (m4 : mg "str" = none) : ∀ n, FnOk P w K mg base CX0 (k + n) f fd ["found", "meant"] (spSo K n)
  | 0 => ⟨fun _ _ _ _ h => h.elim, fun _ _ _ _ _ _ _ _ _ _ _ _ _ h => h.elim⟩
  | n + 1 => by
    have G := ok_so (k := k) F bF gF ms ml mr m1 m2 m3 m4 n
    refine F.ok scSo (fun vs H Q E h => ?_) (fun cdv A outer s H vs Q E hr h => ?_)
    · obtain ⟨_, _, _, _, rfl, _⟩ := h
      rfl
    · obtain ⟨x, y, f, m, rfl, hx, hy, hf, q⟩ := h
      refine ⟨_, pss_cons (ps_if (pt_cmpR op_isN (pv 1) pe_non (nomark _)) (pss_one (ps_ret (pe_cmpR op_isN (pv 0) pe_non (nomark _)))) pss_nil)
        (pss_cons (ps_if (pt_val (pe_callB call_isi (by rfl) ms (by decide +kernel) (pa_cons (pv 1) (pa_cons (pe_bltn (v := .ty "tuple") (by rfl) m1 (by decide +kernel) rfl) pa_nil))))
          (pss_cons (ps_if (PW.pt (pw_or (pt_not (pt_val (pe_callB call_isi (by rfl) ms (by decide +kernel) (pa_cons (pv 0) (pa_cons (pe_bltn (v := .ty "tuple") (by rfl) m1 (by decide +kernel) rfl) pa_nil)))))
              (pw_or1 (pt_cmpR op_ne (pe_callB call_len_seq (by rfl) ml PySem.boot_len (pa_cons (pv 0) pa_nil)) (pe_callB call_len_seq (by rfl) ml PySem.boot_len (pa_cons (pv 1) pa_nil)) (nomark _)))))
            (pss_one (ps_ret pe_bl)) pss_nil)
          (pss_cons (ps_for PassesOwn.never rfl (pi_range1 rfl mr (pa_cons (pe_callB call_len_seq (by rfl) ml PySem.boot_len (pa_cons (pv 1) pa_nil)) pa_nil)) (pg_name (i := 2) scSo.nd rfl (.inl rfl))
            (pss_one (ps_if (pt_not (pt_val (pe_call G hr (by rfl) gF F.kp bF .nil pass0 (pa_cons (pe_ix ix_tup (pv 0) (pv 2) (fun _ _ => rfl)) (pa_cons (pe_ix ix_tup (pv 1) (pv 2) (fun _ _ => rfl)) pa_nil))))) (pss_one (ps_ret pe_bl)) pss_nil)))
          (pss_one (ps_ret pe_bl)))) pss_nil)
        (pss_cons (ps_if (PW.pt (pw_or (pt_val (pe_callB call_isi (by rfl) ms (by decide +kernel) (pa_cons (pv 1) (pa_cons (pe_bltn (v := .ty "bool") (by rfl) m2 (by decide +kernel) rfl) pa_nil))))
            (pw_or1 (pt_val (pe_callB call_isi (by rfl) ms (by decide +kernel) (pa_cons (pv 0) (pa_cons (pe_bltn (v := .ty "bool") (by rfl) m2 (by decide +kernel) rfl) pa_nil)))))))
          (pss_one (ps_ret (pe_and (pe_callB call_isi (by rfl) ms (by decide +kernel) (pa_cons (pv 1) (pa_cons (pe_bltn (v := .ty "bool") (by rfl) m2 (by decide +kernel) rfl) pa_nil)))
            (pe_and (pe_callB call_isi (by rfl) ms (by decide +kernel) (pa_cons (pv 0) (pa_cons (pe_bltn (v := .ty "bool") (by rfl) m2 (by decide +kernel) rfl) pa_nil))) (pe_one (pe_cmpR op_eq (pv 0) (pv 1) (nomark _))))))) pss_nil)
        (pss_cons (ps_if (pt_val (pe_callB call_isi (by rfl) ms (by decide +kernel) (pa_cons (pv 1) (pa_cons (pe_bltn (v := .ty "int") (by rfl) m3 (by decide +kernel) rfl) pa_nil))))
          (pss_one (ps_ret (pe_and (pe_callB call_isi (by rfl) ms (by decide +kernel) (pa_cons (pv 0) (pa_cons (pe_bltn (v := .ty "int") (by rfl) m3 (by decide +kernel) rfl) pa_nil))) (pe_one (pe_cmpR op_eq (pv 0) (pv 1) (nomark _)))))) pss_nil)
        (pss_one (ps_ret (pe_and (pe_callB call_isi (by rfl) ms (by decide +kernel) (pa_cons (pv 1) (pa_cons (pe_bltn (v := .ty "str") (by rfl) m4 (by decide +kernel) rfl) pa_nil)))
            (pe_and (pe_callB call_isi (by rfl) ms (by decide +kernel) (pa_cons (pv 0) (pa_cons (pe_bltn (v := .ty "str") (by rfl) m4 (by decide +kernel) rfl) pa_nil))) (pe_one (pe_cmpR op_eq (pv 0) (pv 1) (nomark _)))))))))), ?_⟩
      refine ⟨_, rfl, rfl, _, rfl, ?_⟩
      rw [dp_non hy]
      cases hy with
      | non =>
        refine iteT ⟨x, rfl, rfl, ?_⟩
        rw [dp_non hx]
        rw [so_none] at q
        exact q
      | bl b =>
        rw [so_bool] at q
        refine iteF (r_isi rfl (.bl b) (b := false) (by first | exact kb_tu _ | exact kb_bo _ | exact kb_in _ | exact kb_st _) (iteF (r_isi rfl (.bl b) (b := true) (by first | exact kb_tu _ | exact kb_bo _ | exact kb_in _ | exact kb_st _) (iteT (iteT ?_)))))
        refine v_isi rfl (.bl b) (b := true) (by first | exact kb_tu _ | exact kb_bo _ | exact kb_in _ | exact kb_st _) ⟨true, rfl, iteT ?_⟩
        cases hx with
        | bl c =>
          refine v_isi rfl (.bl c) (b := true) (by first | exact kb_tu _ | exact kb_bo _ | exact kb_in _ | exact kb_st _) ⟨true, rfl, iteT ⟨_, rfl, _, rfl, rfl, ?_⟩⟩
          rw [dec_bl]
          exact q
        | non => exact v_isi rfl (.non) (b := false) (by first | exact kb_tu _ | exact kb_bo _ | exact kb_in _ | exact kb_st _) ⟨false, rfl, iteF q⟩
        | int i => exact v_isi rfl (.int i) (b := false) (by first | exact kb_tu _ | exact kb_bo _ | exact kb_in _ | exact kb_st _) ⟨false, rfl, iteF q⟩
        | str s => exact v_isi rfl (.str s) (b := false) (by first | exact kb_tu _ | exact kb_bo _ | exact kb_in _ | exact kb_st _) ⟨false, rfl, iteF q⟩
        | lst h1 h2 => exact v_isi rfl (.lst h1 h2) (b := false) (by first | exact kb_tu _ | exact kb_bo _ | exact kb_in _ | exact kb_st _) ⟨false, rfl, iteF q⟩
        | tup h1 h2 => exact v_isi rfl (.tup h1 h2) (b := false) (by first | exact kb_tu _ | exact kb_bo _ | exact kb_in _ | exact kb_st _) ⟨false, rfl, iteF q⟩
      | int i =>
        rw [so_int] at q
        refine iteF (r_isi rfl (.int i) (b := false) (by first | exact kb_tu _ | exact kb_bo _ | exact kb_in _ | exact kb_st _) (iteF (r_isi rfl (.int i) (b := false) (by first | exact kb_tu _ | exact kb_bo _ | exact kb_in _ | exact kb_st _) (iteF ?_))))
        cases hx with
        | bl c => exact r_isi rfl (.bl c) (b := true) (by first | exact kb_tu _ | exact kb_bo _ | exact kb_in _ | exact kb_st _) (iteT (v_isi rfl (.int i) (b := false) (by first | exact kb_tu _ | exact kb_bo _ | exact kb_in _ | exact kb_st _) ⟨false, rfl, iteF q⟩))
        | int j =>
          refine r_isi rfl (.int j) (b := false) (by first | exact kb_tu _ | exact kb_bo _ | exact kb_in _ | exact kb_st _) (iteF (r_isi rfl (.int i) (b := true) (by first | exact kb_tu _ | exact kb_bo _ | exact kb_in _ | exact kb_st _) (iteT (v_isi rfl (.int j) (b := true) (by first | exact kb_tu _ | exact kb_bo _ | exact kb_in _ | exact kb_st _) ⟨true, rfl, iteT ⟨_, rfl, _, rfl, rfl, ?_⟩⟩))))
          rw [dec_int]
          exact q
        | non => exact r_isi rfl (.non) (b := false) (by first | exact kb_tu _ | exact kb_bo _ | exact kb_in _ | exact kb_st _) (iteF (r_isi rfl (.int i) (b := true) (by first | exact kb_tu _ | exact kb_bo _ | exact kb_in _ | exact kb_st _) (iteT (v_isi rfl (.non) (b := false) (by first | exact kb_tu _ | exact kb_bo _ | exact kb_in _ | exact kb_st _) ⟨false, rfl, iteF q⟩))))
        | str s => exact r_isi rfl (.str s) (b := false) (by first | exact kb_tu _ | exact kb_bo _ | exact kb_in _ | exact kb_st _) (iteF (r_isi rfl (.int i) (b := true) (by first | exact kb_tu _ | exact kb_bo _ | exact kb_in _ | exact kb_st _) (iteT (v_isi rfl (.str s) (b := false) (by first | exact kb_tu _ | exact kb_bo _ | exact kb_in _ | exact kb_st _) ⟨false, rfl, iteF q⟩))))
        | lst h1 h2 => exact r_isi rfl (.lst h1 h2) (b := false) (by first | exact kb_tu _ | exact kb_bo _ | exact kb_in _ | exact kb_st _) (iteF (r_isi rfl (.int i) (b := true) (by first | exact kb_tu _ | exact kb_bo _ | exact kb_in _ | exact kb_st _) (iteT (v_isi rfl (.lst h1 h2) (b := false) (by first | exact kb_tu _ | exact kb_bo _ | exact kb_in _ | exact kb_st _) ⟨false, rfl, iteF q⟩))))
        | tup h1 h2 => exact r_isi rfl (.tup h1 h2) (b := false) (by first | exact kb_tu _ | exact kb_bo _ | exact kb_in _ | exact kb_st _) (iteF (r_isi rfl (.int i) (b := true) (by first | exact kb_tu _ | exact kb_bo _ | exact kb_in _ | exact kb_st _) (iteT (v_isi rfl (.tup h1 h2) (b := false) (by first | exact kb_tu _ | exact kb_bo _ | exact kb_in _ | exact kb_st _) ⟨false, rfl, iteF q⟩))))
      | str z =>
        rw [so_str] at q
        refine iteF (r_isi rfl (.str z) (b := false) (by first | exact kb_tu _ | exact kb_bo _ | exact kb_in _ | exact kb_st _) (iteF (r_isi rfl (.str z) (b := false) (by first | exact kb_tu _ | exact kb_bo _ | exact kb_in _ | exact kb_st _) (iteF ?_))))
        cases hx with
        | bl c => exact r_isi rfl (.bl c) (b := true) (by first | exact kb_tu _ | exact kb_bo _ | exact kb_in _ | exact kb_st _) (iteT (v_isi rfl (.str z) (b := false) (by first | exact kb_tu _ | exact kb_bo _ | exact kb_in _ | exact kb_st _) ⟨false, rfl, iteF q⟩))
        | str j =>
          refine r_isi rfl (.str j) (b := false) (by first | exact kb_tu _ | exact kb_bo _ | exact kb_in _ | exact kb_st _) (iteF (r_isi rfl (.str z) (b := false) (by first | exact kb_tu _ | exact kb_bo _ | exact kb_in _ | exact kb_st _) (iteF (v_isi rfl (.str z) (b := true) (by first | exact kb_tu _ | exact kb_bo _ | exact kb_in _ | exact kb_st _) ⟨true, rfl, iteT (v_isi rfl (.str j) (b := true) (by first | exact kb_tu _ | exact kb_bo _ | exact kb_in _ | exact kb_st _) ⟨true, rfl, iteT ⟨_, rfl, _, rfl, rfl, ?_⟩⟩)⟩))))
          rw [show decide (V.str j = V.str z) = (j == z) by rw [dec_str]]
          exact q
        | non => exact r_isi rfl (.non) (b := false) (by first | exact kb_tu _ | exact kb_bo _ | exact kb_in _ | exact kb_st _) (iteF (r_isi rfl (.str z) (b := false) (by first | exact kb_tu _ | exact kb_bo _ | exact kb_in _ | exact kb_st _) (iteF (v_isi rfl (.str z) (b := true) (by first | exact kb_tu _ | exact kb_bo _ | exact kb_in _ | exact kb_st _) ⟨true, rfl, iteT (v_isi rfl (.non) (b := false) (by first | exact kb_tu _ | exact kb_bo _ | exact kb_in _ | exact kb_st _) ⟨false, rfl, iteF q⟩)⟩))))
        | int s => exact r_isi rfl (.int s) (b := false) (by first | exact kb_tu _ | exact kb_bo _ | exact kb_in _ | exact kb_st _) (iteF (r_isi rfl (.str z) (b := false) (by first | exact kb_tu _ | exact kb_bo _ | exact kb_in _ | exact kb_st _) (iteF (v_isi rfl (.str z) (b := true) (by first | exact kb_tu _ | exact kb_bo _ | exact kb_in _ | exact kb_st _) ⟨true, rfl, iteT (v_isi rfl (.int s) (b := false) (by first | exact kb_tu _ | exact kb_bo _ | exact kb_in _ | exact kb_st _) ⟨false, rfl, iteF q⟩)⟩))))
        | lst h1 h2 => exact r_isi rfl (.lst h1 h2) (b := false) (by first | exact kb_tu _ | exact kb_bo _ | exact kb_in _ | exact kb_st _) (iteF (r_isi rfl (.str z) (b := false) (by first | exact kb_tu _ | exact kb_bo _ | exact kb_in _ | exact kb_st _) (iteF (v_isi rfl (.str z) (b := true) (by first | exact kb_tu _ | exact kb_bo _ | exact kb_in _ | exact kb_st _) ⟨true, rfl, iteT (v_isi rfl (.lst h1 h2) (b := false) (by first | exact kb_tu _ | exact kb_bo _ | exact kb_in _ | exact kb_st _) ⟨false, rfl, iteF q⟩)⟩))))
        | tup h1 h2 => exact r_isi rfl (.tup h1 h2) (b := false) (by first | exact kb_tu _ | exact kb_bo _ | exact kb_in _ | exact kb_st _) (iteF (r_isi rfl (.str z) (b := false) (by first | exact kb_tu _ | exact kb_bo _ | exact kb_in _ | exact kb_st _) (iteF (v_isi rfl (.str z) (b := true) (by first | exact kb_tu _ | exact kb_bo _ | exact kb_in _ | exact kb_st _) ⟨true, rfl, iteT (v_isi rfl (.tup h1 h2) (b := false) (by first | exact kb_tu _ | exact kb_bo _ | exact kb_in _ | exact kb_st _) ⟨false, rfl, iteF q⟩)⟩))))
      | @lst la lx ld h1 h2 =>
        rw [so_list] at q
        refine iteF (r_isi rfl (.lst h1 h2) (b := false) (by first | exact kb_tu _ | exact kb_bo _ | exact kb_in _ | exact kb_st _) (iteF (r_isi rfl (.lst h1 h2) (b := false) (by first | exact kb_tu _ | exact kb_bo _ | exact kb_in _ | exact kb_st _) (iteF ?_))))
        have other : ∀ c, c = (match f with | .bool _ => true | _ => false) → kitB (tyName f) "bool" = some c := fun c e => by subst e; cases hx <;> exact kb_bo _
        refine r_isi rfl hx (other _ rfl) ?_
        cases hx with
        | bl c => exact iteT (v_isi rfl (.lst h1 h2) (b := false) (by first | exact kb_tu _ | exact kb_bo _ | exact kb_in _ | exact kb_st _) ⟨false, rfl, iteF q⟩)
        | non => exact iteF (r_isi rfl (.lst h1 h2) (b := false) (by first | exact kb_tu _ | exact kb_bo _ | exact kb_in _ | exact kb_st _) (iteF (v_isi rfl (.lst h1 h2) (b := false) (by first | exact kb_tu _ | exact kb_bo _ | exact kb_in _ | exact kb_st _) ⟨false, rfl, iteF q⟩)))
        | int s => exact iteF (r_isi rfl (.lst h1 h2) (b := false) (by first | exact kb_tu _ | exact kb_bo _ | exact kb_in _ | exact kb_st _) (iteF (v_isi rfl (.lst h1 h2) (b := false) (by first | exact kb_tu _ | exact kb_bo _ | exact kb_in _ | exact kb_st _) ⟨false, rfl, iteF q⟩)))
        | str s => exact iteF (r_isi rfl (.lst h1 h2) (b := false) (by first | exact kb_tu _ | exact kb_bo _ | exact kb_in _ | exact kb_st _) (iteF (v_isi rfl (.lst h1 h2) (b := false) (by first | exact kb_tu _ | exact kb_bo _ | exact kb_in _ | exact kb_st _) ⟨false, rfl, iteF q⟩)))
        | lst g1 g2 => exact iteF (r_isi rfl (.lst h1 h2) (b := false) (by first | exact kb_tu _ | exact kb_bo _ | exact kb_in _ | exact kb_st _) (iteF (v_isi rfl (.lst h1 h2) (b := false) (by first | exact kb_tu _ | exact kb_bo _ | exact kb_in _ | exact kb_st _) ⟨false, rfl, iteF q⟩)))
        | tup g1 g2 => exact iteF (r_isi rfl (.lst h1 h2) (b := false) (by first | exact kb_tu _ | exact kb_bo _ | exact kb_in _ | exact kb_st _) (iteF (v_isi rfl (.lst h1 h2) (b := false) (by first | exact kb_tu _ | exact kb_bo _ | exact kb_in _ | exact kb_st _) ⟨false, rfl, iteF q⟩)))
      | @tup ta tx td h1 h2 =>
        refine iteF (r_isi rfl (.tup h1 h2) (b := true) (by first | exact kb_tu _ | exact kb_bo _ | exact kb_in _ | exact kb_st _) (iteT ?_))
        cases n with
        | zero => exact hf.elim
        | succ n =>
          obtain ⟨hlen, hall⟩ := hf
          obtain ⟨l2, g2⟩ := dp_get h2
          cases hx with
          | bl c => exact r_isi rfl (.bl c) (b := false) (by first | exact kb_tu _ | exact kb_bo _ | exact kb_in _ | exact kb_st _) (iteT (iteT q))
          | non => exact r_isi rfl (.non) (b := false) (by first | exact kb_tu _ | exact kb_bo _ | exact kb_in _ | exact kb_st _) (iteT (iteT q))
          | int s => exact r_isi rfl (.int s) (b := false) (by first | exact kb_tu _ | exact kb_bo _ | exact kb_in _ | exact kb_st _) (iteT (iteT q))
          | str s => exact r_isi rfl (.str s) (b := false) (by first | exact kb_tu _ | exact kb_bo _ | exact kb_in _ | exact kb_st _) (iteT (iteT q))
          | lst g1 g2 => exact r_isi rfl (.lst g1 g2) (b := false) (by first | exact kb_tu _ | exact kb_bo _ | exact kb_in _ | exact kb_st _) (iteT (iteT q))
          | @tup fa fx fd' k1 k2 =>
            obtain ⟨l1, g1⟩ := dp_get k2
            refine r_isi rfl (.tup k1 k2) (b := true) (by first | exact kb_tu _ | exact kb_bo _ | exact kb_in _ | exact kb_st _) (iteF ⟨_, rfl, fa, fx, rfl, .inr k1, _, rfl, ta, tx, rfl, .inr h1, rfl, _, rfl, ?_⟩)
            have en : (!decide (V.int (fx.length : Int) = V.int (tx.length : Int))) = !(fd'.length == td.length) := by
              rw [dec_int, l1, l2]
              congr 1
              rw [Bool.eq_iff_iff, beq_iff_eq, beq_iff_eq]
              omega
            rw [en]
            change Q (.bl (fd'.length == td.length && (List.range td.length).all (fun i => so n (fd'.getD i .none) (td.getD i .none)))) H at q
            by_cases el : fd'.length = td.length
            · have e1 : (fd'.length == td.length) = true := beq_iff_eq.mpr el
              rw [e1] at q ⊢
              refine iteF ⟨_, rfl, ta, tx, rfl, .inr h1, _, rfl, by rw [l2]; omega, by rw [l2]; omega, ?_⟩
              have et : ((tx.length : Int)).toNat = td.length := by rw [l2]; exact Int.toNat_natCast _
              rw [et]
              refine for_range (lo := 0) (n := td.length) (fun i σ H' => H' = H ∧ (∃ c, σ = [some (.ref fa), some (.ref ta), c]) ∧ ∀ j, j < i → so n (fd'.getD j .none) (td.getD j .none) = true)
                ⟨rfl, ⟨none, rfl⟩, fun j hj => absurd hj (Nat.not_lt_zero j)⟩ ?_ ?_
              · rintro i σ H' hi ⟨rfl, ⟨c, rfl⟩, ih⟩
                have e0 : (0 : Int) + (i : Int) = (i : Int) := Int.zero_add _
                rw [e0]
                obtain ⟨vf, a1, a2⟩ := g1 i fd'[i] (List.getElem?_eq_getElem (by omega))
                obtain ⟨vm, b1, b2⟩ := g2 i td[i] (List.getElem?_eq_getElem hi)
                have z1 : fd'.getD i .none = fd'[i] := by rw [List.getD_eq_getElem?_getD, List.getElem?_eq_getElem (by omega)]; rfl
                have z2 : td.getD i .none = td[i] := by rw [List.getD_eq_getElem?_getD, List.getElem?_eq_getElem hi]; rfl
                refine ⟨_, rfl, _, rfl, fa, fx, _, vf, rfl, rfl, k1, atI_nat a1, _, rfl, _, rfl, ta, tx, _, vm, rfl, rfl, h1, atI_nat b1, vf, vm, fd'[i], td[i], rfl, a2, b2, hall _ (List.getElem_mem hi), _, rfl, ?_⟩
                rw [← z1, ← z2]
                cases eb : so n (fd'.getD i .none) (td.getD i .none) with
                | true =>
                  refine iteF ⟨rfl, ⟨_, rfl⟩, fun j hj => ?_⟩
                  by_cases ej : j = i
                  · subst ej; exact eb
                  · exact ih j (by omega)
                | false =>
                  refine iteT ?_
                  have ef : ((List.range td.length).all (fun i => so n (fd'.getD i .none) (td.getD i .none))) = false := by
                    rw [Bool.eq_false_iff]
                    intro z
                    have := List.all_eq_true.mp z i (List.mem_range.mpr hi)
                    rw [eb] at this
                    cases this
                  rw [ef] at q
                  exact q
              · rintro σ H' ⟨rfl, ⟨c, rfl⟩, ih⟩
                have ef : ((List.range td.length).all (fun i => so n (fd'.getD i .none) (td.getD i .none))) = true := List.all_eq_true.mpr fun j hj => ih j (List.mem_range.mp hj)
                rw [ef] at q
                exact q
            · have e1 : (fd'.length == td.length) = false := beq_false_of_ne el
              rw [e1] at q ⊢
              exact iteT q
end
end Cw

set_option Elab.async false
set_option linter.all false
set_option maxRecDepth 100000
set_option maxHeartbeats 4000000
namespace Cw
open PySem PySem.Spec PyProof.Rows L2
/-! ### a def, a constant as the top has written it -/
structure Hd (K : PySem.W.Frag) (mg : Str → Option Value) (x : Str) (st : Stmt) (ps : List Str) (f : Addr) (d : FuncData) : Prop where
  F : Fun K x x st f d
  b : Binds K d ps []
  g : mg x = some (.ref f)
structure Cst (K : PySem.W.Frag) (mg : Str → Option Value) (x : Str) (v : V) (u : Value) : Prop where
  g : mg x = some u
  r : RelV v u
/-! ### sizes -/
inductive Ok : PyData → Prop
  | non : Ok .none
  | bool (b : Bool) : Ok (.bool b)
  | int (i : Int) : Ok (.int i)
  | str (z : Str) (h : z.length ≤ 1000000) : Ok (.str z)
  | list (l : List PyData) (h : l.length ≤ 100000) (t : ∀ d, d ∈ l → Ok d) : Ok (.list l)
  | tuple (l : List PyData) (h : l.length ≤ 100000) (t : ∀ d, d ∈ l → Ok d) : Ok (.tuple l)
theorem ok_str {z : Str} (h : Ok (.str z)) : z.length ≤ sizeLine := by cases h with | str _ h => exact Nat.le_trans h (by decide)
/-- a test of one value -/
def sp1 (K : PySem.W.Frag) (r : PyData → Bool) : Sp := fun vs H Q _ => ∃ x d, vs = [x] ∧ Dp K H x d ∧ Ok d ∧ ∀ H', Same H H' → Q (.bl (r d)) H'
theorem sqt_keep {K : PySem.W.Frag} {H H' : Hp} {a : Addr} {xs : List V} (s : Same H H') (h : SqT K H a xs) : SqT K H' a xs := by
  rcases h with (h | ⟨o, h⟩) | h
  · exact .inl (.inl (s _ _ h))
  · exact .inl (.inr ⟨o, s _ _ h⟩)
  · exact .inr h
mutual
theorem dp_keep {K : PySem.W.Frag} {H H' : Hp} (s : Same H H') : ∀ {x : V} {d : PyData}, Dp K H x d → Dp K H' x d
  | _, _, .non => .non
  | _, _, .bl b => .bl b
  | _, _, .int i => .int i
  | _, _, .str z => .str z
  | _, _, .lst h t => .lst (s.seq h) (dps_keep s t)
  | _, _, .tup h t => .tup (sqt_keep s h) (dps_keep s t)
theorem dps_keep {K : PySem.W.Frag} {H H' : Hp} (s : Same H H') : ∀ {xs : List V} {ds : List PyData}, DpAll K H xs ds → DpAll K H' xs ds
  | _, _, .nil => .nil
  | _, _, .cons h t => .cons (dp_keep s h) (dps_keep s t)
end
/-! ### letters -/
def lowC (c : Nat) : Bool := decide (97 ≤ c ∧ c ≤ 122)
def upC (c : Nat) : Bool := decide (65 ≤ c ∧ c ≤ 90)
theorem low_mem (c : Nat) : decide (c ∈ (PySem.Str.ofString "abcdefghijklmnopqrstuvwxyz").cps.toList) = lowC c := by
  have e : (PySem.Str.ofString "abcdefghijklmnopqrstuvwxyz").cps.toList = [97, 98, 99, 100, 101, 102, 103, 104, 105, 106, 107, 108, 109, 110, 111, 112, 113, 114, 115, 116, 117, 118, 119, 120, 121, 122] := by decide +kernel
  rw [e]
  unfold lowC
  rw [Bool.eq_iff_iff, decide_eq_true_iff, decide_eq_true_iff]
  simp only [List.mem_cons, List.not_mem_nil, or_false]
  omega
theorem up_mem (c : Nat) : decide (c ∈ (PySem.Str.ofString "ABCDEFGHIJKLMNOPQRSTUVWXYZ").cps.toList) = upC c := by
  have e : (PySem.Str.ofString "ABCDEFGHIJKLMNOPQRSTUVWXYZ").cps.toList = [65, 66, 67, 68, 69, 70, 71, 72, 73, 74, 75, 76, 77, 78, 79, 80, 81, 82, 83, 84, 85, 86, 87, 88, 89, 90] := by decide +kernel
  rw [e]
  unfold upC
  rw [Bool.eq_iff_iff, decide_eq_true_iff, decide_eq_true_iff]
  simp only [List.mem_cons, List.not_mem_nil, or_false]
  omega
/-! ### integers, sequences, names -/
def isInteger (lo hi : Int) : PyData → Bool
  | .int i => decide (lo ≤ i) && decide (i ≤ hi)
  | _ => false
def isSeq (lo hi : Int) : PyData → Bool
  | .list l => decide (lo ≤ (l.length : Int)) && decide ((l.length : Int) ≤ hi)
  | .tuple l => decide (lo ≤ (l.length : Int)) && decide ((l.length : Int) ≤ hi)
  | _ => false
def areLower (z : Str) : Bool := z.cps.toList.all lowC
def reserved : List Str := ["module", "uses", "open", "sealed", "abstract", "class", "extends", "generic", "by", "gives", "method", "new", "next", "if", "then", "else", "let", "in"]
def isNameS (z : Str) : Bool := decide (1 ≤ z.length) && decide (z.length ≤ 12) && areLower z && !reserved.contains z
def isName : PyData → Bool
  | .str z => isNameS z
  | _ => false
def isWordS (z : Str) : Bool := decide (1 ≤ z.length) && decide (z.length ≤ 12) && (match z.cps.toList with | c :: r => upC c && r.all lowC | [] => false)
def isWord : PyData → Bool
  | .str z => isWordS z
  | _ => false
end Cw

set_option Elab.async false
set_option linter.all false
set_option maxRecDepth 100000
set_option maxHeartbeats 4000000
namespace Cw
open PySem PySem.Spec PyProof.Rows L2
def isSq : PyData → Bool | .list _ => true | .tuple _ => true | _ => false
theorem kb_sq {K : PySem.W.Frag} (d : PyData) : PySem.W.kitAny K (.type (tyName d)) [.type "list", .type "tuple"] = some (isSq d) := by
  have hl : ∀ t, kitB t "list" = some (t == "list") → kitB t "tuple" = some (t == "tuple") → PySem.W.kitAny K (.type t) [.type "list", .type "tuple"] = some (t == "list" || t == "tuple") := fun t h1 h2 =>
    kitAny_cons (kit_ty h1) (fun e => kitAny_cons (kit_ty h2) (fun e2 => by rw [e, e2]; exact kitAny_nil) (fun e2 => by rw [e2, Bool.or_true])) (fun e => by rw [e, Bool.true_or])
  match d with
  | .none => exact hl "NoneType" (by decide +kernel) (by decide +kernel)
  | .bool _ => exact hl "bool" (by decide +kernel) (by decide +kernel)
  | .int _ => exact hl "int" (by decide +kernel) (by decide +kernel)
  | .str _ => exact hl "str" (by decide +kernel) (by decide +kernel)
  | .list _ => exact hl "list" (by decide +kernel) (by decide +kernel)
  | .tuple _ => exact hl "tuple" (by decide +kernel) (by decide +kernel)
  | .dict _ => exact hl "dict" (by decide +kernel) (by decide +kernel)
theorem isNameS_long {z : Str} (h : ¬ z.length ≤ 12) : isNameS z = false := by
  unfold isNameS
  rw [decide_eq_false h, Bool.and_false, Bool.false_and, Bool.false_and]
theorem isNameS_short {z : Str} (h : ¬ 1 ≤ z.length) : isNameS z = false := by
  unfold isNameS
  rw [decide_eq_false h, Bool.false_and, Bool.false_and, Bool.false_and]
theorem isNameS_low {z : Str} (h : areLower z = false) : isNameS z = false := by
  unfold isNameS
  rw [h, Bool.and_false, Bool.false_and]
theorem isNameS_in {z : Str} (h1 : 1 ≤ z.length) (h2 : z.length ≤ 12) (h3 : areLower z = true) : isNameS z = !reserved.contains z := by
  unfold isNameS
  rw [decide_eq_true h1, decide_eq_true h2, h3, Bool.true_and, Bool.true_and, Bool.true_and]
theorem isWordS_long {z : Str} (h : ¬ z.length ≤ 12) : isWordS z = false := by
  unfold isWordS
  rw [decide_eq_false h, Bool.and_false, Bool.false_and]
theorem isWordS_short {z : Str} (h : ¬ 1 ≤ z.length) : isWordS z = false := by
  unfold isWordS
  rw [decide_eq_false h, Bool.false_and, Bool.false_and]
theorem isWordS_in {z : Str} {c : Nat} {r : List Nat} (h1 : 1 ≤ z.length) (h2 : z.length ≤ 12) (e : z.cps.toList = c :: r) : isWordS z = (upC c && r.all lowC) := by
  unfold isWordS
  rw [decide_eq_true h1, decide_eq_true h2, e, Bool.true_and, Bool.true_and]
theorem cut_tail {z : Str} {c : Nat} {r : List Nat} (e : z.cps.toList = c :: r) : (cutS z (some 1) none).cps.toList = r := by
  have hl : z.length = r.length + 1 := by
    show z.cps.size = _
    rw [← Array.length_toList, e]
    rfl
  show ((z.cps.toList.drop (HT.sIx z.length 0 (some 1))).take (HT.sIx z.length z.length none - HT.sIx z.length 0 (some 1))).toArray.toList = r
  rw [show HT.sIx z.length 0 (some 1) = min 1 z.length from HT.sIx_nat z.length 0 1, HT.sIx_none, e, hl, List.toList_toArray, show min 1 (r.length + 1) = 1 by omega]
  show (r.take (r.length + 1 - 1)) = r
  rw [Nat.add_sub_cancel, List.take_length]
def isCname : PyData → Bool
  | .str z => isName (.str (Txt.partition z ".").1) && isWord (.str (Txt.partition z ".").2.2)
  | _ => false
def isGname : PyData → Bool
  | .str z => isName (.str (Txt.partition z ".").1) && isName (.str (Txt.partition z ".").2.2)
  | _ => false
theorem part_len (z : Str) : (Txt.partition z ".").1.length ≤ z.length ∧ (Txt.partition z ".").2.2.length ≤ z.length := by
  rcases PyProof.Rows.partition_whole z "." with ⟨e, _⟩ | ⟨i, e, hi, _⟩
  · rw [e]
    exact ⟨Nat.le_refl _, Nat.zero_le _⟩
  · rw [e]
    constructor
    · show (z.cps.extract 0 i).size ≤ z.cps.size
      rw [Array.size_extract]
      omega
    · show (z.cps.extract _ _).size ≤ z.cps.size
      rw [Array.size_extract]
      show min z.cps.size z.cps.size - _ ≤ z.cps.size
      omega
theorem reserved_flat : (reserved.map V.str).all flatV = true := by decide
theorem reserved_in {z : Str} : (if true = true then !inV (.str z) (reserved.map V.str) else inV (.str z) (reserved.map V.str)) = !reserved.contains z := by
  rw [if_pos rfl]
  congr 1
  unfold inV
  rw [List.any_map, List.contains_eq_any_beq]
  congr 1
  funext y
  show (y == z) = (z == y)
  rw [Bool.eq_iff_iff, beq_iff_eq, beq_iff_eq]
  exact ⟨Eq.symm, Eq.symm⟩
theorem low_cont : (PySem.Str.ofString "abcdefghijklmnopqrstuvwxyz").cps.contains = lowC := by
  funext c
  rw [← low_mem c, Array.contains_eq_mem]
  simp
theorem strip_nil (g : Nat → Bool) (z : Str) : (PySem.W.stripped g true true z).cps.toList = [] ↔ z.cps.toList.all g = true := by
  unfold PySem.W.stripped
  simp only [if_true, Builtin.Str.strSub, Str.length, Array.toList_extract, List.extract_eq_drop_take]
  obtain ⟨⟨l⟩⟩ := z
  simp only [List.size_toArray]
  have key : ∀ l : List Nat, l.all g = true ∨ ∃ a c r, l = a ++ c :: r ∧ a.all g = true ∧ g c = false := by
    intro l
    induction l with
    | nil => exact .inl rfl
    | cons x l ih =>
      by_cases hx : g x = true
      · rcases ih with h | ⟨a, c, r, e, h1, h2⟩
        · exact .inl (by rw [List.all_cons, hx, h]; rfl)
        · exact .inr ⟨x :: a, c, r, by rw [e]; rfl, by rw [List.all_cons, hx, h1]; rfl, h2⟩
      · exact .inr ⟨[], x, l, rfl, rfl, by simpa using hx⟩
  have tw : ∀ (a b : List Nat), a.all g = true → (a ++ b).takeWhile g = a ++ b.takeWhile g := by
    intro a
    induction a with
    | nil => intro b _; rfl
    | cons x a ih =>
      intro b h
      rw [List.all_cons, Bool.and_eq_true] at h
      rw [List.cons_append, List.takeWhile_cons, if_pos h.1, ih b h.2]
      rfl
  have tl : ∀ (a : List Nat) (c : Nat) (b : List Nat), g c = false → ((a ++ c :: b).takeWhile g).length ≤ a.length := by
    intro a
    induction a with
    | nil => intro c b h; rw [List.nil_append, List.takeWhile_cons, h]; exact Nat.le_refl _
    | cons x a ih =>
      intro c b h
      rw [List.cons_append, List.takeWhile_cons]
      cases g x with
      | true => exact Nat.succ_le_succ (ih c b h)
      | false => exact Nat.zero_le _
  rcases key l with h | ⟨a, c, r, e, h1, h2⟩
  · have e1 := tw l [] h
    rw [List.append_nil, List.takeWhile_nil, List.append_nil] at e1
    rw [e1, h]
    simp
  · subst e
    rw [tw a (c :: r) h1, List.takeWhile_cons, h2]
    have hf : ¬ ((a ++ c :: r).all g = true) := by
      rw [List.all_append, List.all_cons, h2]
      simp
    constructor
    · intro e
      exfalso
      have e2 := congrArg List.length e
      have e3 := tl r.reverse c [] h2
      rw [List.length_reverse] at e3
      simp only [Bool.false_eq_true, if_false, List.append_nil, List.drop_left, List.reverse_cons] at e2
      simp only [List.length_take, List.length_drop, List.length_append, List.length_cons, List.length_nil] at e2
      have e4 : (List.takeWhile g (r.reverse ++ [c])).length ≤ r.length := e3
      generalize (List.takeWhile g (r.reverse ++ [c])).length = m at e2 e4
      clear e3 e
      rw [Nat.min_def] at e2
      split at e2 <;> omega
    · exact fun e => absurd e hf
theorem strip_low (z : Str) : decide (V.str (Txt.stripChars z "abcdefghijklmnopqrstuvwxyz") = V.str "") = areLower z := by
  have e := strip_nil (PySem.Str.ofString "abcdefghijklmnopqrstuvwxyz").cps.contains z
  have e0 : Txt.stripChars z "abcdefghijklmnopqrstuvwxyz" = PySem.W.stripped (PySem.Str.ofString "abcdefghijklmnopqrstuvwxyz").cps.contains true true z := PySem.W.stripBy_eq (x := z) _ _ _
  unfold areLower
  rw [e0, Bool.eq_iff_iff, decide_eq_true_iff]
  rw [low_cont] at e ⊢
  rw [← e]
  constructor
  · intro h
    rw [show PySem.W.stripped lowC true true z = ("" : Str) from V.str.inj h]
    rfl
  · intro h
    refine congrArg V.str ?_
    revert h
    generalize PySem.W.stripped lowC true true z = y
    obtain ⟨⟨l⟩⟩ := y
    intro h
    have h : l = [] := h
    rw [h]
    rfl
def spInteger (K : PySem.W.Frag) : Sp := fun vs H Q _ => ∃ x d lo hi, vs = [x, .int lo, .int hi] ∧ Dp K H x d ∧ ∀ H', Same H H' → Q (.bl (isInteger lo hi d)) H'
def spSeq (K : PySem.W.Frag) : Sp := fun vs H Q _ => ∃ x d lo hi, vs = [x, .int lo, .int hi] ∧ Dp K H x d ∧ ∀ H', Same H H' → Q (.bl (isSeq lo hi d)) H'
def spLower : Sp := fun vs H Q _ => ∃ z : Str, vs = [.str z] ∧ z.length ≤ sizeLine ∧ ∀ H', Same H H' → Q (.bl (areLower z)) H'
section
variable {P : Program} {w : World} {K : PySem.W.Frag} {mg : Str → Option Value} {base : Heap}
abbrev s_is_integer : Stmt := topS 10
theorem sc_is_integer : FnScope ["value", "least", "most"] ["value", "least", "most"] (defScope s_is_integer) := ⟨rfl, rfl, rfl, by decide +kernel, rfl, by decide +kernel, by decide +kernel⟩
theorem ok_is_integer {f : Addr} {fd : FuncData} (F : Fun K "is_integer" "is_integer" s_is_integer f fd) (m_isinstance : mg "isinstance" = none) (m_int : mg "int" = none) (m_bool : mg "bool" = none) : FnOk P w K mg base CX0 1 f fd ["value", "least", "most"] (spInteger K) := by
  refine F.ok sc_is_integer (fun vs H Q E h => ?_) (fun cdv A outer s H vs Q E hr h => ?_)
  · obtain ⟨_, _, _, _, rfl, _⟩ := h
    rfl
  · obtain ⟨x, d, lo, hi, rfl, hx, q⟩ := h
    refine ⟨_, (pss_one (ps_ret (pe_and (pe_callB call_isi (by rfl) m_isinstance (by decide +kernel) (pa_cons (pv 0) (pa_cons (pe_bltn (v := .ty "int") (by rfl) m_int (by decide +kernel) rfl) pa_nil))) (pe_and (pe_not (pe_callB call_isi (by rfl) m_isinstance (by decide +kernel) (pa_cons (pv 0) (pa_cons (pe_bltn (v := .ty "bool") (by rfl) m_bool (by decide +kernel) rfl) pa_nil)))) (pe_one (pe_chain op_le op_le (pv 1) (pv 0) (pv 2))))))), ?_⟩
    refine v_isi rfl hx (kb_in d) ⟨_, rfl, ?_⟩
    cases hx with
    | int i => exact iteT (v_isi rfl (.int i) (b := false) (kb_bo _) ⟨false, rfl, true, rfl, iteT ⟨_, rfl, _, rfl, lo, i, rfl, rfl, _, rfl, ite2 (fun e => ⟨_, rfl, i, hi, rfl, rfl, by
        have z := q H (Same.refl H)
        rw [show isInteger lo hi (.int i) = (decide (lo ≤ i) && decide (i ≤ hi)) from rfl, e, Bool.true_and] at z
        exact z⟩) (fun e => by
        have z := q H (Same.refl H)
        rw [show isInteger lo hi (.int i) = (decide (lo ≤ i) && decide (i ≤ hi)) from rfl, Bool.eq_false_iff.mpr e, Bool.false_and] at z
        exact z)⟩⟩)
    | bl b => exact iteT (v_isi rfl (.bl b) (b := true) (kb_bo _) ⟨true, rfl, false, rfl, iteF (q H (Same.refl H))⟩)
    | non => exact iteF (q H (Same.refl H))
    | str z => exact iteF (q H (Same.refl H))
    | lst h1 h2 => exact iteF (q H (Same.refl H))
    | tup h1 h2 => exact iteF (q H (Same.refl H))
abbrev s_is_sequence : Stmt := topS 11
theorem sc_is_sequence : FnScope ["value", "least", "most"] ["value", "least", "most"] (defScope s_is_sequence) := ⟨rfl, rfl, rfl, by decide +kernel, rfl, by decide +kernel, by decide +kernel⟩
theorem ok_is_sequence {f : Addr} {fd : FuncData} (F : Fun K "is_sequence" "is_sequence" s_is_sequence f fd) (m_isinstance : mg "isinstance" = none) (m_list : mg "list" = none) (m_tuple : mg "tuple" = none) (m_len : mg "len" = none) : FnOk P w K mg base CX0 1 f fd ["value", "least", "most"] (spSeq K) := by
  refine F.ok sc_is_sequence (fun vs H Q E h => ?_) (fun cdv A outer s H vs Q E hr h => ?_)
  · obtain ⟨_, _, _, _, rfl, _⟩ := h
    rfl
  · obtain ⟨x, d, lo, hi, rfl, hx, q⟩ := h
    refine ⟨_, (pss_one (ps_ret (pe_and (pe_callB call_isiT (by rfl) m_isinstance (by decide +kernel) (pa_cons (pv 0) (pa_cons (pe_tup (pa_cons (pe_bltn (v := .ty "list") (by rfl) m_list (by decide +kernel) rfl) (pa_cons (pe_bltn (v := .ty "tuple") (by rfl) m_tuple (by decide +kernel) rfl) pa_nil))) pa_nil))) (pe_one (pe_chain op_le op_le (pv 1) (pe_callB call_len_seq (by rfl) m_len PySem.boot_len (pa_cons (pv 0) pa_nil)) (pv 2)))))), ?_⟩
    refine ⟨x, rfl, by show 2 ≤ sizeLine; decide, fun tp ntp => ?_⟩
    have s1 := same_upd (o := .tup [.ty "list", .ty "tuple"]) ntp
    have hx1 := dp_keep s1 hx
    refine ⟨x, tp, [.ty "list", .ty "tuple"], _, [.type "list", .type "tuple"], isSq d, rfl, upd_same, .cons (.ty _) (.cons (.ty _) .nil), ty_dp hx1, kb_sq d, _, rfl, ?_⟩
    cases hx1 with
    | @lst la lx ld h1 h2 =>
      have el := (dp_get h2).1
      refine iteT ⟨_, rfl, .ref la, rfl, la, lx, rfl, .inl h1, lo, _, rfl, rfl, _, rfl, ite2 (fun e => ⟨_, rfl, _, hi, rfl, rfl, ?_⟩) (fun e => ?_)⟩
      · have z := q _ s1
        rw [show isSeq lo hi (.list ld) = (decide (lo ≤ (ld.length : Int)) && decide ((ld.length : Int) ≤ hi)) from rfl, ← el, e, Bool.true_and] at z
        exact z
      · have z := q _ s1
        rw [show isSeq lo hi (.list ld) = (decide (lo ≤ (ld.length : Int)) && decide ((ld.length : Int) ≤ hi)) from rfl, ← el, Bool.eq_false_iff.mpr e, Bool.false_and] at z
        exact z
    | @tup la lx ld h1 h2 =>
      have el := (dp_get h2).1
      refine iteT ⟨_, rfl, .ref la, rfl, la, lx, rfl, .inr h1, lo, _, rfl, rfl, _, rfl, ite2 (fun e => ⟨_, rfl, _, hi, rfl, rfl, ?_⟩) (fun e => ?_)⟩
      · have z := q _ s1
        rw [show isSeq lo hi (.tuple ld) = (decide (lo ≤ (ld.length : Int)) && decide ((ld.length : Int) ≤ hi)) from rfl, ← el, e, Bool.true_and] at z
        exact z
      · have z := q _ s1
        rw [show isSeq lo hi (.tuple ld) = (decide (lo ≤ (ld.length : Int)) && decide ((ld.length : Int) ≤ hi)) from rfl, ← el, Bool.eq_false_iff.mpr e, Bool.false_and] at z
        exact z
    | bl b => exact iteF (q _ s1)
    | non => exact iteF (q _ s1)
    | str z => exact iteF (q _ s1)
    | int z => exact iteF (q _ s1)
abbrev s_are_lower : Stmt := topS 12
theorem sc_are_lower : FnScope ["text"] ["text"] (defScope s_are_lower) := ⟨rfl, rfl, rfl, by decide +kernel, rfl, by decide +kernel, by decide +kernel⟩
theorem ok_are_lower {f : Addr} {fd : FuncData} (F : Fun K "are_lower" "are_lower" s_are_lower f fd) {u_LOWER : Value} (h_LOWER : Cst K mg "LOWER" (.str "abcdefghijklmnopqrstuvwxyz") u_LOWER) : FnOk P w K mg base CX0 1 f fd ["text"] (spLower) := by
  refine F.ok sc_are_lower (fun vs H Q E h => ?_) (fun cdv A outer s H vs Q E hr h => ?_)
  · obtain ⟨_, rfl, _⟩ := h
    rfl
  · obtain ⟨z, rfl, hz, q⟩ := h
    refine ⟨_, (pss_one (ps_ret (pe_cmpR op_eq (pe_bm PySem.F.plainAttrs_str PySem.F.slot_str_strip PySem.F.type_str_strip mt_stripChars (pv 0) (pa_cons (pe_glob (v := .str "abcdefghijklmnopqrstuvwxyz") rfl h_LOWER.g h_LOWER.r) pa_nil)) pe_str (nomark _)))), ?_⟩
    refine ⟨.str z, rfl, rfl, z, _, rfl, rfl, hz, rfl, ?_⟩
    have e := q H (Same.refl H)
    rw [← strip_low] at e
    exact e
abbrev s_is_name : Stmt := topS 13
theorem sc_is_name : FnScope ["value"] ["value"] (defScope s_is_name) := ⟨rfl, rfl, rfl, by decide +kernel, rfl, by decide +kernel, by decide +kernel⟩
theorem ok_is_name {f : Addr} {fd : FuncData} (F : Fun K "is_name" "is_name" s_is_name f fd) {f_are_lower : Addr} {d_are_lower : FuncData} (h_are_lower : Hd K mg "are_lower" s_are_lower ["text"] f_are_lower d_are_lower) (G_are_lower : FnOk P w K mg base CX0 1 f_are_lower d_are_lower ["text"] (spLower)) {u_MOST_LETTERS : Value} (h_MOST_LETTERS : Cst K mg "MOST_LETTERS" (.int 12) u_MOST_LETTERS) {a_RESERVED : Addr} {u_RESERVED : Value} (h_RESERVED : Cst K mg "RESERVED" (.ref a_RESERVED) u_RESERVED) (t_RESERVED : ∀ H : Hp, SqT K H a_RESERVED (reserved.map V.str)) (m_isinstance : mg "isinstance" = none) (m_str : mg "str" = none) (m_len : mg "len" = none) : FnOk P w K mg base CX0 2 f fd ["value"] (sp1 K isName) := by
  refine F.ok sc_is_name (fun vs H Q E h => ?_) (fun cdv A outer s H vs Q E hr h => ?_)
  · obtain ⟨_, _, rfl, _⟩ := h
    rfl
  · obtain ⟨x, d, rfl, hx, hok, q⟩ := h
    refine ⟨_, (pss_cons (ps_if (PW.pt (pw_or (pt_not (pt_val (pe_callB call_isi (by rfl) m_isinstance (by decide +kernel) (pa_cons (pv 0) (pa_cons (pe_bltn (v := .ty "str") (by rfl) m_str (by decide +kernel) rfl) pa_nil))))) (pw_or1 (pt_not (pt_chain op_le op_le pe_int (pe_callB call_len_str (by rfl) m_len PySem.boot_len (pa_cons (pv 0) pa_nil)) (pe_glob (v := .int 12) rfl h_MOST_LETTERS.g h_MOST_LETTERS.r)))))) (pss_one (ps_ret pe_bl)) pss_nil)
  (pss_one (ps_ret (pe_and (pe_call G_are_lower (hr.mono (by decide)) (by rfl) h_are_lower.g h_are_lower.F.kp h_are_lower.b .nil pass0 (pa_cons (pv 0) pa_nil)) (pe_one (pe_cmpR op_notIn_seq (pv 0) (pe_glob (v := .ref a_RESERVED) rfl h_RESERVED.g h_RESERVED.r) (by rfl))))))), ?_⟩
    refine r_isi rfl hx (kb_st d) ?_
    cases hx with
    | str z =>
      have hz := ok_str hok
      have qq : ∀ H', Same H H' → Q (.bl (isNameS z)) H' := q
      refine iteF ⟨.str z, rfl, z, rfl, hz, 1, (z.length : Int), rfl, rfl, _, rfl, ite2 (fun e1 => ⟨(z.length : Int), 12, rfl, rfl, _, rfl, ite2 (fun e2 => ?_) (fun e2 => ?_)⟩) (fun e1 => ⟨false, rfl, iteT ?_⟩)⟩
      · refine qq H (Same.refl H) |> fun z0 => ?_
        have f2 : ¬ z.length ≤ 12 := fun g => by
          have : decide ((z.length : Int) ≤ 12) = true := decide_eq_true (by omega)
          rw [this] at e2
          cases e2
        rw [isNameS_long f2] at z0
        exact z0
      · have g2 : (z.length : Int) ≤ 12 := by
          have : ¬ decide ((z.length : Int) ≤ 12) = false := fun g => e2 (by rw [g]; rfl)
          exact of_decide_eq_true (by simpa using this)
        have g1 : (1 : Int) ≤ (z.length : Int) := of_decide_eq_true e1
        refine ⟨.str z, rfl, z, rfl, hz, fun H1 s1 => ⟨_, rfl, ite2 (fun e3 => ?_) (fun e3 => ?_)⟩⟩
        · refine ⟨.str z, rfl, a_RESERVED, _, rfl, .inr (t_RESERVED H1), rfl, reserved_flat, ?_⟩
          have z0 := qq H1 s1
          rw [isNameS_in (by omega) (by omega) e3] at z0
          rw [reserved_in]
          exact z0
        · have z0 := qq H1 s1
          rw [isNameS_low (Bool.eq_false_iff.mpr e3)] at z0
          exact z0
      · have z0 := qq H (Same.refl H)
        have f1 : ¬ 1 ≤ z.length := fun g => e1 (decide_eq_true (by omega))
        rw [isNameS_short f1] at z0
        exact z0
    | bl b => exact iteT (iteT (q H (Same.refl H)))
    | non => exact iteT (iteT (q H (Same.refl H)))
    | int z => exact iteT (iteT (q H (Same.refl H)))
    | lst h1 h2 => exact iteT (iteT (q H (Same.refl H)))
    | tup h1 h2 => exact iteT (iteT (q H (Same.refl H)))
abbrev s_is_class_word : Stmt := topS 14
theorem sc_is_class_word : FnScope ["value"] ["value"] (defScope s_is_class_word) := ⟨rfl, rfl, rfl, by decide +kernel, rfl, by decide +kernel, by decide +kernel⟩
theorem ok_is_class_word {f : Addr} {fd : FuncData} (F : Fun K "is_class_word" "is_class_word" s_is_class_word f fd) {f_are_lower : Addr} {d_are_lower : FuncData} (h_are_lower : Hd K mg "are_lower" s_are_lower ["text"] f_are_lower d_are_lower) (G_are_lower : FnOk P w K mg base CX0 1 f_are_lower d_are_lower ["text"] (spLower)) {u_MOST_LETTERS : Value} (h_MOST_LETTERS : Cst K mg "MOST_LETTERS" (.int 12) u_MOST_LETTERS) {u_UPPER : Value} (h_UPPER : Cst K mg "UPPER" (.str "ABCDEFGHIJKLMNOPQRSTUVWXYZ") u_UPPER) (m_isinstance : mg "isinstance" = none) (m_str : mg "str" = none) (m_len : mg "len" = none) : FnOk P w K mg base CX0 2 f fd ["value"] (sp1 K isWord) := by
  refine F.ok sc_is_class_word (fun vs H Q E h => ?_) (fun cdv A outer s H vs Q E hr h => ?_)
  · obtain ⟨_, _, rfl, _⟩ := h
    rfl
  · obtain ⟨x, d, rfl, hx, hok, q⟩ := h
    refine ⟨_, (pss_cons (ps_if (PW.pt (pw_or (pt_not (pt_val (pe_callB call_isi (by rfl) m_isinstance (by decide +kernel) (pa_cons (pv 0) (pa_cons (pe_bltn (v := .ty "str") (by rfl) m_str (by decide +kernel) rfl) pa_nil))))) (pw_or1 (pt_not (pt_chain op_le op_le pe_int (pe_callB call_len_str (by rfl) m_len PySem.boot_len (pa_cons (pv 0) pa_nil)) (pe_glob (v := .int 12) rfl h_MOST_LETTERS.g h_MOST_LETTERS.r)))))) (pss_one (ps_ret pe_bl)) pss_nil)
  (pss_one (ps_ret (pe_and (pe_cmpR op_in_sign (pe_ix ix_str (pv 0) pe_int (fun _ _ => rfl)) (pe_glob (v := .str "ABCDEFGHIJKLMNOPQRSTUVWXYZ") rfl h_UPPER.g h_UPPER.r) (by rfl)) (pe_one (pe_call G_are_lower (hr.mono (by decide)) (by rfl) h_are_lower.g h_are_lower.F.kp h_are_lower.b .nil pass0 (pa_cons (pe_slice sl_str (pv 0) (po_some pe_int) po_none) pa_nil))))))), ?_⟩
    refine r_isi rfl hx (kb_st d) ?_
    cases hx with
    | str z =>
      have hz := ok_str hok
      have qq : ∀ H', Same H H' → Q (.bl (isWordS z)) H' := q
      refine iteF ⟨.str z, rfl, z, rfl, hz, 1, (z.length : Int), rfl, rfl, _, rfl, ite2 (fun e1 => ⟨(z.length : Int), 12, rfl, rfl, _, rfl, ite2 (fun e2 => ?_) (fun e2 => ?_)⟩) (fun e1 => ⟨false, rfl, iteT ?_⟩)⟩
      · have z0 := qq H (Same.refl H)
        have f2 : ¬ z.length ≤ 12 := fun g => by
          have : decide ((z.length : Int) ≤ 12) = true := decide_eq_true (by omega)
          rw [this] at e2
          cases e2
        rw [isWordS_long f2] at z0
        exact z0
      · have g2 : (z.length : Int) ≤ 12 := by
          have : ¬ decide ((z.length : Int) ≤ 12) = false := fun g => e2 (by rw [g]; rfl)
          exact of_decide_eq_true (by simpa using this)
        have g1 : (1 : Int) ≤ (z.length : Int) := of_decide_eq_true e1
        obtain ⟨c, r, ecr⟩ : ∃ c r, z.cps.toList = c :: r := by
          cases e : z.cps.toList with
          | nil =>
            have : z.cps.toList.length = 0 := by rw [e]; rfl
            rw [Array.length_toList] at this
            have : z.length = 0 := this
            omega
          | cons c r => exact ⟨c, r, rfl⟩
        refine ⟨.str z, rfl, z, 0, c, rfl, rfl, hz, by rw [ecr]; exact atI_nat (j := 0) rfl, c, _, rfl, rfl, _, rfl, ?_⟩
        have z0 := fun H' s' => qq H' s'
        rw [isWordS_in (by omega) (by omega) ecr] at z0
        rw [up_mem]
        cases ec : upC c with
        | false =>
          rw [ec] at z0
          exact iteF (z0 H (Same.refl H))
        | true =>
          rw [ec] at z0
          refine iteT ⟨.str z, rfl, 1, rfl, z, rfl, hz, cutS z (some 1) none, rfl, Nat.le_trans (cutS_length z _ _) hz, fun H1 s1 => ?_⟩
          have e5 : areLower (cutS z (some 1) none) = r.all lowC := by rw [areLower, cut_tail ecr]
          rw [e5]
          exact z0 H1 s1
      · have z0 := qq H (Same.refl H)
        have f1 : ¬ 1 ≤ z.length := fun g => e1 (decide_eq_true (by omega))
        rw [isWordS_short f1] at z0
        exact z0
    | bl b => exact iteT (iteT (q H (Same.refl H)))
    | non => exact iteT (iteT (q H (Same.refl H)))
    | int z => exact iteT (iteT (q H (Same.refl H)))
    | lst h1 h2 => exact iteT (iteT (q H (Same.refl H)))
    | tup h1 h2 => exact iteT (iteT (q H (Same.refl H)))
abbrev s_is_class_name : Stmt := topS 15
theorem sc_is_class_name : FnScope ["value", "module", "_", "word"] ["value"] (defScope s_is_class_name) := ⟨rfl, rfl, rfl, by decide +kernel, rfl, by decide +kernel, by decide +kernel⟩
theorem ok_is_class_name {f : Addr} {fd : FuncData} (F : Fun K "is_class_name" "is_class_name" s_is_class_name f fd) {f_is_name : Addr} {d_is_name : FuncData} (h_is_name : Hd K mg "is_name" s_is_name ["value"] f_is_name d_is_name) (G_is_name : FnOk P w K mg base CX0 2 f_is_name d_is_name ["value"] (sp1 K isName)) {f_is_class_word : Addr} {d_is_class_word : FuncData} (h_is_class_word : Hd K mg "is_class_word" s_is_class_word ["value"] f_is_class_word d_is_class_word) (G_is_class_word : FnOk P w K mg base CX0 2 f_is_class_word d_is_class_word ["value"] (sp1 K isWord)) (m_isinstance : mg "isinstance" = none) (m_str : mg "str" = none) : FnOk P w K mg base CX0 3 f fd ["value"] (sp1 K isCname) := by
  refine F.ok sc_is_class_name (fun vs H Q E h => ?_) (fun cdv A outer s H vs Q E hr h => ?_)
  · obtain ⟨_, _, rfl, _⟩ := h
    rfl
  · obtain ⟨x, d, rfl, hx, hok, q⟩ := h
    refine ⟨_, (pss_cons (ps_if (pt_not (pt_val (pe_callB call_isi (by rfl) m_isinstance (by decide +kernel) (pa_cons (pv 0) (pa_cons (pe_bltn (v := .ty "str") (by rfl) m_str (by decide +kernel) rfl) pa_nil))))) (pss_one (ps_ret pe_bl)) pss_nil)
  (pss_cons (ps_asg (pe_partition (pv 0) pe_str) (pg_tup (n := 3) (by rfl) (pgs_cons (pg_name (i := 1) sc_is_class_name.nd rfl (.inl rfl)) (pgs_cons (pg_name (i := 2) sc_is_class_name.nd rfl (.inl rfl)) (pgs_cons (pg_name (i := 3) sc_is_class_name.nd rfl (.inl rfl)) pgs_nil)))))
  (pss_one (ps_ret (pe_and (pe_call G_is_name (hr.mono (by decide)) (by rfl) h_is_name.g h_is_name.F.kp h_is_name.b .nil pass0 (pa_cons (pv 1) pa_nil)) (pe_one (pe_call G_is_class_word (hr.mono (by decide)) (by rfl) h_is_class_word.g h_is_class_word.F.kp h_is_class_word.b .nil pass0 (pa_cons (pv 3) pa_nil)))))))), ?_⟩
    refine r_isi rfl hx (kb_st d) ?_
    cases hx with
    | str z =>
      have hz := ok_str hok
      refine iteF ⟨.str z, rfl, ⟨z, rfl⟩, ?_⟩
      obtain ⟨l1, l2⟩ := part_len z
      refine ⟨z, ".", rfl, rfl, rfl, hz, fun p np => ⟨p, _, rfl, .inl (.inl upd_same), rfl, _, _, rfl, _, _, rfl, _, _, rfl, rfl, ?_⟩⟩
      have s1 := same_upd (o := .tup [.str (Txt.partition z ".").1, .str (Txt.partition z ".").2.1, .str (Txt.partition z ".").2.2]) np
      have k1 : Ok (.str (Txt.partition z ".").1) := .str _ (Nat.le_trans l1 (by cases hok with | str _ h => exact h))
      have k2 : Ok (.str (Txt.partition z ".").2.2) := .str _ (Nat.le_trans l2 (by cases hok with | str _ h => exact h))
      refine ⟨_, rfl, _, .str _, rfl, .str _, k1, fun H1 s2 => ⟨_, rfl, ite2 (fun e => ?_) (fun e => ?_)⟩⟩
      · refine ⟨_, rfl, _, .str _, rfl, .str _, k2, fun H2 s3 => ?_⟩
        have z0 := q H2 ((s1.trans s2).trans s3)
        rw [show isCname (.str z) = (isName (.str (Txt.partition z ".").1) && isWord (.str (Txt.partition z ".").2.2)) from rfl, e, Bool.true_and] at z0
        exact z0
      · have z0 := q H1 (s1.trans s2)
        rw [show isCname (.str z) = (isName (.str (Txt.partition z ".").1) && isWord (.str (Txt.partition z ".").2.2)) from rfl, Bool.eq_false_iff.mpr e, Bool.false_and] at z0
        exact z0
    | bl b => exact iteT (q H (Same.refl H))
    | non => exact iteT (q H (Same.refl H))
    | int z => exact iteT (q H (Same.refl H))
    | lst h1 h2 => exact iteT (q H (Same.refl H))
    | tup h1 h2 => exact iteT (q H (Same.refl H))
abbrev s_is_generic_name : Stmt := topS 16
theorem sc_is_generic_name : FnScope ["value", "module", "_", "name"] ["value"] (defScope s_is_generic_name) := ⟨rfl, rfl, rfl, by decide +kernel, rfl, by decide +kernel, by decide +kernel⟩
theorem ok_is_generic_name {f : Addr} {fd : FuncData} (F : Fun K "is_generic_name" "is_generic_name" s_is_generic_name f fd) {f_is_name : Addr} {d_is_name : FuncData} (h_is_name : Hd K mg "is_name" s_is_name ["value"] f_is_name d_is_name) (G_is_name : FnOk P w K mg base CX0 2 f_is_name d_is_name ["value"] (sp1 K isName)) (m_isinstance : mg "isinstance" = none) (m_str : mg "str" = none) : FnOk P w K mg base CX0 3 f fd ["value"] (sp1 K isGname) := by
  refine F.ok sc_is_generic_name (fun vs H Q E h => ?_) (fun cdv A outer s H vs Q E hr h => ?_)
  · obtain ⟨_, _, rfl, _⟩ := h
    rfl
  · obtain ⟨x, d, rfl, hx, hok, q⟩ := h
    refine ⟨_, (pss_cons (ps_if (pt_not (pt_val (pe_callB call_isi (by rfl) m_isinstance (by decide +kernel) (pa_cons (pv 0) (pa_cons (pe_bltn (v := .ty "str") (by rfl) m_str (by decide +kernel) rfl) pa_nil))))) (pss_one (ps_ret pe_bl)) pss_nil)
  (pss_cons (ps_asg (pe_partition (pv 0) pe_str) (pg_tup (n := 3) (by rfl) (pgs_cons (pg_name (i := 1) sc_is_generic_name.nd rfl (.inl rfl)) (pgs_cons (pg_name (i := 2) sc_is_generic_name.nd rfl (.inl rfl)) (pgs_cons (pg_name (i := 3) sc_is_generic_name.nd rfl (.inl rfl)) pgs_nil)))))
  (pss_one (ps_ret (pe_and (pe_call G_is_name (hr.mono (by decide)) (by rfl) h_is_name.g h_is_name.F.kp h_is_name.b .nil pass0 (pa_cons (pv 1) pa_nil)) (pe_one (pe_call G_is_name (hr.mono (by decide)) (by rfl) h_is_name.g h_is_name.F.kp h_is_name.b .nil pass0 (pa_cons (pv 3) pa_nil)))))))), ?_⟩
    refine r_isi rfl hx (kb_st d) ?_
    cases hx with
    | str z =>
      have hz := ok_str hok
      refine iteF ⟨.str z, rfl, ⟨z, rfl⟩, ?_⟩
      obtain ⟨l1, l2⟩ := part_len z
      refine ⟨z, ".", rfl, rfl, rfl, hz, fun p np => ⟨p, _, rfl, .inl (.inl upd_same), rfl, _, _, rfl, _, _, rfl, _, _, rfl, rfl, ?_⟩⟩
      have s1 := same_upd (o := .tup [.str (Txt.partition z ".").1, .str (Txt.partition z ".").2.1, .str (Txt.partition z ".").2.2]) np
      have k1 : Ok (.str (Txt.partition z ".").1) := .str _ (Nat.le_trans l1 (by cases hok with | str _ h => exact h))
      have k2 : Ok (.str (Txt.partition z ".").2.2) := .str _ (Nat.le_trans l2 (by cases hok with | str _ h => exact h))
      refine ⟨_, rfl, _, .str _, rfl, .str _, k1, fun H1 s2 => ⟨_, rfl, ite2 (fun e => ?_) (fun e => ?_)⟩⟩
      · refine ⟨_, rfl, _, .str _, rfl, .str _, k2, fun H2 s3 => ?_⟩
        have z0 := q H2 ((s1.trans s2).trans s3)
        rw [show isGname (.str z) = (isName (.str (Txt.partition z ".").1) && isName (.str (Txt.partition z ".").2.2)) from rfl, e, Bool.true_and] at z0
        exact z0
      · have z0 := q H1 (s1.trans s2)
        rw [show isGname (.str z) = (isName (.str (Txt.partition z ".").1) && isName (.str (Txt.partition z ".").2.2)) from rfl, Bool.eq_false_iff.mpr e, Bool.false_and] at z0
        exact z0
    | bl b => exact iteT (q H (Same.refl H))
    | non => exact iteT (q H (Same.refl H))
    | int z => exact iteT (q H (Same.refl H))
    | lst h1 h2 => exact iteT (q H (Same.refl H))
    | tup h1 h2 => exact iteT (q H (Same.refl H))
end
end Cw

set_option Elab.async false
set_option linter.all false
set_option maxRecDepth 100000
set_option maxHeartbeats 4000000
/-! # CwSeq: sequences of either kind: walked, unpacked, cut, zipped. -/
namespace L2
open PySem PySem.Spec PyProof.Rows
/-- a list or a tuple -/
def SqA (K : PySem.W.Frag) (H : Hp) (a : Addr) (xs : List V) : Prop := SqL K H a xs ∨ SqT K H a xs
theorem SqA.keep {K : PySem.W.Frag} {H H' : Hp} {a : Addr} {xs : List V} (s : Same H H') (h : SqA K H a xs) : SqA K H' a xs := by
  rcases h with h | h
  · exact .inl (s.seq h)
  · right
    rcases h with (h | ⟨o, h⟩) | h
    · exact .inl (.inl (s _ _ h))
    · exact .inl (.inr ⟨o, s _ _ h⟩)
    · exact .inr h
section
variable {X : Cx} {tg : Expr} {pos : Pos}
def iSeq (K : PySem.W.Frag) (tl : TE) : TI := fun σ H R => tl σ H fun x H1 => ∃ a, x = .ref a ∧ (((∃ xs, SqL K H1 a xs) ∧ R (Itl K a) H1) ∨ ((∃ xs, SqT K H1 a xs) ∧ R (Itt K a) H1))
theorem pi_seq {l : Expr} {tl : TE} (hl : PE X l tl) : PI X tg l (iSeq X.K tl) := by
  refine ⟨fun pins s σ H R I h => ?_⟩
  refine thn (hl.run pins s σ H _ I h) fun v s1 ⟨x, H1, J, rx, a, ex, q⟩ => ?_
  subst ex
  obtain rfl : v = Value.ref a := rx
  have spot : ∀ b, b ∈ [s1.heap.objs.size] → b = s1.heap.objs.size := fun b hb => by simpa using hb
  rcases q with ⟨⟨xs, hq⟩, q⟩ | ⟨⟨xs, hq⟩, q⟩
  · obtain ⟨its, rv, pl, _⟩ := J.list hq
    refine wpAny_pyIter_list pl.isList ⟨s1.heap.objs.size, [s1.heap.objs.size], _, _, H1, rfl, J.kept (t' := s1.toks) fun b o e => Heap.get?_push_of_some _ e, turn_list a _, ⟨_, Heap.get?_push_size _ rfl, rfl, rfl⟩, fun b hb => ?_, q⟩
    rw [spot b hb]
    exact J.fpOk (Nat.le_refl _) (J.hok.fresh (Nat.le_refl _))
  · obtain ⟨its, rv, pl, _⟩ := J.tuple hq
    refine wpAny_pyIter_tuple (show s1.heap.IsTuple a its.toArray from pl) ⟨s1.heap.objs.size, [s1.heap.objs.size], _, _, H1, rfl, J.kept (t' := s1.toks) fun b o e => Heap.get?_push_of_some _ e, turn_tuple a _, ⟨_, Heap.get?_push_size _ rfl, rfl, rfl⟩, fun b hb => ?_, q⟩
    rw [spot b hb]
    exact J.fpOk (Nat.le_refl _) (J.hok.fresh (Nat.le_refl _))
/-- how a sequence's walk is read: one answer for both kinds -/
theorem seq_it {K : PySem.W.Frag} {a : Addr} {xs : List V} {H : Hp} {R : It → Hp → Prop} (h : SqA K H a xs) (r : ∀ J G, Walk J xs.length G (YAt xs) → (∀ H', Same H H' → G H') → R J H) :
    ((∃ xs, SqL K H a xs) ∧ R (Itl K a) H) ∨ ((∃ xs, SqT K H a xs) ∧ R (Itt K a) H) := by
  rcases h with h | h
  · exact .inl ⟨⟨xs, h⟩, r _ _ walk_list fun H' s => s.seq h⟩
  · refine .inr ⟨⟨xs, h⟩, r _ _ walk_tup fun H' s => ?_⟩
    rcases SqA.keep s (.inr h : SqA K H a xs) with g | g
    · rcases h with (h | ⟨o, h⟩) | h
      · exact .inl (.inl (s _ _ h))
      · exact .inl (.inr ⟨o, s _ _ h⟩)
      · exact .inr h
    · exact g
theorem sqt_stay {K : PySem.W.Frag} {H H' : Hp} {a : Addr} {xs : List V} (s : Same H H') (h : SqT K H a xs) : SqT K H' a xs := by
  rcases h with (h | ⟨o, h⟩) | h
  · exact .inl (.inl (s _ _ h))
  · exact .inl (.inr ⟨o, s _ _ h⟩)
  · exact .inr h
/-- a built-in's call on one value -/
theorem cb1 {r : List V → Hp → VK → Prop} {t : TE} {σ : St} {H : Hp} {Q : VK} (h : t σ H fun x H1 => r [x] H1 Q) : tCB r (tCons t tNil) σ H Q := h
/-- a comprehension over a sequence of either kind -/
theorem lc_seq {K : PySem.W.Frag} {tl te : TE} {g : TG} {tt : TT} {vs : List Nat} {σ : St} {H : Hp} {Q : VK} {a : Addr} {xs : List V} (e : ∀ R : V → Hp → Prop, R (.ref a) H → tl σ H R) (h : SqA K H a xs) (Pv : Addr → Nat → Hp → Prop)
    (h0 : ∀ D, H D = none → Pv D 0 (upd H D (.lst []))) (hk : ∀ D i H', Pv D i H' → Same H H')
    (hs : ∀ D i x H', H D = none → xs[i]? = some x → Pv D i H' → g x (wipe σ vs) H' fun σ2 H2 => wipe σ2 vs = wipe σ vs ∧ tt σ2 H2 fun b H3 => if b = true then te σ2 H3 fun y H4 => ∃ acc, H4 D = some (.lst acc) ∧ acc.length < sizeLine ∧ Pv D (i + 1) (upd H4 D (.lst (acc ++ [y]))) else Pv D (i + 1) H3)
    (hd : ∀ D H', H D = none → Pv D xs.length H' → Q (.ref D) H') : tLc (iSeq K tl) g tt te vs σ H Q := by
  rcases h with h | h
  · refine e _ ⟨a, rfl, .inl ⟨⟨xs, h⟩, fun D hD => lc_it walk_list (Pv D) (h0 D hD) (fun i H' _ p => (hk D i H' p).seq h) (fun i x H1 H2 _ p y => ?_) (fun H' p => hd D H' hD p)⟩⟩
    obtain ⟨rfl, hy⟩ := y
    exact hs D i x _ hD hy p
  · refine e _ ⟨a, rfl, .inr ⟨⟨xs, h⟩, fun D hD => lc_it walk_tup (Pv D) (h0 D hD) (fun i H' _ p => sqt_stay (hk D i H' p) h) (fun i x H1 H2 _ p y => ?_) (fun H' p => hd D H' hD p)⟩⟩
    obtain ⟨rfl, hy⟩ := y
    exact hs D i x _ hD hy p
def gSeq (K : PySem.W.Frag) (n : Nat) (t : TGs) : TG := fun v σ H Q => ∃ a xs, v = .ref a ∧ SqA K H a xs ∧ xs.length = n ∧ t xs σ H Q
theorem pg_seq {es : List Expr} {k : Nat} {t : TGs} {n : Nat} (hc : X.calm = true) (h : PGs X es t)
    (hn : (assignEach es X.env).length = n := by rfl) (hst : (assignEach es X.env).findIdx? (·.1) = none := by rfl) : PG X (.Tuple es k pos) (gSeq X.K n t) := by
  refine ⟨fun pins s σ H v u Q I r hw => ?_⟩
  obtain ⟨a, xs, e, hq | hq, hl, q⟩ := hw
  · exact (pg_unl (n := n) hc h hn hst).run pins s σ H v u Q I r ⟨a, xs, e, hq, hl, q⟩
  · exact (pg_tup (n := n) hc h hn hst).run pins s σ H v u Q I r ⟨a, xs, e, hq, hl, q⟩
/-! ### x in a tuple of texts, x anything -/
def isOneOf (zs : List Str) : PyData → Bool
  | .str z => zs.any fun y => y == z
  | _ => false
def rInSt (K : PySem.W.Frag) : R2 := fun x y H Q => ∃ d p zs, Dp K H x d ∧ y = .ref p ∧ SqT K H p (zs.map V.str) ∧ Q (.bl (isOneOf zs d)) H
def eqSt (d : PyData) : Value → Bool
  | .str a _ => (match d with | .str z => a == z | _ => false)
  | _ => false
theorem any_eqSt (d : PyData) : ∀ {zs : List Str} {its : List Value}, Vals (zs.map V.str) its → its.any (eqSt d) = isOneOf zs d
  | [], its, r => by
    cases r
    cases d <;> rfl
  | z :: zs, its, r => by
    cases r with
    | cons h t =>
      obtain ⟨tk, rfl⟩ := h
      have ih := any_eqSt d t
      rw [List.any_cons, ih]
      cases d <;> rfl
theorem op_inSt (hu : X.A.units + 1 < cLine) : OpR X (compareOp .In) (rInSt X.K) := by
  intro pins s σ H x y v u Q I rx ry h
  obtain ⟨d, p, zs, hx, rfl, hq, q⟩ := h
  cases ry
  obtain ⟨its, r, pl, hz⟩ := I.tuple hq
  refine SeqAt.in_tupleAt (eqSt d) pl (fun w hw => ?_) ⟨.bl _, H, I, rfl, ?_⟩
  · obtain ⟨z, tk, rfl⟩ : ∃ z tk, w = Value.str z tk := by
      have hw' : w ∈ its := by simpa using hw
      obtain ⟨i, hi⟩ := List.getElem?_of_mem hw'
      have hl : i < (zs.map V.str).length := by rw [r.length]; exact (List.getElem?_eq_some_iff.mp hi).1
      obtain ⟨u, hu1, ru⟩ := r.get (i := i) (x := (zs.map V.str)[i]) (List.getElem?_eq_getElem hl)
      rw [List.getElem_map] at ru
      obtain ⟨tk, e⟩ := ru
      rw [hi] at hu1
      cases hu1
      exact ⟨_, tk, e⟩
    cases hx with
    | non => cases (show v = Value.none from rx); exact SeqAt.EqAt.str_none z tk
    | bl b => cases (show v = Value.bool b from rx); exact SeqAt.EqAt.str_bool z tk b
    | int i => obtain ⟨t2, e⟩ := (show ∃ t, v = Value.int i t from rx); cases e; exact SeqAt.EqAt.str_int z tk i t2
    | str y => obtain ⟨t2, e⟩ := (show ∃ t, v = Value.str y t from rx); cases e; exact SeqAt.EqAt.str_str z tk y t2
    | lst hs _ =>
      cases rx
      obtain ⟨its2, _, pl2, _⟩ := I.list hs
      exact SeqAt.EqAt.str_list z tk pl2.isList hu
    | tup hs _ =>
      cases rx
      obtain ⟨its2, _, pl2, _⟩ := I.tuple hs
      exact SeqAt.EqAt.str_tuple z tk pl2 hu
  · rw [show its.toArray.any (eqSt d) = its.any (eqSt d) by simp, any_eqSt d r]
    exact q
theorem sl_seqA : SlR X (fun x lo hi H Q => rSlL X.K x lo hi H Q ∨ rSlA X.K x lo hi H Q) := SlR.or sl_list sl_tupA
end
end L2

set_option Elab.async false
set_option linter.all false
set_option maxRecDepth 100000
set_option maxHeartbeats 4000000
namespace Cw
open PySem PySem.Spec PyProof.Rows L2
def items : PyData → List PyData | .list l => l | .tuple l => l | _ => []
def get (d : PyData) (i : Nat) : PyData := (items d).getD i .none
def allOf (lo hi : Int) (r : PyData → Bool) (d : PyData) : Bool := isSeq lo hi d && (items d).all r
def isNamed (d : PyData) : Bool := isSeq 2 2 d && (isName (get d 0) && isCname (get d 1))
def isClass (d : PyData) : Bool := isSeq 5 5 d && (isWord (get d 0) && (isOneOf ["open", "sealed"] (get d 1) && (isBo (get d 2) && (allOf 1 12 isCname (get d 3) && allOf 0 3 isNamed (get d 4)))))
def isGeneric (d : PyData) : Bool := isSeq 4 4 d && (isName (get d 0) && (allOf 1 3 isCname (get d 1) && (isInteger 1 ((items (get d 1)).length : Int) (get d 2) && isCname (get d 3))))
theorem ok_len {d : PyData} (h : Ok d) : (items d).length ≤ 100000 := by
  cases h with
  | list l h t => exact h
  | tuple l h t => exact h
  | _ => exact Nat.zero_le _
theorem ok_mem {d z : PyData} (h : Ok d) (m : z ∈ items d) : Ok z := by
  cases h with
  | list l h t => exact t z m
  | tuple l h t => exact t z m
  | _ => cases m
theorem ok_get {d : PyData} (h : Ok d) (i : Nat) : Ok ((items d).getD i .none) := by
  rw [List.getD_eq_getElem?_getD]
  cases e : (items d)[i]? with
  | none => exact .non
  | some z => exact ok_mem h (List.mem_of_getElem? e)
theorem seq_of {K : PySem.W.Frag} {H : Hp} {x : V} {d : PyData} {lo hi : Int} (hx : Dp K H x d) (hok : Ok d) (e : isSeq lo hi d = true) : ∃ a xs, x = .ref a ∧ SqA K H a xs ∧ DpAll K H xs (items d) ∧ xs.length = (items d).length ∧ ∀ z, z ∈ items d → Ok z := by
  cases hx with
  | lst h1 h2 => exact ⟨_, _, rfl, .inl h1, h2, (dp_get h2).1, fun z m => ok_mem hok m⟩
  | tup h1 h2 => exact ⟨_, _, rfl, .inr h1, h2, (dp_get h2).1, fun z m => ok_mem hok m⟩
  | _ => cases e
theorem seq_len {n : Nat} {d : PyData} (e : isSeq (n : Int) (n : Int) d = true) : (items d).length = n := by
  cases d with
  | list l =>
    obtain ⟨h1, h2⟩ := Bool.and_eq_true_iff.mp e
    have h1 := of_decide_eq_true h1
    have h2 := of_decide_eq_true h2
    show l.length = n
    omega
  | tuple l =>
    obtain ⟨h1, h2⟩ := Bool.and_eq_true_iff.mp e
    have h1 := of_decide_eq_true h1
    have h2 := of_decide_eq_true h2
    show l.length = n
    omega
  | _ => cases e
theorem ixA {K : PySem.W.Frag} {H : Hp} {a : Addr} {xs : List V} {i : Int} {v : V} {Q : VK} (h : SqA K H a xs) (e : atI xs i = some v) (q : Q v H) : rIx K (.ref a) (.int i) H Q := by
  rcases h with h | h
  · exact .inl ⟨a, xs, i, v, rfl, rfl, h, e, q⟩
  · exact .inr (.inl ⟨a, xs, i, v, rfl, rfl, h, e, q⟩)
def spAll (K : PySem.W.Frag) (S : Addr → Option Sp) : Sp := fun vs H Q _ => ∃ x d lo hi t r, vs = [x, .int lo, .int hi, .ref t] ∧ Dp K H x d ∧ Ok d ∧ S t = some (sp1 K r) ∧ ∀ H', Same H H' → Q (.bl (allOf lo hi r d)) H'
section
variable {P : Program} {w : World} {K : PySem.W.Frag} {mg : Str → Option Value} {base : Heap} {S : Addr → Option Sp}
end
end Cw

set_option Elab.async false
set_option linter.all false
set_option maxRecDepth 100000
set_option maxHeartbeats 4000000
/-! # CwZip: zip of a tuple and a list. -/
namespace CwZ
open PySem RZ
section
variable {prog : Program} {w : World} {A : Around} {E : Value → Shared → Prop} {s : Shared} {zz ti ow ja jb la lb : Addr} {m n : Nat} {xs ys : Array Value} {x y p0 q0 : Value}
/-- what a turn finds -/
structure At (h : Heap) (zz ti ow ja jb la lb : Addr) (m n : Nat) (xs ys : Array Value) (p0 q0 : Value) : Prop where
  zip : IsZip h zz ti ow .none
  its : IsPair h ti (.ref ja) (.ref jb)
  own : IsPair h ow p0 q0
  ia : h.IsTupleIter ja la m
  ib : h.IsListIter jb lb n
  ta : h.IsTuple la xs
  lb : h.IsList lb ys
/-- what a turn with an item leaves -/
structure Gone (h h' : Heap) (zz ti ow ja jb la lb : Addr) (m n : Nat) (x y : Value) : Prop where
  zip : IsZip h' zz ti ow (rawInt h.objs.size)
  own : IsPair h' ow x y
  ia : h'.IsTupleIter ja la (m + 1)
  ib : h'.IsListIter jb lb (n + 1)
  new : IsPair h' h.objs.size x y
  size : h'.objs.size = h.objs.size + 1
  rest : ∀ c o, c ≠ zz → c ≠ ow → c ≠ ja → c ≠ jb → h.get? c = some o → h'.get? c = some o
theorem item {Q : Value → Shared → Prop} (D : ZipApart zz ti ow ja jb la lb) (T : At s.heap zz ti ow ja jb la lb m n xs ys p0 q0) (hx : xs[m]? = some x) (hy : ys[n]? = some y)
    (go : ∀ h', Gone s.heap h' zz ti ow ja jb la lb m n x y → Q (.ref s.heap.objs.size) { s with heap := h' }) :
    wpAny (model prog w) A (Builtin.«zip.__next__» ⟨[.ref zz], []⟩) (fun fin s' => ∃ v, fin = .done (.ret v) ∧ Q v s') E s := by
  obtain ⟨hz, hti, how, hja, hjb, hla, hlb⟩ := T
  show wpAny _ _ (field (.ref zz) 2 >>= _) _ _ s
  refine wpAny_bind (wpAny_field hz rfl (x := .bool false) rfl ?_)
  show wpAny _ _ (field (.ref zz) 3 >>= _) _ _ s
  refine wpAny_bind (wpAny_field hz rfl (x := .ref ti) rfl (wpAny_bind (wpAny_seqItems hti rfl ?_)))
  show wpAny _ _ (Builtin.SmallTypes.ownedTupleIsFree (.ref zz) >>= _) _ _ s
  unfold Builtin.SmallTypes.ownedTupleIsFree
  refine wpAny_bind (wpAny_bind (wpAny_field hz rfl (x := .none) rfl (wpAny_pure ?_)))
  simp only [if_true]
  refine wpAny_bind (wpAny_rule (wpAny_bind (wpAny_field hz rfl (x := .ref ow) rfl (wpAny_bind (wpAny_setField_rec hz (by simp) fun g1 z1 t1 => ?_)))))
  have z1' : IsZip g1 zz ti ow .ellipsis := z1
  refine wpAny_bind ?_
  simp only [List.zipIdx_cons, List.zipIdx_nil, List.forIn_cons, List.forIn_nil]
  -- the tuple's side
  refine wpAny_bind (wpAny_bind (wpAny_onRaise ?_))
  show wpAny _ _ (Builtin.SmallTypes.nextOf (.ref ja) >>= _) _ _ { s with heap := g1 }
  refine wpAny_bind (nextOf_tuple_item (hja.extBut t1.extBut D.i1z) (hla.extBut t1.extBut D.l1z) hx fun g2 ja2 t2 => wpAny_pure ?_)
  have ow2 : IsPair g2 ow p0 q0 := t2.extBut _ _ D.TOi1 (t1.extBut _ _ D.TOz how)
  refine wpAny_bind (wpAny_seqItems ow2 rfl (wpAny_bind (wpAny_updateSeq_pair ow2 fun g3 ow3 t3 => wpAny_bind (wpAny_letGo (wpAny_pure ?_)))))
  have ow3' : IsPair g3 ow x q0 := ow3
  -- the list's side
  refine wpAny_bind (wpAny_bind (wpAny_onRaise ?_))
  show wpAny _ _ (Builtin.SmallTypes.nextOf (.ref jb) >>= _) _ _ { s with heap := g3 }
  refine wpAny_bind (wpAny_nextOf_list_item (((hjb.extBut t1.extBut D.i2z).extBut t2.extBut D.i12.symm).extBut t3.extBut D.TOi2.symm) (((hlb.extBut t1.extBut D.l2z).extBut t2.extBut D.l2i1).extBut t3.extBut D.l2TO) hy fun g4 jb4 t4 => wpAny_pure ?_)
  have ow4 : IsPair g4 ow x q0 := t4.extBut _ _ D.TOi2 ow3'
  refine wpAny_bind (wpAny_seqItems ow4 rfl (wpAny_bind (wpAny_updateSeq_pair ow4 fun g5 ow5 t5 => wpAny_bind (wpAny_letGo (wpAny_pure (wpAny_pure ?_))))))
  have ow5' : IsPair g5 ow x y := ow5
  refine wpAny_bind (wpAny_seqItems ow5' rfl (wpAny_bind (wpAny_newTuple ?_)))
  have sz : g5.objs.size = s.heap.objs.size := by rw [t5.1, t4.1, t3.1, t2.1, t1.1]
  have z5 : IsZip g5 zz ti ow .ellipsis := t5.extBut _ _ D.TOz.symm (t4.extBut _ _ D.i2z.symm (t3.extBut _ _ D.TOz.symm (t2.extBut _ _ D.i1z.symm z1')))
  have up5 : ∀ c o, c ≠ zz → c ≠ ow → c ≠ ja → c ≠ jb → s.heap.get? c = some o → g5.get? c = some o := fun c o c1 c2 c3 c4 e => t5.extBut _ _ c2 (t4.extBut _ _ c4 (t3.extBut _ _ c2 (t2.extBut _ _ c3 (t1.extBut _ _ c1 e))))
  have ja5 : g5.IsTupleIter ja la (m + 1) := ((ja2.extBut t3.extBut D.TOi1.symm).extBut t4.extBut D.i12).extBut t5.extBut D.TOi1.symm
  have jb5 : g5.IsListIter jb lb (n + 1) := jb4.extBut t5.extBut D.TOi2.symm
  have zlt : zz < g5.objs.size := Heap.lt_size z5
  show wpAny _ _ (Builtin.SmallTypes.ownedTupleHandOut (.ref zz) (.ref g5.objs.size) >>= _) _ _ { s with heap := g5.push { cls := .type "tuple", data := .seq #[x, y] } }
  unfold Builtin.SmallTypes.ownedTupleHandOut
  have z6 : IsZip (g5.push { cls := .type "tuple", data := .seq #[x, y] }) zz ti ow .ellipsis := Heap.get?_push_of_some _ z5
  refine wpAny_bind (wpAny_bind (wpAny_setField_rec z6 (by simp) fun g7 z7 t7 => ?_))
  have z7' : IsZip g7 zz ti ow (rawInt g5.objs.size) := z7
  refine wpAny_setField_rec z7' (by simp) fun g8 z8 t8 => ?_
  have z8' : IsZip g8 zz ti ow (rawInt g5.objs.size) := z8
  have up8 : ∀ c o, c ≠ zz → g5.get? c = some o → g8.get? c = some o := fun c o c1 e => t8.extBut _ _ c1 (t7.extBut _ _ c1 (Heap.get?_push_of_some _ e))
  have n8 : IsPair g8 g5.objs.size x y := t8.extBut _ _ (Nat.ne_of_gt zlt) (t7.extBut _ _ (Nat.ne_of_gt zlt) (Heap.get?_push_size _ rfl))
  have s8 : g8.objs.size = g5.objs.size + 1 := by rw [t8.1, t7.1, Heap.size_push]
  rw [sz] at z8' n8 s8
  refine wpAny_pure ⟨_, rfl, ?_⟩
  show Q (.ref g5.objs.size) { s with heap := g8 }
  rw [sz]
  exact go g8 ⟨z8', up8 _ _ D.TOz ow5', ja5.at fun o e => up8 _ o D.i1z e, jb5.at fun o e => up8 _ o D.i2z e, n8, s8, fun c o c1 c2 c3 c4 e => up8 c o c1 (up5 c o c1 c2 c3 c4 e)⟩
theorem stop {Q : Fin → Shared → Prop} (hh : A.handled = none) (D : ZipApart zz ti ow ja jb la lb) (T : At s.heap zz ti ow ja jb la lb m n xs ys p0 q0) (over : xs[m]? = none ∨ ys[n]? = none)
    (go : ∀ h' e, (∀ c o, c ≠ zz → c ≠ ow → c ≠ ja → c ≠ jb → s.heap.get? c = some o → h'.get? c = some o) → (∃ o, h'.get? e = some o ∧ o.cls = .type "StopIteration") → E (.ref e) { s with heap := h' }) :
    wpAny (model prog w) A (Builtin.«zip.__next__» ⟨[.ref zz], []⟩) Q E s := by
  obtain ⟨hz, hti, how, hja, hjb, hla, hlb⟩ := T
  show wpAny _ _ (field (.ref zz) 2 >>= _) _ _ s
  refine wpAny_bind (wpAny_field hz rfl (x := .bool false) rfl ?_)
  show wpAny _ _ (field (.ref zz) 3 >>= _) _ _ s
  refine wpAny_bind (wpAny_field hz rfl (x := .ref ti) rfl (wpAny_bind (wpAny_seqItems hti rfl ?_)))
  show wpAny _ _ (Builtin.SmallTypes.ownedTupleIsFree (.ref zz) >>= _) _ _ s
  unfold Builtin.SmallTypes.ownedTupleIsFree
  refine wpAny_bind (wpAny_bind (wpAny_field hz rfl (x := .none) rfl (wpAny_pure ?_)))
  simp only [if_true]
  refine wpAny_bind (wpAny_rule (wpAny_bind (wpAny_field hz rfl (x := .ref ow) rfl (wpAny_bind (wpAny_setField_rec hz (by simp) fun g1 z1 t1 => ?_)))))
  have z1' : IsZip g1 zz ti ow .ellipsis := z1
  refine wpAny_bind ?_
  simp only [List.zipIdx_cons, List.zipIdx_nil, List.forIn_cons, List.forIn_nil]
  refine wpAny_bind (wpAny_bind (wpAny_onRaise ?_))
  show wpAny _ _ (Builtin.SmallTypes.nextOf (.ref ja) >>= _) _ _ { s with heap := g1 }
  have far : ∀ {h : Heap} {e : Addr} {o : Obj}, IsZip h zz ti ow .ellipsis → h.get? e = some o → o.cls = .type "StopIteration" → e ≠ zz := fun {h e o} k1 k2 k3 z => by
    rw [z, k1] at k2
    cases k2
    simp at k3
  cases hx : xs[m]? with
  | none =>
    refine wpAny_bind (nextOf_tuple_end hh (hja.extBut t1.extBut D.i1z) (hla.extBut t1.extBut D.l1z) hx fun g2 e t2 ⟨oe, he, ce⟩ => ?_)
    have z2 : IsZip g2 zz ti ow .ellipsis := t2 _ _ D.i1z.symm z1'
    exact wpAny_setField_rec z2 (by simp) fun g3 _ t3 => go g3 e (fun c o c1 _ c3 _ k => t3.extBut _ _ c1 (t2 _ _ c3 (t1.extBut _ _ c1 k))) ⟨oe, t3.extBut _ _ (far z2 he ce) he, ce⟩
  | some x =>
    have hy : ys[n]? = none := by
      rcases over with k | k
      · rw [hx] at k; cases k
      · exact k
    refine wpAny_bind (nextOf_tuple_item (hja.extBut t1.extBut D.i1z) (hla.extBut t1.extBut D.l1z) hx fun g2 ja2 t2 => wpAny_pure ?_)
    have ow2 : IsPair g2 ow p0 q0 := t2.extBut _ _ D.TOi1 (t1.extBut _ _ D.TOz how)
    refine wpAny_bind (wpAny_seqItems ow2 rfl (wpAny_bind (wpAny_updateSeq_pair ow2 fun g3 ow3 t3 => wpAny_bind (wpAny_letGo (wpAny_pure ?_)))))
    refine wpAny_bind (wpAny_bind (wpAny_onRaise ?_))
    show wpAny _ _ (Builtin.SmallTypes.nextOf (.ref jb) >>= _) _ _ { s with heap := g3 }
    refine wpAny_bind (wpAny_nextOf_list_end hh (((hjb.extBut t1.extBut D.i2z).extBut t2.extBut D.i12.symm).extBut t3.extBut D.TOi2.symm) (((hlb.extBut t1.extBut D.l2z).extBut t2.extBut D.l2i1).extBut t3.extBut D.l2TO) hy fun g4 e t4 ⟨oe, he, ce⟩ => ?_)
    have z4 : IsZip g4 zz ti ow .ellipsis := t4 _ _ D.i2z.symm (t3.extBut _ _ D.TOz.symm (t2.extBut _ _ D.i1z.symm z1'))
    exact wpAny_setField_rec z4 (by simp) fun g5 _ t5 => go g5 e (fun c o c1 c2 c3 c4 k => t5.extBut _ _ c1 (t4 _ _ c4 (t3.extBut _ _ c2 (t2.extBut _ _ c3 (t1.extBut _ _ c1 k))))) ⟨oe, t5.extBut _ _ (far z4 he ce) he, ce⟩
theorem next_item {Q : Option Value → Shared → Prop} (D : ZipApart zz ti ow ja jb la lb) (T : At s.heap zz ti ow ja jb la lb m n xs ys p0 q0) (hx : xs[m]? = some x) (hy : ys[n]? = some y)
    (go : ∀ h', Gone s.heap h' zz ti ow ja jb la lb m n x y → Q (some (.ref s.heap.objs.size)) { s with heap := h' }) : wpAny (model prog w) A (pyNext (.ref zz)) Q E s := by
  have isZ : s.TypeIs (.ref zz) "zip" := ⟨_, T.zip, rfl⟩
  unfold pyNext
  exact wpAny_bind (wpAny_attempt (wpAny_callSpecial?_slot (name := Str.ofString "__next__") isZ F.slot_zip_next (wpAny_call_entry F.slot_zip_next isZ F.entry_zip_next (item D T hx hy fun h' g => wpAny_pure (go h' g)) (F.args_zip_next_1 _))))
theorem next_stop {Q : Option Value → Shared → Prop} (hh : A.handled = none) (D : ZipApart zz ti ow ja jb la lb) (T : At s.heap zz ti ow ja jb la lb m n xs ys p0 q0) (over : xs[m]? = none ∨ ys[n]? = none)
    (go : ∀ h', (∀ c o, c ≠ zz → c ≠ ow → c ≠ ja → c ≠ jb → s.heap.get? c = some o → h'.get? c = some o) → Q none { s with heap := h' }) : wpAny (model prog w) A (pyNext (.ref zz)) Q E s := by
  have isZ : s.TypeIs (.ref zz) "zip" := ⟨_, T.zip, rfl⟩
  unfold pyNext
  refine wpAny_bind (wpAny_attempt (wpAny_callSpecial?_slot (name := Str.ofString "__next__") isZ F.slot_zip_next (wpAny_call_entry F.slot_zip_next isZ F.entry_zip_next (stop hh D T over fun h' e hk ⟨o, ho, hc⟩ => ?_) (F.args_zip_next_1 _))))
  exact wpAny_bind (wpAny_isInstance (T := "StopIteration") (b := true) ⟨o, ho, hc⟩ isSubtype_stop (wpAny_pure (go _ hk)))
end
/-! ### zip(t, l) made -/
abbrev m1 (h : Heap) (la : Addr) : Heap := h.push { cls := .type "tuple_iterator", data := .fields #[.ref la, .int 0 0] }
abbrev m2 (h : Heap) (la lb : Addr) : Heap := (m1 h la).push { cls := .type "list_iterator", data := .fields #[.ref lb, .int 0 0] }
abbrev m3 (h : Heap) (la lb : Addr) : Heap := (m2 h la lb).push { cls := .type "tuple", data := .seq #[.ref h.objs.size, .ref (m1 h la).objs.size] }
abbrev m4 (h : Heap) (la lb : Addr) : Heap := (m3 h la lb).push { cls := .type "tuple", data := .seq #[.none, .none] }
abbrev m5 (h : Heap) (la lb : Addr) : Heap := (m4 h la lb).push { cls := .type "zip", data := .fields #[.none, .bool false, .bool false, .ref (m2 h la lb).objs.size, .ref (m3 h la lb).objs.size] }
theorem meets_new (la lb : Addr) (xs ys : Array Value) :
    Meets (Builtin.«zip.__new__» ⟨[.type "zip", .ref la, .ref lb], []⟩) (fun _ R s => s.heap.IsTuple la xs ∧ s.heap.IsList lb ys ∧ R (.ok (.ret (.ref (m4 s.heap la lb).objs.size))) { s with heap := m5 s.heap la lb }) :=
  .of_wp fun prog w A R s h => by
    obtain ⟨h0, g, d, tk, os⟩ := s
    obtain ⟨ha, hb, h⟩ := h
    have hs := sub_zip
    have fa : Heap.IsTuple (Shared.heap ⟨h0, g, d, tk, os⟩) la xs := ha
    have fb : Heap.IsList (Shared.heap ⟨h0.push { cls := .type "tuple_iterator", data := .fields #[.ref la, .int 0 0] }, g, d, tk, os⟩) lb ys := Heap.IsList.push hb _
    wp_walk using wpAny_pyIter_tuple fa, wpAny_pyIter_list fb
    exact ⟨_, rfl, h⟩
section
variable {prog : Program} {w : World} {A : Around} {E : Value → Shared → Prop} {s : Shared}
theorem made {la lb : Addr} {xs ys : Array Value} {Q : Value → Shared → Prop} (ha : s.heap.IsTuple la xs) (hb : s.heap.IsList lb ys)
    (go : ∀ h', IsZip h' (s.heap.objs.size + 4) (s.heap.objs.size + 2) (s.heap.objs.size + 3) .none → IsPair h' (s.heap.objs.size + 2) (.ref s.heap.objs.size) (.ref (s.heap.objs.size + 1)) → IsPair h' (s.heap.objs.size + 3) .none .none →
      h'.IsTupleIter s.heap.objs.size la 0 → h'.IsListIter (s.heap.objs.size + 1) lb 0 → (∀ c o, s.heap.get? c = some o → h'.get? c = some o) → Q (.ref (s.heap.objs.size + 4)) { s with heap := h' }) :
    wpAny (model prog w) A (call (.type "zip") [.ref la, .ref lb]) Q E s := by
  refine callType_new F.called_zip (by decide) (F.typeCall_zip_2 _ _) (F.newCall_zip_2 _ _) (fun obj => F.args_object_init_3 obj _ _) F.entry_zip_new (meets_new la lb xs ys) ⟨ha, hb, ?_⟩
  have e1 : (m1 s.heap la).objs.size = s.heap.objs.size + 1 := Heap.size_push ..
  have e2 : (m2 s.heap la lb).objs.size = s.heap.objs.size + 2 := by rw [Heap.size_push, e1]
  have e3 : (m3 s.heap la lb).objs.size = s.heap.objs.size + 3 := by rw [Heap.size_push, e2]
  have e4 : (m4 s.heap la lb).objs.size = s.heap.objs.size + 4 := by rw [Heap.size_push, e3]
  have k5 : (m5 s.heap la lb).get? (m4 s.heap la lb).objs.size = some _ := Heap.get?_push_size _ rfl
  have k4 : (m5 s.heap la lb).get? (m3 s.heap la lb).objs.size = some _ := Heap.get?_push_of_some _ (Heap.get?_push_size _ rfl)
  have k3 : (m5 s.heap la lb).get? (m2 s.heap la lb).objs.size = some _ := Heap.get?_push_of_some _ (Heap.get?_push_of_some _ (Heap.get?_push_size _ rfl))
  have k2 : (m5 s.heap la lb).get? (m1 s.heap la).objs.size = some _ := Heap.get?_push_of_some _ (Heap.get?_push_of_some _ (Heap.get?_push_of_some _ (Heap.get?_push_size _ rfl)))
  have k1 : (m5 s.heap la lb).get? s.heap.objs.size = some _ := Heap.get?_push_of_some _ (Heap.get?_push_of_some _ (Heap.get?_push_of_some _ (Heap.get?_push_of_some _ (Heap.get?_push_size _ rfl))))
  show _ ∧ _
  rw [e2, e3, e4] at k5
  rw [e1, e2] at k3
  rw [e3] at k4
  rw [e1] at k2
  rw [e4]
  exact ⟨⟨_, k5, rfl⟩, go _ k5 k3 k4 ⟨_, k1, rfl, rfl⟩ ⟨_, k2, rfl, rfl⟩ fun c o k => Heap.get?_push_of_some _ (Heap.get?_push_of_some _ (Heap.get?_push_of_some _ (Heap.get?_push_of_some _ (Heap.get?_push_of_some _ k))))⟩
end
end CwZ
namespace L2
open PySem PySem.Spec PyProof.Rows
/-- the tuple at a and the list at b as they stand at each turn, the items in new pairs -/
def ItzM (K : PySem.W.Frag) (a b : Addr) : It where
  go := fun i H => ∃ (xs ys : List V) (x y : V), SqT K H a xs ∧ SqL K H b ys ∧ xs[i]? = some x ∧ ys[i]? = some y
  yld := fun i H v H' => ∃ T x y, v = .ref T ∧ H T = none ∧ H' = upd H T (.tup [x, y]) ∧ (∀ xs, SqT K H a xs → xs[i]? = some x) ∧ ∀ ys, SqL K H b ys → ys[i]? = some y
  stop := fun i H => ∃ xs ys : List V, SqT K H a xs ∧ SqL K H b ys ∧ (xs.length ≤ i ∨ ys.length ≤ i)
theorem five {c z t o i j : Addr} (h : c ∈ [z, t, o, i, j]) : c = z ∨ c = t ∨ c = o ∨ c = i ∨ c = j := by simpa using h
theorem turn_zipM {P : Program} {w : World} {K : PySem.W.Frag} {elts : List Expr} {kk : Nat} {tpos : Pos} {a b z ti ow ja jb : Addr} (D : ZipApart z ti ow ja jb a b) :
    Turn P w K (.Tuple elts kk tpos) (ItzM K a b) [z, ti, ow, ja, jb] z (fun i h => IsZip h z ti ow .none ∧ IsPair h ti (.ref ja) (.ref jb) ∧ (∃ x y, IsPair h ow x y) ∧ h.IsTupleIter ja a i ∧ h.IsListIter jb b i) where
  mem := List.mem_cons_self
  obj := fun i h ⟨hz, ht, ⟨x, y, ho⟩, ⟨o1, e1, _, d1⟩, ⟨o2, e2, _, d2⟩⟩ c hc => by
    rcases five hc with rfl | rfl | rfl | rfl | rfl
    · exact ⟨_, hz, fun v q => nomatch q⟩
    · exact ⟨_, ht, fun v q => nomatch q⟩
    · exact ⟨_, ho, fun v q => nomatch q⟩
    · exact ⟨o1, e1, fun v q => by rw [d1] at q; cases q⟩
    · exact ⟨o2, e2, fun v q => by rw [d2] at q; cases q⟩
  keep := fun i h h' ⟨hz, ht, ⟨x, y, ho⟩, h1, h2⟩ k => ⟨k z (by simp) _ hz, k ti (by simp) _ ht, ⟨x, y, k ow (by simp) _ ho⟩, h1.at fun o q => k ja (by simp) o q, h2.at fun o q => k jb (by simp) o q⟩
  item := by
    intro X hP hw hK hc i pins s σ H E I hf ⟨hz, ht, ⟨x0, y0, ho⟩, h1, h2⟩ ⟨xs, ys, x, y, qx, qy, hx, hy⟩
    subst hP hw hK
    obtain ⟨its, rv, p1, _⟩ := I.tuple qx
    obtain ⟨its2, rv2, p2, _⟩ := I.list qy
    obtain ⟨u, hu, ru⟩ := rv.get hx
    obtain ⟨u2, hu2, ru2⟩ := rv2.get hy
    have zl : z < s.heap.objs.size := Heap.lt_size hz
    refine CwZ.next_item D ⟨hz, ht, ho, h1, h2, p1, p2.isList⟩ (x := u) (y := u2) (by simpa using hu) (by simpa using hu2) fun h' g => ⟨_, rfl, wpAny_letOwnedTupleGo_zip (s := { s with heap := h' }) g.zip fun h3 z3 sb => ?_⟩
    have off : ∀ c, c ∉ [z, ti, ow, ja, jb] → c ≠ z ∧ c ≠ ow ∧ c ≠ ja ∧ c ≠ jb := fun c hb => ⟨fun q => hb (by simp [q]), fun q => hb (by simp [q]), fun q => hb (by simp [q]), fun q => hb (by simp [q])⟩
    have pair3 : h3.get? s.heap.objs.size = some { cls := .type "tuple", data := .seq #[u, u2] } := (sb.2 _ (Nat.ne_of_gt zl)).trans g.new
    have fresh : ObjOk X.prog X.w (upd H s.heap.objs.size (.tup [x, y])) h3 s.heap.objs.size (.tup [x, y]) := ⟨by show 2 ≤ sizeLine; decide, [u, u2], .cons ru (.cons ru2 .nil), ⟨_, pair3, rfl, _, rfl⟩⟩
    have J : Inv X pins σ (upd H s.heap.objs.size (.tup [x, y])) { s with heap := h3 } :=
      I.turnedNew (t' := s.toks) (ch := [z, ti, ow, ja, jb]) (fun c o hb q => (sb.2 c (off c hb).1).trans (g.rest c o (off c hb).1 (off c hb).2.1 (off c hb).2.2.1 (off c hb).2.2.2 q)) hf (Nat.le_refl _) fresh
    refine ⟨.ref s.heap.objs.size, _, J, rfl, ⟨_, x, y, rfl, I.hok.fresh (Nat.le_refl _), rfl, fun l hl => by rw [I.tuple_inj hl qx]; exact hx, fun l hl => by rw [I.list_inj hl qy]; exact hy⟩, ⟨z3, (sb.2 _ D.TIz).trans (g.rest _ _ D.TIz D.TITO D.TIi1 D.TIi2 ht), ⟨u, u2, (sb.2 _ D.TOz).trans g.own⟩, g.ia.at fun o q => (sb.2 _ D.i1z).trans q, g.ib.at fun o q => (sb.2 _ D.i2z).trans q⟩, fun c hcm => ?_⟩
    have lt : c < s.heap.objs.size := by
      rcases five hcm with rfl | rfl | rfl | rfl | rfl
      · exact zl
      · exact Heap.lt_size ht
      · exact Heap.lt_size ho
      · obtain ⟨_, e1, _⟩ := h1; exact Heap.lt_size e1
      · obtain ⟨_, e2, _⟩ := h2; exact Heap.lt_size e2
    rw [upd_ne (Nat.ne_of_lt lt)]
    exact (hf c hcm).1
  done := by
    intro X hP hw hK hc i pins s σ H E I hf ⟨hz, ht, ⟨x0, y0, ho⟩, h1, h2⟩ ⟨xs, ys, qx, qy, over⟩
    subst hP hw hK
    obtain ⟨its, rv, p1, _⟩ := I.tuple qx
    obtain ⟨its2, rv2, p2, _⟩ := I.list qy
    have n1 := rv.length
    have n2 := rv2.length
    have over' : its.toArray[i]? = none ∨ its2.toArray[i]? = none := by
      rcases over with q | q
      · exact .inl (by simp; omega)
      · exact .inr (by simp; omega)
    have off : ∀ c, c ∉ [z, ti, ow, ja, jb] → c ≠ z ∧ c ≠ ow ∧ c ≠ ja ∧ c ≠ jb := fun c hb => ⟨fun q => hb (by simp [q]), fun q => hb (by simp [q]), fun q => hb (by simp [q]), fun q => hb (by simp [q])⟩
    exact CwZ.next_stop (I.ok.hd hc) D ⟨hz, ht, ho, h1, h2, p1, p2.isList⟩ over' fun h' hk => ⟨rfl, I.turnedL (t' := s.toks) (ch := [z, ti, ow, ja, jb]) (fun c o hb q => hk c o (off c hb).1 (off c hb).2.1 (off c hb).2.2.1 (off c hb).2.2.2 q) hf⟩
  self := fun A i s Q E st h => wpAny_pyIter_zip st.1 h
/-- zip of a tuple and a sequence of either kind -/
def iZipM (K : PySem.W.Frag) (ta : TA) : TI := fun σ H R => ta σ H fun vs H1 => ∃ a b xs ys, vs = [.ref a, .ref b] ∧ SqT K H1 a xs ∧ ((SqL K H1 b ys ∧ R (ItzM K a b) H1) ∨ (SqT K H1 b ys ∧ R (RZ.ItzT K a b) H1))
theorem pi_zipM {X : Cx} {e e2 : Expr} {ta : TA} {p pos tpos : Pos} {elts : List Expr} {kk : Nat} (hg : Gl X "zip") (hm : X.mg "zip" = none) (ha : PA X [e, e2] ta)
    (hs : starEach [e, e2] X.env = (false, eval e X.env) :: starEach [e2] X.env := by rfl) (hpl : (backTo pos (starEach [e2] X.env)).any (·.1) = false := by rfl) :
    PI X (.Tuple elts kk tpos) (.Call (.Name "zip" p) [e, e2] [] pos) (iZipM X.K ta) := by
  refine ⟨fun pins s σ H R I h => Call_ (ld_blt I hg hm PyProof.Rows.boot_zip (PyProof.Rows.callWith_type1 (thn (ha.run pos pins s σ H _ I h) fun us s1 ⟨vs, H1, J, r1, a, b, xs, ys, ex, qa, q1⟩ => ?_) hs hpl))⟩
  subst ex
  obtain ⟨u1, u2, rfl, r1, r2⟩ := vals2 r1
  obtain rfl : u1 = Value.ref a := r1
  obtain rfl : u2 = Value.ref b := r2
  have free : ∀ c, c ∈ [s1.heap.objs.size + 4, s1.heap.objs.size + 2, s1.heap.objs.size + 3, s1.heap.objs.size, s1.heap.objs.size + 1] → FpOk X pins H1 c := fun c hcm => by
    have le : s1.heap.objs.size ≤ c := by rcases five hcm with rfl | rfl | rfl | rfl | rfl <;> omega
    exact J.fpOk le (J.hok.fresh le)
  obtain ⟨its, rv, p1, _⟩ := J.tuple qa
  obtain ⟨o1, ho1, _⟩ := id p1
  rcases q1 with ⟨qb, q⟩ | ⟨qb, q⟩
  · obtain ⟨its2, rv2, p2, _⟩ := J.list qb
    refine CwZ.made (show s1.heap.IsTuple a its.toArray from p1) p2.isList fun h' hz ht ho h1 h2 hk => wpAny_pyIter_zip hz ?_
    exact ⟨s1.heap.objs.size + 4, _, _, _, H1, rfl, J.kept (t' := s1.toks) hk, turn_zipM (PySem.W.ktu_apart s1.heap.objs.size a b (Heap.lt_size ho1) p2.lt), ⟨hz, ht, ⟨_, _, ho⟩, h1, h2⟩, free, q⟩
  · obtain ⟨its2, rv2, p2, _⟩ := J.tuple qb
    obtain ⟨o2, ho2, _⟩ := id p2
    refine RZ.call_zipT (show s1.heap.IsTuple a its.toArray from p1) (show s1.heap.IsTuple b its2.toArray from p2) fun h' hz ht ho h1 h2 hsz hk => wpAny_pyIter_zip hz ?_
    exact ⟨s1.heap.objs.size + 4, _, _, _, H1, rfl, J.kept (t' := s1.toks) hk, RZ.turn_zipT (PySem.W.ktu_apart s1.heap.objs.size a b (Heap.lt_size ho1) (Heap.lt_size ho2)), ⟨hz, ht, ⟨_, _, ho⟩, h1, h2⟩, free, q⟩
end L2

set_option Elab.async false
set_option linter.all false
set_option maxRecDepth 100000
set_option maxHeartbeats 4000000
namespace Cw
open PySem PySem.Spec PyProof.Rows L2
def isMember (k : Str) (d : PyData) : Bool :=
  if k = "number" then isInteger 0 65535 d else if k = "name" then isName d else if k = "class" then isCname d else if k = "generic" then isGname d else if k = "values" then isSeq 0 12 d else if k = "arguments" then isSeq 1 3 d else true
/-- the kinds that are no parts -/
def Kind6 (k : Str) : Prop := k = "number" ∨ k = "name" ∨ k = "class" ∨ k = "generic" ∨ k = "values" ∨ k = "arguments"
def spMember (K : PySem.W.Frag) : Sp := fun vs H Q _ => ∃ k x d, vs = [.str k, x] ∧ Dp K H x d ∧ Ok d ∧ Kind6 k ∧ ∀ H', Same H H' → Q (.bl (isMember k d)) H'
theorem str_of {k z : Str} (e : decide (V.str k = V.str z) = true) : k = z := V.str.inj (of_decide_eq_true e)
theorem str_to {k z : Str} (e : k = z) : decide (V.str k = V.str z) = true := decide_eq_true (by rw [e])
section
variable {P : Program} {w : World} {K : PySem.W.Frag} {mg : Str → Option Value} {base : Heap} {S : Addr → Option Sp}
abbrev s_is_member : Stmt := topS 26
theorem sc_is_member : FnScope ["kind", "value"] ["kind", "value"] (defScope s_is_member) := ⟨rfl, rfl, rfl, by decide +kernel, rfl, by decide +kernel, by decide +kernel⟩
theorem ok_is_member {f : Addr} {fd : FuncData} (F : Fun K "is_member" "is_member" s_is_member f fd) {f_is_integer : Addr} {d_is_integer : FuncData} (h_is_integer : Hd K mg "is_integer" s_is_integer ["value", "least", "most"] f_is_integer d_is_integer) (G_is_integer : FnOk P w K mg base CX0 1 f_is_integer d_is_integer ["value", "least", "most"] (spInteger K)) {f_is_name : Addr} {d_is_name : FuncData} (h_is_name : Hd K mg "is_name" s_is_name ["value"] f_is_name d_is_name) (G_is_name : FnOk P w K mg base CX0 2 f_is_name d_is_name ["value"] (sp1 K isName)) {f_is_class_name : Addr} {d_is_class_name : FuncData} (h_is_class_name : Hd K mg "is_class_name" s_is_class_name ["value"] f_is_class_name d_is_class_name) (G_is_class_name : FnOk P w K mg base CX0 3 f_is_class_name d_is_class_name ["value"] (sp1 K isCname)) {f_is_generic_name : Addr} {d_is_generic_name : FuncData} (h_is_generic_name : Hd K mg "is_generic_name" s_is_generic_name ["value"] f_is_generic_name d_is_generic_name) (G_is_generic_name : FnOk P w K mg base CX0 3 f_is_generic_name d_is_generic_name ["value"] (sp1 K isGname)) {f_is_sequence : Addr} {d_is_sequence : FuncData} (h_is_sequence : Hd K mg "is_sequence" s_is_sequence ["value", "least", "most"] f_is_sequence d_is_sequence) (G_is_sequence : FnOk P w K mg base CX0 1 f_is_sequence d_is_sequence ["value", "least", "most"] (spSeq K)) {u_LARGEST : Value} (h_LARGEST : Cst K mg "LARGEST" (.int 65535) u_LARGEST) {u_MOST_VALUES : Value} (h_MOST_VALUES : Cst K mg "MOST_VALUES" (.int 12) u_MOST_VALUES) {u_MOST_TAKES : Value} (h_MOST_TAKES : Cst K mg "MOST_TAKES" (.int 3) u_MOST_TAKES) : FnOk P w K mg base CX0 4 f fd ["kind", "value"] (spMember K) := by
  refine F.ok sc_is_member (fun vs H Q E h => ?_) (fun cdv A outer s H vs Q E hr h => ?_)
  · obtain ⟨_, _, _, rfl, _⟩ := h
    rfl
  · obtain ⟨k, x, d, rfl, hx, hok, hk, q⟩ := h
    refine ⟨_, (pss_cons (ps_if (pt_cmpR op_eq (pv 0) pe_str (nomark _)) (pss_one (ps_ret (pe_call G_is_integer (hr.mono (by decide)) (by rfl) h_is_integer.g h_is_integer.F.kp h_is_integer.b .nil pass0 (pa_cons (pv 1) (pa_cons pe_int (pa_cons (pe_glob (v := .int 65535) rfl h_LARGEST.g h_LARGEST.r) pa_nil)))))) pss_nil)
  (pss_cons (ps_if (pt_cmpR op_eq (pv 0) pe_str (nomark _)) (pss_one (ps_ret (pe_call G_is_name (hr.mono (by decide)) (by rfl) h_is_name.g h_is_name.F.kp h_is_name.b .nil pass0 (pa_cons (pv 1) pa_nil)))) pss_nil)
  (pss_cons (ps_if (pt_cmpR op_eq (pv 0) pe_str (nomark _)) (pss_one (ps_ret (pe_call G_is_class_name (hr.mono (by decide)) (by rfl) h_is_class_name.g h_is_class_name.F.kp h_is_class_name.b .nil pass0 (pa_cons (pv 1) pa_nil)))) pss_nil)
  (pss_cons (ps_if (pt_cmpR op_eq (pv 0) pe_str (nomark _)) (pss_one (ps_ret (pe_call G_is_generic_name (hr.mono (by decide)) (by rfl) h_is_generic_name.g h_is_generic_name.F.kp h_is_generic_name.b .nil pass0 (pa_cons (pv 1) pa_nil)))) pss_nil)
  (pss_cons (ps_if (pt_cmpR op_eq (pv 0) pe_str (nomark _)) (pss_one (ps_ret (pe_call G_is_sequence (hr.mono (by decide)) (by rfl) h_is_sequence.g h_is_sequence.F.kp h_is_sequence.b .nil pass0 (pa_cons (pv 1) (pa_cons pe_int (pa_cons (pe_glob (v := .int 12) rfl h_MOST_VALUES.g h_MOST_VALUES.r) pa_nil)))))) pss_nil)
  (pss_one (ps_ret (pe_call G_is_sequence (hr.mono (by decide)) (by rfl) h_is_sequence.g h_is_sequence.F.kp h_is_sequence.b .nil pass0 (pa_cons (pv 1) (pa_cons pe_int (pa_cons (pe_glob (v := .int 3) rfl h_MOST_TAKES.g h_MOST_TAKES.r) pa_nil))))))))))), ?_⟩
    refine ⟨.str k, rfl, rfl, _, rfl, ite2 (fun e => ⟨x, rfl, x, d, 0, 65535, rfl, hx, fun H1 s1 => ?_⟩) (fun e => ?_)⟩
    · have z0 := q H1 s1
      rw [isMember, if_pos (str_of e)] at z0
      exact z0
    have g0 := mt (str_to (z := "number")) e
    refine ⟨.str k, rfl, rfl, _, rfl, ite2 (fun e => ⟨x, rfl, x, d, rfl, hx, hok, fun H1 s1 => ?_⟩) (fun e => ?_)⟩
    · have z0 := q H1 s1
      rw [isMember, if_neg g0, if_pos (str_of e)] at z0
      exact z0
    have g1 := mt (str_to (z := "name")) e
    refine ⟨.str k, rfl, rfl, _, rfl, ite2 (fun e => ⟨x, rfl, x, d, rfl, hx, hok, fun H1 s1 => ?_⟩) (fun e => ?_)⟩
    · have z0 := q H1 s1
      rw [isMember, if_neg g0, if_neg g1, if_pos (str_of e)] at z0
      exact z0
    have g2 := mt (str_to (z := "class")) e
    refine ⟨.str k, rfl, rfl, _, rfl, ite2 (fun e => ⟨x, rfl, x, d, rfl, hx, hok, fun H1 s1 => ?_⟩) (fun e => ?_)⟩
    · have z0 := q H1 s1
      rw [isMember, if_neg g0, if_neg g1, if_neg g2, if_pos (str_of e)] at z0
      exact z0
    have g3 := mt (str_to (z := "generic")) e
    refine ⟨.str k, rfl, rfl, _, rfl, ite2 (fun e => ⟨x, rfl, x, d, 0, 12, rfl, hx, fun H1 s1 => ?_⟩) (fun e => ?_)⟩
    · have z0 := q H1 s1
      rw [isMember, if_neg g0, if_neg g1, if_neg g2, if_neg g3, if_pos (str_of e)] at z0
      exact z0
    have g4 := mt (str_to (z := "values")) e
    have g5 : k = "arguments" := by
      rcases hk with h | h | h | h | h | h
      · exact absurd h g0
      · exact absurd h g1
      · exact absurd h g2
      · exact absurd h g3
      · exact absurd h g4
      · exact h
    refine ⟨x, rfl, x, d, 1, 3, rfl, hx, fun H1 s1 => ?_⟩
    have z0 := q H1 s1
    rw [isMember, if_neg g0, if_neg g1, if_neg g2, if_neg g3, if_neg g4, if_pos g5] at z0
    exact z0
end
end Cw

set_option Elab.async false
set_option linter.all false
set_option maxRecDepth 100000
set_option maxHeartbeats 4000000
/-! # CwZw: walks over zip of a tuple of the written part and a sequence of either kind; the tail of a sequence. -/
namespace L2
open PySem PySem.Spec PyProof.Rows
theorem sameU {H : Hp} {p : Addr} {o : HO} (h : H p = none) : Same H (upd H p o) := fun b x e => by
  by_cases k : b = p
  · rw [k, h] at e
    cases e
  · rw [upd_ne k]
    exact e
theorem seqA_at {K : PySem.W.Frag} {H H' : Hp} {a : Addr} {xs : List V} (s : ∀ o, H a = some o → H' a = some o) (h : SqA K H a xs) : SqA K H' a xs := by
  rcases h with ((h | ⟨o, h⟩) | h) | ((h | ⟨o, h⟩) | h)
  · exact .inl (.inl (.inl (s _ h)))
  · exact .inl (.inl (.inr ⟨o, s _ h⟩))
  · exact .inl (.inr h)
  · exact .inr (.inl (.inl (s _ h)))
  · exact .inr (.inl (.inr ⟨o, s _ h⟩))
  · exact .inr (.inr h)
theorem sql_at {K : PySem.W.Frag} {H H' : Hp} {a : Addr} {xs : List V} (s : ∀ o, H a = some o → H' a = some o) (h : SqL K H a xs) : SqL K H' a xs := by
  rcases h with (h | ⟨o, h⟩) | h
  · exact .inl (.inl (s _ h))
  · exact .inl (.inr ⟨o, s _ h⟩)
  · exact .inr h
theorem sqt_at {K : PySem.W.Frag} {H H' : Hp} {a : Addr} {xs : List V} (s : ∀ o, H a = some o → H' a = some o) (h : SqT K H a xs) : SqT K H' a xs := by
  rcases h with (h | ⟨o, h⟩) | h
  · exact .inl (.inl (s _ h))
  · exact .inl (.inr ⟨o, s _ h⟩)
  · exact .inr h
theorem cutV_one (xs : List V) : cutV xs (some 1) none = xs.drop 1 := by
  unfold cutV
  cases xs with
  | nil => rfl
  | cons x xs =>
    have e : HT.sIx (x :: xs).length 0 (some 1) = 1 := by
      rw [show (some (1 : Int)) = some ((1 : Nat) : Int) from rfl, HT.sIx_nat, List.length_cons]
      omega
    have e2 : HT.sIx (x :: xs).length (x :: xs).length none = (x :: xs).length := rfl
    rw [e, e2]
    exact List.take_of_length_le (by simp)
theorem sl_tail {K : PySem.W.Frag} {H : Hp} {a : Addr} {xs : List V} {Q : VK} (h : SqA K H a xs) (hn : 0 < xs.length) (q : ∀ p H1, H p = none → Same H H1 → SqA K H1 p (xs.drop 1) → Q (.ref p) H1) :
    rSlL K (.ref a) (some 1) none H Q ∨ rSlA K (.ref a) (some 1) none H Q := by
  rcases h with h | h
  · refine .inl ⟨a, xs, rfl, h, fun p hp => ?_⟩
    rw [cutV_one]
    exact q p _ hp (sameU hp) (.inl (SqL.of upd_same))
  · refine .inr ⟨a, xs, rfl, h, fun e => ?_, fun _ p hp => ?_⟩
    · exfalso
      have e1 := e.1
      rw [show (some (1 : Int)) = some ((1 : Nat) : Int) from rfl, HT.sIx_nat] at e1
      omega
    · rw [cutV_one]
      exact q p _ hp (sameU hp) (.inr (.inl (.inl upd_same)))
section
variable {K : PySem.W.Frag} {a b : Addr} {xs ys : List V}
theorem walk_zipM (hl : xs.length = ys.length) : Walk (ItzM K a b) xs.length (fun H => SqT K H a xs ∧ SqL K H b ys) (YPair (fun i => xs[i]?) (fun i => ys[i]?)) :=
  ⟨fun i _ hi q => ⟨xs, ys, xs[i], ys[i]'(by omega), q.1, q.2, by simp [hi], by simp [show i < ys.length by omega]⟩, fun _ q => ⟨xs, ys, q.1, q.2, .inl (Nat.le_refl _)⟩,
   fun _ _ _ _ _ q ⟨T, x, y, e1, e2, e3, e4, e5⟩ => ⟨T, x, y, e1, e2, e3, e4 _ q.1, e5 _ q.2⟩⟩
theorem walk_zipT (hl : xs.length = ys.length) : Walk (RZ.ItzT K a b) xs.length (fun H => SqT K H a xs ∧ SqT K H b ys) (YPair (fun i => xs[i]?) (fun i => ys[i]?)) :=
  ⟨fun i _ hi q => ⟨xs, ys, xs[i], ys[i]'(by omega), q.1, q.2, by simp [hi], by simp [show i < ys.length by omega]⟩, fun _ q => ⟨xs, ys, q.1, q.2, .inl (Nat.le_refl _)⟩,
   fun _ _ _ _ _ q ⟨T, x, y, e1, e2, e3, e4, e5⟩ => ⟨T, x, y, e1, e2, e3, e4 _ q.1, e5 _ q.2⟩⟩
/-- what zip is handed -/
theorem zip_it {ta : TA} {σ : St} {H : Hp} {R : It → Hp → Prop} (hx : ∀ H, SqT K H a xs) (hl : xs.length = ys.length) (e : ∀ R : List V → Hp → Prop, (∀ b H1, H b = none → Same H H1 → SqA K H1 b ys → R [.ref a, .ref b] H1) → ta σ H R)
    (r : ∀ H1 J G, Same H H1 → Walk J xs.length G (YPair (fun i => xs[i]?) (fun i => ys[i]?)) → (∀ H', Same H1 H' → G H') → R J H1) : iZipM K ta σ H R := by
  refine e _ fun b H1 fb s1 hb => ⟨a, b, xs, ys, rfl, hx H1, ?_⟩
  rcases hb with hb | hb
  · exact .inl ⟨hb, r H1 _ _ s1 (walk_zipM hl) fun H' s => ⟨hx H', s.seq hb⟩⟩
  · exact .inr ⟨hb, r H1 _ _ s1 (walk_zipT hl) fun H' s => ⟨hx H', sqt_stay s hb⟩⟩
theorem lc_zipM {ta : TA} {g : TG} {tt : TT} {te : TE} {vs : List Nat} {σ : St} {H : Hp} {Q : VK} (hx : ∀ H, SqT K H a xs) (hl : xs.length = ys.length) (e : ∀ R : List V → Hp → Prop, (∀ b H1, H b = none → Same H H1 → SqA K H1 b ys → R [.ref a, .ref b] H1) → ta σ H R)
    (Pv : Hp → Addr → Nat → Hp → Prop) (h0 : ∀ H1 D, Same H H1 → H1 D = none → Pv H1 D 0 (upd H1 D (.lst []))) (hk : ∀ H1 D i H', Pv H1 D i H' → Same H1 H')
    (hs : ∀ H1 D i x y T H', Same H H1 → H1 D = none → xs[i]? = some x → ys[i]? = some y → Pv H1 D i H' → H' T = none → g (.ref T) (wipe σ vs) (upd H' T (.tup [x, y])) fun σ2 H2 => wipe σ2 vs = wipe σ vs ∧ tt σ2 H2 fun b H3 =>
      if b = true then te σ2 H3 fun y H4 => ∃ acc, H4 D = some (.lst acc) ∧ acc.length < sizeLine ∧ Pv H1 D (i + 1) (upd H4 D (.lst (acc ++ [y]))) else Pv H1 D (i + 1) H3)
    (hd : ∀ H1 D H', Same H H1 → H1 D = none → Pv H1 D xs.length H' → Q (.ref D) H') : tLc (iZipM K ta) g tt te vs σ H Q := by
  refine zip_it hx hl e fun H1 J G s1 w hG D hD => lc_it w (Pv H1 D) (h0 H1 D s1 hD) (fun i H' _ p => hG H' (hk H1 D i H' p)) (fun i x H2 H3 _ p y => ?_) (fun H' p => hd H1 D H' s1 hD p)
  obtain ⟨T, x, y, rfl, e2, rfl, e4, e5⟩ := y
  exact hs H1 D i x y T H2 s1 hD e4 e5 p e2
theorem for_zipM {ta : TA} {g : TG} {tb : TS} {D : Ends} {σ : St} {H : Hp} {L : Addr} {oL : HO} (hL : H L = some oL) (hx : ∀ H, SqT K H a xs) (hl : xs.length = ys.length) (e : ∀ R : List V → Hp → Prop, (∀ b H1, H b = none → Same H H1 → SqA K H1 b ys → R [.ref a, .ref b] H1) → ta σ H R)
    (Pv : Hp → Nat → St → Hp → Prop) (h0 : ∀ H1, Same H H1 → Pv H1 0 σ H1) (hk : ∀ H1 i σ' H', Pv H1 i σ' H' → ∀ b o, b ≠ L → H1 b = some o → H' b = some o)
    (hs : ∀ H1 i x y T σ' H', Same H H1 → xs[i]? = some x → ys[i]? = some y → Pv H1 i σ' H' → H' T = none → g (.ref T) σ' (upd H' T (.tup [x, y])) fun σ2 H2 => tb { D with nx := Pv H1 (i + 1), ct := Pv H1 (i + 1), bk := D.nx } σ2 H2)
    (hd : ∀ H1 σ' H', Same H H1 → Pv H1 xs.length σ' H' → D.nx σ' H') : tFor (iZipM K ta) g tb D σ H := by
  refine e _ fun b H1 fb s1 hb => ⟨a, b, xs, ys, rfl, hx H1, ?_⟩
  have ne : b ≠ L := fun k => by rw [k, hL] at fb; cases fb
  rcases hb with hb | hb
  · refine .inl ⟨hb, for_it (walk_zipM hl) (Pv H1) (h0 H1 s1) (fun i σ' H' _ p => ⟨hx _, sql_at (fun o => hk H1 i σ' H' p b o ne) hb⟩) (fun i x σ' H2 H3 _ p y => ?_) (fun σ' H' p => hd H1 σ' H' s1 p)⟩
    obtain ⟨T, x, y, rfl, e2, rfl, e4, e5⟩ := y
    exact hs H1 i x y T σ' H2 s1 e4 e5 p e2
  · refine .inr ⟨hb, for_it (walk_zipT hl) (Pv H1) (h0 H1 s1) (fun i σ' H' _ p => ⟨hx _, sqt_at (fun o => hk H1 i σ' H' p b o ne) hb⟩) (fun i x σ' H2 H3 _ p y => ?_) (fun σ' H' p => hd H1 σ' H' s1 p)⟩
    obtain ⟨T, x, y, rfl, e2, rfl, e4, e5⟩ := y
    exact hs H1 i x y T σ' H2 s1 e4 e5 p e2
end
section
variable {X : Cx} {pos : Pos}
theorem pi_listK {tg l : Expr} {tl : TE} (K : PySem.W.Frag) (hK : X.K = K) (hl : PE X l tl) : PI X tg l (iList K tl) := by
  subst hK
  exact pi_list hl
/-- within a comprehension: the written part named from outside -/
theorem pg_tupK {es : List Expr} {k : Nat} {t : TGs} {n : Nat} (K : PySem.W.Frag) (hK : X.K = K) (hc : X.calm = true) (h : PGs X es t)
    (hn : (assignEach es X.env).length = n := by rfl) (hst : (assignEach es X.env).findIdx? (·.1) = none := by rfl) : PG X (.Tuple es k pos) (gTup K n t) := by
  subst hK
  exact pg_tup hc h hn hst
end
end L2

set_option Elab.async false
set_option linter.all false
set_option maxRecDepth 100000
set_option maxHeartbeats 4000000
namespace Cw
open PySem PySem.Spec PyProof.Rows L2
def kindsOf (z : Str) : Option (List Str) :=
  if z = "int" then some ["number"] else if z = "name" then some ["name"] else if z = "next" then some [] else if z = "new" then some ["class", "values"] else if z = "field" then some ["part", "class", "name"] else if z = "call" then some ["generic", "arguments"]
  else if z = "add" then some ["part", "part"] else if z = "sub" then some ["part", "part"] else if z = "mul" then some ["part", "part"] else if z = "if" then some ["part", "part", "part"] else if z = "let" then some ["name", "part", "part"] else none
def formL (z : Str) (r : List PyData) : Bool := match kindsOf z with
  | none => false
  | some ks => decide (r.length = ks.length) && (ks.zip r).all fun p => isMember p.1 p.2
def hasForm (d : PyData) : Bool := match items d with
  | .str z :: r => formL z r
  | _ => false
/-- the kinds' dict as the top has written it -/
def Forms (K : PySem.W.Frag) (w : World) (a : Addr) : Prop := ∃ es n, KDict K w a es n ∧ ∀ z, (kindsOf z = none → PySem.W.nsIn K a z = some none) ∧ ∀ ks, kindsOf z = some ks → ∃ p, PySem.W.nsIn K a z = some (some (.ref p)) ∧ ∀ H : Hp, SqT K H p (ks.map V.str)
theorem nextA {D : Ends} {σ : L2.St} {H : Hp} (h : D.nx σ H) : tNext D σ H := h
theorem retA {te : TE} {D : Ends} {σ : L2.St} {H : Hp} (h : te σ H D.rt) : tRet te D σ H := h
theorem sq_split {K : PySem.W.Frag} {H : Hp} {x : V} {d : PyData} (h : Dp K H x d) : (isSq d = false ∧ items d = []) ∨ ∃ a xs, x = .ref a ∧ SqA K H a xs ∧ DpAll K H xs (items d) ∧ isSq d = true := by
  cases h with
  | lst h1 h2 => exact .inr ⟨_, _, rfl, .inl h1, h2, rfl⟩
  | tup h1 h2 => exact .inr ⟨_, _, rfl, .inr h1, h2, rfl⟩
  | _ => exact .inl ⟨rfl, rfl⟩
end Cw

set_option Elab.async false
set_option linter.all false
set_option maxRecDepth 100000
set_option maxHeartbeats 4000000
/-! # CwExt: l.extend(s), s a sequence of either kind, in the heap or written. -/
namespace CwX
open PySem AutoSeq1
set_option maxRecDepth 8000 in
theorem ext_any (k : String) (hkd : k = "list" ∨ k = "tuple") (l : Addr) (xs : Array Value) (n : Nat) (b : Addr) (ys : Array Value) (n2 : Nat) (dd : Option Addr) (sl : Array (Option Value)) (h0 : ¬(!xs.isEmpty && Builtin.List.listTooLong (xs.size + ys.size)) = true) (h1 : xs.size ≤ sizeLine) (h2 : xs.size + ys.size ≤ sizeLine + 1) :
    Meets (Builtin.«list.extend» ⟨[.ref l, .ref b], []⟩) (fun _ R s => s.heap.get? l = some { cls := .type "list", data := .seq xs n } ∧ s.heap.get? b = some ⟨.type k, dd, .seq ys n2, sl⟩ ∧ R (.ok (.ret Value.none)) { s with heap := s.heap.update l (Obj.mapSeq fun x => x ++ ys), toks := s.toks }) :=
  .of_wp fun prog w A R s h => by
    obtain ⟨hp, g, d, tk, os⟩ := s
    obtain ⟨hl, hb, h⟩ := h
    have f1 := idx_int
    have f2 := AutoSeq1.sub_tuple_tuple
    have f3 := AutoSeq1.sub_list_list
    have f4 := AutoSeq1.sub_tuple_list
    have f5 := AutoSeq1.sub_list_tuple
    have hz' : (xs ++ ys).size ≤ sizeLine + 1 := by rw [Array.size_append]; exact h2
    rcases hkd with rfl | rfl <;> (wp_walk using (wpAny_updateSeq hl rfl (hz := h1) (_hz' := hz')), wpAny_loadPart' hl, wpAny_loadPart' hb; exact ⟨_, rfl, h⟩)
end CwX
namespace L2
open PySem PySem.Spec PyProof.Rows
def rExtA (K : PySem.W.Frag) : V → List V → Hp → VK → Prop := fun x vs H Q => ∃ l b xs zs, x = .ref l ∧ vs = [.ref b] ∧ H l = some (.lst xs) ∧ SqA K H b zs ∧ xs.length + zs.length ≤ sizeLine ∧ Q .non (upd H l (.lst (xs ++ zs)))
theorem mt_extendA {X : Cx} : MtM X "list.extend" (rExtA X.K) := by
  intro pins s σ H x vs v us Q I rx rv h
  obtain ⟨l, b, xs, zs, rfl, rfl, hH, hB, hz, q⟩ := h
  cases rx
  obtain ⟨u, rfl, ru⟩ := rv.one
  cases ru
  obtain ⟨z, its, n, r, hl, e⟩ := I.lstM hH
  obtain ⟨k, hk, its2, r2, n2, dd, sl, e2⟩ : ∃ k, (k = "list" ∨ k = "tuple") ∧ ∃ its2 : List Value, Vals zs its2 ∧ ∃ n2 dd sl, s.heap.get? b = some ⟨.type k, dd, .seq its2.toArray n2, sl⟩ := by
    rcases hB with hB | hB
    · obtain ⟨its2, r2, ⟨o, n2, ho, hc, _, hd⟩, _⟩ := I.list hB
      obtain ⟨c, dd, da, sl⟩ := o
      cases hc
      cases hd
      exact ⟨_, .inl rfl, its2, r2, n2, dd, sl, ho⟩
    · obtain ⟨its2, r2, ⟨o, ho, hc, n2, hd⟩, _⟩ := I.tuple hB
      obtain ⟨c, dd, da, sl⟩ := o
      cases hc
      cases hd
      exact ⟨_, .inr rfl, its2, r2, n2, dd, sl, ho⟩
  have hl2 := r2.length
  have hsz : its.toArray.size + its2.toArray.size ≤ sizeLine := by rw [List.size_toArray, List.size_toArray]; omega
  have hlong : ¬ (!its.toArray.isEmpty && Builtin.List.listTooLong (its.toArray.size + its2.toArray.size)) = true := by
    rw [notLongL hsz, Bool.and_false]
    exact Bool.false_ne_true
  refine call_meets F.slot_list_extend ⟨_, e, rfl⟩ F.entry_list_extend (F.args_list_extend_2 _ _)
    (CwX.ext_any k hk l its.toArray n b its2.toArray n2 dd sl hlong (by rw [List.size_toArray]; omega) (by omega)) ⟨e, e2, ?_⟩
  refine ⟨.non, _, I.lset (its' := its ++ its2) hH e (by simp) (r.append r2) ?_, rfl, q⟩
  rw [List.length_append]
  omega
end L2

set_option Elab.async false
set_option linter.all false
set_option maxRecDepth 100000
set_option maxHeartbeats 4000000
namespace Cw
open PySem PySem.Spec PyProof.Rows L2
def partOf (p : Str × PyData) : List PyData := (if p.1 = "part" then [p.2] else []) ++ (if isOneOf ["values", "arguments"] (.str p.1) = true then items p.2 else [])
def partsL (z : Str) (r : List PyData) : List PyData := match kindsOf z with
  | none => []
  | some ks => (ks.zip r).flatMap partOf
def partsOf (d : PyData) : List PyData := match items d with
  | .str z :: r => partsL z r
  | _ => []
def spForm (K : PySem.W.Frag) : Sp := fun vs H Q _ => ∃ x d H0, vs = [x] ∧ Same H0 H ∧ Dp K H0 x d ∧ Ok d ∧ (hasForm d = false → ∀ H', Same H H' → Q .non H') ∧ (hasForm d = true → ∀ H' L ys, Same H H' → H' L = some (.lst ys) → H L = none → DpAll K H0 ys (partsOf d) → Q (.ref L) H')
theorem asgA {te : TE} {g : TG} {D : Ends} {σ : L2.St} {H : Hp} (h : te σ H fun x H1 => g x σ H1 D.nx) : tAsg te g D σ H := h
theorem kinds_six {z : Str} {ks : List Str} (h : kindsOf z = some ks) {k : Str} (m : k ∈ ks) (n : k ≠ "part") : Kind6 k := by
  unfold kindsOf at h
  unfold Kind6
  repeat' split at h
  all_goals (first | (cases h; done) | (cases h; first | (simp [n] at m; done) | (simp [n] at m; rcases m with rfl | rfl <;> simp; done) | (simp [n] at m; subst m; simp; done) | (simp [n] at m; done)))
theorem nameA {i : Nat} {v : V} {σ : L2.St} {H : Hp} {Q : L2.St → Hp → Prop} (h : Q (σ.set i (some v)) H) : gName i v σ H Q := h
theorem seqA {t u : TS} {D : Ends} {σ : L2.St} {H : Hp} (h : t { D with nx := u D } σ H) : tSeq t u D σ H := h
theorem dps_app {K : PySem.W.Frag} {H : Hp} : ∀ {xs ys : List V} {ds es : List PyData}, DpAll K H xs ds → DpAll K H ys es → DpAll K H (xs ++ ys) (ds ++ es)
  | _, _, _, _, .nil, h => h
  | _, _, _, _, .cons h t, g => .cons h (dps_app t g)
theorem kinds_len {z : Str} {ks : List Str} (h : kindsOf z = some ks) : ks.length ≤ 3 := by
  unfold kindsOf at h
  repeat' split at h
  all_goals (cases h <;> decide)
theorem form_of {d : PyData} (h : hasForm d = true) : ∃ z r ks, items d = .str z :: r ∧ kindsOf z = some ks ∧ r.length = ks.length ∧ ∀ (i : Nat) (h1 : i < ks.length) (h2 : i < r.length), isMember ks[i] r[i] = true := by
  unfold hasForm at h
  split at h
  · rename_i z r ei
    cases ek : kindsOf z with
    | none => rw [formL, ek] at h; cases h
    | some ks =>
      rw [show formL z r = (decide (r.length = ks.length) && (ks.zip r).all fun p => isMember p.1 p.2) by rw [formL, ek]] at h
      obtain ⟨h1, h2⟩ := Bool.and_eq_true_iff.mp h
      refine ⟨z, r, ks, ei, ek, of_decide_eq_true h1, fun i g1 g2 => ?_⟩
      have := List.all_eq_true.mp h2 (ks[i], r[i]) (by rw [List.mem_iff_getElem]; exact ⟨i, by rw [List.length_zip]; omega, by rw [List.getElem_zip]⟩)
      exact this
  · cases h
theorem seq_le {lo hi lo' hi' : Int} {d : PyData} (h : isSeq lo hi d = true) (h2 : hi ≤ hi') (h1 : lo' ≤ lo) : isSeq lo' hi' d = true := by
  cases d with
  | list l =>
    obtain ⟨a, b⟩ := Bool.and_eq_true_iff.mp h
    exact Bool.and_eq_true_iff.mpr ⟨decide_eq_true (Int.le_trans h1 (of_decide_eq_true a)), decide_eq_true (Int.le_trans (of_decide_eq_true b) h2)⟩
  | tuple l =>
    obtain ⟨a, b⟩ := Bool.and_eq_true_iff.mp h
    exact Bool.and_eq_true_iff.mpr ⟨decide_eq_true (Int.le_trans h1 (of_decide_eq_true a)), decide_eq_true (Int.le_trans (of_decide_eq_true b) h2)⟩
  | _ => cases h
theorem seq_most {lo : Int} {n : Nat} {d : PyData} (h : isSeq lo (n : Int) d = true) : (items d).length ≤ n := by
  cases d with
  | list l =>
    have := of_decide_eq_true (Bool.and_eq_true_iff.mp h).2
    show l.length ≤ n
    omega
  | tuple l =>
    have := of_decide_eq_true (Bool.and_eq_true_iff.mp h).2
    show l.length ≤ n
    omega
  | _ => cases h
theorem mem_seq {k : Str} {d : PyData} (h : isMember k d = true) (e : isOneOf ["values", "arguments"] (.str k) = true) : ∃ lo, isSeq lo 12 d = true := by
  have e' : ("values" : Str) = k ∨ ("arguments" : Str) = k := by
    have e3 : ((["values", "arguments"] : List Str).any fun y => y == k) = true := e
    simpa [List.any_cons] using e3
  rcases e' with rfl | rfl
  · exact ⟨0, h⟩
  · exact ⟨1, seq_le (lo := 1) (hi := 3) h (by decide) (by decide)⟩
section
variable {P : Program} {w : World} {K : PySem.W.Frag} {mg : Str → Option Value} {base : Heap} {S : Addr → Option Sp}
abbrev s_form_parts : Stmt := topS 25
theorem sc_form_parts : FnScope ["value", "word", "kinds", "parts", "kind", "member"] ["value"] (defScope s_form_parts) := ⟨rfl, rfl, rfl, by decide +kernel, rfl, by decide +kernel, by decide +kernel⟩
theorem ok_form_parts {f : Addr} {fd : FuncData} (F : Fun K "form_parts" "form_parts" s_form_parts f fd) {f_is_member : Addr} {d_is_member : FuncData} (h_is_member : Hd K mg "is_member" s_is_member ["kind", "value"] f_is_member d_is_member) (G_is_member : FnOk P w K mg base CX0 4 f_is_member d_is_member ["kind", "value"] (spMember K)) {a_FORMS : Addr} {u_FORMS : Value} (h_FORMS : Cst K mg "FORMS" (.ref a_FORMS) u_FORMS) (t_FORMS : Forms K w a_FORMS) {a_ROWS : Addr} {u_ROWS : Value} (h_ROWS : Cst K mg "ROWS" (.ref a_ROWS) u_ROWS) (t_ROWS : ∀ H : Hp, SqT K H a_ROWS (((["values", "arguments"] : List Str)).map V.str)) (m_isinstance : mg "isinstance" = none) (m_list : mg "list" = none) (m_tuple : mg "tuple" = none) (m_len : mg "len" = none) (m_str : mg "str" = none) (m_zip : mg "zip" = none) : FnOk P w K mg base CX0 5 f fd ["value"] (spForm K) := by
  refine F.ok sc_form_parts (fun vs H Q E h => ?_) (fun cdv A outer s H vs Q E hr h => ?_)
  · obtain ⟨_, _, _, rfl, _⟩ := h
    rfl
  · obtain ⟨x, d, H0, rfl, s0, hx0, hok, qF, qT⟩ := h
    obtain ⟨es, n, D_FORMS, tf⟩ := t_FORMS
    refine ⟨_, (pss_cons (ps_if (PW.pt (pw_or (pt_not (pt_val (pe_callB call_isiT (by rfl) m_isinstance (by decide +kernel) (pa_cons (pv 0) (pa_cons (pe_tup (pa_cons (pe_bltn (v := .ty "list") (by rfl) m_list (by decide +kernel) rfl) (pa_cons (pe_bltn (v := .ty "tuple") (by rfl) m_tuple (by decide +kernel) rfl) pa_nil))) pa_nil))))) (pw_or1 (pt_cmpR op_eq (pe_callB call_len_seq (by rfl) m_len PySem.boot_len (pa_cons (pv 0) pa_nil)) pe_int (nomark _))))) (pss_one (ps_ret pe_non)) pss_nil)
  (pss_cons (ps_set (i := 1) sc_form_parts.nd rfl (.inl rfl) (pe_ix ix_seq (pv 0) pe_int (fun _ _ => rfl)))
  (pss_cons (ps_if (PW.pt (pw_or (pt_not (pt_val (pe_callB call_isi (by rfl) m_isinstance (by decide +kernel) (pa_cons (pv 1) (pa_cons (pe_bltn (v := .ty "str") (by rfl) m_str (by decide +kernel) rfl) pa_nil))))) (pw_or1 (pt_cmpR (op_notIn_kd D_FORMS) (pv 1) (pe_glob (v := .ref a_FORMS) rfl h_FORMS.g h_FORMS.r) (by rfl))))) (pss_one (ps_ret pe_non)) pss_nil)
  (pss_cons (ps_set (i := 2) sc_form_parts.nd rfl (.inl rfl) (pe_ix ix_kdict (pe_glob (v := .ref a_FORMS) rfl h_FORMS.g h_FORMS.r) (pv 1) (fun _ _ => rfl)))
  (pss_cons (ps_if (pt_cmpR op_ne (pe_callB call_len_seq (by rfl) m_len PySem.boot_len (pa_cons (pv 0) pa_nil)) (pe_op op_add pe_int (pe_callB call_len_seq (by rfl) m_len PySem.boot_len (pa_cons (pv 2) pa_nil))) (nomark _)) (pss_one (ps_ret pe_non)) pss_nil)
  (pss_cons (ps_set (i := 3) sc_form_parts.nd rfl (.inl rfl) (pe_lst pa_nil))
  (pss_cons (ps_for PassesOwn.never rfl (pi_zipM rfl m_zip (pa_cons (pv 2) (pa_cons (pe_slice sl_seqA (pv 0) (po_some pe_int) po_none) pa_nil))) (pg_tup (n := 2) (by rfl) (pgs_cons (pg_name (i := 4) sc_form_parts.nd rfl (.inl rfl)) (pgs_cons (pg_name (i := 5) sc_form_parts.nd rfl (.inl rfl)) pgs_nil))) (pss_one (ps_if (pt_cmpR op_eq (pv 4) pe_str (nomark _)) (pss_one (ps_expr (pe_bm PySem.F.plainAttrs_list PySem.F.slot_list_append PySem.F.type_list_append mt_append (pv 3) (pa_cons (pv 5) pa_nil)))) (pss_one (ps_if (pt_not (pt_val (pe_call G_is_member (hr.mono (by decide)) (by rfl) h_is_member.g h_is_member.F.kp h_is_member.b .nil pass0 (pa_cons (pv 4) (pa_cons (pv 5) pa_nil))))) (pss_one (ps_ret pe_non)) (pss_one (ps_if (pt_cmpR (op_inSt (hu_of hr)) (pv 4) (pe_glob (v := .ref a_ROWS) rfl h_ROWS.g h_ROWS.r) (by rfl)) (pss_one (ps_expr (pe_bm PySem.F.plainAttrs_list PySem.F.slot_list_extend PySem.F.type_list_extend mt_extendA (pv 3) (pa_cons (pv 5) pa_nil)))) pss_nil)))))))
  (pss_one (ps_ret (pv 3)))))))))), ?_⟩
    have hx := dp_keep s0 hx0
    refine ⟨x, rfl, by show 2 ≤ sizeLine; decide, fun tp ntp => ?_⟩
    have s1 := same_upd (o := .tup [.ty "list", .ty "tuple"]) ntp
    have hx1 := dp_keep s1 hx
    have s01 := s0.trans s1
    have qF := fun e H' s' => qF e H' (s1.trans s')
    have qT := fun e H' L ys s' h1 h2 => qT e H' L ys (s1.trans s') h1 h2
    have hn1 : ∀ p, upd H tp (.tup [.ty "list", .ty "tuple"]) p = none → H p = none := fun p e => by
      cases e2 : H p with
      | none => rfl
      | some o => rw [s1 _ _ e2] at e; cases e
    have qT : hasForm d = true → ∀ H' L ys, Same (upd H tp (.tup [.ty "list", .ty "tuple"])) H' → H' L = some (.lst ys) → upd H tp (.tup [.ty "list", .ty "tuple"]) L = none → DpAll K H0 ys (partsOf d) → Q (.ref L) H' := fun e H' L ys s' h1 h2 h3 => qT e H' L ys s' h1 (hn1 L h2) h3
    refine ⟨x, tp, [.ty "list", .ty "tuple"], _, [.type "list", .type "tuple"], isSq d, rfl, upd_same, .cons (.ty _) (.cons (.ty _) .nil), ty_dp hx1, kb_sq d, _, rfl, ?_⟩
    clear hn1
    revert hx1 qF qT s01
    clear s1
    generalize upd H tp (.tup [.ty "list", .ty "tuple"]) = H1
    intro hx1 s01 qF qT
    have no : hasForm d = false → Q .non H1 := fun e => qF e H1 (Same.refl H1)
    rcases sq_split hx0 with ⟨e, e2⟩ | ⟨a, xs, rfl, hq0, hd0, e⟩
    · rw [e]
      exact iteT (iteT (no (by rw [hasForm, e2])))
    rw [e]
    have hq := hq0.keep s01
    have hd := dps_keep s01 hd0
    have hl := (dp_get hd).1
    refine iteF ⟨.ref a, rfl, a, xs, rfl, hq, rfl, _, rfl, ite2 (fun e3 => ?_) (fun e3 => ?_)⟩
    · have e4 := V.int.inj (of_decide_eq_true e3)
      have e5 : items d = [] := List.length_eq_zero_iff.mp (by omega)
      exact no (by rw [hasForm, e5])
    obtain ⟨d0, r, ei⟩ : ∃ d0 r, items d = d0 :: r := by
      cases ei : items d with
      | nil =>
        rw [ei] at hl
        exact absurd (decide_eq_true (by rw [hl]; rfl)) e3
      | cons d0 r => exact ⟨d0, r, rfl⟩
    rw [ei] at hd0
    clear hd
    rcases hd0 with _ | ⟨k00, kr0⟩
    rename_i x0 xr
    have k0 := dp_keep s01 k00
    have kr := dps_keep s01 kr0
    clear k00
    have o0 : Ok d0 := ok_mem hok (by rw [ei]; exact List.mem_cons_self)
    have or' : ∀ z, z ∈ r → Ok z := fun z m => ok_mem hok (by rw [ei]; exact List.mem_cons_of_mem _ m)
    refine ⟨.ref a, rfl, ixA hq (atI_nat (j := 0) rfl) ?_⟩
    refine r_isi rfl k0 (kb_st d0) ?_
    cases k0 with
    | str z =>
      have ef : hasForm d = formL z r := by rw [hasForm, ei]
      rw [ef] at qT qF no
      cases ek : kindsOf z with
      | none =>
        refine iteF ⟨.str z, rfl, z, none, rfl, rfl, (tf z).1 ek, _, rfl, iteT ?_⟩
        exact no (by rw [formL, ek])
      | some ks =>
        have efl : formL z r = (decide (r.length = ks.length) && (ks.zip r).all fun p => isMember p.1 p.2) := by rw [formL, ek]
        obtain ⟨p, ep, hp⟩ := (tf z).2 ks ek
        refine iteF ⟨.str z, rfl, z, some (.ref p), rfl, rfl, ep, _, rfl, iteF ?_⟩
        refine ⟨.str z, rfl, a_FORMS, z, .ref p, rfl, rfl, ⟨es, n, .ref p, D_FORMS.at_, D_FORMS.lit, ep, rfl⟩, ?_⟩
        refine ⟨.ref a, rfl, a, _, rfl, hq, .ref p, rfl, p, _, rfl, .inr (hp H1), 1, _, rfl, rfl, rfl, _, rfl, ite2 (fun e4 => ?_) (fun e4 => ?_)⟩
        · have ne : r.length ≠ ks.length := fun g => by
            have hlr := (dp_get kr).1
            have : decide (V.int ((V.str z :: xr).length : Int) = V.int (1 + ((ks.map V.str).length : Int))) = true := decide_eq_true (by rw [List.length_cons, List.length_map, hlr, g]; congr 1; omega)
            rw [this] at e4
            cases e4
          exact no (by rw [efl, decide_eq_false ne, Bool.false_and])
        · have hlr := (dp_get kr).1
          have el : r.length = ks.length := by
            have e5 : decide (V.int ((V.str z :: xr).length : Int) = V.int (1 + ((ks.map V.str).length : Int))) = true := by
              cases e6 : decide (V.int ((V.str z :: xr).length : Int) = V.int (1 + ((ks.map V.str).length : Int))) with
              | true => rfl
              | false => exact absurd (by rw [e6]; rfl) e4
            have e7 := V.int.inj (of_decide_eq_true e5)
            rw [List.length_cons, List.length_map] at e7
            omega
          have e5 : formL z r = (ks.zip r).all fun p => isMember p.1 p.2 := by
            rw [efl, decide_eq_true el, Bool.true_and]
          have hz : (ks.zip r).length = ks.length := by rw [List.length_zip, el, Nat.min_self]
          have ep' : partsOf d = (ks.zip r).flatMap partOf := by rw [partsOf, ei]; show partsL z r = _; rw [partsL, ek]
          have hk3 := kinds_len ek
          refine nextA ?_
          dsimp only
          refine seqA ?_
          refine asgA ?_
          refine ⟨by show 0 ≤ sizeLine; decide, fun L hL => ?_⟩
          have hq : SqA K (upd H1 L (.lst [])) a (V.str z :: xr) := hq.keep (same_upd hL)
          refine nameA ?_
          dsimp only
          refine seqA ?_
          refine for_zipM (L := L) upd_same hp (xs := ks.map V.str) (ys := xr) (by rw [List.length_map]; omega) (fun R h => ?_)
            (fun H2 i σ' H' => (∃ u v, σ' = [some (.ref a), some (.str z), some (.ref p), some (.ref L), u, v]) ∧ (∃ acc, H' L = some (.lst acc) ∧ DpAll K H0 acc (((ks.zip r).take i).flatMap partOf) ∧ acc.length ≤ 13 * i) ∧ (∀ (j : Nat) (h1 : j < ks.length) (h2 : j < r.length), j < i → isMember ks[j] r[j] = true) ∧ ∀ b o, b ≠ L → H2 b = some o → H' b = some o) ?_ (fun H2 i σ' H' p => p.2.2.2) ?_ ?_
          · exact ⟨.ref p, rfl, .ref a, rfl, 1, rfl, sl_tail hq (by simp) (fun b H3 fb s2 hb => h b H3 fb s2 hb)⟩
          · exact fun H2 s2 => ⟨⟨none, none, rfl⟩, ⟨[], s2 _ _ upd_same, .nil, Nat.zero_le _⟩, fun j _ _ g => absurd g (Nat.not_lt_zero _), fun b o _ e => e⟩
          · rintro H2 i x y T σ' H3 s2 hx3 hy3 ⟨⟨u, v, rfl⟩, ⟨acc, hacc, hda, hla⟩, hmem, hsm⟩ hT
            have hi : i < ks.length := by
              have := (List.getElem?_eq_some_iff.mp hx3).1
              rw [List.length_map] at this
              exact this
            have hir : i < r.length := by omega
            rw [List.getElem?_map, List.getElem?_eq_getElem hi] at hx3
            obtain rfl := Option.some.inj hx3
            obtain ⟨y', hy1, hy2⟩ := (dp_get kr0).2 i r[i] (List.getElem?_eq_getElem hir)
            obtain rfl : y' = y := Option.some.inj (hy1.symm.trans hy3)
            have hTL : T ≠ L := fun k => by rw [k, hacc] at hT; cases hT
            have hLT : L ≠ T := fun k => hTL k.symm
            refine ⟨T, [.str ks[i], y'], rfl, .inl (.inl upd_same), rfl, ?_⟩
            refine ⟨_, _, rfl, _, _, rfl, rfl, ?_⟩
            have hL4 : upd H3 T (.tup [.str ks[i], y']) L = some (.lst acc) := by rw [upd_ne hLT]; exact hacc
            have stp : ((ks.zip r).take (i + 1)).flatMap partOf = ((ks.zip r).take i).flatMap partOf ++ partOf (ks[i], r[i]) := by
              rw [List.take_add_one, List.getElem?_eq_getElem (by rw [List.length_zip]; omega), List.flatMap_append, List.getElem_zip]
              simp
            have sm4 : ∀ b o, b ≠ L → H2 b = some o → upd H3 T (.tup [.str ks[i], y']) b = some o := fun b o hb e => same_upd hT _ _ (hsm b o hb e)
            generalize upd H3 T (.tup [.str ks[i], y']) = H4 at hL4 sm4
            have sm1 : Same H1 H4 := fun b o e => sm4 b o (fun k => by rw [k, hL] at e; cases e) (s2 _ _ (same_upd hL _ _ e))
            have mem1 : isMember ks[i] r[i] = true → ∀ (j : Nat) (h1 : j < ks.length) (h2 : j < r.length), j < i + 1 → isMember ks[j] r[j] = true := fun g j h1 h2 h3 => by
              by_cases e : j = i
              · subst e; exact g
              · exact hmem j h1 h2 (by omega)
            refine ⟨.str ks[i], rfl, rfl, _, rfl, ite2 (fun e1 => ?_) (fun e1 => ?_)⟩
            · have ek1 : ks[i] = "part" := str_of e1
              have ep1 : partOf (ks[i], r[i]) = [r[i]] := by rw [partOf, ek1]; rfl
              rw [ep1] at stp
              refine ⟨.ref L, rfl, .inl ⟨rfl, _, SqL.of hL4⟩, y', rfl, L, acc, y', rfl, rfl, hL4, Nat.lt_of_le_of_lt (show acc.length ≤ 60 by omega) (by decide), ?_⟩
              exact ⟨⟨_, _, rfl⟩, ⟨acc ++ [y'], upd_same, by rw [stp]; exact dps_app hda (.cons hy2 .nil), by rw [List.length_append, List.length_singleton]; omega⟩, mem1 (by rw [ek1]; rfl), fun b o hb e => by rw [upd_ne hb]; exact sm4 b o hb e⟩
            · have ek1 : ks[i] ≠ "part" := fun k => e1 (str_to k)
              have k6 := kinds_six ek (List.getElem_mem hi) ek1
              refine ⟨.str ks[i], rfl, y', rfl, ks[i], y', r[i], rfl, dp_keep (s01.trans sm1) hy2, or' _ (List.getElem_mem hir), k6, fun H5 s5 => ⟨_, rfl, ite2 (fun e6 => ?_) (fun e6 => ?_)⟩⟩
              · have e7 : isMember ks[i] r[i] = false := by
                  cases e8 : isMember ks[i] r[i] with
                  | false => rfl
                  | true => rw [e8] at e6; cases e6
                refine qF ?_ H5 (sm1.trans s5)
                rw [e5, Bool.eq_false_iff]
                intro g
                have g2 := List.all_eq_true.mp g (ks[i], r[i]) (by rw [List.mem_iff_getElem]; exact ⟨i, by rw [List.length_zip]; omega, by rw [List.getElem_zip]⟩)
                exact absurd (g2.symm.trans e7) (by decide)
              · have e7 : isMember ks[i] r[i] = true := by
                  cases e8 : isMember ks[i] r[i] with
                  | true => rfl
                  | false => exact absurd (by rw [e8]; rfl) e6
                refine ⟨.str ks[i], rfl, .str ks[i], a_ROWS, ["values", "arguments"], .str ks[i], rfl, t_ROWS H5, _, rfl, ite2 (fun e2 => ?_) (fun e2 => ?_)⟩
                · have ep1 : partOf (ks[i], r[i]) = items r[i] := by rw [partOf, if_neg ek1, if_pos e2]; rfl
                  rw [ep1] at stp
                  obtain ⟨lo, em⟩ : ∃ lo, isSeq lo 12 r[i] = true := mem_seq e7 e2
                  obtain ⟨b, zs, rfl, hqb, hdb, hlb, _⟩ := seq_of hy2 (or' _ (List.getElem_mem hir)) em
                  have hb12 : zs.length ≤ 12 := by rw [hlb]; exact seq_most em
                  have hL5 := s5 _ _ hL4
                  refine ⟨.ref L, rfl, .inl ⟨rfl, _, SqL.of hL5⟩, .ref b, rfl, L, b, acc, zs, rfl, rfl, hL5, seqA_at (fun o e0 => s5 _ _ (sm1 _ _ (s01 _ _ e0))) hqb, Nat.le_trans (by show acc.length + zs.length ≤ 60; omega) (by decide), ?_⟩
                  exact ⟨⟨_, _, rfl⟩, ⟨acc ++ zs, upd_same, by rw [stp]; exact dps_app hda hdb, by rw [List.length_append]; omega⟩, mem1 e7, fun b o hb e => by rw [upd_ne hb]; exact s5 _ _ (sm4 b o hb e)⟩
                · have ep1 : partOf (ks[i], r[i]) = [] := by rw [partOf, if_neg ek1, if_neg e2]; rfl
                  rw [ep1, List.append_nil] at stp
                  exact ⟨⟨_, _, rfl⟩, ⟨acc, s5 _ _ hL4, by rw [stp]; exact hda, by omega⟩, mem1 e7, fun b o hb e => s5 _ _ (sm4 b o hb e)⟩
          · rintro H2 σ' H3 s2 ⟨⟨u, v, rfl⟩, ⟨acc, hacc, hda, hla⟩, hmem, hsm⟩
            rw [List.take_of_length_le (by rw [List.length_map, List.length_zip]; omega), ← ep'] at hda
            have s3 : Same H1 H3 := fun b o e => hsm b o (fun k => by rw [k, hL] at e; cases e) (s2 _ _ (same_upd hL _ _ e))
            refine ⟨.ref L, rfl, qT ?_ H3 L acc s3 hacc hL hda⟩
            rw [e5, List.all_eq_true]
            intro pr m
            obtain ⟨j, hj, rfl⟩ := List.mem_iff_getElem.mp m
            rw [List.length_zip] at hj
            rw [List.getElem_zip]
            exact hmem j (by omega) (by omega) (by rw [List.length_map]; omega)
    | bl b => exact iteT (iteT (no (by rw [hasForm, ei])))
    | non => exact iteT (iteT (no (by rw [hasForm, ei])))
    | int z => exact iteT (iteT (no (by rw [hasForm, ei])))
    | lst h1 h2 => exact iteT (iteT (no (by rw [hasForm, ei])))
    | tup h1 h2 => exact iteT (iteT (no (by rw [hasForm, ei])))
end
end Cw

set_option Elab.async false
set_option linter.all false
set_option maxRecDepth 100000
set_option maxHeartbeats 4000000
namespace Cw
open PySem PySem.Spec PyProof.Rows L2
theorem flat_len {α β : Type} {f : α → List β} {n : Nat} : ∀ {l : List α}, (∀ x, x ∈ l → (f x).length ≤ n) → (l.flatMap f).length ≤ n * l.length
  | [], _ => Nat.zero_le _
  | x :: l, h => by
    rw [List.flatMap_cons, List.length_append, List.length_cons, Nat.mul_succ]
    have h1 := h x List.mem_cons_self
    have h2 := flat_len (l := l) fun y m => h y (List.mem_cons_of_mem _ m)
    omega
theorem partOf_len {k : Str} {d : PyData} (h : isMember k d = true) : (partOf (k, d)).length ≤ 13 := by
  unfold partOf
  rw [List.length_append]
  by_cases e : isOneOf ["values", "arguments"] (.str k) = true
  · obtain ⟨lo, em⟩ := mem_seq h e
    have : (items d).length ≤ 12 := seq_most (n := 12) em
    rw [if_pos e]
    by_cases e2 : k = "part"
    · rw [if_pos e2, List.length_singleton]; show 1 + (items d).length ≤ 13; omega
    · rw [if_neg e2, List.length_nil]; show 0 + (items d).length ≤ 13; omega
  · rw [if_neg e]
    by_cases e2 : k = "part"
    · rw [if_pos e2]; show 1 + 0 ≤ 13; omega
    · rw [if_neg e2]; show 0 + 0 ≤ 13; omega
theorem form_parts {d : PyData} (h : hasForm d = true) : ∃ z r ks, items d = .str z :: r ∧ kindsOf z = some ks ∧ partsOf d = (ks.zip r).flatMap partOf ∧ ∀ p, p ∈ ks.zip r → isMember p.1 p.2 = true := by
  obtain ⟨z, r, ks, ei, ek, el, hm⟩ := form_of h
  refine ⟨z, r, ks, ei, ek, by rw [partsOf, ei]; show partsL z r = _; rw [partsL, ek], fun p m => ?_⟩
  obtain ⟨i, hi, rfl⟩ := List.mem_iff_getElem.mp m
  rw [List.length_zip] at hi
  rw [List.getElem_zip]
  exact hm i (by omega) (by omega)
theorem parts_len {d : PyData} (h : hasForm d = true) : (partsOf d).length ≤ 39 := by
  obtain ⟨z, r, ks, ei, ek, ep, hm⟩ := form_parts h
  have h3 := kinds_len ek
  rw [ep]
  refine Nat.le_trans (flat_len (n := 13) fun p m => partOf_len (hm p m)) ?_
  rw [List.length_zip]
  omega
theorem part_ok {k : Str} {d z : PyData} (h : Ok d) (m : z ∈ partOf (k, d)) : Ok z := by
  unfold partOf at m
  rcases List.mem_append.mp m with m | m
  · by_cases e2 : k = "part"
    · rw [if_pos e2] at m
      obtain rfl := List.mem_singleton.mp m
      exact h
    · rw [if_neg e2] at m; cases m
  · by_cases e : isOneOf ["values", "arguments"] (.str k) = true
    · rw [if_pos e] at m; exact ok_mem h m
    · rw [if_neg e] at m; cases m
theorem parts_ok {d z : PyData} (h : hasForm d = true) (o : Ok d) (m : z ∈ partsOf d) : Ok z := by
  obtain ⟨y, r, ks, ei, ek, ep, hm⟩ := form_parts h
  rw [ep] at m
  obtain ⟨p, hp, hz⟩ := List.mem_flatMap.mp m
  exact part_ok (ok_mem o (by rw [ei]; exact List.mem_cons_of_mem _ (List.of_mem_zip hp).2)) hz
theorem dps_take {K : PySem.W.Frag} {H : Hp} : ∀ {xs : List V} {ds : List PyData} (n : Nat), DpAll K H xs ds → DpAll K H (xs.take n) (ds.take n)
  | _, _, 0, _ => .nil
  | _, _, n + 1, .nil => .nil
  | _, _, n + 1, .cons h t => .cons h (dps_take n t)
end Cw

set_option Elab.async false
set_option linter.all false
set_option maxRecDepth 100000
set_option maxHeartbeats 4000000
namespace Cw
open PySem PySem.Spec PyProof.Rows L2
def exprL : Nat → Nat → List PyData → Bool
  | 0, _, row => decide (row.length = 0)
  | n + 1, c, row => decide (c + row.length ≤ 60) && (row.all hasForm && exprL n (c + row.length) (row.flatMap partsOf))
def isExpr (d : PyData) : Bool := exprL 7 0 [d]
section
variable {P : Program} {w : World} {K : PySem.W.Frag} {mg : Str → Option Value} {base : Heap} {S : Addr → Option Sp}
abbrev s_is_expression : Stmt := topS 24
theorem sc_is_expression : FnScope ["value", "row", "count", "_", "parts", "one", "found"] ["value"] (defScope s_is_expression) := ⟨rfl, rfl, rfl, by decide +kernel, rfl, by decide +kernel, by decide +kernel⟩
theorem ok_is_expression {f : Addr} {fd : FuncData} (F : Fun K "is_expression" "is_expression" s_is_expression f fd) {f_form_parts : Addr} {d_form_parts : FuncData} (h_form_parts : Hd K mg "form_parts" s_form_parts ["value"] f_form_parts d_form_parts) (G_form_parts : FnOk P w K mg base CX0 5 f_form_parts d_form_parts ["value"] (spForm K)) {u_MOST_LEVELS : Value} (h_MOST_LEVELS : Cst K mg "MOST_LEVELS" (.int 7) u_MOST_LEVELS) {u_MOST_EXPRESSIONS : Value} (h_MOST_EXPRESSIONS : Cst K mg "MOST_EXPRESSIONS" (.int 60) u_MOST_EXPRESSIONS) (m_range : mg "range" = none) (m_len : mg "len" = none) : FnOk P w K mg base CX0 6 f fd ["value"] (sp1 K isExpr) := by
  refine F.ok sc_is_expression (fun vs H Q E h => ?_) (fun cdv A outer s H vs Q E hr h => ?_)
  · obtain ⟨_, _, rfl, _⟩ := h
    rfl
  · obtain ⟨x, d, rfl, hx, hok, q⟩ := h
    refine ⟨_, (pss_cons (ps_set (i := 1) sc_is_expression.nd rfl (.inl rfl) (pe_lst (pa_cons (pv 0) pa_nil)))
  (pss_cons (ps_set (i := 2) sc_is_expression.nd rfl (.inl rfl) pe_int)
  (pss_cons (ps_for PassesOwn.never rfl (pi_range1 rfl m_range (pa_cons (pe_glob (v := .int 7) rfl h_MOST_LEVELS.g h_MOST_LEVELS.r) pa_nil)) (pg_name (i := 3) sc_is_expression.nd rfl (.inl rfl)) (pss_cons (ps_set (i := 2) sc_is_expression.nd rfl (.inl rfl) (pe_op op_add (pv 2) (pe_callB call_len_seq (by rfl) m_len PySem.boot_len (pa_cons (pv 1) pa_nil))))
  (pss_cons (ps_if (pt_cmpR op_gt (pv 2) (pe_glob (v := .int 60) rfl h_MOST_EXPRESSIONS.g h_MOST_EXPRESSIONS.r) (nomark _)) (pss_one (ps_ret pe_bl)) pss_nil)
  (pss_cons (ps_set (i := 4) sc_is_expression.nd rfl (.inl rfl) (pe_lst pa_nil))
  (pss_cons (ps_for PassesOwn.never rfl (pi_list (pv 1)) (pg_name (i := 5) sc_is_expression.nd rfl (.inl rfl)) (pss_cons (ps_set (i := 6) sc_is_expression.nd rfl (.inl rfl) (pe_call G_form_parts (hr.mono (by decide)) (by rfl) h_form_parts.g h_form_parts.F.kp h_form_parts.b .nil pass0 (pa_cons (pv 5) pa_nil)))
  (pss_cons (ps_if (pt_cmpR op_isN (pv 6) pe_non (nomark _)) (pss_one (ps_ret pe_bl)) pss_nil)
  (pss_one (ps_expr (pe_bm PySem.F.plainAttrs_list PySem.F.slot_list_extend PySem.F.type_list_extend mt_extendA (pv 4) (pa_cons (pv 6) pa_nil)))))))
  (pss_one (ps_set (i := 1) sc_is_expression.nd rfl (.inl rfl) (pv 4))))))))
  (pss_one (ps_ret (pe_cmpR op_eq (pe_callB call_len_seq (by rfl) m_len PySem.boot_len (pa_cons (pv 1) pa_nil)) pe_int (nomark _))))))), ?_⟩
    refine ⟨x, rfl, by show 1 ≤ sizeLine; decide, fun L0 hL0 => ?_⟩
    dsimp only
    refine nameA (seqA ?_)
    show gName 2 _ _ _ _
    refine nameA (seqA ?_)
    have pos : ∀ c : Nat, isExpr d = exprL 7 0 [d] := fun _ => rfl
    refine ⟨7, rfl, by decide, by decide, for_it walk_range (fun i σ' H' => ∃ (a : Addr) (c : Nat) (u v t r : Option V) (xs : List V) (row : List PyData), σ' = [some x, some (.ref a), some (.int (c : Int)), u, v, t, r] ∧ Same H H' ∧ SqL K H' a xs ∧ DpAll K H xs row ∧ (∀ z, z ∈ row → Ok z) ∧ isExpr d = exprL (7 - i) c row) ?_ (fun _ _ _ _ _ => True.intro) ?_ ?_⟩
    · exact ⟨L0, 0, none, none, none, none, [x], [d], rfl, same_upd hL0, SqL.of upd_same, .cons hx .nil, fun z m => by rw [List.mem_singleton.mp m]; exact hok, rfl⟩
    · rintro i y σ' Hx H1 hi ⟨a, c, u, v, t, r, xs, row, rfl, s1, hq, hd, ho, he⟩ ⟨rfl, rfl⟩
      have hl := (dp_get hd).1
      have e7 : 7 - i = (7 - (i + 1)) + 1 := by omega
      rw [e7] at he
      refine ⟨.int c, rfl, .ref a, rfl, a, xs, rfl, .inl hq, (c : Int), _, rfl, rfl, ?_⟩
      refine ⟨_, rfl, _, 60, rfl, rfl, _, rfl, ite2 (fun e => ?_) (fun e => ?_)⟩
      · have e2 : ¬ (c + row.length ≤ 60) := by
          have := of_decide_eq_true e
          omega
        have z0 := q H1 s1
        rw [he, exprL, decide_eq_false e2, Bool.false_and] at z0
        exact z0
      have e2 : c + row.length ≤ 60 := by
        have : ¬ ((60 : Int) < (c : Int) + (xs.length : Int)) := fun g => e (decide_eq_true g)
        omega
      rw [exprL, decide_eq_true e2, Bool.true_and] at he
      refine nextA ?_
      dsimp only
      refine seqA ?_
      refine asgA ?_
      refine ⟨by show 0 ≤ sizeLine; decide, fun L hL => ?_⟩
      refine nameA ?_
      dsimp only
      refine seqA ?_
      have s2 : Same H (upd H1 L (.lst [])) := s1.trans (same_upd hL)
      have hLH : H L = none := by
        cases e3 : H L with
        | none => rfl
        | some o => rw [s1 _ _ e3] at hL; cases hL
      refine ⟨.ref a, rfl, a, rfl, ⟨xs, (same_upd hL).seq hq⟩, for_it (walk_list (xs := xs)) (fun j σ' H' => (∃ v' w', σ' = [some x, some (.ref a), some (.int ((c : Int) + (xs.length : Int))), some (.int (0 + (i : Int))), some (.ref L), v', w']) ∧ (∃ acc, H' L = some (.lst acc) ∧ DpAll K H acc ((row.take j).flatMap partsOf) ∧ acc.length ≤ 39 * j) ∧ (∀ (k : Nat) (h1 : k < row.length), k < j → hasForm row[k] = true) ∧ (∀ b o, b ≠ L → H1 b = some o → H' b = some o)) ?_ ?_ ?_ ?_⟩
      · exact ⟨⟨_, _, rfl⟩, ⟨[], upd_same, .nil, Nat.zero_le _⟩, fun k _ g => absurd g (Nat.not_lt_zero _), fun b o hb e => by rw [upd_ne hb]; exact e⟩
      · rintro j σ' H' hj ⟨_, _, _, sm⟩
        exact sql_at (fun o e3 => sm a o (fun k => by rw [k, hL] at e3; cases e3) e3) hq
      · rintro j y2 σ' Hx H2 hj ⟨⟨v', w', rfl⟩, ⟨acc, hacc, hda, hla⟩, hf, sm⟩ ⟨rfl, hy2⟩
        have hjr : j < row.length := by omega
        obtain ⟨y3, hy3, hy4⟩ := (dp_get hd).2 j row[j] (List.getElem?_eq_getElem hjr)
        have hsq : SqL K H2 a xs := sql_at (fun o e3 => sm a o (fun k => by rw [k, hL] at e3; cases e3) e3) hq
        obtain rfl : y3 = y2 := Option.some.inj (hy3.symm.trans hy2)
        have sH : Same H H2 := fun b o e3 => sm b o (fun k => by rw [k, hLH] at e3; cases e3) (s1 _ _ e3)
        have stp : (row.take (j + 1)).flatMap partsOf = (row.take j).flatMap partsOf ++ partsOf row[j] := by
          rw [List.take_add_one, List.getElem?_eq_getElem hjr, List.flatMap_append]
          simp
        refine ⟨y3, rfl, y3, row[j], H, rfl, sH, hy4, ho _ (List.getElem_mem hjr), fun e3 H3 s3 => ?_, fun e3 H3 L3 ys s3 h3 n3 hd3 => ?_⟩
        · refine ⟨.non, rfl, rfl, _, rfl, iteT ?_⟩
          have z0 := q H3 (sH.trans s3)
          rw [he, show row.all hasForm = false from List.all_eq_false.mpr ⟨row[j], List.getElem_mem hjr, by rw [e3]; decide⟩, Bool.false_and] at z0
          exact z0
        · refine ⟨.ref L3, rfl, rfl, _, rfl, iteF ?_⟩
          refine nextA ?_
          have hL3 := s3 _ _ hacc
          have hpl := parts_len e3
          have hyl := (dp_get hd3).1
          refine ⟨.ref L, rfl, .inl ⟨rfl, _, SqL.of hL3⟩, .ref L3, rfl, L, L3, acc, ys, rfl, rfl, hL3, .inl (SqL.of h3), Nat.le_trans (show acc.length + ys.length ≤ 5000 by omega) (by decide), ?_⟩
          refine ⟨⟨_, _, rfl⟩, ⟨acc ++ ys, upd_same, by rw [stp]; exact dps_app hda hd3, by rw [List.length_append]; omega⟩, fun k h1 h2 => ?_, fun b o hb e4 => by rw [upd_ne hb]; exact s3 _ _ (sm b o hb e4)⟩
          by_cases e4 : k = j
          · subst e4; exact e3
          · exact hf k h1 (by omega)
      · rintro σ' H2 ⟨⟨v', w', rfl⟩, ⟨acc, hacc, hda, hla⟩, hf, sm⟩
        rw [List.take_of_length_le (by omega)] at hda
        have sH : Same H H2 := fun b o e3 => sm b o (fun k => by rw [k, hLH] at e3; cases e3) (s1 _ _ e3)
        have hall : ∀ z, z ∈ row → hasForm z = true := fun z m => by
          obtain ⟨k, hk, rfl⟩ := List.mem_iff_getElem.mp m
          exact hf k hk (by omega)
        rw [show row.all hasForm = true from List.all_eq_true.mpr hall, Bool.true_and] at he
        refine ⟨.ref L, rfl, L, c + xs.length, _, _, _, _, acc, row.flatMap partsOf, rfl, sH, SqL.of hacc, hda, fun z m => ?_, ?_⟩
        · obtain ⟨y4, m1, m2⟩ := List.mem_flatMap.mp m
          exact parts_ok (hall _ m1) (ho _ m1) m2
        · rw [hl]
          exact he
    · rintro σ' H1 ⟨a, c, u, v, t, r, xs, row, rfl, s1, hq, hd, ho, he⟩
      have hl := (dp_get hd).1
      have z0 := q H1 s1
      rw [he] at z0
      refine ⟨.ref a, rfl, a, xs, rfl, .inl hq, rfl, ?_⟩
      have e9 : decide (V.int (xs.length : Int) = V.int 0) = exprL (7 - (Int.toNat 7)) c row := by
        rw [dec_int, hl, Bool.eq_iff_iff, beq_iff_eq]
        show _ ↔ decide (row.length = 0) = true
        rw [decide_eq_true_iff]
        omega
      rw [e9]
      exact z0
end
end Cw

set_option Elab.async false
set_option linter.all false
set_option maxRecDepth 100000
set_option maxHeartbeats 4000000
namespace Cw
open PySem PySem.Spec PyProof.Rows L2
def isMethod (d : PyData) : Bool := isSeq 3 3 d && (isGname (get d 0) && (allOf 1 3 isNamed (get d 1) && isExpr (get d 2)))
def isModule (d : PyData) : Bool := isSeq 5 5 d && (isName (get d 0) && (allOf 0 4 isName (get d 1) && (allOf 0 6 isClass (get d 2) && (allOf 0 3 isGeneric (get d 3) && allOf 0 8 isMethod (get d 4)))))
theorem dps3 {K : PySem.W.Frag} {H : Hp} {xs : List V} {ds : List PyData} (h : DpAll K H xs ds) (n : ds.length = 3) : ∃ x0 x1 x2 d0 d1 d2, xs = [x0, x1, x2] ∧ ds = [d0, d1, d2] ∧ Dp K H x0 d0 ∧ Dp K H x1 d1 ∧ Dp K H x2 d2 := by
  match ds, n with
  | [d0, d1, d2], _ =>
    rcases h with _ | ⟨k0, h⟩
    rcases h with _ | ⟨k1, h⟩
    rcases h with _ | ⟨k2, h⟩
    cases h
    exact ⟨_, _, _, _, _, _, rfl, rfl, k0, k1, k2⟩
theorem dps4 {K : PySem.W.Frag} {H : Hp} {xs : List V} {ds : List PyData} (h : DpAll K H xs ds) (n : ds.length = 4) : ∃ x0 x1 x2 x3 d0 d1 d2 d3, xs = [x0, x1, x2, x3] ∧ ds = [d0, d1, d2, d3] ∧ Dp K H x0 d0 ∧ Dp K H x1 d1 ∧ Dp K H x2 d2 ∧ Dp K H x3 d3 := by
  match ds, n with
  | [d0, d1, d2, d3], _ =>
    rcases h with _ | ⟨k0, h⟩
    rcases h with _ | ⟨k1, h⟩
    rcases h with _ | ⟨k2, h⟩
    rcases h with _ | ⟨k3, h⟩
    cases h
    exact ⟨_, _, _, _, _, _, _, _, rfl, rfl, k0, k1, k2, k3⟩
theorem dps5 {K : PySem.W.Frag} {H : Hp} {xs : List V} {ds : List PyData} (h : DpAll K H xs ds) (n : ds.length = 5) : ∃ x0 x1 x2 x3 x4 d0 d1 d2 d3 d4, xs = [x0, x1, x2, x3, x4] ∧ ds = [d0, d1, d2, d3, d4] ∧ Dp K H x0 d0 ∧ Dp K H x1 d1 ∧ Dp K H x2 d2 ∧ Dp K H x3 d3 ∧ Dp K H x4 d4 := by
  match ds, n with
  | [d0, d1, d2, d3, d4], _ =>
    rcases h with _ | ⟨k0, h⟩
    rcases h with _ | ⟨k1, h⟩
    rcases h with _ | ⟨k2, h⟩
    rcases h with _ | ⟨k3, h⟩
    rcases h with _ | ⟨k4, h⟩
    cases h
    exact ⟨_, _, _, _, _, _, _, _, _, _, rfl, rfl, k0, k1, k2, k3, k4⟩
section
variable {P : Program} {w : World} {K : PySem.W.Frag} {mg : Str → Option Value} {base : Heap} {S : Addr → Option Sp}
end
end Cw

set_option Elab.async false
set_option linter.all false
set_option maxRecDepth 100000
set_option maxHeartbeats 4000000
namespace Cw
open PySem PySem.Spec PyProof.Rows L2
/-! ### the text of an expression, to a depth -/
def strD : PyData → Str | .str z => z | _ => ""
def intD : PyData → Int | .int i => i | _ => 0
def headW (d : PyData) : Str := strD (get d 0)
def choicesW : List Str := ["if", "let"]
def sumsW : List Str := ["if", "let", "add", "sub"]
def productsW : List Str := ["if", "let", "add", "sub", "mul"]
def partT (f : PyData → Str) (ws : List Str) (d : PyData) : Str := if headW d ∈ ws then ("(" : Str) ++ f d ++ (")" : Str) else f d
def argsT (f : PyData → Str) (d : PyData) : Str := ("(" : Str) ++ Str.join ", " ((items d).map f) ++ (")" : Str)
def signOf (z : Str) : Str := if z = "add" then " + " else if z = "sub" then " - " else " * "
def etx (z : Str) (r : List PyData) (f : PyData → Str) : Str :=
  if z = "int" then (toString (intD (r.getD 0 .none)) : String) else if z = "name" then strD (r.getD 0 .none) else if z = "next" then "next"
  else if z = "new" then ("new " : Str) ++ strD (r.getD 0 .none) ++ argsT f (r.getD 1 .none) else if z = "call" then strD (r.getD 0 .none) ++ argsT f (r.getD 1 .none)
  else if z = "field" then partT f productsW (r.getD 0 .none) ++ (".(" : Str) ++ strD (r.getD 1 .none) ++ ("." : Str) ++ strD (r.getD 2 .none) ++ (")" : Str)
  else if z = "mul" then partT f sumsW (r.getD 0 .none) ++ signOf z ++ partT f productsW (r.getD 1 .none)
  else if z = "add" ∨ z = "sub" then partT f choicesW (r.getD 0 .none) ++ signOf z ++ partT f sumsW (r.getD 1 .none)
  else if z = "let" then ("let " : Str) ++ strD (r.getD 0 .none) ++ (" = " : Str) ++ f (r.getD 1 .none) ++ (" in " : Str) ++ f (r.getD 2 .none)
  else ("if " : Str) ++ f (r.getD 0 .none) ++ ((" then " : Str) ++ f (r.getD 1 .none) ++ (" else " : Str) ++ f (r.getD 2 .none))
def etext : Nat → PyData → Str
  | 0, _ => ""
  | n + 1, d => match items d with
    | .str z :: r => etx z r (etext n)
    | _ => ""
/-! ### the form to a depth, the count -/
def formN : Nat → PyData → Bool
  | 0, _ => false
  | n + 1, d => hasForm d && (partsOf d).all (formN n)
def ecnt : Nat → PyData → Nat
  | 0, _ => 0
  | n + 1, d => 1 + ((partsOf d).map (ecnt n)).sum
theorem expr_rows2 : ∀ (n c : Nat) (row : List PyData), c ≤ 60 → exprL n c row = (row.all (formN n) && decide (c + (row.map (ecnt n)).sum ≤ 60))
  | 0, c, [], hc => by
    show true = (true && decide (c + 0 ≤ 60))
    rw [decide_eq_true (by omega)]
    rfl
  | 0, c, d :: l, _ => by
    show decide ((d :: l).length = 0) = ((false && l.all (formN 0)) && _)
    rw [Bool.false_and, Bool.false_and]
    exact decide_eq_false (by simp)
  | n + 1, c, row, hc => by
    show (decide (c + row.length ≤ 60) && (row.all hasForm && exprL n (c + row.length) (row.flatMap partsOf))) = _
    have k1 : ∀ row : List PyData, row.all (formN (n + 1)) = (row.all hasForm && (row.flatMap partsOf).all (formN n)) := by
      intro row
      induction row with
      | nil => rfl
      | cons d l ih =>
        rw [List.all_cons, List.all_cons, List.flatMap_cons, List.all_append, ih]
        show ((hasForm d && (partsOf d).all (formN n)) && (l.all hasForm && _)) = _
        cases hasForm d <;> cases (partsOf d).all (formN n) <;> cases l.all hasForm <;> rfl
    have k2 : ∀ row : List PyData, (row.map (ecnt (n + 1))).sum = row.length + ((row.flatMap partsOf).map (ecnt n)).sum := by
      intro row
      induction row with
      | nil => rfl
      | cons d l ih =>
        rw [List.map_cons, List.sum_cons, List.flatMap_cons, List.map_append, List.sum_append, ih, List.length_cons]
        show 1 + ((partsOf d).map (ecnt n)).sum + _ = _
        omega
    rw [k1, k2]
    by_cases g : c + row.length ≤ 60
    · rw [decide_eq_true g, Bool.true_and, expr_rows2 n _ _ g, Nat.add_assoc, Bool.and_assoc]
    · rw [decide_eq_false g, Bool.false_and, decide_eq_false (by omega), Bool.and_false]
theorem expr_form (d : PyData) : isExpr d = (formN 7 d && decide (ecnt 7 d ≤ 60)) := by
  rw [isExpr, expr_rows2 7 0 [d] (by omega), List.all_cons, List.all_nil, Bool.and_true, List.map_cons, List.map_nil, List.sum_cons, List.sum_nil, Nat.zero_add, Nat.add_zero]
/-! ### lengths -/
theorem slen (x y : Str) : (x ++ y).length = x.length + y.length := by
  show (x.cps ++ y.cps).size = _
  rw [Array.size_append]
  rfl
theorem name_len {d : PyData} (h : isName d = true) : ∃ z, d = .str z ∧ 1 ≤ z.length ∧ z.length ≤ 12 := by
  cases d with
  | str z =>
    refine ⟨z, rfl, ?_⟩
    have h1 : isNameS z = true := h
    unfold isNameS at h1
    simp only [Bool.and_eq_true, decide_eq_true_iff] at h1
    exact ⟨h1.1.1.1, h1.1.1.2⟩
  | _ => cases h
theorem word_len2 {d : PyData} (h : isWord d = true) : ∃ z, d = .str z ∧ 1 ≤ z.length ∧ z.length ≤ 12 := by
  cases d with
  | str z =>
    refine ⟨z, rfl, ?_⟩
    have h1 : isWordS z = true := h
    unfold isWordS at h1
    simp only [Bool.and_eq_true, decide_eq_true_iff] at h1
    exact ⟨h1.1.1, h1.1.2⟩
  | _ => cases h
theorem part_len2 (z : Str) : z.length ≤ (Txt.partition z ".").1.length + 1 + (Txt.partition z ".").2.2.length := by
  rcases PyProof.Rows.partition_whole z "." with ⟨e, _⟩ | ⟨i, e, hi, _⟩
  · rw [e]
    show z.length ≤ z.length + 1 + 0
    omega
  · rw [e]
    show z.cps.size ≤ (z.cps.extract 0 i).size + 1 + (z.cps.extract (i + 1) z.length).size
    rw [Array.size_extract, Array.size_extract]
    show z.cps.size ≤ min i z.cps.size - 0 + 1 + (min z.cps.size z.cps.size - (i + 1))
    omega
theorem cname_len {d : PyData} (h : isCname d = true) : ∃ z, d = .str z ∧ z.length ≤ 25 := by
  cases d with
  | str z =>
    refine ⟨z, rfl, ?_⟩
    have h1 : (isName (.str (Txt.partition z ".").1) && isWord (.str (Txt.partition z ".").2.2)) = true := h
    rw [Bool.and_eq_true] at h1
    obtain ⟨a, e1, _, h2⟩ := name_len h1.1
    obtain ⟨b, e2, _, h3⟩ := word_len2 h1.2
    have e1 := PyData.str.inj e1
    have e2 := PyData.str.inj e2
    have := part_len2 z
    rw [e1, e2] at this
    omega
  | _ => cases h
theorem gname_len {d : PyData} (h : isGname d = true) : ∃ z, d = .str z ∧ z.length ≤ 25 := by
  cases d with
  | str z =>
    refine ⟨z, rfl, ?_⟩
    have h1 : (isName (.str (Txt.partition z ".").1) && isName (.str (Txt.partition z ".").2.2)) = true := h
    rw [Bool.and_eq_true] at h1
    obtain ⟨a, e1, _, h2⟩ := name_len h1.1
    obtain ⟨b, e2, _, h3⟩ := name_len h1.2
    have e1 := PyData.str.inj e1
    have e2 := PyData.str.inj e2
    have := part_len2 z
    rw [e1, e2] at this
    omega
  | _ => cases h
theorem join_len (sep : Str) : ∀ l : List Str, (Str.join sep l).length ≤ (l.map (·.length)).sum + l.length * sep.length
  | [] => Nat.zero_le _
  | [x] => by
    show x.length ≤ x.length + 0 + 1 * sep.length
    omega
  | x :: y :: l => by
    have ih := join_len sep (y :: l)
    show (x ++ sep ++ Str.join sep (y :: l)).length ≤ _
    rw [slen, slen, List.map_cons, List.sum_cons, List.length_cons]
    rw [Nat.add_mul]
    omega
end Cw

set_option Elab.async false
set_option linter.all false
set_option maxRecDepth 100000
set_option maxHeartbeats 4000000
namespace Cw
open PySem PySem.Spec PyProof.Rows L2
def isWhole : PyData → Bool | .int _ => true | _ => false
def reserved19 : List Str := reserved ++ [("base" : Str)]
def spReserved : Sp := fun vs H Q _ => vs = [] ∧ ∀ L H', Same H H' → H L = none → H' L = some (.lst (reserved19.map V.str)) → Q (.ref L) H'
section
variable {P : Program} {w : World} {K : PySem.W.Frag} {mg : Str → Option Value} {base : Heap} {S : Addr → Option Sp}
abbrev s__law_whole : Stmt := topS 80
theorem sc__law_whole : FnScope ["value"] ["value"] (defScope s__law_whole) := ⟨rfl, rfl, rfl, by decide +kernel, rfl, by decide +kernel, by decide +kernel⟩
theorem ok__law_whole {f : Addr} {fd : FuncData} (F : Fun K "_law_whole" "_law_whole" s__law_whole f fd) (m_isinstance : mg "isinstance" = none) (m_int : mg "int" = none) (m_bool : mg "bool" = none) : FnOk P w K mg base CX0 1 f fd ["value"] (sp1 K isWhole) := by
  refine F.ok sc__law_whole (fun vs H Q E h => ?_) (fun cdv A outer s H vs Q E hr h => ?_)
  · obtain ⟨_, _, rfl, _⟩ := h
    rfl
  · obtain ⟨x, d, rfl, hx, hok, q⟩ := h
    refine ⟨_, (pss_one (ps_ret (pe_and (pe_callB call_isi (by rfl) m_isinstance (by decide +kernel) (pa_cons (pv 0) (pa_cons (pe_bltn (v := .ty "int") (by rfl) m_int (by decide +kernel) rfl) pa_nil))) (pe_one (pe_not (pe_callB call_isi (by rfl) m_isinstance (by decide +kernel) (pa_cons (pv 0) (pa_cons (pe_bltn (v := .ty "bool") (by rfl) m_bool (by decide +kernel) rfl) pa_nil)))))))), ?_⟩
    refine v_isi rfl hx (kb_in d) ⟨_, rfl, ?_⟩
    have z0 := q H (Same.refl H)
    cases hx with
    | int i => exact iteT (r_isi rfl (.int i) (b := false) (kb_bo _) z0)
    | bl b => exact iteT (r_isi rfl (.bl b) (b := true) (kb_bo _) z0)
    | non => exact iteF z0
    | str z => exact iteF z0
    | lst h1 h2 => exact iteF z0
    | tup h1 h2 => exact iteF z0
abbrev s__law_reserved : Stmt := topS 85
theorem sc__law_reserved : FnScope ["first"] [] (defScope s__law_reserved) := ⟨rfl, rfl, rfl, by decide +kernel, rfl, by decide +kernel, by decide +kernel⟩
theorem ok__law_reserved {f : Addr} {fd : FuncData} (F : Fun K "_law_reserved" "_law_reserved" s__law_reserved f fd) : FnOk P w K mg base CX0 1 f fd [] (spReserved) := by
  refine F.ok sc__law_reserved (fun vs H Q E h => ?_) (fun cdv A outer s H vs Q E hr h => ?_)
  · obtain ⟨rfl, _⟩ := h
    rfl
  · obtain ⟨rfl, q⟩ := h
    refine ⟨_, (pss_cons (ps_set (i := 0) sc__law_reserved.nd rfl (.inl rfl) (pe_lst (pa_cons pe_str (pa_cons pe_str (pa_cons pe_str (pa_cons pe_str (pa_cons pe_str (pa_cons pe_str (pa_cons pe_str (pa_cons pe_str (pa_cons pe_str pa_nil)))))))))))
  (pss_one (ps_ret (pe_op op_cat (pv 0) (pe_lst (pa_cons pe_str (pa_cons pe_str (pa_cons pe_str (pa_cons pe_str (pa_cons pe_str (pa_cons pe_str (pa_cons pe_str (pa_cons pe_str (pa_cons pe_str (pa_cons pe_str pa_nil))))))))))))))), ?_⟩
    refine ⟨by show 9 ≤ sizeLine; decide, fun a ha => ?_⟩
    dsimp only
    refine nameA ?_
    refine retA ?_
    refine ⟨.ref a, rfl, by show 10 ≤ sizeLine; decide, fun b hb => ?_⟩
    have ab : a ≠ b := fun k => by rw [← k, upd_same] at hb; cases hb
    refine ⟨a, b, _, _, rfl, rfl, by rw [upd_ne ab]; exact upd_same, upd_same, by decide, fun L hL => ?_⟩
    exact q L _ (((same_upd ha).trans (same_upd hb)).trans (same_upd hL)) (((same_upd ha).trans (same_upd hb)).free hL) upd_same
end
end Cw

set_option Elab.async false
set_option linter.all false
set_option maxRecDepth 100000
set_option maxHeartbeats 4000000
namespace Cw
open PySem PySem.Spec PyProof.Rows L2
def lawWord (cap : Bool) (d : PyData) : Bool := if cap = true then isWord d else isName d
def spWord (K : PySem.W.Frag) : Sp := fun vs H Q _ => ∃ x d cap, vs = [x, .bl cap] ∧ Dp K H x d ∧ Ok d ∧ ∀ H', Same H H' → Q (.bl (lawWord cap d)) H'
def chOk (cap : Bool) (j : Nat) (c : Nat) : Bool := if (cap && j == 0) = true then upC c else lowC c
theorem up_low {c : Nat} (h : upC c = true) : lowC c = false := by
  unfold upC at h
  unfold lowC
  have := of_decide_eq_true h
  exact decide_eq_false (by omega)
theorem word_len {cap : Bool} {z : Str} (h : z.length = 0 ∨ 12 < z.length) : lawWord cap (.str z) = false := by
  cases cap with
  | false =>
    show isNameS z = false
    rcases h with h | h
    · exact isNameS_short (by omega)
    · exact isNameS_long (by omega)
  | true =>
    show isWordS z = false
    rcases h with h | h
    · exact isWordS_short (by omega)
    · exact isWordS_long (by omega)
theorem res_low : reserved.all (fun z => areLower z && !isWordS z) = true := by decide +kernel
theorem word_res {cap : Bool} {z : Str} (h : z ∈ reserved) : lawWord cap (.str z) = false := by
  have h2 := List.all_eq_true.mp res_low z h
  obtain ⟨h3, h4⟩ := Bool.and_eq_true_iff.mp h2
  cases cap with
  | false =>
    show isNameS z = false
    unfold isNameS
    rw [List.contains_iff_mem.mpr h]
    simp
  | true =>
    show isWordS z = false
    simpa using h4
theorem word_bad {cap : Bool} {z : Str} {j c : Nat} (h : z.cps.toList[j]? = some c) (e : chOk cap j c = false) : lawWord cap (.str z) = false := by
  cases cap with
  | false =>
    show isNameS z = false
    refine isNameS_low ?_
    unfold areLower
    rw [Bool.eq_false_iff]
    intro g
    have := List.all_eq_true.mp g c (List.mem_of_getElem? h)
    rw [chOk, Bool.false_and, if_neg (by decide)] at e
    rw [e] at this
    cases this
  | true =>
    show isWordS z = false
    by_cases h1 : 1 ≤ z.length
    · by_cases h2 : z.length ≤ 12
      · cases ez : z.cps.toList with
        | nil => rw [ez] at h; cases h
        | cons c0 r =>
          rw [isWordS_in h1 h2 ez]
          rw [ez] at h
          cases j with
          | zero =>
            obtain rfl := Option.some.inj h
            rw [show upC c0 = false from e, Bool.false_and]
          | succ j =>
            have e2 : lowC c = false := e
            rw [Bool.and_eq_false_iff]
            right
            rw [Bool.eq_false_iff]
            intro g
            have := List.all_eq_true.mp g c (List.mem_of_getElem? (by simpa using h))
            rw [e2] at this
            cases this
      · exact isWordS_long h2
    · exact isWordS_short h1
theorem word_good {cap : Bool} {z : Str} (h1 : 1 ≤ z.length) (h2 : z.length ≤ 12) (hr : z ∉ reserved) (h : ∀ j c, z.cps.toList[j]? = some c → chOk cap j c = true) : lawWord cap (.str z) = true := by
  cases cap with
  | false =>
    show isNameS z = true
    have hl : areLower z = true := by
      unfold areLower
      refine List.all_eq_true.mpr fun c m => ?_
      obtain ⟨j, hj⟩ := List.getElem?_of_mem m
      exact h j c hj
    rw [isNameS_in h1 h2 hl]
    simpa using hr
  | true =>
    show isWordS z = true
    cases ez : z.cps.toList with
    | nil =>
      have : z.cps.toList.length = 0 := by rw [ez]; rfl
      rw [Array.length_toList] at this
      have : z.length = 0 := this
      omega
    | cons c0 r =>
      rw [isWordS_in h1 h2 ez]
      rw [ez] at h
      have g0 : upC c0 = true := h 0 c0 rfl
      rw [g0, Bool.true_and]
      refine List.all_eq_true.mpr fun c m => ?_
      obtain ⟨j, hj⟩ := List.getElem?_of_mem m
      exact h (j + 1) c (by simpa using hj)
theorem in_res {z : Str} : (if false = true then !inV (.str z) (reserved.map V.str) else inV (.str z) (reserved.map V.str)) = reserved.contains z := by
  have h := reserved_in (z := z)
  rw [if_pos rfl] at h
  rw [if_neg (by decide)]
  simpa using h
section
variable {P : Program} {w : World} {K : PySem.W.Frag} {mg : Str → Option Value} {base : Heap} {S : Addr → Option Sp}
abbrev s__law_is_word : Stmt := topS 87
theorem sc__law_is_word : FnScope ["value", "capital", "k", "upper"] ["value", "capital"] (defScope s__law_is_word) := ⟨rfl, rfl, rfl, by decide +kernel, rfl, by decide +kernel, by decide +kernel⟩
theorem ok__law_is_word {f : Addr} {fd : FuncData} (F : Fun K "_law_is_word" "_law_is_word" s__law_is_word f fd) {f__law_reserved : Addr} {d__law_reserved : FuncData} (h__law_reserved : Hd K mg "_law_reserved" s__law_reserved [] f__law_reserved d__law_reserved) (G__law_reserved : FnOk P w K mg base CX0 1 f__law_reserved d__law_reserved [] (spReserved)) (m_isinstance : mg "isinstance" = none) (m_str : mg "str" = none) (m_len : mg "len" = none) (m_range : mg "range" = none) : FnOk P w K mg base CX0 2 f fd ["value", "capital"] (spWord K) := by
  refine F.ok sc__law_is_word (fun vs H Q E h => ?_) (fun cdv A outer s H vs Q E hr h => ?_)
  · obtain ⟨_, _, _, rfl, _⟩ := h
    rfl
  · obtain ⟨x, d, cap, rfl, hx, hok, q⟩ := h
    refine ⟨_, (pss_cons (ps_if (PW.pt (pw_or (pt_not (pt_val (pe_callB call_isi (by rfl) m_isinstance (by decide +kernel) (pa_cons (pv 0) (pa_cons (pe_bltn (v := .ty "str") (by rfl) m_str (by decide +kernel) rfl) pa_nil))))) (pw_or (pt_cmpR op_eq (pe_callB call_len_str (by rfl) m_len PySem.boot_len (pa_cons (pv 0) pa_nil)) pe_int (nomark _)) (pw_or (pt_cmpR op_gt (pe_callB call_len_str (by rfl) m_len PySem.boot_len (pa_cons (pv 0) pa_nil)) pe_int (nomark _)) (pw_or1 (pt_cmpR op_in_seq (pv 0) (pe_slice sl_list (pe_call0 G__law_reserved (hr.mono (by decide)) (by rfl) h__law_reserved.g h__law_reserved.F.kp h__law_reserved.b .nil pass0) po_none (po_some pe_int)) (by rfl))))))) (pss_one (ps_ret pe_bl)) pss_nil)
  (pss_cons (ps_for PassesOwn.never rfl (pi_range1 rfl m_range (pa_cons (pe_callB call_len_str (by rfl) m_len PySem.boot_len (pa_cons (pv 0) pa_nil)) pa_nil)) (pg_name (i := 2) sc__law_is_word.nd rfl (.inl rfl)) (pss_cons (ps_set (i := 3) sc__law_is_word.nd rfl (.inl rfl) (pe_cmpR op_in_sign (pe_ix ix_str (pv 0) (pv 2) (fun _ _ => rfl)) pe_str (by rfl)))
  (pss_cons (ps_if (PW.pt (pw_and (pt_not (pt_val (pv 3))) (pw_and1 (pt_cmpR op_notIn_sign (pe_ix ix_str (pv 0) (pv 2) (fun _ _ => rfl)) pe_str (by rfl))))) (pss_one (ps_ret pe_bl)) pss_nil)
  (pss_one (ps_if (pt_cmpR op_ne (pv 3) (pe_and (pv 1) (pe_one (pe_cmpR op_eq (pv 2) pe_int (nomark _)))) (nomark _)) (pss_one (ps_ret pe_bl)) pss_nil)))))
  (pss_one (ps_ret pe_bl)))), ?_⟩
    refine r_isi rfl hx (kb_st d) ?_
    cases hx with
    | str z =>
      have hz := ok_str hok
      have qf : lawWord cap (.str z) = false → ∀ H', Same H H' → Q (.bl false) H' := fun e H' s' => by
        have z0 := q H' s'
        rw [e] at z0
        exact z0
      refine iteF ⟨.str z, rfl, z, rfl, hz, rfl, _, rfl, ite2 (fun e1 => iteT ?_) (fun e1 => ?_)⟩
      · rw [dec_int] at e1
        have e2 : (z.length : Int) = 0 := by simpa using e1
        exact qf (word_len (.inl (by omega))) H (Same.refl H)
      rw [dec_int] at e1
      have g1 : 1 ≤ z.length := by
        have : ¬ ((z.length : Int) = 0) := fun g => e1 (by rw [g]; rfl)
        omega
      refine ⟨.str z, rfl, z, rfl, hz, _, 12, rfl, rfl, _, rfl, ite2 (fun e2 => iteT ?_) (fun e2 => ?_)⟩
      · have := of_decide_eq_true e2
        exact qf (word_len (.inr (by omega))) H (Same.refl H)
      have g2 : z.length ≤ 12 := by
        have : ¬ ((12 : Int) < (z.length : Int)) := fun g => e2 (decide_eq_true g)
        omega
      refine ⟨.str z, rfl, rfl, fun L H1 s1 f1 hL => ⟨18, rfl, L, _, rfl, SqL.of hL, fun p hp => ?_⟩⟩
      refine ⟨p, _, rfl, .inl (SqL.of upd_same), rfl, by decide, ?_⟩
      have s2 : Same H (upd H1 p (.lst (cutV (reserved19.map V.str) none (some 18)))) := s1.trans (same_upd hp)
      rw [show cutV (reserved19.map V.str) none (some 18) = reserved.map V.str by rfl] at s2 ⊢
      generalize upd H1 p (.lst (reserved.map V.str)) = H2 at s2 ⊢
      rw [in_res]
      refine ⟨_, rfl, ite2 (fun e3 => ?_) (fun e3 => ?_)⟩
      · exact qf (word_res (List.contains_iff_mem.mp e3)) H2 s2
      have g3 : z ∉ reserved := fun m => e3 (List.contains_iff_mem.mpr m)
      refine nextA ?_
      dsimp only
      refine seqA ?_
      refine ⟨.str z, rfl, z, rfl, hz, z.length, rfl, by omega, by omega, for_it walk_range (fun i σ' H' => H' = H2 ∧ (∃ u v, σ' = [some (.str z), some (.bl cap), u, v]) ∧ ∀ j c, j < i → z.cps.toList[j]? = some c → chOk cap j c = true) ⟨rfl, ⟨none, none, rfl⟩, fun j c hj => absurd hj (Nat.not_lt_zero _)⟩ (fun _ _ _ _ _ => True.intro) ?_ ?_⟩
      · rintro i y σ' Hx H3 hi ⟨rfl, ⟨u, v, rfl⟩, hb⟩ ⟨rfl, rfl⟩
        have hil : i < z.cps.toList.length := by
          rw [Array.length_toList]
          have : i < z.length := by simpa using hi
          exact this
        have hc : z.cps.toList[i]? = some z.cps.toList[i] := List.getElem?_eq_getElem hil
        generalize z.cps.toList[i] = c at hc
        have hc' : atI z.cps.toList (0 + (i : Int)) = some c := by rw [Int.zero_add]; exact atI_nat hc
        refine ⟨.str z, rfl, _, rfl, z, _, c, rfl, rfl, hz, hc', c, _, rfl, rfl, ?_⟩
        rw [up_mem]
        have fin : chOk cap i c = true → ∀ j c', j < i + 1 → z.cps.toList[j]? = some c' → chOk cap j c' = true := fun e j c' hj hj' => by
          by_cases h5 : j < i
          · exact hb j c' h5 hj'
          · have h6 : j = i := by omega
            subst h6
            rw [hc] at hj'
            obtain rfl := Option.some.inj hj'
            exact e
        have e0 : decide (V.int (0 + (i : Int)) = V.int 0) = (i == 0) := by
          rw [dec_int, Bool.eq_iff_iff, beq_iff_eq, beq_iff_eq]
          omega
        refine nameA (seqA ?_)
        have st : ∀ b : Bool, (b = true ∨ lowC c = true) → upC c = b → ∃ r : Bool, (cap && i == 0) = r ∧ chOk cap i c = (b == r) := fun b h1 h2 => by
          refine ⟨_, rfl, ?_⟩
          unfold chOk
          cases hr : (cap && i == 0) with
          | true => rw [if_pos rfl, h2]; cases b <;> rfl
          | false =>
            rw [if_neg (by decide)]
            cases b with
            | true => exact up_low h2
            | false => rcases h1 with h1 | h1; · cases h1
                       · exact h1
        have snd : ∀ b : Bool, (b = true ∨ lowC c = true) → upC c = b → (!decide (V.bl b = V.bl (cap && i == 0))) = !chOk cap i c := fun b h1 h2 => by
          obtain ⟨r, e1, e2⟩ := st b h1 h2
          rw [e1, e2, dec_bl]
        cases hu : upC c with
        | true =>
          refine ⟨.bl true, rfl, _, rfl, iteF (iteF ?_)⟩
          have s3 := snd true (.inl rfl) hu
          refine nextA ?_
          dsimp only
          cases cap with
          | true =>
            refine ⟨.bl true, rfl, .bl true, rfl, _, rfl, iteT ⟨.int (0 + (i : Int)), rfl, rfl, rfl, _, rfl, ?_⟩⟩
            rw [e0, show (i == 0) = (true && i == 0) from (Bool.true_and _).symm, s3]
            refine ite2 (fun e => ?_) (fun e => ?_)
            · exact qf (word_bad hc (by simpa using e)) _ s2
            · exact ⟨rfl, ⟨_, _, rfl⟩, fin (by simpa using e)⟩
          | false =>
            refine ⟨.bl true, rfl, .bl false, rfl, _, rfl, iteF ⟨rfl, _, rfl, ?_⟩⟩
            rw [show false = (false && i == 0) from (Bool.false_and _).symm, s3]
            refine ite2 (fun e => ?_) (fun e => ?_)
            · exact qf (word_bad hc (by simpa using e)) _ s2
            · exact ⟨rfl, ⟨_, _, rfl⟩, fin (by simpa using e)⟩
        | false =>
          refine ⟨.bl false, rfl, _, rfl, iteT ⟨.str z, rfl, _, rfl, z, _, c, rfl, rfl, hz, hc', c, _, rfl, rfl, _, rfl, ?_⟩⟩
          rw [low_mem]
          cases hlw : lowC c with
          | false =>
            refine iteT (qf (word_bad hc ?_) _ s2)
            unfold chOk
            rw [hu, hlw, ite_self]
          | true =>
            refine iteF ?_
            have s3 := snd false (.inr hlw) hu
            refine nextA ?_
            dsimp only
            cases cap with
            | true =>
              refine ⟨.bl false, rfl, .bl true, rfl, _, rfl, iteT ⟨.int (0 + (i : Int)), rfl, rfl, rfl, _, rfl, ?_⟩⟩
              rw [e0, show (i == 0) = (true && i == 0) from (Bool.true_and _).symm, s3]
              refine ite2 (fun e => ?_) (fun e => ?_)
              · exact qf (word_bad hc (by simpa using e)) _ s2
              · exact ⟨rfl, ⟨_, _, rfl⟩, fin (by simpa using e)⟩
            | false =>
              refine ⟨.bl false, rfl, .bl false, rfl, _, rfl, iteF ⟨rfl, _, rfl, ?_⟩⟩
              have s4 : (!decide (V.bl false = V.bl false)) = !chOk false i c := s3
              rw [s4]
              refine ite2 (fun e => ?_) (fun e => ?_)
              · exact qf (word_bad hc (by simpa using e)) _ s2
              · exact ⟨rfl, ⟨_, _, rfl⟩, fin (by simpa using e)⟩
      · rintro σ' H3 ⟨rfl, ⟨u, v, rfl⟩, hb⟩
        have hb' : ∀ j c, z.cps.toList[j]? = some c → chOk cap j c = true := fun j c hj => hb j c (by
          have := (List.getElem?_eq_some_iff.mp hj).1
          rw [Array.length_toList] at this
          have h5 : j < z.length := this
          simpa using h5) hj
        have z0 := q H3 s2
        rw [word_good g1 g2 g3 hb'] at z0
        exact z0
    | bl b => exact iteT (iteT (by have z0 := q H (Same.refl H); rw [show lawWord cap _ = false by cases cap <;> rfl] at z0; exact z0))
    | non => exact iteT (iteT (by have z0 := q H (Same.refl H); rw [show lawWord cap _ = false by cases cap <;> rfl] at z0; exact z0))
    | int z => exact iteT (iteT (by have z0 := q H (Same.refl H); rw [show lawWord cap _ = false by cases cap <;> rfl] at z0; exact z0))
    | lst h1 h2 => exact iteT (iteT (by have z0 := q H (Same.refl H); rw [show lawWord cap _ = false by cases cap <;> rfl] at z0; exact z0))
    | tup h1 h2 => exact iteT (iteT (by have z0 := q H (Same.refl H); rw [show lawWord cap _ = false by cases cap <;> rfl] at z0; exact z0))
end
end Cw

set_option Elab.async false
set_option linter.all false
set_option maxRecDepth 100000
set_option maxHeartbeats 4000000
namespace Cw
open PySem PySem.Spec PyProof.Rows L2
def lawCn (cap : Bool) : PyData → Bool
  | .str z => isName (.str (Txt.partition z ".").1) && lawWord cap (.str (Txt.partition z ".").2.2)
  | _ => false
theorem lawCn_eq (cap : Bool) (d : PyData) : lawCn cap d = if cap = true then isCname d else isGname d := by
  cases cap <;> cases d <;> rfl
def spLawCn (K : PySem.W.Frag) : Sp := fun vs H Q _ => ∃ x d cap, vs = [x, .bl cap] ∧ Dp K H x d ∧ Ok d ∧ ∀ H', Same H H' → Q (.bl (lawCn cap d)) H'
theorem ok_strz {z : Str} (h : Ok (.str z)) : z.length ≤ 1000000 := by cases h with | str _ h => exact h
theorem cut_to {z : Str} {i : Nat} (h : i ≤ z.length) : cutS z none (some (i : Int)) = ⟨z.cps.extract 0 i⟩ := by
  unfold cutS
  rw [HT.sIx_none, HT.sIx_nat, Nat.min_eq_left h]
  congr 1
  apply Array.toList_inj.mp
  simp
theorem cut_from {z : Str} {i : Nat} (h : i + 1 ≤ z.length) : cutS z (some ((i : Int) + 1)) none = ⟨z.cps.extract (i + 1) z.length⟩ := by
  unfold cutS
  rw [HT.sIx_none, show ((i : Int) + 1) = ((i + 1 : Nat) : Int) from rfl, HT.sIx_nat, Nat.min_eq_left h]
  congr 1
  apply Array.toList_inj.mp
  simp
section
variable {P : Program} {w : World} {K : PySem.W.Frag} {mg : Str → Option Value} {base : Heap} {S : Addr → Option Sp}
abbrev s__law_is_class_name : Stmt := topS 88
theorem sc__law_is_class_name : FnScope ["value", "capital", "at"] ["value", "capital"] (defScope s__law_is_class_name) := ⟨rfl, rfl, rfl, by decide +kernel, rfl, by decide +kernel, by decide +kernel⟩
theorem ok__law_is_class_name {f : Addr} {fd : FuncData} (F : Fun K "_law_is_class_name" "_law_is_class_name" s__law_is_class_name f fd) {f__law_is_word : Addr} {d__law_is_word : FuncData} (h__law_is_word : Hd K mg "_law_is_word" s__law_is_word ["value", "capital"] f__law_is_word d__law_is_word) (G__law_is_word : FnOk P w K mg base CX0 2 f__law_is_word d__law_is_word ["value", "capital"] (spWord K)) (m_isinstance : mg "isinstance" = none) (m_str : mg "str" = none) : FnOk P w K mg base CX0 3 f fd ["value", "capital"] (spLawCn K) := by
  refine F.ok sc__law_is_class_name (fun vs H Q E h => ?_) (fun cdv A outer s H vs Q E hr h => ?_)
  · obtain ⟨_, _, _, rfl, _⟩ := h
    rfl
  · obtain ⟨x, d, cap, rfl, hx, hok, q⟩ := h
    refine ⟨_, (pss_cons (ps_if (PW.pt (pw_or (pt_not (pt_val (pe_callB call_isi (by rfl) m_isinstance (by decide +kernel) (pa_cons (pv 0) (pa_cons (pe_bltn (v := .ty "str") (by rfl) m_str (by decide +kernel) rfl) pa_nil))))) (pw_or1 (pt_cmpR op_notIn_str pe_str (pv 0) (by rfl))))) (pss_one (ps_ret pe_bl)) pss_nil)
  (pss_cons (ps_set (i := 2) sc__law_is_class_name.nd rfl (.inl rfl) (pe_bm PySem.F.plainAttrs_str PySem.F.slot_str_index PySem.F.type_str_index mt_sindex (pv 0) (pa_cons pe_str pa_nil)))
  (pss_one (ps_ret (pe_and (pe_call G__law_is_word (hr.mono (by decide)) (by rfl) h__law_is_word.g h__law_is_word.F.kp h__law_is_word.b .nil pass0 (pa_cons (pe_slice sl_str (pv 0) po_none (po_some (pv 2))) (pa_cons pe_bl pa_nil))) (pe_one (pe_call G__law_is_word (hr.mono (by decide)) (by rfl) h__law_is_word.g h__law_is_word.F.kp h__law_is_word.b .nil pass0 (pa_cons (pe_slice sl_str (pv 0) (po_some (pe_op op_add (pv 2) pe_int)) po_none) (pa_cons (pv 1) pa_nil))))))))), ?_⟩
    refine r_isi rfl hx (kb_st d) ?_
    cases hx with
    | str z =>
      have hz := ok_str hok
      have hol := fun i m => StrLaws.occ_spec z "." 0 z.length 1 i m
      refine iteF ⟨.str z, rfl, ".", z, rfl, rfl, _, rfl, ?_⟩
      cases ho : Builtin.Str.occurrences z "." 0 z.length 1 with
      | nil =>
        refine iteT ?_
        have z0 := q H (Same.refl H)
        rw [show lawCn cap (.str z) = false by
          show (isName (.str (Txt.partition z ".").1) && lawWord cap (.str (Txt.partition z ".").2.2)) = false
          unfold Txt.partition
          rw [ho]
          show (isName (.str z) && lawWord cap (.str Str.empty)) = false
          rw [word_len (.inl rfl), Bool.and_false]] at z0
        exact z0
      | cons i rest =>
        have hi : i + 1 ≤ z.length := (hol i (by rw [ho]; exact List.mem_cons_self)).1
        have e1 : Txt.partition z "." = (cutS z none (some (i : Int)), ("." : Str), cutS z (some ((i : Int) + 1)) none) := by
          unfold Txt.partition
          rw [ho, cut_to (by omega), cut_from hi]
          rfl
        refine iteF ?_
        refine nextA ?_
        dsimp only
        refine seqA ?_
        refine ⟨.str z, rfl, rfl, z, ".", i, rest, rfl, rfl, ho, ?_⟩
        dsimp only
        refine nameA ?_
        refine retA ?_
        have q2 : ∀ H', Same H H' → Q (.bl (lawWord false (.str (cutS z none (some (i : Int)))) && lawWord cap (.str (cutS z (some ((i : Int) + 1)) none)))) H' := fun H' s' => by
          have z0 := q H' s'
          rw [show lawCn cap (.str z) = (isName (.str (Txt.partition z ".").1) && lawWord cap (.str (Txt.partition z ".").2.2)) from rfl, e1] at z0
          exact z0
        have cl : ∀ lo hi, (cutS z lo hi).length ≤ 1000000 := fun lo hi => Nat.le_trans (cutS_length z lo hi) (ok_strz hok)
        refine ⟨.str z, rfl, .int i, rfl, (i : Int), rfl, z, rfl, hz, .str (cutS z none (some (i : Int))), .str (cutS z none (some (i : Int))), false, rfl, .str _, .str _ (cl _ _), fun H1 s1 => ⟨_, rfl, ite2 (fun e => ?_) (fun e => ?_)⟩⟩
        · refine ⟨.str z, rfl, .int i, rfl, (i : Int), 1, rfl, rfl, (i : Int) + 1, rfl, z, rfl, hz, .bl cap, rfl, .str (cutS z (some ((i : Int) + 1)) none), .str (cutS z (some ((i : Int) + 1)) none), cap, rfl, .str _, .str _ (cl _ _), fun H2 s2 => ?_⟩
          have z0 := q2 H2 (s1.trans s2)
          rw [e, Bool.true_and] at z0
          exact z0
        · have z0 := q2 H1 s1
          rw [Bool.eq_false_iff.mpr e, Bool.false_and] at z0
          exact z0
    | bl b => exact iteT (iteT (q H (Same.refl H)))
    | non => exact iteT (iteT (q H (Same.refl H)))
    | int z => exact iteT (iteT (q H (Same.refl H)))
    | lst h1 h2 => exact iteT (iteT (q H (Same.refl H)))
    | tup h1 h2 => exact iteT (iteT (q H (Same.refl H)))
end
end Cw

set_option Elab.async false
set_option linter.all false
set_option maxRecDepth 100000
set_option maxHeartbeats 4000000
/-! # CwNe: x != a text, x any data. -/
namespace L2
open PySem PySem.Spec PyProof.Rows
def rNeS (K : PySem.W.Frag) : R2 := fun x y H Q => ∃ d z, Dp K H x d ∧ y = .str z ∧ Q (.bl (!isOneOf [z] d)) H
theorem op_neS {X : Cx} (hu : X.A.units < cLine) : OpR X (compareOp .NotEq) (rNeS X.K) := by
  intro pins s σ H x y v u Q I rx ry h
  obtain ⟨d, z, hx, rfl, q⟩ := h
  obtain ⟨tk, rfl⟩ := (show ∃ t, u = Value.str z t from ry)
  have fin : ∀ b : Bool, b = !isOneOf [z] d → EP X pins σ Q (.bool b) s := fun b e => ⟨.bl _, H, I, by rw [e]; rfl, q⟩
  cases hx with
  | non => cases (show v = Value.none from rx); exact SeqAt.RcNeAt.none_str z tk _ _ _ _ (fin _ rfl)
  | bl b => cases (show v = Value.bool b from rx); exact SeqAt.RcNeAt.bool_str b z tk _ _ _ _ (fin _ rfl)
  | int i => obtain ⟨t2, e⟩ := (show ∃ t, v = Value.int i t from rx); cases e; exact SeqAt.RcNeAt.int_str i t2 z tk _ _ _ _ (fin _ rfl)
  | str y => obtain ⟨t2, e⟩ := (show ∃ t, v = Value.str y t from rx); cases e; exact SeqAt.RcNeAt.str_str y t2 z tk _ _ _ _ (fin _ (by
      show (!(y == z)) = !([z].any fun w => w == y)
      rw [List.any_cons, List.any_nil, Bool.or_false]
      congr 1
      rw [Bool.eq_iff_iff, beq_iff_eq, beq_iff_eq]
      exact ⟨Eq.symm, Eq.symm⟩))
  | lst hs _ =>
    cases rx
    obtain ⟨its2, _, pl2, _⟩ := I.list hs
    exact SeqAt.RcNeAt.list_str z tk pl2.isList hu _ _ _ _ (fin _ rfl)
  | tup hs _ =>
    cases rx
    obtain ⟨its2, _, pl2, _⟩ := I.tuple hs
    exact SeqAt.RcNeAt.tuple_str z tk pl2 hu _ _ _ _ (fin _ rfl)
end L2

set_option Elab.async false
set_option linter.all false
set_option maxRecDepth 100000
set_option maxHeartbeats 4000000
namespace Cw
open PySem PySem.Spec PyProof.Rows L2
def tupN (lo hi : Nat) (r : PyData → Bool) : PyData → Bool
  | .tuple l => decide (lo ≤ l.length) && (decide (l.length ≤ hi) && l.all r)
  | _ => false
def lawNamed : PyData → Bool
  | .tuple [d0, d1] => lawWord false d0 && lawCn true d1
  | _ => false
def lawClass : PyData → Bool
  | .tuple [d0, d1, d2, d3, d4] => lawWord true d0 && (isOneOf ["open", "sealed"] d1 && (isBo d2 && (tupN 1 12 (lawCn true) d3 && tupN 0 3 lawNamed d4)))
  | _ => false
theorem lawClass_len {ds : List PyData} (h : ¬ ((ds.length : Int) = 5)) : lawClass (.tuple ds) = false := by
  match ds, h with
  | [], _ => rfl
  | [_], _ => rfl
  | [_, _], _ => rfl
  | [_, _, _], _ => rfl
  | [_, _, _, _], _ => rfl
  | [_, _, _, _, _], h => exact absurd rfl h
  | _ :: _ :: _ :: _ :: _ :: _ :: _, _ => rfl
theorem ne_int {i j : Int} : (!decide (V.int i = V.int j)) = !(i == j) := by rw [dec_int]
theorem all_no {r : PyData → Bool} {l : List PyData} {z : PyData} (m : z ∈ l) (e : r z = false) : l.all r = false := by
  rw [Bool.eq_false_iff]
  intro g
  have := List.all_eq_true.mp g z m
  rw [e] at this
  cases this
theorem all_yes {r : PyData → Bool} {l : List PyData} (h : ∀ (j : Nat) z, l[j]? = some z → r z = true) : l.all r = true := by
  refine List.all_eq_true.mpr fun z m => ?_
  obtain ⟨j, hj⟩ := List.getElem?_of_mem m
  exact h j z hj
theorem all_step {r : PyData → Bool} {l : List PyData} {i j : Nat} {y z : PyData} (h : ∀ (j : Nat) z, j < i → l[j]? = some z → r z = true) (hj : j < i + 1) (hz : l[j]? = some z) (hy : l[i]? = some y) (e : r y = true) : r z = true := by
  by_cases k : j < i
  · exact h j z k hz
  · have : j = i := by omega
    subst this
    rw [hz] at hy
    obtain rfl := Option.some.inj hy
    exact e
theorem and_q {t u : TT} {b c : Bool} {σ : L2.St} {H : Hp} {Q : Bool → Hp → Prop} (hb : ∀ R : Bool → Hp → Prop, R b H → t σ H R) (hc : b = true → ∀ R : Bool → Hp → Prop, R c H → u σ H R) (q : Q (b && c) H) : tAnd t u σ H Q := by
  refine hb _ ?_
  cases b with
  | true => exact iteT (hc rfl _ q)
  | false => exact iteF q
theorem or_q {t u : TT} {b c : Bool} {σ : L2.St} {H : Hp} {Q : Bool → Hp → Prop} (hb : ∀ R : Bool → Hp → Prop, R b H → t σ H R) (hc : b = false → ∀ R : Bool → Hp → Prop, R c H → u σ H R) (q : Q (b || c) H) : tOr t u σ H Q := by
  refine hb _ ?_
  cases b with
  | true => exact iteT q
  | false => exact iteF (hc rfl _ q)
theorem isi_q {K : PySem.W.Frag} {te : TE} {x : V} {d : PyData} {n : String} {b : Bool} {σ : L2.St} {H : Hp} {Q : Bool → Hp → Prop} (e : ∀ R : V → Hp → Prop, R x H → te σ H R) (h : Dp K H x d) (kb : kitB (tyName d) n = some b) (q : Q (!b) H) :
    tNot (tB (tCB (rIsi K) (tCons te (tCons (tC (.ty n)) tNil)))) σ H Q := e _ ⟨x, .ty n, .type (tyName d), .type n, b, rfl, .ty n, ty_dp h, kit_ty kb, b, rfl, q⟩
theorem one_two {x y : Str} {d : PyData} : ((!isOneOf [x] d) && !isOneOf [y] d) = !isOneOf [x, y] d := by
  cases d with
  | str z =>
    show ((!([x].any fun w => w == z)) && !([y].any fun w => w == z)) = !([x, y].any fun w => w == z)
    rw [List.any_cons, List.any_cons, List.any_cons, List.any_cons, List.any_nil, Bool.or_false, Bool.or_false, Bool.not_or]
  | _ => rfl
theorem tupN_no {lo hi : Nat} {r : PyData → Bool} {d : PyData} (h : isTu d = false) : tupN lo hi r d = false := by
  cases d with
  | tuple l => cases h
  | _ => rfl
theorem tu_of {K : PySem.W.Frag} {H : Hp} {x : V} {d : PyData} (h : Dp K H x d) (e : isTu d = true) : ∃ a xs l, x = .ref a ∧ d = .tuple l ∧ SqT K H a xs ∧ DpAll K H xs l := by
  cases h with
  | tup h1 h2 => exact ⟨_, _, _, rfl, rfl, h1, h2⟩
  | _ => cases e
theorem lawNamed_len {ds : List PyData} (h : ¬ ((ds.length : Int) = 2)) : lawNamed (.tuple ds) = false := by
  match ds, h with
  | [], _ => rfl
  | [_], _ => rfl
  | [_, _], h => exact absurd rfl h
  | _ :: _ :: _ :: _, _ => rfl
theorem dps2 {K : PySem.W.Frag} {H : Hp} {xs : List V} {ds : List PyData} (h : DpAll K H xs ds) (n : ds.length = 2) : ∃ x0 x1 d0 d1, xs = [x0, x1] ∧ ds = [d0, d1] ∧ Dp K H x0 d0 ∧ Dp K H x1 d1 := by
  match ds, n with
  | [d0, d1], _ =>
    rcases h with _ | ⟨k0, h⟩
    rcases h with _ | ⟨k1, h⟩
    cases h
    exact ⟨_, _, _, _, rfl, rfl, k0, k1⟩
theorem ifA {c : TT} {t u : TS} {D : Ends} {σ : L2.St} {H : Hp} (h : c σ H fun b H1 => if b = true then t D σ H1 else u D σ H1) : tIfS c t u D σ H := h
/-- a pair of a name and a class name, tested in line -/
theorem named_q {K : PySem.W.Frag} {σ : L2.St} {H : Hp} {Q : Bool → Hp → Prop} {i : Nat} {x : V} {d : PyData} (e : σ[i]? = some (some x)) (hx : Dp K H x d) (ok : Ok d) (q : ∀ H', Same H H' → Q (!lawNamed d) H') :
    tOr (tNot (tB (tCB (rIsi K) (tCons (tVar i) (tCons (tC (V.ty "tuple")) tNil))))) (tOr (tTest (tOp rNe (tCB (fun xs H Q => ∃ p ys, xs = [V.ref p] ∧ (SqL K H p ys ∨ SqT K H p ys) ∧ Q (V.int (ys.length : Nat)) H) (tCons (tVar i) tNil)) (tC (V.int 2))))
      (tOr (tNot (tB (tCall (spWord K) [] E0 (tCons (tOp (rIxT K) (tVar i) (tC (V.int 0))) (tCons (tC (V.bl false)) tNil))))) (tNot (tB (tCall (spLawCn K) [] E0 (tCons (tOp (rIxT K) (tVar i) (tC (V.int 1))) (tCons (tC (V.bl true)) tNil))))))) σ H Q := by
  refine r_isi e hx (kb_tu d) ?_
  cases hx with
  | @tup a xs ds hq hd =>
    refine iteF ⟨.ref a, e, a, xs, rfl, .inr hq, rfl, _, rfl, ?_⟩
    rw [ne_int, (dp_get hd).1]
    refine ite2 (fun g => ?_) (fun g => ?_)
    · have z0 := q H (Same.refl H)
      rw [lawNamed_len (by simpa using g)] at z0
      exact z0
    have hn : ds.length = 2 := by
      have e' : ((ds.length : Int) == 2) = true := by simpa using g
      have := beq_iff_eq.mp e'
      omega
    obtain ⟨x0, x1, d0, d1, rfl, rfl, k0, k1⟩ := dps2 hd hn
    have o0 : Ok d0 := ok_mem ok (by simp [items])
    have o1 : Ok d1 := ok_mem ok (by simp [items])
    have q : ∀ H', Same H H' → Q (!(lawWord false d0 && lawCn true d1)) H' := q
    refine ⟨.ref a, e, a, _, _, _, rfl, rfl, hq, atI_nat (j := 0) rfl, x0, d0, false, rfl, k0, o0, fun H1 s1 => ⟨_, rfl, ?_⟩⟩
    cases e0 : lawWord false d0 with
    | false =>
      have z0 := q H1 s1
      rw [e0, Bool.false_and] at z0
      exact iteT z0
    | true =>
      refine iteF ⟨.ref a, e, a, _, _, _, rfl, rfl, sqt_keep s1 hq, atI_nat (j := 1) rfl, x1, d1, true, rfl, dp_keep s1 k1, o1, fun H2 s2 => ⟨_, rfl, ?_⟩⟩
      have z0 := q H2 (s1.trans s2)
      rw [e0, Bool.true_and] at z0
      exact z0
  | bl b => exact iteT (q H (Same.refl H))
  | non => exact iteT (q H (Same.refl H))
  | int z => exact iteT (q H (Same.refl H))
  | lst h1 h2 => exact iteT (q H (Same.refl H))
  | str z => exact iteT (q H (Same.refl H))
section
variable {P : Program} {w : World} {K : PySem.W.Frag} {mg : Str → Option Value} {base : Heap} {S : Addr → Option Sp}
end
end Cw

set_option Elab.async false
set_option linter.all false
set_option maxRecDepth 100000
set_option maxHeartbeats 4000000
namespace Cw
open PySem PySem.Spec PyProof.Rows L2
def lawGeneric : PyData → Bool
  | .tuple [d0, d1, d2, d3] => lawWord false d0 && (tupN 1 3 (lawCn true) d1 && (isInteger 1 ((items d1).length : Int) d2 && lawCn true d3))
  | _ => false
theorem lawGeneric_len {ds : List PyData} (h : ¬ ((ds.length : Int) = 4)) : lawGeneric (.tuple ds) = false := by
  match ds, h with
  | [], _ => rfl
  | [_], _ => rfl
  | [_, _], _ => rfl
  | [_, _, _], _ => rfl
  | [_, _, _, _], h => exact absurd rfl h
  | _ :: _ :: _ :: _ :: _ :: _, _ => rfl
/-- [one for one in t if not f(one)]: how many -/
theorem lc_bad {K : PySem.W.Frag} {tl : TE} {tt : TT} {σ : L2.St} {H : Hp} {Q : VK} {i : Nat} {ds : List PyData} {r : PyData → Bool} (e : ∀ R : V → Hp → Prop, (∀ a H1 xs, Same H H1 → SqT K H1 a xs → DpAll K H1 xs ds → R (.ref a) H1) → tl σ H R)
    (ho : ∀ z, z ∈ ds → Ok z) (hn : ds.length ≤ 100001) (hw : ∀ x, wipe ((wipe σ [i]).set i (some x)) [i] = wipe σ [i]) (hg : ∀ x, ((wipe σ [i]).set i (some x))[i]? = some (some x))
    (ht : ∀ (σ' : L2.St) (H' : Hp) (x : V) (d : PyData), σ'[i]? = some (some x) → Dp K H' x d → Ok d → ∀ R : Bool → Hp → Prop, (∀ H'', Same H' H'' → R (!r d) H'') → tt σ' H' R)
    (q : ∀ D H' acc, Same H H' → H' D = some (.lst acc) → acc.length = (ds.filter fun z => !r z).length → Q (.ref D) H') : tLc (iTup K tl) (gName i) tt (tVar i) [i] σ H Q := by
  refine e _ fun a H1 xs s1 hq hd => ?_
  have hl := (dp_get hd).1
  refine ⟨a, rfl, ⟨xs, hq⟩, fun D hD => lc_it walk_tup (fun j H' => Same H1 H' ∧ ∃ acc, H' D = some (.lst acc) ∧ acc.length = ((ds.take j).filter fun z => !r z).length) ⟨same_upd hD, [], upd_same, rfl⟩ (fun j H' _ p => sqt_keep p.1 hq) ?_ ?_⟩
  · rintro j y Hx H2 hj ⟨s2, acc, hacc, hla⟩ ⟨rfl, hy⟩
    have hjl : j < ds.length := by omega
    obtain ⟨y', hy1, hy2⟩ := (dp_get hd).2 j ds[j] (List.getElem?_eq_getElem hjl)
    obtain rfl : y' = y := Option.some.inj (hy1.symm.trans hy)
    refine ⟨hw _, ht _ _ y' ds[j] (hg _) (dp_keep s2 hy2) (ho _ (List.getElem_mem hjl)) _ fun H3 s3 => ?_⟩
    have st : ((ds.take (j + 1)).filter fun z => !r z) = ((ds.take j).filter fun z => !r z) ++ [ds[j]].filter fun z => !r z := by
      rw [List.take_add_one, List.getElem?_eq_getElem hjl, List.filter_append]
      rfl
    have bd : acc.length ≤ 100001 := by
      rw [hla]
      exact Nat.le_trans (List.length_filter_le _ _) (by rw [List.length_take]; omega)
    cases e1 : r ds[j] with
    | true => exact iteF ⟨s2.trans s3, acc, s3 _ _ hacc, by rw [st, List.length_append, hla, List.filter_cons, e1]; rfl⟩
    | false =>
      refine iteT ⟨y', hg _, acc, s3 _ _ hacc, Nat.lt_of_le_of_lt bd (by decide), same_mut (s2.trans s3) hD, acc ++ [y'], upd_same, ?_⟩
      rw [st, List.length_append, List.length_append, hla, List.filter_cons, e1]
      rfl
  · rintro H2 ⟨s2, acc, hacc, hla⟩
    rw [List.take_of_length_le (by omega)] at hla
    exact q D H2 acc (s1.trans s2) hacc hla
theorem bad_len {r : PyData → Bool} {ds : List PyData} : decide ((ds.filter fun z => !r z).length = 0) = ds.all r := by
  rw [Bool.eq_iff_iff, decide_eq_true_iff, List.length_eq_zero_iff, List.filter_eq_nil_iff, List.all_eq_true]
  simp
section
variable {P : Program} {w : World} {K : PySem.W.Frag} {mg : Str → Option Value} {base : Heap} {S : Addr → Option Sp}
end
end Cw

set_option Elab.async false
set_option linter.all false
set_option maxRecDepth 100000
set_option maxHeartbeats 4000000
namespace Cw
open PySem PySem.Spec PyProof.Rows L2
def innerL (z : Str) (r : List PyData) : List PyData :=
  if z = "new" ∨ z = "call" then items (r.getD 1 .none) else if z = "field" then [r.getD 0 .none] else if z = "let" then [r.getD 1 .none, r.getD 2 .none] else if z = "add" ∨ z = "sub" ∨ z = "mul" ∨ z = "if" then r else []
def innerOk (z : Str) (r : List PyData) : Prop := (z = "new" ∨ z = "call" → ∃ y l, r = [y, .tuple l]) ∧ (z = "field" → r.length = 3) ∧ (z = "let" → r.length = 3)
def spInner (K : PySem.W.Frag) : Sp := fun vs H Q _ => ∃ x z r, vs = [x] ∧ Dp K H x (.tuple (.str z :: r)) ∧ innerOk z r ∧ ∀ H' L ys, Same H H' → H' L = some (.lst ys) → H L = none → DpAll K H' ys (innerL z r) → Q (.ref L) H'
theorem inV_strs {z : Str} {l : List Str} : (if false = true then !inV (.str z) (l.map V.str) else inV (.str z) (l.map V.str)) = decide (z ∈ l) := by
  rw [if_neg (by decide)]
  unfold inV
  rw [List.any_map, Bool.eq_iff_iff, decide_eq_true_iff, List.any_eq_true]
  constructor
  · rintro ⟨y, m, e⟩
    have e : (y == z) = true := e
    rw [beq_iff_eq] at e
    exact e ▸ m
  · intro m
    exact ⟨z, m, by show (z == z) = true; exact beq_self_eq_true z⟩
theorem sl_tailT {K : PySem.W.Frag} {H : Hp} {a : Addr} {xs : List V} {Q : VK} (h : SqT K H a xs) (hn : 0 < xs.length) (q : ∀ p H1, H p = none → Same H H1 → SqT K H1 p (xs.drop 1) → Q (.ref p) H1) : rSlA K (.ref a) (some 1) none H Q := by
  refine ⟨a, xs, rfl, h, fun e => ?_, fun _ p hp => ?_⟩
  · exfalso
    have e1 := e.1
    rw [show (some (1 : Int)) = some ((1 : Nat) : Int) from rfl, HT.sIx_nat] at e1
    omega
  · rw [cutV_one]
    exact q p _ hp (sameU hp) (.inl (.inl upd_same))
section
variable {P : Program} {w : World} {K : PySem.W.Frag} {mg : Str → Option Value} {base : Heap} {S : Addr → Option Sp}
abbrev s__law_inner_parts : Stmt := topS 89
theorem sc__law_inner_parts : FnScope ["value"] ["value"] (defScope s__law_inner_parts) := ⟨rfl, rfl, rfl, by decide +kernel, rfl, by decide +kernel, by decide +kernel⟩
theorem ok__law_inner_parts {f : Addr} {fd : FuncData} (F : Fun K "_law_inner_parts" "_law_inner_parts" s__law_inner_parts f fd) (m_list : mg "list" = none) : FnOk P w K mg base CX0 1 f fd ["value"] (spInner K) := by
  refine F.ok sc__law_inner_parts (fun vs H Q E h => ?_) (fun cdv A outer s H vs Q E hr h => ?_)
  · obtain ⟨_, _, _, rfl, _⟩ := h
    rfl
  · obtain ⟨x, z, r, rfl, hx, hi, q⟩ := h
    refine ⟨_, (pss_cons (ps_if (pt_cmpR op_in_seq (pe_ix ix_tup (pv 0) pe_int (fun _ _ => rfl)) (pe_tup (pa_cons pe_str (pa_cons pe_str pa_nil))) (by rfl)) (pss_one (ps_ret (pe_callTy call_list_of (by rfl) m_list (by decide +kernel) (pa_cons (pe_ix ix_tup (pv 0) pe_int (fun _ _ => rfl)) pa_nil)))) pss_nil)
  (pss_cons (ps_if (pt_cmpR op_eq (pe_ix ix_tup (pv 0) pe_int (fun _ _ => rfl)) pe_str (nomark _)) (pss_one (ps_ret (pe_lst (pa_cons (pe_ix ix_tup (pv 0) pe_int (fun _ _ => rfl)) pa_nil)))) pss_nil)
  (pss_cons (ps_if (pt_cmpR op_eq (pe_ix ix_tup (pv 0) pe_int (fun _ _ => rfl)) pe_str (nomark _)) (pss_one (ps_ret (pe_lst (pa_cons (pe_ix ix_tup (pv 0) pe_int (fun _ _ => rfl)) (pa_cons (pe_ix ix_tup (pv 0) pe_int (fun _ _ => rfl)) pa_nil))))) pss_nil)
  (pss_one (ps_ret (pe_ifExp (pt_cmpR op_in_seq (pe_ix ix_tup (pv 0) pe_int (fun _ _ => rfl)) (pe_tup (pa_cons pe_str (pa_cons pe_str (pa_cons pe_str (pa_cons pe_str pa_nil))))) (by rfl)) (pe_callTy call_list_of (by rfl) m_list (by decide +kernel) (pa_cons (pe_slice sl_tupA (pv 0) (po_some pe_int) po_none) pa_nil)) (pe_lst pa_nil))))))), ?_⟩
    cases hx with | @tup a xs _ hq hd
    rcases hd with _ | ⟨k0, kr⟩
    rename_i x0 xr
    cases k0 with | str z
    refine seqA (ifA ?_)
    refine ⟨.ref a, rfl, a, _, _, _, rfl, rfl, hq, atI_nat (j := 0) rfl, by show 2 ≤ sizeLine; decide, fun tp ntp => ⟨tp, (["new", "call"] : List Str).map V.str, rfl, .inr (.inl (.inl upd_same)), rfl, by decide, _, rfl, ?_⟩⟩
    rw [inV_strs]
    have s1 := same_upd (o := .tup [.str "new", .str "call"]) ntp
    have hq1 := sqt_keep s1 hq
    have kr1 := dps_keep s1 kr
    generalize upd H tp (.tup [.str "new", .str "call"]) = H1 at s1 hq1 kr1 ⊢
    refine ite2 (fun e1 => ?_) (fun e1 => ?_)
    · have e1 : z = "new" ∨ z = "call" := by simpa using e1
      obtain ⟨y, l, rfl⟩ := hi.1 e1
      rcases kr1 with _ | ⟨ky, kr1⟩
      rcases kr1 with _ | ⟨kl, kr1⟩
      rename_i y0 y1 yr
      cases kl with | @tup b zs _ hb hdb
      refine retA ?_
      refine ⟨.ref a, rfl, a, _, _, _, rfl, rfl, hq1, atI_nat (j := 2) rfl, b, zs, rfl, .inr hb, fun L hL => ?_⟩
      refine q _ L zs (s1.trans (same_upd hL)) upd_same (s1.free hL) ?_
      rw [innerL, if_pos e1]
      exact dps_keep (same_upd hL) hdb
    have g1 : ¬ (z = "new" ∨ z = "call") := fun k => e1 (by simpa using k)
    refine nextA ?_
    dsimp only
    refine seqA (ifA ?_)
    refine ⟨.ref a, rfl, a, _, _, _, rfl, rfl, hq1, atI_nat (j := 0) rfl, rfl, _, rfl, ite2 (fun e2 => ?_) (fun e2 => ?_)⟩
    · have e2 := str_of e2
      have hr := hi.2.1 e2
      obtain ⟨x1, x2, x3, d1, d2, d3, rfl, rfl, k1, k2, k3⟩ := dps3 kr1 hr
      refine retA ?_
      refine ⟨.ref a, rfl, a, _, _, _, rfl, rfl, hq1, atI_nat (j := 1) rfl, by show 1 ≤ sizeLine; decide, fun L hL => ?_⟩
      refine q _ L [x1] (s1.trans (same_upd hL)) upd_same (s1.free hL) ?_
      rw [innerL, if_neg g1, if_pos e2]
      exact .cons (dp_keep (same_upd hL) k1) .nil
    have g2 : ¬ z = "field" := fun k => e2 (str_to k)
    refine nextA ?_
    dsimp only
    refine seqA (ifA ?_)
    refine ⟨.ref a, rfl, a, _, _, _, rfl, rfl, hq1, atI_nat (j := 0) rfl, rfl, _, rfl, ite2 (fun e3 => ?_) (fun e3 => ?_)⟩
    · have e3 := str_of e3
      have hr := hi.2.2 e3
      obtain ⟨x1, x2, x3, d1, d2, d3, rfl, rfl, k1, k2, k3⟩ := dps3 kr1 hr
      refine retA ?_
      refine ⟨.ref a, rfl, a, _, _, _, rfl, rfl, hq1, atI_nat (j := 2) rfl, .ref a, rfl, a, _, _, _, rfl, rfl, hq1, atI_nat (j := 3) rfl, by show 2 ≤ sizeLine; decide, fun L hL => ?_⟩
      refine q _ L [x2, x3] (s1.trans (same_upd hL)) upd_same (s1.free hL) ?_
      rw [innerL, if_neg g1, if_neg g2, if_pos e3]
      exact .cons (dp_keep (same_upd hL) k2) (.cons (dp_keep (same_upd hL) k3) .nil)
    have g3 : ¬ z = "let" := fun k => e3 (str_to k)
    refine nextA ?_
    dsimp only
    refine retA ?_
    refine ⟨.ref a, rfl, a, _, _, _, rfl, rfl, hq1, atI_nat (j := 0) rfl, by show 4 ≤ sizeLine; decide, fun tq ntq => ⟨tq, (["add", "sub", "mul", "if"] : List Str).map V.str, rfl, .inr (.inl (.inl upd_same)), rfl, by decide, _, rfl, ?_⟩⟩
    rw [inV_strs]
    have s2 := s1.trans (same_upd (o := .tup [.str "add", .str "sub", .str "mul", .str "if"]) ntq)
    have hq2 := sqt_keep s2 hq
    have kr2 := dps_keep s2 kr
    generalize upd H1 tq (.tup [.str "add", .str "sub", .str "mul", .str "if"]) = H2 at s2 hq2 kr2 ⊢
    refine ite2 (fun e4 => ?_) (fun e4 => ?_)
    · have e4 : z = "add" ∨ z = "sub" ∨ z = "mul" ∨ z = "if" := by simpa using e4
      refine ⟨.ref a, rfl, 1, rfl, ?_⟩
      unfold tNoPart
      dsimp only
      refine sl_tailT hq2 (by simp) (fun p H3 hp s3 hb => ⟨p, _, rfl, .inr hb, fun L hL => ?_⟩)
      refine q _ L xr ((s2.trans s3).trans (same_upd hL)) upd_same ((s2.trans s3).free hL) ?_
      rw [innerL, if_neg g1, if_neg g2, if_neg g3, if_pos e4]
      exact dps_keep (s3.trans (same_upd hL)) kr2
    · have g4 : ¬ (z = "add" ∨ z = "sub" ∨ z = "mul" ∨ z = "if") := fun k => e4 (by simpa using k)
      refine ⟨by show 0 ≤ sizeLine; decide, fun L hL => ?_⟩
      refine q _ L [] (s2.trans (same_upd hL)) upd_same (s2.free hL) ?_
      rw [innerL, if_neg g1, if_neg g2, if_neg g3, if_neg g4]
      exact .nil
end
end Cw

set_option Elab.async false
set_option linter.all false
set_option maxRecDepth 100000
set_option maxHeartbeats 4000000
namespace Cw
open PySem PySem.Spec PyProof.Rows L2
def lawMethod (rx : PyData → Bool) : PyData → Bool
  | .tuple [d0, d1, d2] => lawCn false d0 && (tupN 1 3 lawNamed d1 && rx d2)
  | _ => false
theorem lawMethod_len {rx : PyData → Bool} {ds : List PyData} (h : ¬ ((ds.length : Int) = 3)) : lawMethod rx (.tuple ds) = false := by
  match ds, h with
  | [], _ => rfl
  | [_], _ => rfl
  | [_, _], _ => rfl
  | [_, _, _], h => exact absurd rfl h
  | _ :: _ :: _ :: _ :: _, _ => rfl
abbrev s__law_is_right_expr : Stmt := topS 92
section
variable {P : Program} {w : World} {K : PySem.W.Frag} {mg : Str → Option Value} {base : Heap} {S : Addr → Option Sp} {rx : PyData → Bool}
end
end Cw

set_option Elab.async false
set_option linter.all false
set_option maxRecDepth 100000
set_option maxHeartbeats 4000000
namespace Cw
open PySem PySem.Spec PyProof.Rows L2
def lawModule (rm : PyData → Bool) : PyData → Bool
  | .tuple [d0, d1, d2, d3, d4] => lawWord false d0 && (tupN 0 4 (lawWord false) d1 && (tupN 0 6 lawClass d2 && (tupN 0 3 lawGeneric d3 && tupN 0 8 rm d4)))
  | _ => false
theorem lawModule_len {rm : PyData → Bool} {ds : List PyData} (h : ¬ ((ds.length : Int) = 5)) : lawModule rm (.tuple ds) = false := by
  match ds, h with
  | [], _ => rfl
  | [_], _ => rfl
  | [_, _], _ => rfl
  | [_, _, _], _ => rfl
  | [_, _, _, _], _ => rfl
  | [_, _, _, _, _], h => exact absurd rfl h
  | _ :: _ :: _ :: _ :: _ :: _ :: _, _ => rfl
theorem tupN_long {lo hi : Nat} {r : PyData → Bool} {l : List PyData} (h : ¬ l.length ≤ hi) : tupN lo hi r (.tuple l) = false := by
  rw [tupN, decide_eq_false h, Bool.false_and, Bool.and_false]
theorem tupN_in {hi : Nat} {r : PyData → Bool} {l : List PyData} (h : l.length ≤ hi) : tupN 0 hi r (.tuple l) = l.all r := by
  rw [tupN, decide_eq_true h, decide_eq_true (Nat.zero_le _), Bool.true_and, Bool.true_and]
theorem gt0_q {K : PySem.W.Frag} {tl : TE} {tt : TT} {σ : L2.St} {H : Hp} {Q : Bool → Hp → Prop} {i : Nat} {ds : List PyData} {r : PyData → Bool} (e : ∀ R : V → Hp → Prop, (∀ a H1 xs, Same H H1 → SqT K H1 a xs → DpAll K H1 xs ds → R (.ref a) H1) → tl σ H R)
    (ho : ∀ z, z ∈ ds → Ok z) (hn : ds.length ≤ 100001) (hw : ∀ x, wipe ((wipe σ [i]).set i (some x)) [i] = wipe σ [i]) (hg : ∀ x, ((wipe σ [i]).set i (some x))[i]? = some (some x))
    (ht : ∀ (σ' : L2.St) (H' : Hp) (x : V) (d : PyData), σ'[i]? = some (some x) → Dp K H' x d → Ok d → ∀ R : Bool → Hp → Prop, (∀ H'', Same H' H'' → R (!r d) H'') → tt σ' H' R)
    (q : ∀ H', Same H H' → Q (!ds.all r) H') :
    tTest (tOp (rI0 fun i j => V.bl (decide (j < i))) (tCB (fun xs H Q => ∃ p ys, xs = [V.ref p] ∧ (SqL K H p ys ∨ SqT K H p ys) ∧ Q (V.int (ys.length : Nat)) H) (tCons (tLc (iTup K tl) (gName i) tt (tVar i) [i]) tNil)) (tC (V.int 0))) σ H Q := by
  unfold tTest tOp tCB tCons tNil tC
  dsimp only
  refine lc_bad e ho hn hw hg ht fun D H' acc s h hl => ⟨D, acc, rfl, .inl (SqL.of h), _, 0, rfl, rfl, _, rfl, ?_⟩
  have z0 := q H' s
  rw [← bad_len] at z0
  rw [show decide ((0 : Int) < (acc.length : Int)) = !decide ((ds.filter fun z => !r z).length = 0) by
    rw [hl, Bool.eq_iff_iff, decide_eq_true_iff, Bool.not_eq_true', decide_eq_false_iff_not]
    omega]
  exact z0
theorem eq0_q {K : PySem.W.Frag} {tl : TE} {tt : TT} {σ : L2.St} {H : Hp} {Q : VK} {i : Nat} {ds : List PyData} {r : PyData → Bool} (e : ∀ R : V → Hp → Prop, (∀ a H1 xs, Same H H1 → SqT K H1 a xs → DpAll K H1 xs ds → R (.ref a) H1) → tl σ H R)
    (ho : ∀ z, z ∈ ds → Ok z) (hn : ds.length ≤ 100001) (hw : ∀ x, wipe ((wipe σ [i]).set i (some x)) [i] = wipe σ [i]) (hg : ∀ x, ((wipe σ [i]).set i (some x))[i]? = some (some x))
    (ht : ∀ (σ' : L2.St) (H' : Hp) (x : V) (d : PyData), σ'[i]? = some (some x) → Dp K H' x d → Ok d → ∀ R : Bool → Hp → Prop, (∀ H'', Same H' H'' → R (!r d) H'') → tt σ' H' R)
    (q : ∀ H', Same H H' → Q (.bl (ds.all r)) H') :
    tOp rEq (tCB (fun xs H Q => ∃ p ys, xs = [V.ref p] ∧ (SqL K H p ys ∨ SqT K H p ys) ∧ Q (V.int (ys.length : Nat)) H) (tCons (tLc (iTup K tl) (gName i) tt (tVar i) [i]) tNil)) (tC (V.int 0)) σ H Q := by
  unfold tOp tCB tCons tNil tC
  dsimp only
  refine lc_bad e ho hn hw hg ht fun D H' acc s h hl => ⟨D, acc, rfl, .inl (SqL.of h), rfl, ?_⟩
  have z0 := q H' s
  rw [← bad_len] at z0
  rw [show decide (V.int (acc.length : Int) = V.int 0) = decide ((ds.filter fun z => !r z).length = 0) by
    rw [dec_int, hl, Bool.eq_iff_iff, beq_iff_eq, decide_eq_true_iff]
    omega]
  exact z0
section
variable {P : Program} {w : World} {K : PySem.W.Frag} {mg : Str → Option Value} {base : Heap} {S : Addr → Option Sp} {rm : PyData → Bool}
end
end Cw

set_option Elab.async false
set_option linter.all false
set_option maxRecDepth 100000
set_option maxHeartbeats 4000000
namespace Cw
open PySem PySem.Spec PyProof.Rows L2
def lawMember (k : Str) (d : PyData) : Bool :=
  if k = "number" then isInteger 0 65535 d else if k = "name" then lawWord false d else if k = "class" then lawCn true d else if k = "generic" then lawCn false d else if k = "values" then tupN 0 12 (fun _ => true) d else if k = "arguments" then tupN 1 3 (fun _ => true) d else true
def lawForm (z : Str) (r : List PyData) : Bool := match kindsOf z with
  | none => false
  | some ks => decide (r.length = ks.length) && (ks.zip r).all fun p => lawMember p.1 p.2
def lawExpr : Nat → PyData → Bool
  | 0, _ => false
  | n + 1, .tuple (.str z :: r) => lawForm z r && (innerL z r).all (lawExpr n)
  | _ + 1, _ => false
/-- how many expressions, to a depth -/
def cntE : Nat → PyData → Nat
  | n + 1, .tuple (.str z :: r) => 1 + ((innerL z r).map (cntE n)).sum
  | _, _ => 0
def lawRx (d : PyData) : Bool := lawExpr 7 d && decide (cntE 7 d < 61)
/-- no list in it -/
inductive OnT : PyData → Prop
  | non : OnT .none
  | bool (b : Bool) : OnT (.bool b)
  | int (i : Int) : OnT (.int i)
  | str (z : Str) : OnT (.str z)
  | tuple (l : List PyData) (h : ∀ d, d ∈ l → OnT d) : OnT (.tuple l)
theorem ont_mem {l : List PyData} (h : OnT (.tuple l)) {d : PyData} (m : d ∈ l) : OnT d := by
  cases h with | tuple _ h => exact h d m
theorem ont_get {l : List PyData} (h : OnT (.tuple l)) (i : Nat) : OnT (l.getD i .none) := by
  rw [List.getD_eq_getElem?_getD]
  cases e : l[i]? with
  | none => exact .non
  | some d => exact ont_mem h (List.mem_of_getElem? e)
theorem seq_tup {lo hi : Nat} {d : PyData} (h : OnT d) : isSeq (lo : Int) (hi : Int) d = tupN lo hi (fun _ => true) d := by
  cases h with
  | tuple l h =>
    show (decide ((lo : Int) ≤ (l.length : Int)) && decide ((l.length : Int) ≤ (hi : Int))) = (decide (lo ≤ l.length) && (decide (l.length ≤ hi) && l.all fun _ => true))
    have e : (l.all fun _ => true) = true := List.all_eq_true.mpr fun _ _ => rfl
    rw [e, Bool.and_true]
    congr 1
    · exact decide_eq_decide.mpr (by omega)
    · exact decide_eq_decide.mpr (by omega)
  | _ => rfl
theorem allOf_tup {lo hi : Nat} {r r' : PyData → Bool} {d : PyData} (h : OnT d) (e : ∀ z, OnT z → r z = r' z) : allOf (lo : Int) (hi : Int) r d = tupN lo hi r' d := by
  rw [allOf, seq_tup h]
  cases h with
  | tuple l h =>
    show ((decide (lo ≤ l.length) && (decide (l.length ≤ hi) && l.all fun _ => true)) && l.all r) = (decide (lo ≤ l.length) && (decide (l.length ≤ hi) && l.all r'))
    have e1 : (l.all fun _ => true) = true := List.all_eq_true.mpr fun _ _ => rfl
    have e2 : l.all r = l.all r' := by
      rw [Bool.eq_iff_iff, List.all_eq_true, List.all_eq_true]
      exact ⟨fun g d m => by rw [← e d (h d m)]; exact g d m, fun g d m => by rw [e d (h d m)]; exact g d m⟩
    rw [e1, e2, Bool.and_true, Bool.and_assoc]
  | _ => rfl
theorem member_law {k : Str} {d : PyData} (h : OnT d) : lawMember k d = isMember k d := by
  unfold lawMember isMember
  rw [lawCn_eq, lawCn_eq]
  rw [show isSeq 0 12 d = tupN 0 12 (fun _ => true) d from seq_tup (lo := 0) (hi := 12) h, show isSeq 1 3 d = tupN 1 3 (fun _ => true) d from seq_tup (lo := 1) (hi := 3) h]
  rfl
theorem zip_mem {α β : Type} {a : List α} {b : List β} {p : α × β} (h : p ∈ a.zip b) : p.2 ∈ b := (List.of_mem_zip h).2
theorem all_congr {α : Type} {l : List α} {f g : α → Bool} (h : ∀ x, x ∈ l → f x = g x) : l.all f = l.all g := by
  rw [Bool.eq_iff_iff, List.all_eq_true, List.all_eq_true]
  exact ⟨fun q d m => by rw [← h d m]; exact q d m, fun q d m => by rw [h d m]; exact q d m⟩
theorem form_law {z : Str} {r : List PyData} (h : ∀ d, d ∈ r → OnT d) : lawForm z r = formL z r := by
  unfold lawForm formL
  cases kindsOf z with
  | none => rfl
  | some ks =>
    show (decide (r.length = ks.length) && (ks.zip r).all fun p => lawMember p.1 p.2) = (decide (r.length = ks.length) && (ks.zip r).all fun p => isMember p.1 p.2)
    rw [all_congr fun p m => member_law (h p.2 (zip_mem m))]
theorem form_len {z : Str} {r : List PyData} {ks : List Str} (h : formL z r = true) (e : kindsOf z = some ks) : r.length = ks.length := by
  unfold formL at h
  rw [e] at h
  exact of_decide_eq_true (Bool.and_eq_true _ _ ▸ h).1
/-- the eleven words -/
theorem words_of {z : Str} {ks : List Str} (e : kindsOf z = some ks) : (z = "int" ∧ ks = (["number"] : List Str)) ∨ (z = "name" ∧ ks = (["name"] : List Str)) ∨ (z = "next" ∧ ks = ([] : List Str)) ∨ (z = "new" ∧ ks = (["class", "values"] : List Str)) ∨ (z = "field" ∧ ks = (["part", "class", "name"] : List Str)) ∨ (z = "call" ∧ ks = (["generic", "arguments"] : List Str)) ∨ (z = "add" ∧ ks = (["part", "part"] : List Str)) ∨ (z = "sub" ∧ ks = (["part", "part"] : List Str)) ∨ (z = "mul" ∧ ks = (["part", "part"] : List Str)) ∨ (z = "if" ∧ ks = (["part", "part", "part"] : List Str)) ∨ (z = "let" ∧ ks = (["name", "part", "part"] : List Str)) := by
  unfold kindsOf at e
  by_cases h0 : z = "int"
  · rw [if_pos h0] at e
    exact Or.inl ⟨h0, (Option.some.inj e).symm⟩
  rw [if_neg h0] at e
  by_cases h1 : z = "name"
  · rw [if_pos h1] at e
    exact Or.inr (Or.inl ⟨h1, (Option.some.inj e).symm⟩)
  rw [if_neg h1] at e
  by_cases h2 : z = "next"
  · rw [if_pos h2] at e
    exact Or.inr (Or.inr (Or.inl ⟨h2, (Option.some.inj e).symm⟩))
  rw [if_neg h2] at e
  by_cases h3 : z = "new"
  · rw [if_pos h3] at e
    exact Or.inr (Or.inr (Or.inr (Or.inl ⟨h3, (Option.some.inj e).symm⟩)))
  rw [if_neg h3] at e
  by_cases h4 : z = "field"
  · rw [if_pos h4] at e
    exact Or.inr (Or.inr (Or.inr (Or.inr (Or.inl ⟨h4, (Option.some.inj e).symm⟩))))
  rw [if_neg h4] at e
  by_cases h5 : z = "call"
  · rw [if_pos h5] at e
    exact Or.inr (Or.inr (Or.inr (Or.inr (Or.inr (Or.inl ⟨h5, (Option.some.inj e).symm⟩)))))
  rw [if_neg h5] at e
  by_cases h6 : z = "add"
  · rw [if_pos h6] at e
    exact Or.inr (Or.inr (Or.inr (Or.inr (Or.inr (Or.inr (Or.inl ⟨h6, (Option.some.inj e).symm⟩))))))
  rw [if_neg h6] at e
  by_cases h7 : z = "sub"
  · rw [if_pos h7] at e
    exact Or.inr (Or.inr (Or.inr (Or.inr (Or.inr (Or.inr (Or.inr (Or.inl ⟨h7, (Option.some.inj e).symm⟩)))))))
  rw [if_neg h7] at e
  by_cases h8 : z = "mul"
  · rw [if_pos h8] at e
    exact Or.inr (Or.inr (Or.inr (Or.inr (Or.inr (Or.inr (Or.inr (Or.inr (Or.inl ⟨h8, (Option.some.inj e).symm⟩))))))))
  rw [if_neg h8] at e
  by_cases h9 : z = "if"
  · rw [if_pos h9] at e
    exact Or.inr (Or.inr (Or.inr (Or.inr (Or.inr (Or.inr (Or.inr (Or.inr (Or.inr (Or.inl ⟨h9, (Option.some.inj e).symm⟩)))))))))
  rw [if_neg h9] at e
  by_cases h10 : z = "let"
  · rw [if_pos h10] at e
    exact Or.inr (Or.inr (Or.inr (Or.inr (Or.inr (Or.inr (Or.inr (Or.inr (Or.inr (Or.inr (⟨h10, (Option.some.inj e).symm⟩))))))))))
  rw [if_neg h10] at e
  cases e
theorem parts_inner {z : Str} {r : List PyData} (h : formL z r = true) : partsL z r = innerL z r := by
  cases ek : kindsOf z with
  | none =>
    unfold formL at h
    rw [ek] at h
    cases h
  | some ks =>
    have hl := form_len h ek
    have hp : partsL z r = (ks.zip r).flatMap partOf := by
      unfold partsL
      rw [ek]
    rw [hp]
    rcases words_of ek with ⟨rfl, rfl⟩ | ⟨rfl, rfl⟩ | ⟨rfl, rfl⟩ | ⟨rfl, rfl⟩ | ⟨rfl, rfl⟩ | ⟨rfl, rfl⟩ | ⟨rfl, rfl⟩ | ⟨rfl, rfl⟩ | ⟨rfl, rfl⟩ | ⟨rfl, rfl⟩ | ⟨rfl, rfl⟩
    · match r, hl with
      | [a], _ => rfl
    · match r, hl with
      | [a], _ => rfl
    · match r, hl with
      | [], _ => rfl
    · match r, hl with
      | [a, b], _ =>
        show [] ++ ((([] : List PyData) ++ items b) ++ []) = items b
        rw [List.append_nil, List.nil_append, List.nil_append]
    · match r, hl with
      | [a, b, c], _ => rfl
    · match r, hl with
      | [a, b], _ =>
        show [] ++ ((([] : List PyData) ++ items b) ++ []) = items b
        rw [List.append_nil, List.nil_append, List.nil_append]
    · match r, hl with
      | [a, b], _ => rfl
    · match r, hl with
      | [a, b], _ => rfl
    · match r, hl with
      | [a, b], _ => rfl
    · match r, hl with
      | [a, b, c], _ => rfl
    · match r, hl with
      | [a, b, c], _ => rfl
theorem ont_items {d e : PyData} (h : OnT d) (m : e ∈ items d) : OnT e := by
  cases h with
  | tuple l h => exact h e m
  | _ => cases m
theorem ont_inner {z : Str} {r : List PyData} (h : ∀ d, d ∈ r → OnT d) : ∀ d, d ∈ innerL z r → OnT d := by
  have g : ∀ i, OnT (r.getD i .none) := fun i => ont_get (.tuple r h) i
  intro d m
  unfold innerL at m
  split at m
  · exact ont_items (g 1) m
  split at m
  · rcases List.mem_singleton.mp m with rfl
    exact g 0
  split at m
  · rcases List.mem_cons.mp m with rfl | m
    · exact g 1
    rcases List.mem_singleton.mp m with rfl
    exact g 2
  split at m
  · exact h d m
  · cases m
theorem expr_no {n : Nat} {d : PyData} (h : OnT d) (e : hasForm d = false) : lawExpr (n + 1) d = false := by
  cases h with
  | tuple l h =>
    match l, h, e with
    | [], _, _ => rfl
    | .str z :: r, h, e =>
      show (lawForm z r && (innerL z r).all (lawExpr n)) = false
      rw [form_law fun d m => h d (List.mem_cons_of_mem _ m), show formL z r = false from e, Bool.false_and]
    | .none :: r, _, _ => rfl
    | .bool _ :: r, _, _ => rfl
    | .int _ :: r, _, _ => rfl
    | .list _ :: r, _, _ => rfl
    | .tuple _ :: r, _, _ => rfl
    | .dict _ :: r, _, _ => rfl
  | _ => rfl
theorem expr_yes {n : Nat} {d : PyData} (h : OnT d) (e : hasForm d = true) : lawExpr (n + 1) d = (partsOf d).all (lawExpr n) ∧ cntE (n + 1) d = 1 + ((partsOf d).map (cntE n)).sum ∧ ∀ z, z ∈ partsOf d → OnT z := by
  cases h with
  | tuple l h =>
    match l, h, e with
    | .str z :: r, h, e =>
      have hr : ∀ d, d ∈ r → OnT d := fun d m => h d (List.mem_cons_of_mem _ m)
      have hf : formL z r = true := e
      have hp : partsOf (.tuple (.str z :: r)) = innerL z r := parts_inner hf
      rw [hp]
      refine ⟨?_, rfl, ont_inner hr⟩
      show (lawForm z r && (innerL z r).all (lawExpr n)) = _
      rw [form_law hr, hf, Bool.true_and]
  | _ => cases e
theorem expr_rows : ∀ (n c : Nat) (row : List PyData), c ≤ 60 → (∀ d, d ∈ row → OnT d) → exprL n c row = (row.all (lawExpr n) && decide (c + (row.map (cntE n)).sum ≤ 60))
  | 0, c, [], hc, _ => by
    show true = (true && decide (c + 0 ≤ 60))
    rw [decide_eq_true (by omega)]
    rfl
  | 0, c, d :: l, _, _ => by
    show decide ((d :: l).length = 0) = ((false && l.all (lawExpr 0)) && _)
    rw [Bool.false_and, Bool.false_and]
    exact decide_eq_false (by simp)
  | n + 1, c, row, hc, h => by
    show (decide (c + row.length ≤ 60) && (row.all hasForm && exprL n (c + row.length) (row.flatMap partsOf))) = _
    cases ef : row.all hasForm with
    | false =>
      rw [Bool.false_and, Bool.and_false]
      obtain ⟨d, m, e⟩ := List.all_eq_false.mp ef
      have : row.all (lawExpr (n + 1)) = false := List.all_eq_false.mpr ⟨d, m, by rw [expr_no (h d m) (Bool.eq_false_iff.mpr e)]; decide⟩
      rw [this, Bool.false_and]
    | true =>
      have hf := List.all_eq_true.mp ef
      have key : ∀ (row : List PyData), (∀ d, d ∈ row → OnT d) → (∀ d, d ∈ row → hasForm d = true) → row.all (lawExpr (n + 1)) = (row.flatMap partsOf).all (lawExpr n) ∧ (row.map (cntE (n + 1))).sum = row.length + ((row.flatMap partsOf).map (cntE n)).sum ∧ ∀ d, d ∈ row.flatMap partsOf → OnT d := by
        intro row
        induction row with
        | nil => exact fun _ _ => ⟨rfl, rfl, fun _ m => nomatch m⟩
        | cons d l ih =>
          intro h hf
          obtain ⟨a1, a2, a3⟩ := expr_yes (n := n) (h d (List.mem_cons_self ..)) (hf d (List.mem_cons_self ..))
          obtain ⟨b1, b2, b3⟩ := ih (fun d m => h d (List.mem_cons_of_mem _ m)) fun d m => hf d (List.mem_cons_of_mem _ m)
          refine ⟨?_, ?_, fun z m => ?_⟩
          · rw [List.all_cons, List.flatMap_cons, List.all_append, a1, b1]
          · rw [List.map_cons, List.sum_cons, List.flatMap_cons, List.map_append, List.sum_append, a2, b2, List.length_cons]
            omega
          · rw [List.flatMap_cons] at m
            rcases List.mem_append.mp m with m | m
            · exact a3 z m
            · exact b3 z m
      obtain ⟨k1, k2, k3⟩ := key row h hf
      rw [k1, k2, Bool.true_and]
      by_cases g : c + row.length ≤ 60
      · rw [decide_eq_true g, Bool.true_and, expr_rows n _ _ g k3, Nat.add_assoc]
      · rw [decide_eq_false g, Bool.false_and, decide_eq_false (by omega), Bool.and_false]
theorem expr_law {d : PyData} (h : OnT d) : isExpr d = lawRx d := by
  rw [isExpr, expr_rows 7 0 [d] (by omega) (fun z m => by rcases List.mem_singleton.mp m with rfl; exact h)]
  unfold lawRx
  rw [List.all_cons, List.all_nil, Bool.and_true, List.map_cons, List.map_nil, List.sum_cons, List.sum_nil, Nat.zero_add, Nat.add_zero]
  congr 1
  exact decide_eq_decide.mpr (by omega)
theorem cn_t (d : PyData) : lawCn true d = isCname d := by rw [lawCn_eq]; rfl
theorem cn_f (d : PyData) : lawCn false d = isGname d := by rw [lawCn_eq]; rfl
theorem len_no {n : Nat} {l : List PyData} (h : l.length ≠ n) : isSeq (n : Int) (n : Int) (.tuple l) = false := by
  show (decide ((n : Int) ≤ (l.length : Int)) && decide ((l.length : Int) ≤ (n : Int))) = false
  by_cases g : l.length < n
  · rw [decide_eq_false (by omega), Bool.false_and]
  · rw [Bool.and_comm, decide_eq_false (by omega), Bool.false_and]
theorem len_yes {n : Nat} {l : List PyData} (h : l.length = n) : isSeq (n : Int) (n : Int) (.tuple l) = true := by
  show (decide ((n : Int) ≤ (l.length : Int)) && decide ((l.length : Int) ≤ (n : Int))) = true
  rw [decide_eq_true (by omega), decide_eq_true (by omega)]
  rfl
theorem len2 {l : List PyData} (h : l.length = 2) : ∃ a b, l = [a, b] := by
  match l, h with
  | [a, b], _ => exact ⟨a, b, rfl⟩
theorem len3 {l : List PyData} (h : l.length = 3) : ∃ a b c, l = [a, b, c] := by
  match l, h with
  | [a, b, c], _ => exact ⟨a, b, c, rfl⟩
theorem len4 {l : List PyData} (h : l.length = 4) : ∃ a b c d, l = [a, b, c, d] := by
  match l, h with
  | [a, b, c, d], _ => exact ⟨a, b, c, d, rfl⟩
theorem len5 {l : List PyData} (h : l.length = 5) : ∃ a b c d e, l = [a, b, c, d, e] := by
  match l, h with
  | [a, b, c, d, e], _ => exact ⟨a, b, c, d, e, rfl⟩
theorem named_law {d : PyData} (h : OnT d) : isNamed d = lawNamed d := by
  cases h with
  | tuple l h =>
    by_cases e : l.length = 2
    · rw [isNamed, show isSeq 2 2 (.tuple l) = true from len_yes (n := 2) e]
      obtain ⟨a, b, rfl⟩ := len2 e
      show (true && (isName a && isCname b)) = (isName a && lawCn true b)
      rw [Bool.true_and, cn_t]
    · rw [isNamed, show isSeq 2 2 (.tuple l) = false from len_no (n := 2) e, Bool.false_and]
      symm
      match l, e with
      | [], _ => rfl
      | [_], _ => rfl
      | [_, _], e => exact absurd rfl e
      | _ :: _ :: _ :: _, _ => rfl
  | _ => rfl
theorem class_law {d : PyData} (h : OnT d) : isClass d = lawClass d := by
  cases h with
  | tuple l h =>
    by_cases e : l.length = 5
    · rw [isClass, show isSeq 5 5 (.tuple l) = true from len_yes (n := 5) e]
      obtain ⟨a, b, c, p, f, rfl⟩ := len5 e
      show (true && (isWord a && (isOneOf ["open", "sealed"] b && (isBo c && (allOf 1 12 isCname p && allOf 0 3 isNamed f))))) = (isWord a && (isOneOf ["open", "sealed"] b && (isBo c && (tupN 1 12 (lawCn true) p && tupN 0 3 lawNamed f))))
      rw [Bool.true_and, show allOf 1 12 isCname p = tupN 1 12 (lawCn true) p from allOf_tup (lo := 1) (hi := 12) (h p (by simp)) fun z _ => (cn_t z).symm, show allOf 0 3 isNamed f = tupN 0 3 lawNamed f from allOf_tup (lo := 0) (hi := 3) (h f (by simp)) fun z hz => named_law hz]
    · rw [isClass, show isSeq 5 5 (.tuple l) = false from len_no (n := 5) e, Bool.false_and]
      symm
      match l, e with
      | [], _ => rfl
      | [_], _ => rfl
      | [_, _], _ => rfl
      | [_, _, _], _ => rfl
      | [_, _, _, _], _ => rfl
      | [_, _, _, _, _], e => exact absurd rfl e
      | _ :: _ :: _ :: _ :: _ :: _ :: _, _ => rfl
  | _ => rfl
theorem generic_law {d : PyData} (h : OnT d) : isGeneric d = lawGeneric d := by
  cases h with
  | tuple l h =>
    by_cases e : l.length = 4
    · rw [isGeneric, show isSeq 4 4 (.tuple l) = true from len_yes (n := 4) e]
      obtain ⟨a, b, c, p, rfl⟩ := len4 e
      show (true && (isName a && (allOf 1 3 isCname b && (isInteger 1 ((items b).length : Int) c && isCname p)))) = (isName a && (tupN 1 3 (lawCn true) b && (isInteger 1 ((items b).length : Int) c && lawCn true p)))
      rw [Bool.true_and, cn_t, show allOf 1 3 isCname b = tupN 1 3 (lawCn true) b from allOf_tup (lo := 1) (hi := 3) (h b (by simp)) fun z _ => (cn_t z).symm]
    · rw [isGeneric, show isSeq 4 4 (.tuple l) = false from len_no (n := 4) e, Bool.false_and]
      symm
      match l, e with
      | [], _ => rfl
      | [_], _ => rfl
      | [_, _], _ => rfl
      | [_, _, _], _ => rfl
      | [_, _, _, _], e => exact absurd rfl e
      | _ :: _ :: _ :: _ :: _ :: _, _ => rfl
  | _ => rfl
theorem method_law {d : PyData} (h : OnT d) : isMethod d = lawMethod lawRx d := by
  cases h with
  | tuple l h =>
    by_cases e : l.length = 3
    · rw [isMethod, show isSeq 3 3 (.tuple l) = true from len_yes (n := 3) e]
      obtain ⟨a, b, c, rfl⟩ := len3 e
      show (true && (isGname a && (allOf 1 3 isNamed b && isExpr c))) = (lawCn false a && (tupN 1 3 lawNamed b && lawRx c))
      rw [Bool.true_and, cn_f, show allOf 1 3 isNamed b = tupN 1 3 lawNamed b from allOf_tup (lo := 1) (hi := 3) (h b (by simp)) fun z hz => named_law hz, expr_law (h c (by simp))]
    · rw [isMethod, show isSeq 3 3 (.tuple l) = false from len_no (n := 3) e, Bool.false_and]
      symm
      match l, e with
      | [], _ => rfl
      | [_], _ => rfl
      | [_, _], _ => rfl
      | [_, _, _], e => exact absurd rfl e
      | _ :: _ :: _ :: _ :: _, _ => rfl
  | _ => rfl
theorem module_law {d : PyData} (h : OnT d) : isModule d = lawModule (lawMethod lawRx) d := by
  cases h with
  | tuple l h =>
    by_cases e : l.length = 5
    · rw [isModule, show isSeq 5 5 (.tuple l) = true from len_yes (n := 5) e]
      obtain ⟨a, b, c, p, f, rfl⟩ := len5 e
      show (true && (isName a && (allOf 0 4 isName b && (allOf 0 6 isClass c && (allOf 0 3 isGeneric p && allOf 0 8 isMethod f))))) = (isName a && (tupN 0 4 (lawWord false) b && (tupN 0 6 lawClass c && (tupN 0 3 lawGeneric p && tupN 0 8 (lawMethod lawRx) f))))
      rw [Bool.true_and, show allOf 0 4 isName b = tupN 0 4 (lawWord false) b from allOf_tup (lo := 0) (hi := 4) (h b (by simp)) fun z _ => rfl, show allOf 0 6 isClass c = tupN 0 6 lawClass c from allOf_tup (lo := 0) (hi := 6) (h c (by simp)) fun z hz => class_law hz, show allOf 0 3 isGeneric p = tupN 0 3 lawGeneric p from allOf_tup (lo := 0) (hi := 3) (h p (by simp)) fun z hz => generic_law hz, show allOf 0 8 isMethod f = tupN 0 8 (lawMethod lawRx) f from allOf_tup (lo := 0) (hi := 8) (h f (by simp)) fun z hz => method_law hz]
    · rw [isModule, show isSeq 5 5 (.tuple l) = false from len_no (n := 5) e, Bool.false_and]
      symm
      match l, e with
      | [], _ => rfl
      | [_], _ => rfl
      | [_, _], _ => rfl
      | [_, _, _], _ => rfl
      | [_, _, _, _], _ => rfl
      | [_, _, _, _, _], e => exact absurd rfl e
      | _ :: _ :: _ :: _ :: _ :: _ :: _, _ => rfl
  | _ => rfl
end Cw
namespace Cw
open PySem PySem.Spec PyProof.Rows L2
mutual
def listed : PyData → PyData
  | .tuple l => .list (listedL l)
  | .none => .none
  | .bool b => .bool b
  | .int i => .int i
  | .str z => .str z
  | .list l => .list l
  | .dict l => .dict l
def listedL : List PyData → List PyData
  | [] => []
  | d :: l => listed d :: listedL l
end
theorem listedL_map : ∀ l : List PyData, listedL l = l.map listed
  | [] => rfl
  | d :: l => by rw [listedL, listedL_map l, List.map_cons]
theorem listed_tup (l : List PyData) : listed (.tuple l) = .list (l.map listed) := by rw [listed, listedL_map]
theorem seq_listed {lo hi : Int} {d : PyData} (h : OnT d) : isSeq lo hi (listed d) = isSeq lo hi d := by
  cases h with
  | tuple l h =>
    rw [listed_tup]
    show (decide (lo ≤ (((l.map listed).length : Nat) : Int)) && decide ((((l.map listed).length : Nat) : Int) ≤ hi)) = (decide (lo ≤ (l.length : Int)) && decide ((l.length : Int) ≤ hi))
    rw [List.length_map]
  | _ => rw [listed]
theorem items_listed {d : PyData} (h : OnT d) : items (listed d) = (items d).map listed := by
  cases h with
  | tuple l h => rw [listed_tup]; rfl
  | _ => rw [listed]; rfl
theorem get_listed {d : PyData} (h : OnT d) (i : Nat) : get (listed d) i = listed (get d i) := by
  unfold get
  rw [items_listed h, List.getD_eq_getElem?_getD, List.getD_eq_getElem?_getD, List.getElem?_map]
  cases (items d)[i]? with
  | none => show PyData.none = listed .none; rw [listed]
  | some z => rfl
theorem ont_geti {d : PyData} (h : OnT d) (i : Nat) : OnT (get d i) := by
  cases h with
  | tuple l h => exact ont_get (.tuple l h) i
  | _ => exact .non
/-- a test that says no of every sequence -/
theorem flat_listed {r : PyData → Bool} (h1 : ∀ l, r (.list l) = false) (h2 : ∀ l, r (.tuple l) = false) {d : PyData} (h : OnT d) : r (listed d) = r d := by
  cases h with
  | tuple l h => rw [listed_tup, h1, h2]
  | _ => rw [listed]
theorem name_l {d : PyData} (h : OnT d) : isName (listed d) = isName d := flat_listed (fun _ => rfl) (fun _ => rfl) h
theorem word_l {d : PyData} (h : OnT d) : isWord (listed d) = isWord d := flat_listed (fun _ => rfl) (fun _ => rfl) h
theorem cname_l {d : PyData} (h : OnT d) : isCname (listed d) = isCname d := flat_listed (fun _ => rfl) (fun _ => rfl) h
theorem gname_l {d : PyData} (h : OnT d) : isGname (listed d) = isGname d := flat_listed (fun _ => rfl) (fun _ => rfl) h
theorem int_l {lo hi : Int} {d : PyData} (h : OnT d) : isInteger lo hi (listed d) = isInteger lo hi d := flat_listed (fun _ => rfl) (fun _ => rfl) h
theorem allOf_l {lo hi : Int} {r : PyData → Bool} {d : PyData} (h : OnT d) (e : ∀ z, OnT z → r (listed z) = r z) : allOf lo hi r (listed d) = allOf lo hi r d := by
  rw [allOf, allOf, seq_listed h, items_listed h, List.all_map]
  rw [all_congr (l := items d) (f := r ∘ listed) (g := r) fun x m => e x (ont_items h m)]
theorem named_l {d : PyData} (h : OnT d) : isNamed (listed d) = isNamed d := by
  rw [isNamed, isNamed, seq_listed h, get_listed h, get_listed h, name_l (ont_geti h _), cname_l (ont_geti h _)]
theorem class_l {d : PyData} (h : OnT d) : isClass (listed d) = isClass d := by
  rw [isClass, isClass, seq_listed h, get_listed h, get_listed h, get_listed h, get_listed h, get_listed h, word_l (ont_geti h _), flat_listed (r := isOneOf ["open", "sealed"]) (fun _ => rfl) (fun _ => rfl) (ont_geti h _), flat_listed (r := isBo) (fun _ => rfl) (fun _ => rfl) (ont_geti h _), allOf_l (ont_geti h _) fun z hz => cname_l hz, allOf_l (ont_geti h _) fun z hz => named_l hz]
theorem generic_l {d : PyData} (h : OnT d) : isGeneric (listed d) = isGeneric d := by
  rw [isGeneric, isGeneric, seq_listed h, get_listed h, get_listed h, get_listed h, get_listed h, name_l (ont_geti h _), allOf_l (ont_geti h _) fun z hz => cname_l hz, int_l (ont_geti h _), cname_l (ont_geti h _), items_listed (ont_geti h _), List.length_map]
theorem member_l {k : Str} {d : PyData} (h : OnT d) : isMember k (listed d) = isMember k d := by
  unfold isMember
  rw [int_l h, name_l h, cname_l h, gname_l h, seq_listed h, seq_listed h]
theorem zip_map {α β γ : Type} (f : β → γ) : ∀ (a : List α) (b : List β), a.zip (b.map f) = (a.zip b).map fun p => (p.1, f p.2)
  | [], _ => rfl
  | _ :: _, [] => rfl
  | x :: a, y :: b => by rw [List.map_cons, List.zip_cons_cons, List.zip_cons_cons, List.map_cons, zip_map f a b]
theorem formL_l {z : Str} {r : List PyData} (h : ∀ d, d ∈ r → OnT d) : formL z (r.map listed) = formL z r := by
  unfold formL
  cases kindsOf z with
  | none => rfl
  | some ks =>
    show (decide ((r.map listed).length = ks.length) && (ks.zip (r.map listed)).all fun p => isMember p.1 p.2) = (decide (r.length = ks.length) && (ks.zip r).all fun p => isMember p.1 p.2)
    rw [List.length_map, zip_map, List.all_map]
    rw [all_congr (l := ks.zip r) (f := (fun p : Str × PyData => isMember p.1 p.2) ∘ fun p : Str × PyData => (p.1, listed p.2)) (g := fun p : Str × PyData => isMember p.1 p.2) fun p m => member_l (h p.2 (zip_mem m))]
theorem partOf_l {k : Str} {d : PyData} (h : OnT d) : partOf (k, listed d) = (partOf (k, d)).map listed := by
  unfold partOf
  rw [List.map_append, items_listed h]
  congr 1
  · by_cases e : k = "part"
    · rw [if_pos e, if_pos e]; rfl
    · rw [if_neg e, if_neg e]; rfl
  · by_cases e : isOneOf ["values", "arguments"] (.str k) = true
    · rw [if_pos e, if_pos e]
    · rw [if_neg e, if_neg e]; rfl
theorem partsL_l {z : Str} {r : List PyData} (h : ∀ d, d ∈ r → OnT d) : partsL z (r.map listed) = (partsL z r).map listed := by
  unfold partsL
  cases kindsOf z with
  | none => rfl
  | some ks =>
    show (ks.zip (r.map listed)).flatMap partOf = ((ks.zip r).flatMap partOf).map listed
    rw [zip_map]
    have : ∀ l : List (Str × PyData), (∀ p, p ∈ l → OnT p.2) → (l.map fun p => (p.1, listed p.2)).flatMap partOf = (l.flatMap partOf).map listed := by
      intro l
      induction l with
      | nil => exact fun _ => rfl
      | cons p l ih =>
        intro g
        rw [List.map_cons, List.flatMap_cons, List.flatMap_cons, List.map_append, ih fun q m => g q (List.mem_cons_of_mem _ m), partOf_l (g p (List.mem_cons_self ..))]
    exact this _ fun p m => h p.2 (zip_mem m)
theorem form_l {d : PyData} (h : OnT d) : hasForm (listed d) = hasForm d ∧ partsOf (listed d) = (partsOf d).map listed := by
  unfold hasForm partsOf
  rw [items_listed h]
  have hi : ∀ z, z ∈ items d → OnT z := fun z m => ont_items h m
  cases e : items d with
  | nil => exact ⟨rfl, rfl⟩
  | cons x r =>
    rw [e] at hi
    have hx := hi x (List.mem_cons_self ..)
    have hr : ∀ d, d ∈ r → OnT d := fun d m => hi d (List.mem_cons_of_mem _ m)
    rw [List.map_cons]
    cases hx with
    | str z =>
      rw [listed]
      exact ⟨formL_l hr, partsL_l hr⟩
    | tuple l h => rw [listed_tup]; exact ⟨rfl, rfl⟩
    | _ => rw [listed]; exact ⟨rfl, rfl⟩
theorem partsL_ont {z : Str} {r : List PyData} (h : ∀ d, d ∈ r → OnT d) : ∀ d, d ∈ partsL z r → OnT d := by
  intro d m
  unfold partsL at m
  cases e : kindsOf z with
  | none => rw [e] at m; cases m
  | some ks =>
    rw [e] at m
    obtain ⟨p, m1, m2⟩ := List.mem_flatMap.mp m
    have hp := h p.2 (zip_mem m1)
    unfold partOf at m2
    rcases List.mem_append.mp m2 with m2 | m2
    · split at m2
      · rcases List.mem_singleton.mp m2 with rfl
        exact hp
      · cases m2
    · split at m2
      · exact ont_items hp m2
      · cases m2
theorem parts_ont {d : PyData} (h : OnT d) : ∀ z, z ∈ partsOf d → OnT z := by
  intro y m
  unfold partsOf at m
  have hi : ∀ z, z ∈ items d → OnT z := fun z m => ont_items h m
  cases e : items d with
  | nil => rw [e] at m; cases m
  | cons x r =>
    rw [e] at m hi
    have hr : ∀ d, d ∈ r → OnT d := fun d m => hi d (List.mem_cons_of_mem _ m)
    have hx := hi x (List.mem_cons_self ..)
    cases hx with
    | str z => exact partsL_ont hr y m
    | _ => cases m
theorem exprL_l : ∀ (n c : Nat) (row : List PyData), (∀ d, d ∈ row → OnT d) → exprL n c (row.map listed) = exprL n c row
  | 0, c, row, _ => by
    show decide ((row.map listed).length = 0) = decide (row.length = 0)
    rw [List.length_map]
  | n + 1, c, row, h => by
    show (decide (c + (row.map listed).length ≤ 60) && ((row.map listed).all hasForm && exprL n (c + (row.map listed).length) ((row.map listed).flatMap partsOf))) = (decide (c + row.length ≤ 60) && (row.all hasForm && exprL n (c + row.length) (row.flatMap partsOf)))
    have e1 : (row.map listed).flatMap partsOf = (row.flatMap partsOf).map listed := by
      have : ∀ l : List PyData, (∀ p, p ∈ l → OnT p) → (l.map listed).flatMap partsOf = (l.flatMap partsOf).map listed := by
        intro l
        induction l with
        | nil => exact fun _ => rfl
        | cons p l ih =>
          intro g
          rw [List.map_cons, List.flatMap_cons, List.flatMap_cons, List.map_append, ih fun q m => g q (List.mem_cons_of_mem _ m), (form_l (g p (List.mem_cons_self ..))).2]
      exact this _ h
    rw [List.length_map, e1, exprL_l n _ _ (fun d m => by obtain ⟨y, m1, m2⟩ := List.mem_flatMap.mp m; exact parts_ont (h y m1) d m2), List.all_map]
    rw [all_congr (l := row) (f := hasForm ∘ listed) (g := hasForm) fun x m => (form_l (h x m)).1]
theorem expr_l {d : PyData} (h : OnT d) : isExpr (listed d) = isExpr d :=
  exprL_l 7 0 [d] fun z m => by rcases List.mem_singleton.mp m with rfl; exact h
theorem method_l {d : PyData} (h : OnT d) : isMethod (listed d) = isMethod d := by
  rw [isMethod, isMethod, seq_listed h, get_listed h, get_listed h, get_listed h, gname_l (ont_geti h _), allOf_l (ont_geti h _) fun z hz => named_l hz, expr_l (ont_geti h _)]
theorem module_l {d : PyData} (h : OnT d) : isModule (listed d) = isModule d := by
  rw [isModule, isModule, seq_listed h, get_listed h, get_listed h, get_listed h, get_listed h, get_listed h, name_l (ont_geti h _), allOf_l (ont_geti h _) fun z hz => name_l hz, allOf_l (ont_geti h _) fun z hz => class_l hz, allOf_l (ont_geti h _) fun z hz => generic_l hz, allOf_l (ont_geti h _) fun z hz => method_l hz]
end Cw

set_option Elab.async false
set_option linter.all false
set_option maxRecDepth 100000
set_option maxHeartbeats 4000000
namespace Cw
open PySem PySem.Spec PyProof.Rows L2
/-- the eleven forms, with their parts -/
inductive Fm : PyData → Prop
  | int (d : PyData) (i : Int) (e : items d = [.str "int", .int i]) (h0 : 0 ≤ i) (h1 : i ≤ 65535) (p : partsOf d = []) : Fm d
  | name (d : PyData) (w : Str) (e : items d = [.str "name", .str w]) (h : isName (.str w) = true) (p : partsOf d = []) : Fm d
  | next (d : PyData) (e : items d = [.str "next"]) (p : partsOf d = []) : Fm d
  | new (d : PyData) (w : Str) (b : PyData) (e : items d = [.str "new", .str w, b]) (h : isCname (.str w) = true) (hb : isSeq 0 12 b = true) (p : partsOf d = items b) : Fm d
  | field (d : PyData) (a : PyData) (w v : Str) (e : items d = [.str "field", a, .str w, .str v]) (h : isCname (.str w) = true) (hv : isName (.str v) = true) (p : partsOf d = [a]) : Fm d
  | call (d : PyData) (w : Str) (b : PyData) (e : items d = [.str "call", .str w, b]) (h : isGname (.str w) = true) (hb : isSeq 1 3 b = true) (p : partsOf d = items b) : Fm d
  | sign (d : PyData) (z : Str) (hz : z = "add" ∨ z = "sub" ∨ z = "mul") (a b : PyData) (e : items d = [.str z, a, b]) (p : partsOf d = [a, b]) : Fm d
  | ife (d : PyData) (a b c : PyData) (e : items d = [.str "if", a, b, c]) (p : partsOf d = [a, b, c]) : Fm d
  | let_ (d : PyData) (w : Str) (b c : PyData) (e : items d = [.str "let", .str w, b, c]) (h : isName (.str w) = true) (p : partsOf d = [b, c]) : Fm d
theorem parts_eq {d : PyData} {z : Str} {r : List PyData} (e : items d = .str z :: r) : partsOf d = partsL z r := by
  unfold partsOf
  rw [e]
theorem form_eq {d : PyData} {z : Str} {r : List PyData} (e : items d = .str z :: r) : hasForm d = formL z r := by
  unfold hasForm
  rw [e]
theorem fm_of {d : PyData} (h : hasForm d = true) : Fm d := by
  obtain ⟨z, r, ks, e, ek, el, hm⟩ := form_of h
  have hp := parts_eq e
  have mem : ∀ (k : Str) (d : PyData) (i : Nat) (h1 : ks[i]? = some k) (h2 : r[i]? = some d), isMember k d = true := fun k d i h1 h2 => by
    obtain ⟨a1, a2⟩ := List.getElem?_eq_some_iff.mp h1
    obtain ⟨b1, b2⟩ := List.getElem?_eq_some_iff.mp h2
    have := hm i a1 b1
    rw [a2, b2] at this
    exact this
  rcases words_of ek with ⟨rfl, rfl⟩ | ⟨rfl, rfl⟩ | ⟨rfl, rfl⟩ | ⟨rfl, rfl⟩ | ⟨rfl, rfl⟩ | ⟨rfl, rfl⟩ | ⟨rfl, rfl⟩ | ⟨rfl, rfl⟩ | ⟨rfl, rfl⟩ | ⟨rfl, rfl⟩ | ⟨rfl, rfl⟩
  · match r, el with
    | [a], _ =>
      have m0 : isInteger 0 65535 a = true := mem "number" a 0 rfl rfl
      cases a with
      | int i =>
        have m1 : (decide ((0 : Int) ≤ i) && decide (i ≤ 65535)) = true := m0
        rw [Bool.and_eq_true, decide_eq_true_iff, decide_eq_true_iff] at m1
        exact .int d i e m1.1 m1.2 hp
      | _ => cases m0
  · match r, el with
    | [a], _ =>
      have m0 : isName a = true := mem "name" a 0 rfl rfl
      obtain ⟨w, rfl, _⟩ := name_len m0
      exact .name d w e m0 hp
  · match r, el with
    | [], _ => exact .next d e hp
  · match r, el with
    | [a, b], _ =>
      have m0 : isCname a = true := mem "class" a 0 rfl rfl
      have m1 : isSeq 0 12 b = true := mem "values" b 1 rfl rfl
      obtain ⟨w, rfl, _⟩ := cname_len m0
      refine .new d w b e m0 m1 (hp.trans ?_)
      show [] ++ ((([] : List PyData) ++ items b) ++ []) = items b
      rw [List.append_nil, List.nil_append, List.nil_append]
  · match r, el with
    | [a, b, c], _ =>
      have m0 : isCname b = true := mem "class" b 1 rfl rfl
      have m1 : isName c = true := mem "name" c 2 rfl rfl
      obtain ⟨w, rfl, _⟩ := cname_len m0
      obtain ⟨v, rfl, _⟩ := name_len m1
      exact .field d a w v e m0 m1 hp
  · match r, el with
    | [a, b], _ =>
      have m0 : isGname a = true := mem "generic" a 0 rfl rfl
      have m1 : isSeq 1 3 b = true := mem "arguments" b 1 rfl rfl
      obtain ⟨w, rfl, _⟩ := gname_len m0
      refine .call d w b e m0 m1 (hp.trans ?_)
      show [] ++ ((([] : List PyData) ++ items b) ++ []) = items b
      rw [List.append_nil, List.nil_append, List.nil_append]
  · match r, el with
    | [a, b], _ => exact .sign d _ (.inl rfl) a b e hp
  · match r, el with
    | [a, b], _ => exact .sign d _ (.inr (.inl rfl)) a b e hp
  · match r, el with
    | [a, b], _ => exact .sign d _ (.inr (.inr rfl)) a b e hp
  · match r, el with
    | [a, b, c], _ => exact .ife d a b c e hp
  · match r, el with
    | [a, b, c], _ =>
      have m0 : isName a = true := mem "name" a 0 rfl rfl
      obtain ⟨w, rfl, _⟩ := name_len m0
      exact .let_ d w b c e m0 hp
theorem etext_at {n : Nat} {d : PyData} {z : Str} {r : List PyData} (e : items d = .str z :: r) : etext (n + 1) d = etx z r (etext n) := by
  show (match items d with | .str z :: r => etx z r (etext n) | _ => "") = _
  rw [e]
end Cw

set_option Elab.async false
set_option linter.all false
set_option maxRecDepth 100000
set_option maxHeartbeats 4000000
namespace Cw
open PySem PySem.Spec PyProof.Rows L2
theorem Fm.head {d : PyData} (h : Fm d) : ∃ z r, items d = .str z :: r ∧ z.length ≤ 5 := by
  cases h with
  | int i e => exact ⟨_, _, e, by decide⟩
  | name w e => exact ⟨_, _, e, by decide⟩
  | next e => exact ⟨_, _, e, by decide⟩
  | new w b e => exact ⟨_, _, e, by decide⟩
  | field a w v e => exact ⟨_, _, e, by decide⟩
  | call w b e => exact ⟨_, _, e, by decide⟩
  | sign z hz a b e =>
    refine ⟨_, _, e, ?_⟩
    rcases hz with rfl | rfl | rfl <;> decide
  | ife a b c e => exact ⟨_, _, e, by decide⟩
  | let_ w b c e => exact ⟨_, _, e, by decide⟩
theorem partT_len (f : PyData → Str) (ws : List Str) (d : PyData) : (partT f ws d).length ≤ (f d).length + 2 := by
  unfold partT
  split
  · rw [slen, slen]
    show 1 + (f d).length + 1 ≤ _
    omega
  · omega
theorem sum_le {l : List PyData} {f g : PyData → Nat} (h : ∀ d, d ∈ l → f d ≤ 100 * g d) : (l.map f).sum ≤ 100 * (l.map g).sum := by
  induction l with
  | nil => exact Nat.le_refl _
  | cons d l ih =>
    rw [List.map_cons, List.map_cons, List.sum_cons, List.sum_cons]
    have h1 := h d (List.mem_cons_self ..)
    have h2 := ih fun e m => h e (List.mem_cons_of_mem _ m)
    omega
theorem argsT_len {f : PyData → Str} {g : PyData → Nat} {d : PyData} (hl : (items d).length ≤ 12) (h : ∀ e, e ∈ items d → (f e).length ≤ 100 * g e) : (argsT f d).length ≤ 26 + 100 * ((items d).map g).sum := by
  unfold argsT
  rw [slen, slen]
  have h1 := join_len ", " ((items d).map f)
  have h2 : (((items d).map f).map (·.length)).sum ≤ 100 * ((items d).map g).sum := by
    rw [List.map_map]
    exact sum_le h
  rw [List.length_map] at h1
  have h3 : (", " : Str).length = 2 := rfl
  rw [h3] at h1
  show 1 + _ + 1 ≤ _
  omega
theorem seq_lenM {lo : Int} {hi : Nat} {d : PyData} (h : isSeq lo (hi : Int) d = true) : (items d).length ≤ hi := seq_most h
theorem int_len {i : Int} (h0 : 0 ≤ i) (h1 : i ≤ 65535) : ((toString i : String) : Str).length ≤ 6 := by
  have h := PySem.int_text_length_le10 (a := i) (k := 5) (by decide) (by omega)
  show (Str.ofString (toString i)).length ≤ 6
  rw [PySem.ofString_length]
  exact h
theorem etext_len : ∀ (n : Nat) (d : PyData), formN n d = true → (etext n d).length ≤ 100 * ecnt n d
  | 0, d, h => by cases h
  | n + 1, d, h => by
    have h1 : (hasForm d && (partsOf d).all (formN n)) = true := h
    rw [Bool.and_eq_true, List.all_eq_true] at h1
    obtain ⟨hf, hp⟩ := h1
    have ih : ∀ e, e ∈ partsOf d → (etext n e).length ≤ 100 * ecnt n e := fun e m => etext_len n e (hp e m)
    show _ ≤ 100 * (1 + ((partsOf d).map (ecnt n)).sum)
    cases fm_of hf with
    | int i e h0 h1 p =>
      rw [etext_at e]
      show ((toString i : String) : Str).length ≤ _
      have := int_len h0 h1
      omega
    | name w e hw p =>
      rw [etext_at e]
      show w.length ≤ _
      obtain ⟨z, e2, _, l⟩ := name_len hw
      cases e2
      omega
    | next e p =>
      rw [etext_at e]
      show 4 ≤ _
      omega
    | new w b e hw hb p =>
      rw [p] at ih ⊢
      rw [etext_at e]
      show (("new " : Str) ++ w ++ argsT (etext n) b).length ≤ _
      obtain ⟨z, e2, l⟩ := cname_len hw
      cases e2
      have := argsT_len (g := ecnt n) (seq_lenM hb) ih
      rw [slen, slen]
      show 4 + _ + _ ≤ _
      omega
    | call w b e hw hb p =>
      rw [p] at ih ⊢
      rw [etext_at e]
      show (w ++ argsT (etext n) b).length ≤ _
      obtain ⟨z, e2, l⟩ := gname_len hw
      cases e2
      have := argsT_len (g := ecnt n) (Nat.le_trans (seq_lenM (hi := 3) hb) (by decide)) ih
      rw [slen]
      omega
    | field a w v e hw hv p =>
      rw [p] at ih ⊢
      rw [etext_at e]
      show (partT (etext n) productsW a ++ (".(" : Str) ++ w ++ ("." : Str) ++ v ++ (")" : Str)).length ≤ _
      obtain ⟨z, e2, l⟩ := cname_len hw
      cases e2
      obtain ⟨z, e2, _, l2⟩ := name_len hv
      cases e2
      have i1 := ih a (by simp)
      have := partT_len (etext n) productsW a
      rw [slen, slen, slen, slen, slen]
      show _ + 2 + _ + 1 + _ + 1 ≤ 100 * (1 + (ecnt n a + 0))
      omega
    | sign z hz a b e p =>
      rw [p] at ih ⊢
      rw [etext_at e]
      have i1 := ih a (by simp)
      have i2 := ih b (by simp)
      have key : ∀ w1 w2 : List Str, (partT (etext n) w1 a ++ signOf z ++ partT (etext n) w2 b).length ≤ 100 * (1 + (ecnt n a + (ecnt n b + 0))) := fun w1 w2 => by
        have a1 := partT_len (etext n) w1 a
        have a2 := partT_len (etext n) w2 b
        have a3 : (signOf z).length = 3 := by rcases hz with rfl | rfl | rfl <;> rfl
        rw [slen, slen, a3]
        omega
      rcases hz with rfl | rfl | rfl
      · exact key choicesW sumsW
      · exact key choicesW sumsW
      · exact key sumsW productsW
    | ife a b c e p =>
      rw [p] at ih ⊢
      rw [etext_at e]
      have i1 := ih a (by simp)
      have i2 := ih b (by simp)
      have i3 := ih c (by simp)
      show (("if " : Str) ++ etext n a ++ ((" then " : Str) ++ etext n b ++ (" else " : Str) ++ etext n c)).length ≤ 100 * (1 + (ecnt n a + (ecnt n b + (ecnt n c + 0))))
      rw [slen, slen, slen, slen, slen]
      show 3 + _ + (6 + _ + 6 + _) ≤ _
      omega
    | let_ w b c e hw p =>
      rw [p] at ih ⊢
      rw [etext_at e]
      have i2 := ih b (by simp)
      have i3 := ih c (by simp)
      obtain ⟨z, e2, _, l⟩ := name_len hw
      cases e2
      show (("let " : Str) ++ w ++ (" = " : Str) ++ etext n b ++ (" in " : Str) ++ etext n c).length ≤ 100 * (1 + (ecnt n b + (ecnt n c + 0)))
      rw [slen, slen, slen, slen, slen]
      show 4 + _ + 3 + _ + 4 + _ ≤ _
      omega
end Cw

set_option Elab.async false
set_option linter.all false
set_option maxRecDepth 100000
set_option maxHeartbeats 4000000
namespace Cw
open PySem PySem.Spec PyProof.Rows L2
def spTx (K : PySem.W.Frag) (n : Nat) : Sp := fun vs H Q _ => ∃ x d, vs = [x] ∧ Dp K H x d ∧ Ok d ∧ formN n d = true ∧ ecnt n d ≤ 60 ∧ ∀ H', Same H H' → Q (.str (etext n d)) H'
def spArg (K : PySem.W.Frag) (n : Nat) : Sp := fun vs H Q _ => ∃ x d, vs = [x] ∧ Dp K H x d ∧ Ok d ∧ isSeq 0 12 d = true ∧ (∀ e, e ∈ items d → formN n e = true ∧ ecnt n e ≤ 60) ∧ ∀ H', Same H H' → Q (.str (argsT (etext n) d)) H'
def spPart (K : PySem.W.Frag) (n : Nat) : Sp := fun vs H Q _ => ∃ x d wa ws, vs = [x, .ref wa] ∧ SqT K H wa (ws.map V.str) ∧ ws.length ≤ 10 ∧ Dp K H x d ∧ Ok d ∧ formN n d = true ∧ ecnt n d ≤ 60 ∧ ∀ H', Same H H' → Q (.str (partT (etext n) ws d)) H'
def spHd (K : PySem.W.Frag) (n : Nat) (zs : List Str) : Sp := fun vs H Q _ => ∃ x d z r, vs = [x] ∧ items d = .str z :: r ∧ z ∈ zs ∧ Dp K H x d ∧ Ok d ∧ formN (n + 1) d = true ∧ ecnt (n + 1) d ≤ 60 ∧ ∀ H', Same H H' → Q (.str (etext (n + 1) d)) H'
/-- the dict of the signs -/
def Signs (K : PySem.W.Frag) (w : World) (a : Addr) : Prop := ∃ es n, KDict K w a es n ∧ ∀ z : Str, (z = "add" ∨ z = "sub" ∨ z = "mul" → ∃ t, PySem.W.nsIn K a z = some (some (.str (signOf z) t))) ∧ (¬ (z = "add" ∨ z = "sub" ∨ z = "mul") → PySem.W.nsIn K a z = some none)
theorem parts_fm {n : Nat} {d : PyData} (h : formN (n + 1) d = true) (c : ecnt (n + 1) d ≤ 60) : hasForm d = true ∧ ∀ e, e ∈ partsOf d → formN n e = true ∧ ecnt n e ≤ 59 := by
  have h1 : (hasForm d && (partsOf d).all (formN n)) = true := h
  rw [Bool.and_eq_true, List.all_eq_true] at h1
  have c1 : 1 + ((partsOf d).map (ecnt n)).sum ≤ 60 := c
  refine ⟨h1.1, fun e m => ⟨h1.2 e m, ?_⟩⟩
  have : ∀ l : List PyData, e ∈ l → ecnt n e ≤ (l.map (ecnt n)).sum := by
    intro l m
    induction l with
    | nil => cases m
    | cons a l ih =>
      rw [List.map_cons, List.sum_cons]
      rcases List.mem_cons.mp m with rfl | m
      · omega
      · have := ih m; omega
  have := this _ m
  omega
theorem tx_len {n : Nat} {d : PyData} (h : formN n d = true) (c : ecnt n d ≤ 60) : (etext n d).length ≤ 6000 := by
  have := etext_len n d h
  omega
theorem jn_eq (y : Str) (l : List Str) : Txt.join y l = Str.join y l := TL.join_eq y l
theorem ca1 {te : TE} {σ : L2.St} {H : Hp} {Q : List V → Hp → Prop} (h : te σ H fun x H1 => Q [x] H1) : tCons te tNil σ H Q := h
theorem sum_lt {l : List PyData} {f : PyData → Str} {m : Nat} (h : ∀ e, e ∈ l → (f e).length ≤ m) : ((l.map f).map (·.length)).sum ≤ m * l.length := by
  induction l with
  | nil => exact Nat.zero_le _
  | cons d l ih =>
    rw [List.map_cons, List.map_cons, List.sum_cons, List.length_cons, Nat.mul_add]
    have h1 := h d (List.mem_cons_self ..)
    have h2 := ih fun e m => h e (List.mem_cons_of_mem _ m)
    omega
abbrev s_expression_text : Stmt := topS 33
abbrev s_arguments_text : Stmt := topS 34
abbrev s_field_text : Stmt := topS 35
abbrev s_sign_text : Stmt := topS 36
abbrev s_choice_text : Stmt := topS 37
abbrev s_part_text : Stmt := topS 38
section
variable {n k : Nat} {P : Program} {w : World} {K : PySem.W.Frag} {mg : Str → Option Value} {base : Heap} {S : Addr → Option Sp}
theorem sc_arguments_text : FnScope ["arguments", "one"] ["arguments"] (defScope s_arguments_text) := ⟨rfl, rfl, rfl, by decide +kernel, rfl, by decide +kernel, by decide +kernel⟩
theorem ok_arguments_text {f : Addr} {fd : FuncData} (F : Fun K "arguments_text" "arguments_text" s_arguments_text f fd) {f_expression_text : Addr} {d_expression_text : FuncData} (h_expression_text : Hd K mg "expression_text" s_expression_text ["expression"] f_expression_text d_expression_text) (G_expression_text : FnOk P w K mg base CX0 (k) f_expression_text d_expression_text ["expression"] (spTx K n)) : FnOk P w K mg base CX0 (k + 1) f fd ["arguments"] (spArg K n) := by
  refine F.ok sc_arguments_text (fun vs H Q E h => ?_) (fun cdv A outer s H vs Q E hr h => ?_)
  · obtain ⟨_, _, rfl, _⟩ := h
    rfl
  · obtain ⟨x, d, rfl, hx, hok, hs, hp, q⟩ := h
    refine ⟨_, (pss_one (ps_ret (pe_op op_add_str (pe_op op_add_str pe_str (pe_bm PySem.F.plainAttrs_str PySem.F.slot_str_join PySem.F.type_str_join mt_join pe_str (pa_cons (pe_lc (own := [("one", 1)]) rfl sc_arguments_text.nd (pi_seq (pv 0)) (blkOk_by (N := ["arguments", "one"]) (sc := defScope s_arguments_text) (by decide +kernel)) (fun _ _ _ _ _ => by exact (pg_name (i := 1) sc_arguments_text.nd rfl (.inl rfl))) (fun _ _ _ _ _ => by exact pts_nil) (fun _ _ _ _ _ => by exact (pe_call G_expression_text (hr.mono (by show _ ≤ _; omega)) (by rfl) h_expression_text.g h_expression_text.F.kp h_expression_text.b .nil pass0 (pa_cons (pv 1) pa_nil)))) pa_nil))) pe_str))), ?_⟩
    obtain ⟨a, xs, rfl, hq, hd, hl, hi2⟩ := seq_of hx hok hs
    have zl : ∀ {x : Nat}, x ≤ 200000 → x ≤ sizeLine := fun h => Nat.le_trans h (by decide)
    have hm : (items d).length ≤ 12 := seq_lenM hs
    refine retA ⟨rfl, ca1 (lc_seq (fun R h => ⟨.ref a, rfl, h⟩) hq (fun D i H' => Same H H' ∧ H' D = some (.lst (((items d).take i).map fun e => V.str (etext n e)))) (fun D hD => ⟨same_upd hD, upd_same⟩) (fun D i H' p => p.1) ?_ ?_)⟩
    · rintro D i y H2 hD hy ⟨s2, e2⟩
      have hi : i < (items d).length := by rw [← hl]; exact (List.getElem?_eq_some_iff.mp hy).1
      obtain ⟨y', hy1, hy2⟩ := (dp_get hd).2 i (items d)[i] (List.getElem?_eq_getElem hi)
      obtain rfl : y' = y := Option.some.inj (hy1.symm.trans hy)
      refine ⟨rfl, ?_⟩
      unfold tYes
      dsimp only
      rw [if_pos rfl]
      have hp1 := hp _ (List.getElem_mem hi)
      refine ⟨y', rfl, y', (items d)[i], rfl, dp_keep s2 hy2, hi2 _ (List.getElem_mem hi), hp1.1, hp1.2, fun H3 s3 => ⟨_, s3 _ _ e2, ?_, same_mut (s2.trans s3) hD, ?_⟩⟩
      · rw [List.length_map, List.length_take]
        exact Nat.lt_of_le_of_lt (by omega : min i (items d).length ≤ 12) (by decide)
      · rw [upd_same, List.take_add_one, List.getElem?_eq_getElem hi, List.map_append]
        rfl
    · rintro D H2 hD ⟨s2, e2⟩
      rw [hl, List.take_length] at e2
      have hb : ((((items d).map (etext n)).map (·.length)).sum) ≤ 6000 * (items d).length := sum_lt fun e m => tx_len (hp e m).1 (hp e m).2
      have hj := join_len ", " ((items d).map (etext n))
      rw [List.length_map, show (", " : Str).length = 2 from rfl] at hj
      refine ⟨", ", D, (items d).map (etext n), rfl, rfl, .inl (SqL.of (by rw [e2, List.map_map]; rfl)), ?_, ?_⟩
      · rw [List.length_map, show (", " : Str).length = 2 from rfl]
        omega
      rw [jn_eq]
      have e3 : (("(" : Str) ++ Str.join ", " ((items d).map (etext n))).length = 1 + (Str.join ", " ((items d).map (etext n))).length := slen _ _
      refine ⟨_, _, rfl, rfl, zl ?_, _, ")", rfl, rfl, zl ?_, q H2 s2⟩
      · show 1 + _ ≤ _
        omega
      · rw [e3]
        show _ + 1 ≤ _
        omega
end
end Cw

set_option Elab.async false
set_option linter.all false
set_option maxRecDepth 100000
set_option maxHeartbeats 4000000
namespace Cw
open PySem PySem.Spec PyProof.Rows L2
/-! ### the law's dict of sizes -/
def sizesKv : List (Key × V) := [(.inr "int", .int 2), (.inr "name", .int 2), (.inr "next", .int 1), (.inr "new", .int 3), (.inr "field", .int 4), (.inr "call", .int 3), (.inr "add", .int 3), (.inr "sub", .int 3), (.inr "mul", .int 3), (.inr "if", .int 4), (.inr "let", .int 4)]
theorem sizes_merge : mergeK [] sizesKv = sizesKv := by decide
theorem val_cons {y z : Str} {v : V} {l : List (Key × V)} : valV (((.inr y : Key), v) :: l) (.inr z) = if z = y then some v else valV l (.inr z) := by
  unfold valV
  rw [List.find?_cons]
  by_cases h : z = y
  · subst h
    rw [if_pos rfl, decide_eq_true rfl]
    rfl
  · rw [if_neg h, decide_eq_false (fun k => h (Sum.inr.inj k).symm)]
theorem sizes_val (z : Str) : valV sizesKv (.inr z) = (kindsOf z).map fun ks => V.int ((ks.length : Int) + 1) := by
  unfold sizesKv kindsOf
  repeat rw [val_cons]
  by_cases h1 : z = "int"
  · rw [if_pos h1, if_pos h1]; rfl
  by_cases h2 : z = "name"
  · rw [if_neg h1, if_neg h1, if_pos h2, if_pos h2]; rfl
  by_cases h3 : z = "next"
  · rw [if_neg h1, if_neg h1, if_neg h2, if_neg h2, if_pos h3, if_pos h3]; rfl
  by_cases h4 : z = "new"
  · rw [if_neg h1, if_neg h1, if_neg h2, if_neg h2, if_neg h3, if_neg h3, if_pos h4, if_pos h4]; rfl
  by_cases h5 : z = "field"
  · rw [if_neg h1, if_neg h1, if_neg h2, if_neg h2, if_neg h3, if_neg h3, if_neg h4, if_neg h4, if_pos h5, if_pos h5]; rfl
  by_cases h6 : z = "call"
  · rw [if_neg h1, if_neg h1, if_neg h2, if_neg h2, if_neg h3, if_neg h3, if_neg h4, if_neg h4, if_neg h5, if_neg h5, if_pos h6, if_pos h6]; rfl
  rw [if_neg h1, if_neg h1, if_neg h2, if_neg h2, if_neg h3, if_neg h3, if_neg h4, if_neg h4, if_neg h5, if_neg h5, if_neg h6, if_neg h6]
  by_cases h7 : z = "add"
  · rw [if_pos h7, if_pos h7]; rfl
  by_cases h8 : z = "sub"
  · rw [if_neg h7, if_neg h7, if_pos h8, if_pos h8]; rfl
  by_cases h9 : z = "mul"
  · rw [if_neg h7, if_neg h7, if_neg h8, if_neg h8, if_pos h9, if_pos h9]; rfl
  by_cases h10 : z = "if"
  · rw [if_neg h7, if_neg h7, if_neg h8, if_neg h8, if_neg h9, if_neg h9, if_pos h10, if_pos h10]; rfl
  by_cases h11 : z = "let"
  · rw [if_neg h7, if_neg h7, if_neg h8, if_neg h8, if_neg h9, if_neg h9, if_neg h10, if_neg h10, if_pos h11, if_pos h11]; rfl
  rw [if_neg h7, if_neg h7, if_neg h8, if_neg h8, if_neg h9, if_neg h9, if_neg h10, if_neg h10, if_neg h11, if_neg h11]
  rfl
end Cw

set_option Elab.async false
set_option linter.all false
set_option maxRecDepth 100000
set_option maxHeartbeats 4000000
namespace Cw
open PySem PySem.Spec PyProof.Rows L2
theorem kinds_eq {z : Str} {ks l : List Str} (e : kindsOf z = some ks) (h : kindsOf z = some l) : ks = l := Option.some.inj (e.symm.trans h)
theorem eqz_q {i : Nat} {z y : Str} {σ : L2.St} {H : Hp} {Q : Bool → Hp → Prop} (e : σ[i]? = some (some (.str z))) (q : Q (decide (z = y)) H) : tTest (tOp rEq (tVar i) (tC (V.str y))) σ H Q := by
  have h : decide (V.str z = V.str y) = decide (z = y) := decide_eq_decide.mpr ⟨fun h => V.str.inj h, fun h => by rw [h]⟩
  refine ⟨.str z, e, rfl, _, rfl, ?_⟩
  rw [h]
  exact q
theorem if_merge {t : TS} {rest : TS} {D : Ends} {σ : L2.St} {H : Hp} (X : Hp → Prop) (h1 : ∀ H', X H' → rest D σ H') (h2 : (∀ H', X H' → rest D σ H') → t { D with nx := rest D } σ H) : tSeq t rest D σ H := h2 h1
theorem dec_str {z y : Str} : decide (V.str z = V.str y) = decide (z = y) := decide_eq_decide.mpr ⟨fun h => V.str.inj h, fun h => by rw [h]⟩
theorem form_nc {z : Str} (ez : z = "new" ∨ z = "call") (y v : PyData) : lawForm z [y, v] = (lawCn (decide (z = "new")) y && tupN (if z = "new" then 0 else 1) (if z = "new" then 12 else 3) (fun _ => true) v) := by
  rcases ez with rfl | rfl
  · show (true && (lawCn true y && (tupN 0 12 (fun _ => true) v && true))) = (lawCn true y && tupN 0 12 (fun _ => true) v)
    rw [Bool.true_and, Bool.and_true]
  · show (true && (lawCn false y && (tupN 1 3 (fun _ => true) v && true))) = (lawCn false y && tupN 1 3 (fun _ => true) v)
    rw [Bool.true_and, Bool.and_true]
theorem form_nc_len {z : Str} {ks : List Str} (ez : z = "new" ∨ z = "call") (e : kindsOf z = some ks) : ks.length = 2 := by
  rcases ez with rfl | rfl
  · rw [kinds_eq (l := ["class", "values"]) e (by rfl)]; rfl
  · rw [kinds_eq (l := ["generic", "arguments"]) e (by rfl)]; rfl
theorem dps1 {K : PySem.W.Frag} {H : Hp} {xs : List V} {ds : List PyData} (h : DpAll K H xs ds) (n : ds.length = 1) : ∃ x0 d0, xs = [x0] ∧ ds = [d0] ∧ Dp K H x0 d0 := by
  cases h with
  | nil => cases n
  | cons h t =>
    cases t with
    | nil => exact ⟨_, _, rfl, rfl, h⟩
    | cons h2 t2 => simp at n
theorem form_field (x y v : PyData) : lawForm "field" [x, y, v] = (lawCn true y && lawWord false v) := by
  show (true && (true && (lawCn true y && (lawWord false v && true)))) = _
  rw [Bool.true_and, Bool.true_and, Bool.and_true]
theorem form_let (x y v : PyData) : lawForm "let" [x, y, v] = lawWord false x := by
  show (true && (lawWord false x && (true && (true && true)))) = _
  rw [Bool.true_and, show (true && (true && true)) = true from rfl, Bool.and_true]
theorem tup_nc {z : Str} {l : List PyData} (ez : z = "new" ∨ z = "call") : tupN (if z = "new" then 0 else 1) (if z = "new" then 12 else 3) (fun _ => true) (.tuple l) = !(decide ((if z = "new" then (12 : Int) else 3) < (l.length : Int)) || (decide (z = "call") && decide ((l.length : Int) = 0))) := by
  have e1 : (l.all fun _ => true) = true := List.all_eq_true.mpr fun _ _ => rfl
  rcases ez with rfl | rfl
  · show (decide (0 ≤ l.length) && (decide (l.length ≤ 12) && l.all fun _ => true)) = !(decide ((12 : Int) < (l.length : Int)) || (false && decide ((l.length : Int) = 0)))
    rw [e1, Bool.and_true, Bool.false_and, Bool.or_false, decide_eq_true (Nat.zero_le _), Bool.true_and, ← decide_not]
    exact decide_eq_decide.mpr (by omega)
  · show (decide (1 ≤ l.length) && (decide (l.length ≤ 3) && l.all fun _ => true)) = !(decide ((3 : Int) < (l.length : Int)) || (true && decide ((l.length : Int) = 0)))
    rw [e1, Bool.and_true, Bool.true_and, Bool.not_or, ← decide_not, ← decide_not, Bool.and_comm]
    congr 1 <;> exact decide_eq_decide.mpr (by omega)
theorem ok_inner {z : Str} {r : List PyData} (h : Ok (.tuple r)) : ∀ d, d ∈ innerL z r → Ok d := by
  have g : ∀ i, Ok (r.getD i .none) := fun i => ok_get h i
  intro d m
  unfold innerL at m
  split at m
  · exact ok_mem (g 1) m
  split at m
  · rcases List.mem_singleton.mp m with rfl
    exact g 0
  split at m
  · rcases List.mem_cons.mp m with rfl | m
    · exact g 1
    rcases List.mem_singleton.mp m with rfl
    exact g 2
  split at m
  · exact ok_mem h m
  · cases m
def spExpr (K : PySem.W.Frag) : Nat → Sp
  | 0 => fun _ _ _ _ => False
  | n + 1 => fun vs H Q _ => ∃ x d, vs = [x, .int (8 - (n : Int))] ∧ Dp K H x d ∧ Ok d ∧ ∀ H', Same H H' → Q (.bl (lawExpr n d)) H'
section
variable {P : Program} {w : World} {K : PySem.W.Frag} {mg : Str → Option Value} {base : Heap} {S : Addr → Option Sp}
abbrev s__law_is_expr : Stmt := topS 90
theorem sc__law_is_expr : FnScope ["value", "deep", "word", "sizes", "part"] ["value", "deep"] (defScope s__law_is_expr) := ⟨rfl, rfl, rfl, by decide +kernel, rfl, by decide +kernel, by decide +kernel⟩
theorem ok__law_is_expr {f : Addr} {fd : FuncData} (F : Fun K "_law_is_expr" "_law_is_expr" s__law_is_expr f fd) {f__law_whole : Addr} {d__law_whole : FuncData} (h__law_whole : Hd K mg "_law_whole" s__law_whole ["value"] f__law_whole d__law_whole) (G__law_whole : FnOk P w K mg base CX0 1 f__law_whole d__law_whole ["value"] (sp1 K isWhole)) {f__law_is_word : Addr} {d__law_is_word : FuncData} (h__law_is_word : Hd K mg "_law_is_word" s__law_is_word ["value", "capital"] f__law_is_word d__law_is_word) (G__law_is_word : FnOk P w K mg base CX0 2 f__law_is_word d__law_is_word ["value", "capital"] (spWord K)) {f__law_is_class_name : Addr} {d__law_is_class_name : FuncData} (h__law_is_class_name : Hd K mg "_law_is_class_name" s__law_is_class_name ["value", "capital"] f__law_is_class_name d__law_is_class_name) (G__law_is_class_name : FnOk P w K mg base CX0 3 f__law_is_class_name d__law_is_class_name ["value", "capital"] (spLawCn K)) {f__law_inner_parts : Addr} {d__law_inner_parts : FuncData} (h__law_inner_parts : Hd K mg "_law_inner_parts" s__law_inner_parts ["value"] f__law_inner_parts d__law_inner_parts) (G__law_inner_parts : FnOk P w K mg base CX0 1 f__law_inner_parts d__law_inner_parts ["value"] (spInner K)) (m_isinstance : mg "isinstance" = none) (m_tuple : mg "tuple" = none) (m_len : mg "len" = none) (m_str : mg "str" = none) (bF : Binds K fd ["value", "deep"] []) (gF : mg "_law_is_expr" = some (.ref f)) : ∀ n, FnOk P w K mg base CX0 (4 + n) f fd ["value", "deep"] (spExpr K n)
  | 0 => ⟨fun _ _ _ _ h => h.elim, fun _ _ _ _ _ _ _ _ _ _ _ _ _ h => h.elim⟩
  | n + 1 => by
    have G := ok__law_is_expr F h__law_whole G__law_whole h__law_is_word G__law_is_word h__law_is_class_name G__law_is_class_name h__law_inner_parts G__law_inner_parts m_isinstance m_tuple m_len m_str bF gF n
    refine F.ok sc__law_is_expr (fun vs H Q E h => ?_) (fun cdv A outer s H vs Q E hr h => ?_)
    · obtain ⟨_, _, rfl, _⟩ := h
      rfl
    · obtain ⟨x, d, rfl, hx, hok, q⟩ := h
      refine ⟨_, (pss_cons (ps_if (PW.pt (pw_or (pt_cmpR op_gt (pv 1) pe_int (nomark _)) (pw_or (pt_not (pt_val (pe_callB call_isi (by rfl) m_isinstance (by decide +kernel) (pa_cons (pv 0) (pa_cons (pe_bltn (v := .ty "tuple") (by rfl) m_tuple (by decide +kernel) rfl) pa_nil))))) (pw_or (pt_cmpR op_eq (pe_callB call_len_seq (by rfl) m_len PySem.boot_len (pa_cons (pv 0) pa_nil)) pe_int (nomark _)) (pw_or1 (pt_not (pt_val (pe_callB call_isi (by rfl) m_isinstance (by decide +kernel) (pa_cons (pe_ix ix_tup (pv 0) pe_int (fun _ _ => rfl)) (pa_cons (pe_bltn (v := .ty "str") (by rfl) m_str (by decide +kernel) rfl) pa_nil)))))))))) (pss_one (ps_ret pe_bl)) pss_nil)
  (pss_cons (ps_set (i := 2) sc__law_is_expr.nd rfl (.inl rfl) (pe_ix ix_tup (pv 0) pe_int (fun _ _ => rfl)))
  (pss_cons (ps_set (i := 3) sc__law_is_expr.nd rfl (.inl rfl) (pe_disp (pps_cons pe_str pe_int (pps_cons pe_str pe_int (pps_cons pe_str pe_int (pps_cons pe_str pe_int (pps_cons pe_str pe_int (pps_cons pe_str pe_int (pps_cons pe_str pe_int (pps_cons pe_str pe_int (pps_cons pe_str pe_int (pps_cons pe_str pe_int (pps_cons pe_str pe_int pps_nil))))))))))) rfl rfl (by decide) (by decide)))
  (pss_cons (ps_if (PW.pt (pw_or (pt_cmp (pc_dnotin (hu_of hr) (pv 2) (pv 3))) (pw_or1 (pt_cmpR op_ne (pe_callB call_len_seq (by rfl) m_len PySem.boot_len (pa_cons (pv 0) pa_nil)) (pe_dget (hu_of hr) (pv 3) (pv 2) (fun _ _ => rfl)) (nomark _))))) (pss_one (ps_ret pe_bl)) pss_nil)
  (pss_cons (ps_if (pt_cmpR op_eq (pv 2) pe_str (nomark _)) (pss_one (ps_ret (pe_and (pe_call G__law_whole (hr.mono (Nat.le_trans (by decide) (Nat.le_add_right 4 n))) (by rfl) h__law_whole.g h__law_whole.F.kp h__law_whole.b .nil pass0 (pa_cons (pe_ix ix_tup (pv 0) pe_int (fun _ _ => rfl)) pa_nil)) (pe_one (pe_chain op_le op_le pe_int (pe_ix ix_tup (pv 0) pe_int (fun _ _ => rfl)) pe_int))))) pss_nil)
  (pss_cons (ps_if (pt_cmpR op_eq (pv 2) pe_str (nomark _)) (pss_one (ps_ret (pe_call G__law_is_word (hr.mono (Nat.le_trans (by decide) (Nat.le_add_right 4 n))) (by rfl) h__law_is_word.g h__law_is_word.F.kp h__law_is_word.b .nil pass0 (pa_cons (pe_ix ix_tup (pv 0) pe_int (fun _ _ => rfl)) (pa_cons pe_bl pa_nil))))) pss_nil)
  (pss_cons (ps_if (PW.pt (pw_or (pt_cmpR op_eq (pv 2) pe_str (nomark _)) (pw_or1 (pt_cmpR op_eq (pv 2) pe_str (nomark _))))) (pss_cons (ps_if (PW.pt (pw_or (pt_not (pt_val (pe_call G__law_is_class_name (hr.mono (Nat.le_trans (by decide) (Nat.le_add_right 4 n))) (by rfl) h__law_is_class_name.g h__law_is_class_name.F.kp h__law_is_class_name.b .nil pass0 (pa_cons (pe_ix ix_tup (pv 0) pe_int (fun _ _ => rfl)) (pa_cons (pe_cmpR op_eq (pv 2) pe_str (nomark _)) pa_nil))))) (pw_or1 (pt_not (pt_val (pe_callB call_isi (by rfl) m_isinstance (by decide +kernel) (pa_cons (pe_ix ix_tup (pv 0) pe_int (fun _ _ => rfl)) (pa_cons (pe_bltn (v := .ty "tuple") (by rfl) m_tuple (by decide +kernel) rfl) pa_nil)))))))) (pss_one (ps_ret pe_bl)) pss_nil)
  (pss_one (ps_if (PW.pt (pw_or (pt_cmpR op_gt (pe_callB call_len_seq (by rfl) m_len PySem.boot_len (pa_cons (pe_ix ix_tup (pv 0) pe_int (fun _ _ => rfl)) pa_nil)) (pe_ifExp (pt_cmpR op_eq (pv 2) pe_str (nomark _)) pe_int pe_int) (nomark _)) (pw_or1 (PW.pt (pw_and (pt_cmpR op_eq (pv 2) pe_str (nomark _)) (pw_and1 (pt_cmpR op_eq (pe_callB call_len_seq (by rfl) m_len PySem.boot_len (pa_cons (pe_ix ix_tup (pv 0) pe_int (fun _ _ => rfl)) pa_nil)) pe_int (nomark _)))))))) (pss_one (ps_ret pe_bl)) pss_nil))) pss_nil)
  (pss_cons (ps_if (PW.pt (pw_and (pt_cmpR op_eq (pv 2) pe_str (nomark _)) (pw_and1 (pt_not (PW.pt (pw_and (pt_val (pe_call G__law_is_class_name (hr.mono (Nat.le_trans (by decide) (Nat.le_add_right 4 n))) (by rfl) h__law_is_class_name.g h__law_is_class_name.F.kp h__law_is_class_name.b .nil pass0 (pa_cons (pe_ix ix_tup (pv 0) pe_int (fun _ _ => rfl)) (pa_cons pe_bl pa_nil)))) (pw_and1 (pt_val (pe_call G__law_is_word (hr.mono (Nat.le_trans (by decide) (Nat.le_add_right 4 n))) (by rfl) h__law_is_word.g h__law_is_word.F.kp h__law_is_word.b .nil pass0 (pa_cons (pe_ix ix_tup (pv 0) pe_int (fun _ _ => rfl)) (pa_cons pe_bl pa_nil))))))))))) (pss_one (ps_ret pe_bl)) pss_nil)
  (pss_cons (ps_if (PW.pt (pw_and (pt_cmpR op_eq (pv 2) pe_str (nomark _)) (pw_and1 (pt_not (pt_val (pe_call G__law_is_word (hr.mono (Nat.le_trans (by decide) (Nat.le_add_right 4 n))) (by rfl) h__law_is_word.g h__law_is_word.F.kp h__law_is_word.b .nil pass0 (pa_cons (pe_ix ix_tup (pv 0) pe_int (fun _ _ => rfl)) (pa_cons pe_bl pa_nil)))))))) (pss_one (ps_ret pe_bl)) pss_nil)
  (pss_cons (ps_for PassesOwn.never rfl (pi_list (pe_call G__law_inner_parts (hr.mono (Nat.le_trans (by decide) (Nat.le_add_right 4 n))) (by rfl) h__law_inner_parts.g h__law_inner_parts.F.kp h__law_inner_parts.b .nil pass0 (pa_cons (pv 0) pa_nil))) (pg_name (i := 4) sc__law_is_expr.nd rfl (.inl rfl)) (pss_one (ps_if (pt_not (pt_val (pe_call G hr (by rfl) gF F.kp bF .nil pass0 (pa_cons (pv 4) (pa_cons (pe_op op_add (pv 1) pe_int) pa_nil))))) (pss_one (ps_ret pe_bl)) pss_nil)))
  (pss_one (ps_ret pe_bl)))))))))))), ?_⟩
      have qf : lawExpr n d = false → ∀ H', Same H H' → Q (.bl false) H' := fun e H' s' => by
        have z0 := q H' s'
        rw [e] at z0
        exact z0
      refine seqA (ifA ?_)
      refine ⟨.int (8 - (n : Int)), rfl, _, 7, rfl, rfl, _, rfl, ite2 (fun e => iteT ?_) (fun e => ?_)⟩
      · have g := of_decide_eq_true e
        have n0 : n = 0 := by omega
        subst n0
        exact qf rfl H (Same.refl H)
      obtain ⟨m, rfl⟩ : ∃ m, n = m + 1 := by
        have g := of_decide_eq_false (Bool.eq_false_iff.mpr e)
        exact ⟨n - 1, by omega⟩
      refine r_isi rfl hx (kb_tu d) ?_
      cases hx with
      | @tup a xs ds hq hd =>
        refine iteF ⟨.ref a, rfl, a, xs, rfl, .inr hq, rfl, _, rfl, ?_⟩
        cases hd with
        | nil => exact iteT (iteT (qf rfl H (Same.refl H)))
        | @cons x0 xr d0 r k0 kr =>
          refine iteF ?_
          refine isi_q (fun R r => ⟨.ref a, rfl, a, _, _, _, rfl, rfl, hq, atI_nat (j := 0) rfl, r⟩) k0 (kb_st d0) ?_
          cases k0 with
          | str z =>
            refine iteF (nextA ?_)
            dsimp only
            refine seqA ?_
            refine ⟨.ref a, rfl, a, _, _, _, rfl, rfl, hq, atI_nat (j := 0) rfl, ?_⟩
            refine nameA ?_
            dsimp only
            refine seqA (asgA ?_)
            refine fun p hp => ⟨upd_same, sizesKv, rfl, by decide, ?_⟩
            rw [upd_upd, sizes_merge]
            have hdk : upd H p (.dK sizesKv) p = some (.dK sizesKv) := upd_same
            have s1 := same_upd (o := .dK sizesKv) hp
            have hq1 := sqt_keep s1 hq
            have kr1 := dps_keep s1 kr
            generalize upd H p (.dK sizesKv) = H1 at hdk s1 hq1 kr1 ⊢
            refine nameA ?_
            dsimp only
            refine seqA (ifA ?_)
            refine or_q (b := (kindsOf z).isNone) (c := !(kindsOf z).any fun ks => decide (r.length = ks.length)) (fun R hR => ?_) (fun hb R hR => ?_) ?_
            · refine ⟨.str z, rfl, .ref p, rfl, p, _, rfl, DGet.k (k := .inr z) hdk, _, rfl, ?_⟩
              rw [sizes_val]
              cases ek : kindsOf z with
              | none => rw [ek] at hR; exact hR
              | some ks => rw [ek] at hR; exact hR
            · cases ek : kindsOf z with
              | none => rw [ek] at hb; cases hb
              | some ks =>
              rw [ek] at hR
              have hg : DGet H1 p (V.str z) (some (V.int ((ks.length : Int) + 1))) := by
                have h9 := DGet.k (k := .inr z) hdk
                rw [sizes_val, ek] at h9
                exact h9
              refine ⟨.ref a, rfl, a, _, rfl, .inr hq1, .ref p, rfl, .str z, rfl, p, V.int ((ks.length : Int) + 1), rfl, hg, rfl, _, rfl, ?_⟩
              rw [dec_int, List.length_cons, (dp_get kr).1]
              have e5 : (((r.length + 1 : Nat) : Int) == (ks.length : Int) + 1) = decide (r.length = ks.length) := by
                rw [Bool.eq_iff_iff, beq_iff_eq, decide_eq_true_iff]
                omega
              rw [e5]
              exact hR
            have nof : lawForm z r = false → Q (.bl false) H1 := fun e => qf (by rw [lawExpr, e, Bool.false_and]) H1 s1
            refine ite2 (fun e => ?_) (fun e => ?_)
            · refine retA (nof ?_)
              unfold lawForm
              cases ek : kindsOf z with
              | none => rfl
              | some ks =>
                rw [ek] at e
                have e9 : decide (r.length = ks.length) = false := by
                  cases e8 : decide (r.length = ks.length) with
                  | false => rfl
                  | true =>
                    have e7 : (Option.any (fun ks : List Str => decide (r.length = ks.length)) (some ks)) = true := e8
                    rw [e7] at e
                    cases e
                show (decide (r.length = ks.length) && _) = false
                rw [e9, Bool.false_and]
            obtain ⟨ks, ek, el⟩ : ∃ ks, kindsOf z = some ks ∧ r.length = ks.length := by
              cases ek : kindsOf z with
              | none => rw [ek] at e; exact absurd rfl e
              | some ks =>
                rw [ek] at e
                refine ⟨ks, rfl, ?_⟩
                by_cases g : r.length = ks.length
                · exact g
                · exfalso
                  have e7 : (Option.any (fun ks : List Str => decide (r.length = ks.length)) (some ks)) = false := decide_eq_false g
                  rw [e7] at e
                  exact e rfl
            have hform : lawForm z r = (ks.zip r).all fun p => lawMember p.1 p.2 := by
              unfold lawForm
              rw [ek]
              show (decide (r.length = ks.length) && _) = _
              rw [decide_eq_true el, Bool.true_and]
            refine nextA ?_
            dsimp only
            refine seqA (ifA ?_)
            refine eqz_q rfl (ite2 (fun e1 => ?_) (fun e1 => ?_))
            · have ez : z = "int" := of_decide_eq_true e1
              subst ez
              obtain rfl := kinds_eq (l := ["number"]) ek (by rfl)
              obtain ⟨x1, d1, rfl, rfl, k1⟩ := dps1 kr1 el
              have o1 : Ok d1 := ok_mem hok (by simp [items])
              have hv : lawExpr (m + 1) (.tuple [.str "int", d1]) = isInteger 0 65535 d1 := by
                show (lawForm "int" [d1] && true) = _
                rw [hform]
                show ((isInteger 0 65535 d1 && true) && true) = _
                rw [Bool.and_true, Bool.and_true]
              refine retA ⟨.ref a, rfl, a, _, _, _, rfl, rfl, hq1, atI_nat (j := 1) rfl, x1, d1, rfl, k1, o1, fun H2 s2 => ⟨_, rfl, ite2 (fun e2 => ?_) (fun e2 => ?_)⟩⟩
              · cases k1 with
                | int i =>
                  have hz := q H2 (s1.trans s2)
                  rw [hv] at hz
                  have hz : Q (.bl (decide (0 ≤ i) && decide (i ≤ 65535))) H2 := hz
                  refine ⟨.ref a, rfl, a, _, _, _, rfl, rfl, sqt_keep s2 hq1, atI_nat (j := 1) rfl, 0, i, rfl, rfl, _, rfl, ite2 (fun e3 => ⟨i, 65535, rfl, rfl, ?_⟩) (fun e3 => ?_)⟩
                  · rw [e3, Bool.true_and] at hz
                    exact hz
                  · rw [Bool.eq_false_iff.mpr e3, Bool.false_and] at hz
                    exact hz
                | _ => cases e2
              · have hz := q H2 (s1.trans s2)
                rw [hv] at hz
                have e4 : isInteger 0 65535 d1 = false := by
                  cases k1 with
                  | int i => exact absurd rfl e2
                  | _ => rfl
                rw [e4] at hz
                exact hz
            have z1 : z ≠ "int" := of_decide_eq_false (Bool.eq_false_iff.mpr e1)
            refine nextA ?_
            dsimp only
            refine seqA (ifA ?_)
            refine eqz_q rfl (ite2 (fun e2 => ?_) (fun e2 => ?_))
            · have ez : z = "name" := of_decide_eq_true e2
              subst ez
              obtain rfl := kinds_eq (l := ["name"]) ek (by rfl)
              obtain ⟨x1, d1, rfl, rfl, k1⟩ := dps1 kr1 el
              have o1 : Ok d1 := ok_mem hok (by simp [items])
              have hv : lawExpr (m + 1) (.tuple [.str "name", d1]) = lawWord false d1 := by
                show (lawForm "name" [d1] && true) = _
                rw [hform]
                show ((lawWord false d1 && true) && true) = _
                rw [Bool.and_true, Bool.and_true]
              refine retA ⟨.ref a, rfl, a, _, _, _, rfl, rfl, hq1, atI_nat (j := 1) rfl, x1, d1, false, rfl, k1, o1, fun H2 s2 => ?_⟩
              have hz := q H2 (s1.trans s2)
              rw [hv] at hz
              exact hz
            have z2 : z ≠ "name" := of_decide_eq_false (Bool.eq_false_iff.mpr e2)
            refine nextA ?_
            dsimp only
            refine if_merge (fun H2 => Same H1 H2 ∧ (z = "new" ∨ z = "call" → lawForm z r = true ∧ ∃ y l, r = [y, .tuple l])) (fun H2 c1 => ?_) (fun kont => ?_)
            rotate_left
            · refine ifA ?_
              refine or_q (b := decide (z = "new")) (c := decide (z = "call")) (fun R hR => eqz_q rfl hR) (fun _ R hR => eqz_q rfl hR) (ite2 (fun e3 => ?_) (fun e3 => ?_))
              · have ez : z = "new" ∨ z = "call" := by simpa using e3
                obtain ⟨x1, x2, d1, d2, rfl, rfl, k1, k2⟩ := dps2 kr1 (el.trans (form_nc_len ez ek))
                have o1 : Ok d1 := ok_mem hok (by simp [items])
                have hf := form_nc ez d1 d2
                have nof2 : lawForm z [d1, d2] = false → ∀ H2, Same H1 H2 → Q (.bl false) H2 := fun e H2 s2 => qf (by rw [lawExpr, e, Bool.false_and]) H2 (s1.trans s2)
                refine seqA (ifA ?_)
                refine ⟨.ref a, rfl, a, _, _, _, rfl, rfl, hq1, atI_nat (j := 1) rfl, .str z, rfl, rfl, x1, d1, decide (V.str z = V.str "new"), rfl, k1, o1, fun H2 s2 => ⟨_, rfl, ?_⟩⟩
                rw [dec_str]
                have hq2 := sqt_keep s2 hq1
                have k22 := dp_keep s2 k2
                cases e4 : lawCn (decide (z = "new")) d1 with
                | false => exact iteT (iteT (retA (nof2 (by rw [hf, e4, Bool.false_and]) H2 s2)))
                | true =>
                refine iteF ?_
                refine isi_q (fun R r => ⟨.ref a, rfl, a, _, _, _, rfl, rfl, hq2, atI_nat (j := 2) rfl, r⟩) k22 (kb_tu d2) ?_
                cases e5 : isTu d2 with
                | false => exact iteT (retA (nof2 (by rw [hf, tupN_no e5, Bool.and_false]) H2 s2))
                | true =>
                refine iteF (nextA ?_)
                dsimp only
                refine ifA ?_
                obtain ⟨a2, y2, l2, rfl, rfl, hq3, hd3⟩ := tu_of k22 e5
                have hl2 := (dp_get hd3).1
                have ht := tup_nc (l := l2) ez
                refine or_q (b := decide ((if z = "new" then (12 : Int) else 3) < (l2.length : Int))) (c := decide (z = "call") && decide ((l2.length : Int) = 0)) (fun R hR => ?_) (fun _ R hR => ?_) ?_
                · refine ⟨.ref a, rfl, a, _, _, _, rfl, rfl, hq2, atI_nat (j := 2) rfl, a2, y2, rfl, .inr hq3, eqz_q rfl (ite2 (fun e => ⟨_, 12, rfl, rfl, _, rfl, ?_⟩) (fun e => ⟨_, 3, rfl, rfl, _, rfl, ?_⟩))⟩
                  · rw [if_pos (of_decide_eq_true e)] at hR
                    rw [hl2]
                    exact hR
                  · rw [if_neg (of_decide_eq_false (Bool.eq_false_iff.mpr e))] at hR
                    rw [hl2]
                    exact hR
                · refine and_q (b := decide (z = "call")) (c := decide ((l2.length : Int) = 0)) (fun R hR => eqz_q rfl hR) (fun _ R hR => ⟨.ref a, rfl, a, _, _, _, rfl, rfl, hq2, atI_nat (j := 2) rfl, a2, y2, rfl, .inr hq3, rfl, _, rfl, ?_⟩) hR
                  rw [hl2, show decide (V.int (l2.length : Int) = V.int 0) = decide ((l2.length : Int) = 0) from decide_eq_decide.mpr ⟨fun h => V.int.inj h, fun h => by rw [h]⟩]
                  exact hR
                refine ite2 (fun e6 => ?_) (fun e6 => ?_)
                · exact retA (nof2 (by rw [hf, ht, e6, Bool.not_true, Bool.and_false]) H2 s2)
                · refine nextA (kont _ ⟨s2, fun _ => ⟨?_, _, _, rfl⟩⟩)
                  rw [hf, ht, e4, Bool.eq_false_iff.mpr e6]
                  rfl
              refine nextA ?_
              refine kont _ ⟨Same.refl _, fun ez => absurd (by simpa using ez) e3⟩
            obtain ⟨s2, c1⟩ := c1
            refine if_merge (fun H3 => Same H1 H3 ∧ (z = "field" → lawForm z r = true)) (fun H3 c2 => ?_) (fun kont => ?_)
            rotate_left
            · refine ifA ?_
              have hq2 := sqt_keep s2 hq1
              have kr2 := dps_keep s2 kr1
              refine eqz_q rfl (ite2 (fun e3 => ?_) (fun e3 => ?_))
              · have ez : z = "field" := of_decide_eq_true e3
                subst ez
                obtain rfl := kinds_eq (l := ["part", "class", "name"]) ek (by rfl)
                obtain ⟨x1, x2, x3, d1, d2, d3, rfl, rfl, k1, k2, k3⟩ := dps3 kr2 el
                have o2 : Ok d2 := ok_mem hok (by simp [items])
                have o3 : Ok d3 := ok_mem hok (by simp [items])
                have hf := form_field d1 d2 d3
                have nof2 : lawForm "field" [d1, d2, d3] = false → ∀ H3, Same H2 H3 → Q (.bl false) H3 := fun e H3 s3 => qf (by rw [lawExpr, e, Bool.false_and]) H3 (s1.trans (s2.trans s3))
                refine ⟨.ref a, rfl, a, _, _, _, rfl, rfl, hq2, atI_nat (j := 2) rfl, x2, d2, true, rfl, k2, o2, fun H3 s3 => ⟨_, rfl, ?_⟩⟩
                cases e4 : lawCn true d2 with
                | false => exact iteF (iteT (retA (nof2 (by rw [hf, e4, Bool.false_and]) H3 s3)))
                | true =>
                refine iteT ⟨.ref a, rfl, a, _, _, _, rfl, rfl, sqt_keep s3 hq2, atI_nat (j := 3) rfl, x3, d3, false, rfl, dp_keep s3 k3, o3, fun H4 s4 => ⟨_, rfl, ?_⟩⟩
                cases e5 : lawWord false d3 with
                | false => exact iteT (retA (nof2 (by rw [hf, e5, Bool.and_false]) H4 (s3.trans s4)))
                | true => exact iteF (nextA (kont _ ⟨s2.trans (s3.trans s4), fun _ => by rw [hf, e4, e5]; rfl⟩))
              · exact iteF (nextA (kont _ ⟨s2, fun ez => absurd (decide_eq_true ez) e3⟩))
            obtain ⟨s3, c2⟩ := c2
            refine if_merge (fun H4 => Same H1 H4 ∧ (z = "let" → lawForm z r = true)) (fun H4 c3 => ?_) (fun kont => ?_)
            rotate_left
            · refine ifA ?_
              have hq2 := sqt_keep s3 hq1
              have kr2 := dps_keep s3 kr1
              refine eqz_q rfl (ite2 (fun e3 => ?_) (fun e3 => ?_))
              · have ez : z = "let" := of_decide_eq_true e3
                subst ez
                obtain rfl := kinds_eq (l := ["name", "part", "part"]) ek (by rfl)
                obtain ⟨x1, x2, x3, d1, d2, d3, rfl, rfl, k1, k2, k3⟩ := dps3 kr2 el
                have o1 : Ok d1 := ok_mem hok (by simp [items])
                have hf := form_let d1 d2 d3
                refine ⟨.ref a, rfl, a, _, _, _, rfl, rfl, hq2, atI_nat (j := 1) rfl, x1, d1, false, rfl, k1, o1, fun H4 s4 => ⟨_, rfl, ?_⟩⟩
                cases e4 : lawWord false d1 with
                | false => exact iteT (retA (qf (by rw [lawExpr, hf, e4, Bool.false_and]) H4 (s1.trans (s3.trans s4))))
                | true => exact iteF (nextA (kont _ ⟨s3.trans s4, fun _ => by rw [hf, e4]⟩))
              · exact iteF (nextA (kont _ ⟨s3, fun ez => absurd (decide_eq_true ez) e3⟩))
            obtain ⟨s4, c3⟩ := c3
            have HF : lawForm z r = true := by
              have hw := words_of ek
              rcases hw with ⟨e0, _⟩ | ⟨e0, _⟩ | ⟨rfl, rfl⟩ | ⟨e0, _⟩ | ⟨e0, _⟩ | ⟨e0, _⟩ | ⟨rfl, rfl⟩ | ⟨rfl, rfl⟩ | ⟨rfl, rfl⟩ | ⟨rfl, rfl⟩ | ⟨e0, _⟩
              · exact absurd e0 z1
              · exact absurd e0 z2
              · match r, el, hform with
                | [], _, hform => rw [hform]; rfl
              · exact (c1 (.inl e0)).1
              · exact c2 e0
              · exact (c1 (.inr e0)).1
              · match r, el, hform with
                | [_, _], _, hform => rw [hform]; rfl
              · match r, el, hform with
                | [_, _], _, hform => rw [hform]; rfl
              · match r, el, hform with
                | [_, _], _, hform => rw [hform]; rfl
              · match r, el, hform with
                | [_, _, _], _, hform => rw [hform]; rfl
              · exact c3 e0
            have HI : innerOk z r := ⟨fun e => (c1 e).2, fun e => by subst e; rw [el, kinds_eq (l := ["part", "class", "name"]) ek (by rfl)]; rfl, fun e => by subst e; rw [el, kinds_eq (l := ["name", "part", "part"]) ek (by rfl)]; rfl⟩
            have hv : lawExpr (m + 1) (.tuple (.str z :: r)) = (innerL z r).all (lawExpr m) := by
              rw [lawExpr, HF, Bool.true_and]
            refine seqA ?_
            refine ⟨.ref a, rfl, _, z, r, rfl, .tup (sqt_keep s4 hq1) (.cons (.str z) (dps_keep s4 kr1)), HI, fun H5 L ys s5 hL hn hys => ?_⟩
            have okr : Ok (.tuple r) := by
              cases hok with
              | tuple _ h1 h2 => exact .tuple r (by simp at h1; omega) fun d m => h2 d (List.mem_cons_of_mem _ m)
            refine ⟨L, rfl, ⟨ys, SqL.of hL⟩, for_list (xs := ys) (fun i σ H' => (∃ c4, σ = [some (.ref a), some (.int (8 - ((m + 1 : Nat) : Int))), some (.str z), some (.ref p), c4]) ∧ Same H5 H' ∧ ∀ (j : Nat) y, j < i → (innerL z r)[j]? = some y → lawExpr m y = true)
              ⟨⟨_, rfl⟩, Same.refl _, fun _ _ h => absurd h (Nat.not_lt_zero _)⟩ (fun i σ H' _ p => SqL.of (p.2.1 _ _ hL)) ?_ ?_⟩
            · rintro i x σ H6 hx ⟨⟨c4, rfl⟩, s6, hall⟩
              have hi : i < (innerL z r).length := by
                rw [← (dp_get hys).1]
                exact (List.getElem?_eq_some_iff.mp hx).1
              obtain ⟨x', hx1, hx2⟩ := (dp_get hys).2 i (innerL z r)[i] (List.getElem?_eq_getElem hi)
              obtain rfl : x' = x := Option.some.inj (hx1.symm.trans hx)
              refine nameA (ifA ?_)
              refine ⟨x', rfl, .int (8 - ((m + 1 : Nat) : Int)), rfl, _, 1, rfl, rfl, x', (innerL z r)[i], ?_, dp_keep s6 hx2, ok_inner okr _ (List.getElem_mem hi), fun H7 s7 => ⟨_, rfl, ?_⟩⟩
              · show [x', V.int ((8 - ((m + 1 : Nat) : Int)) + 1)] = [x', V.int (8 - (m : Int))]
                rw [show (8 - ((m + 1 : Nat) : Int)) + 1 = 8 - (m : Int) by omega]
              cases e7 : lawExpr m (innerL z r)[i] with
              | false => exact iteT (retA (qf (by rw [hv]; exact all_no (List.getElem_mem hi) e7) H7 (s1.trans (s4.trans (s5.trans (s6.trans s7))))))
              | true =>
                refine iteF (nextA ⟨⟨_, rfl⟩, s6.trans s7, fun j y hj hy => ?_⟩)
                exact all_step (i := i) hall hj hy (List.getElem?_eq_getElem hi) e7
            · rintro σ H6 ⟨⟨c4, rfl⟩, s6, hall⟩
              have hz := q H6 (s1.trans (s4.trans (s5.trans s6)))
              rw [hv, all_yes (r := lawExpr m) fun j y hy => hall j y (by rw [(dp_get hys).1]; exact (List.getElem?_eq_some_iff.mp hy).1) hy] at hz
              exact hz
          | bl b => exact iteT (qf rfl H (Same.refl H))
          | non => exact iteT (qf rfl H (Same.refl H))
          | int z => exact iteT (qf rfl H (Same.refl H))
          | lst h1 h2 => exact iteT (qf rfl H (Same.refl H))
          | tup h1 h2 => exact iteT (qf rfl H (Same.refl H))
      | bl b => exact iteT (iteT (qf rfl H (Same.refl H)))
      | non => exact iteT (iteT (qf rfl H (Same.refl H)))
      | int z => exact iteT (iteT (qf rfl H (Same.refl H)))
      | lst h1 h2 => exact iteT (iteT (qf rfl H (Same.refl H)))
      | str z => exact iteT (iteT (qf rfl H (Same.refl H)))
end
end Cw

set_option Elab.async false
set_option linter.all false
set_option maxRecDepth 100000
set_option maxHeartbeats 4000000
namespace Cw
open PySem PySem.Spec PyProof.Rows L2
theorem hd_of {K : PySem.W.Frag} {H : Hp} {x : V} {d : PyData} {z : Str} {r : List PyData} (hx : Dp K H x d) (e : items d = .str z :: r) : ∃ a xr, x = .ref a ∧ SqA K H a (.str z :: xr) ∧ DpAll K H xr r := by
  rcases sq_split hx with ⟨_, e2⟩ | ⟨a, xs, rfl, hq, hd, _⟩
  · rw [e2] at e; cases e
  · rw [e] at hd
    cases hd with
    | cons h t =>
      cases h
      exact ⟨a, _, rfl, hq, t⟩
section
variable {n k : Nat} {P : Program} {w : World} {K : PySem.W.Frag} {mg : Str → Option Value} {base : Heap} {S : Addr → Option Sp}
theorem sc_part_text : FnScope ["part", "words"] ["part", "words"] (defScope s_part_text) := ⟨rfl, rfl, rfl, by decide +kernel, rfl, by decide +kernel, by decide +kernel⟩
theorem ok_part_text {f : Addr} {fd : FuncData} (F : Fun K "part_text" "part_text" s_part_text f fd) {f_expression_text : Addr} {d_expression_text : FuncData} (h_expression_text : Hd K mg "expression_text" s_expression_text ["expression"] f_expression_text d_expression_text) (G_expression_text : FnOk P w K mg base CX0 (k) f_expression_text d_expression_text ["expression"] (spTx K n)) : FnOk P w K mg base CX0 (k + 1) f fd ["part", "words"] (spPart K n) := by
  refine F.ok sc_part_text (fun vs H Q E h => ?_) (fun cdv A outer s H vs Q E hr h => ?_)
  · obtain ⟨_, _, _, _, rfl, _⟩ := h
    rfl
  · obtain ⟨x, d, wa, ws, rfl, hw, hwl, hx, hok, hf, hc, q⟩ := h
    refine ⟨_, (pss_cons (ps_if (pt_cmpR op_in_seq (pe_ix ix_seq (pv 0) pe_int (fun _ _ => rfl)) (pv 1) (by rfl)) (pss_one (ps_ret (pe_op op_add_str (pe_op op_add_str pe_str (pe_call G_expression_text (hr.mono (by show _ ≤ _; omega)) (by rfl) h_expression_text.g h_expression_text.F.kp h_expression_text.b .nil pass0 (pa_cons (pv 0) pa_nil))) pe_str))) pss_nil)
  (pss_one (ps_ret (pe_call G_expression_text (hr.mono (by show _ ≤ _; omega)) (by rfl) h_expression_text.g h_expression_text.F.kp h_expression_text.b .nil pass0 (pa_cons (pv 0) pa_nil))))), ?_⟩
    have zl : ∀ {x : Nat}, x ≤ 200000 → x ≤ sizeLine := fun h => Nat.le_trans h (by decide)
    obtain ⟨z, r, e⟩ : ∃ z r, items d = .str z :: r := by
      cases n with
      | zero => cases hf
      | succ n =>
        obtain ⟨z, r, e, _⟩ := (fm_of (parts_fm hf hc).1).head
        exact ⟨z, r, e⟩
    obtain ⟨a, xr, rfl, hq, hd⟩ := hd_of hx e
    have hh : headW d = z := by
      unfold headW get
      rw [e]
      rfl
    have hl := tx_len hf hc
    refine seqA (ifA ⟨.ref a, rfl, ixA hq (atI_nat (j := 0) rfl) ⟨.ref wa, rfl, wa, _, rfl, .inr hw, rfl, ?_, _, rfl, ?_⟩⟩)
    · rw [List.all_eq_true]
      intro v m
      obtain ⟨y, _, rfl⟩ := List.mem_map.mp m
      rfl
    rw [inV_strs]
    refine ite2 (fun g => ?_) (fun g => ?_)
    · have g := of_decide_eq_true g
      have ht : partT (etext n) ws d = ("(" : Str) ++ etext n d ++ (")" : Str) := by
        unfold partT
        rw [hh, if_pos g]
      refine retA ⟨.ref a, rfl, .ref a, d, rfl, hx, hok, hf, hc, fun H1 s1 => ⟨_, _, rfl, rfl, zl ?_, _, ")", rfl, rfl, zl ?_, ?_⟩⟩
      · show 1 + _ ≤ _
        omega
      · rw [slen]
        show 1 + _ + 1 ≤ _
        omega
      · have z0 := q H1 s1
        rw [ht] at z0
        exact z0
    · have g := of_decide_eq_false (Bool.eq_false_iff.mpr g)
      have ht : partT (etext n) ws d = etext n d := by
        unfold partT
        rw [hh, if_neg g]
      refine nextA ⟨.ref a, rfl, .ref a, d, rfl, hx, hok, hf, hc, fun H1 s1 => ?_⟩
      have z0 := q H1 s1
      rw [ht] at z0
      exact z0
theorem sc_field_text : FnScope ["expression", "_", "part", "class_name", "field"] ["expression"] (defScope s_field_text) := ⟨rfl, rfl, rfl, by decide +kernel, rfl, by decide +kernel, by decide +kernel⟩
theorem ok_field_text {f : Addr} {fd : FuncData} (F : Fun K "field_text" "field_text" s_field_text f fd) {f_part_text : Addr} {d_part_text : FuncData} (h_part_text : Hd K mg "part_text" s_part_text ["part", "words"] f_part_text d_part_text) (G_part_text : FnOk P w K mg base CX0 (k) f_part_text d_part_text ["part", "words"] (spPart K n)) {a_PRODUCTS : Addr} {u_PRODUCTS : Value} (h_PRODUCTS : Cst K mg "PRODUCTS" (.ref a_PRODUCTS) u_PRODUCTS) (t_PRODUCTS : ∀ H : Hp, SqT K H a_PRODUCTS (productsW.map V.str)) : FnOk P w K mg base CX0 (k + 1) f fd ["expression"] (spHd K n ["field"]) := by
  refine F.ok sc_field_text (fun vs H Q E h => ?_) (fun cdv A outer s H vs Q E hr h => ?_)
  · obtain ⟨_, _, _, _, rfl, _⟩ := h
    rfl
  · obtain ⟨x, d, z, r, rfl, e, hz, hx, hok, hf, hc, q⟩ := h
    refine ⟨_, (pss_cons (ps_asg (pv 0) (pg_seq (n := 4) (by rfl) (pgs_cons (pg_name (i := 1) sc_field_text.nd rfl (.inl rfl)) (pgs_cons (pg_name (i := 2) sc_field_text.nd rfl (.inl rfl)) (pgs_cons (pg_name (i := 3) sc_field_text.nd rfl (.inl rfl)) (pgs_cons (pg_name (i := 4) sc_field_text.nd rfl (.inl rfl)) pgs_nil))))))
  (pss_one (ps_ret (pe_op op_add_str (pe_op op_add_str (pe_op op_add_str (pe_op op_add_str (pe_op op_add_str (pe_call G_part_text (hr.mono (by show _ ≤ _; omega)) (by rfl) h_part_text.g h_part_text.F.kp h_part_text.b .nil pass0 (pa_cons (pv 2) (pa_cons (pe_glob (v := .ref a_PRODUCTS) rfl h_PRODUCTS.g h_PRODUCTS.r) pa_nil))) pe_str) (pv 3)) pe_str) (pv 4)) pe_str)))), ?_⟩
    have zl : ∀ {x : Nat}, x ≤ 200000 → x ≤ sizeLine := fun h => Nat.le_trans h (by decide)
    obtain rfl : z = "field" := List.mem_singleton.mp hz
    obtain ⟨a, xr, rfl, hq, hd⟩ := hd_of hx e
    obtain ⟨hform, hparts⟩ := parts_fm hf hc
    have hi : ∀ y, y ∈ items d → Ok y := fun y m => ok_mem hok m
    cases fm_of hform with
    | field da w v e2 hw hv p =>
      rw [e2] at e hi
      have er := (List.cons.inj e).2
      subst er
      rcases hd with _ | ⟨ka, _ | ⟨kw, _ | ⟨kv, _ | _⟩⟩⟩
      cases kw
      cases kv
      have ea := etext_at (n := n) e2
      rw [p] at hparts
      obtain ⟨pa1, pa2⟩ := hparts da (by simp)
      obtain ⟨z, e3, l1⟩ := cname_len hw
      cases e3
      obtain ⟨z, e3, _, l2⟩ := name_len hv
      cases e3
      have l3 := partT_len (etext n) productsW da
      have l4 := tx_len pa1 (Nat.le_succ_of_le pa2)
      refine seqA (asgA ⟨.ref a, rfl, a, _, rfl, hq, rfl, _, _, rfl, _, _, rfl, _, _, rfl, _, _, rfl, rfl, ?_⟩)
      dsimp only
      refine retA ⟨_, rfl, _, da, a_PRODUCTS, productsW, rfl, t_PRODUCTS _, by decide, ka, hi _ (by simp), pa1, Nat.le_succ_of_le pa2, fun H1 s1 => ?_⟩
      have h1 : (partT (etext n) productsW da ++ (".(" : Str)).length = (partT (etext n) productsW da).length + 2 := slen _ _
      have h2 := slen (partT (etext n) productsW da ++ (".(" : Str)) w
      have h3 : (partT (etext n) productsW da ++ (".(" : Str) ++ w ++ ("." : Str)).length = (partT (etext n) productsW da ++ (".(" : Str) ++ w).length + 1 := slen _ _
      have h4 := slen (partT (etext n) productsW da ++ (".(" : Str) ++ w ++ ("." : Str)) v
      refine ⟨_, ".(", rfl, rfl, zl (by show _ + 2 ≤ _; omega), .str w, rfl, _, w, rfl, rfl, zl (by omega), _, ".", rfl, rfl, zl (by show _ + 1 ≤ _; omega), .str v, rfl, _, v, rfl, rfl, zl (by omega), _, ")", rfl, rfl, zl (by show _ + 1 ≤ _; omega), ?_⟩
      have z0 := q H1 s1
      rw [ea] at z0
      exact z0
    | int i e2 => rw [e2] at e; cases e
    | name w e2 => rw [e2] at e; cases e
    | next e2 => rw [e2] at e; cases e
    | new w b e2 => rw [e2] at e; cases e
    | call w b e2 => rw [e2] at e; cases e
    | sign z hz a b e2 => rw [e2] at e; rcases hz with rfl | rfl | rfl <;> cases e
    | ife a b c e2 => rw [e2] at e; cases e
    | let_ w b c e2 => rw [e2] at e; cases e
theorem sc_sign_text : FnScope ["expression", "word", "first", "second"] ["expression"] (defScope s_sign_text) := ⟨rfl, rfl, rfl, by decide +kernel, rfl, by decide +kernel, by decide +kernel⟩
theorem ok_sign_text {f : Addr} {fd : FuncData} (F : Fun K "sign_text" "sign_text" s_sign_text f fd) {f_part_text : Addr} {d_part_text : FuncData} (h_part_text : Hd K mg "part_text" s_part_text ["part", "words"] f_part_text d_part_text) (G_part_text : FnOk P w K mg base CX0 (k) f_part_text d_part_text ["part", "words"] (spPart K n)) {a_SUMS : Addr} {u_SUMS : Value} (h_SUMS : Cst K mg "SUMS" (.ref a_SUMS) u_SUMS) (t_SUMS : ∀ H : Hp, SqT K H a_SUMS (sumsW.map V.str)) {a_SIGNS_printing : Addr} {u_SIGNS_printing : Value} (h_SIGNS_printing : Cst K mg "SIGNS_printing" (.ref a_SIGNS_printing) u_SIGNS_printing) (t_SIGNS_printing : Signs K w a_SIGNS_printing) {a_PRODUCTS : Addr} {u_PRODUCTS : Value} (h_PRODUCTS : Cst K mg "PRODUCTS" (.ref a_PRODUCTS) u_PRODUCTS) (t_PRODUCTS : ∀ H : Hp, SqT K H a_PRODUCTS (productsW.map V.str)) {a_CHOICES : Addr} {u_CHOICES : Value} (h_CHOICES : Cst K mg "CHOICES" (.ref a_CHOICES) u_CHOICES) (t_CHOICES : ∀ H : Hp, SqT K H a_CHOICES (choicesW.map V.str)) : FnOk P w K mg base CX0 (k + 1) f fd ["expression"] (spHd K n ["add", "sub", "mul"]) := by
  refine F.ok sc_sign_text (fun vs H Q E h => ?_) (fun cdv A outer s H vs Q E hr h => ?_)
  · obtain ⟨_, _, _, _, rfl, _⟩ := h
    rfl
  · obtain ⟨x, d, z, r, rfl, e, hz, hx, hok, hf, hc, q⟩ := h
    obtain ⟨es, en, DS, tS⟩ := t_SIGNS_printing
    refine ⟨_, (pss_cons (ps_asg (pv 0) (pg_seq (n := 3) (by rfl) (pgs_cons (pg_name (i := 1) sc_sign_text.nd rfl (.inl rfl)) (pgs_cons (pg_name (i := 2) sc_sign_text.nd rfl (.inl rfl)) (pgs_cons (pg_name (i := 3) sc_sign_text.nd rfl (.inl rfl)) pgs_nil)))))
  (pss_cons (ps_if (pt_cmpR op_eq (pv 1) pe_str (nomark _)) (pss_one (ps_ret (pe_op op_add_str (pe_op op_add_str (pe_call G_part_text (hr.mono (by show _ ≤ _; omega)) (by rfl) h_part_text.g h_part_text.F.kp h_part_text.b .nil pass0 (pa_cons (pv 2) (pa_cons (pe_glob (v := .ref a_SUMS) rfl h_SUMS.g h_SUMS.r) pa_nil))) (pe_ix ix_kdict (pe_glob (v := .ref a_SIGNS_printing) rfl h_SIGNS_printing.g h_SIGNS_printing.r) (pv 1) (fun _ _ => rfl))) (pe_call G_part_text (hr.mono (by show _ ≤ _; omega)) (by rfl) h_part_text.g h_part_text.F.kp h_part_text.b .nil pass0 (pa_cons (pv 3) (pa_cons (pe_glob (v := .ref a_PRODUCTS) rfl h_PRODUCTS.g h_PRODUCTS.r) pa_nil)))))) pss_nil)
  (pss_one (ps_ret (pe_op op_add_str (pe_op op_add_str (pe_call G_part_text (hr.mono (by show _ ≤ _; omega)) (by rfl) h_part_text.g h_part_text.F.kp h_part_text.b .nil pass0 (pa_cons (pv 2) (pa_cons (pe_glob (v := .ref a_CHOICES) rfl h_CHOICES.g h_CHOICES.r) pa_nil))) (pe_ix ix_kdict (pe_glob (v := .ref a_SIGNS_printing) rfl h_SIGNS_printing.g h_SIGNS_printing.r) (pv 1) (fun _ _ => rfl))) (pe_call G_part_text (hr.mono (by show _ ≤ _; omega)) (by rfl) h_part_text.g h_part_text.F.kp h_part_text.b .nil pass0 (pa_cons (pv 3) (pa_cons (pe_glob (v := .ref a_SUMS) rfl h_SUMS.g h_SUMS.r) pa_nil)))))))), ?_⟩
    have zl : ∀ {x : Nat}, x ≤ 200000 → x ≤ sizeLine := fun h => Nat.le_trans h (by decide)
    obtain ⟨a, xr, rfl, hq, hd⟩ := hd_of hx e
    obtain ⟨hform, hparts⟩ := parts_fm hf hc
    have hi : ∀ y, y ∈ items d → Ok y := fun y m => ok_mem hok m
    have hz3 : z = "add" ∨ z = "sub" ∨ z = "mul" := by simpa using hz
    cases fm_of hform with
    | sign z2 hz2 da db e2 p =>
      rw [e2] at e hi
      have e3 := (List.cons.inj e).1
      have e3 := PyData.str.inj e3
      subst e3
      have er := (List.cons.inj e).2
      subst er
      rcases hd with _ | ⟨ka, _ | ⟨kb, _ | _⟩⟩
      have ea := etext_at (n := n) e2
      rw [p] at hparts
      obtain ⟨pa1, pa2⟩ := hparts da (by simp)
      obtain ⟨pb1, pb2⟩ := hparts db (by simp)
      have l1 := tx_len pa1 (Nat.le_succ_of_le pa2)
      have l2 := tx_len pb1 (Nat.le_succ_of_le pb2)
      obtain ⟨tk, ht⟩ := (tS z2).1 hz3
      have ls : (signOf z2).length = 3 := by rcases hz3 with rfl | rfl | rfl <;> rfl
      have key : ∀ (w1 w2 : List Str), (partT (etext n) w1 da).length + (signOf z2).length ≤ 200000 ∧ (partT (etext n) w1 da ++ signOf z2).length + (partT (etext n) w2 db).length ≤ 200000 := fun w1 w2 => by
        have a1 := partT_len (etext n) w1 da
        have a2 := partT_len (etext n) w2 db
        rw [slen]
        omega
      refine seqA (asgA ⟨.ref a, rfl, a, _, rfl, hq, rfl, _, _, rfl, _, _, rfl, _, _, rfl, rfl, ?_⟩)
      dsimp only
      refine seqA (ifA (eqz_q rfl (ite2 (fun g => ?_) (fun g => nextA ?_))))
      · have g := of_decide_eq_true g
        subst g
        refine retA ⟨_, rfl, _, da, a_SUMS, sumsW, rfl, t_SUMS _, by decide, ka, hi _ (by simp), pa1, Nat.le_succ_of_le pa2, fun H1 s1 => ?_⟩
        refine ⟨_, rfl, _, _, .str (signOf _), rfl, rfl, ⟨es, en, _, DS.at_, DS.lit, ht, ⟨tk, rfl⟩⟩, _, _, rfl, rfl, zl (key sumsW productsW).1, ?_⟩
        refine ⟨_, rfl, _, db, a_PRODUCTS, productsW, rfl, t_PRODUCTS _, by decide, dp_keep s1 kb, hi _ (by simp), pb1, Nat.le_succ_of_le pb2, fun H2 s2 => ⟨_, _, rfl, rfl, zl (key sumsW productsW).2, ?_⟩⟩
        have z0 := q H2 (s1.trans s2)
        rw [ea] at z0
        exact z0
      · have g := of_decide_eq_false (Bool.eq_false_iff.mpr g)
        dsimp only
        refine retA ⟨_, rfl, _, da, a_CHOICES, choicesW, rfl, t_CHOICES _, by decide, ka, hi _ (by simp), pa1, Nat.le_succ_of_le pa2, fun H1 s1 => ?_⟩
        refine ⟨_, rfl, _, _, .str (signOf _), rfl, rfl, ⟨es, en, _, DS.at_, DS.lit, ht, ⟨tk, rfl⟩⟩, _, _, rfl, rfl, zl (key choicesW sumsW).1, ?_⟩
        refine ⟨_, rfl, _, db, a_SUMS, sumsW, rfl, t_SUMS _, by decide, dp_keep s1 kb, hi _ (by simp), pb1, Nat.le_succ_of_le pb2, fun H2 s2 => ⟨_, _, rfl, rfl, zl (key choicesW sumsW).2, ?_⟩⟩
        have z0 := q H2 (s1.trans s2)
        rw [ea] at z0
        rcases hz3 with rfl | rfl | rfl
        · exact z0
        · exact z0
        · exact absurd rfl g
    | int i e2 => rw [e2] at e; rcases hz3 with rfl | rfl | rfl <;> cases e
    | name w e2 => rw [e2] at e; rcases hz3 with rfl | rfl | rfl <;> cases e
    | next e2 => rw [e2] at e; rcases hz3 with rfl | rfl | rfl <;> cases e
    | new w b e2 => rw [e2] at e; rcases hz3 with rfl | rfl | rfl <;> cases e
    | call w b e2 => rw [e2] at e; rcases hz3 with rfl | rfl | rfl <;> cases e
    | field w b c e2 => rw [e2] at e; rcases hz3 with rfl | rfl | rfl <;> cases e
    | ife a b c e2 => rw [e2] at e; rcases hz3 with rfl | rfl | rfl <;> cases e
    | let_ w b c e2 => rw [e2] at e; rcases hz3 with rfl | rfl | rfl <;> cases e
theorem sc_choice_text : FnScope ["expression", "word", "first", "second", "third", "branches"] ["expression"] (defScope s_choice_text) := ⟨rfl, rfl, rfl, by decide +kernel, rfl, by decide +kernel, by decide +kernel⟩
theorem ok_choice_text {f : Addr} {fd : FuncData} (F : Fun K "choice_text" "choice_text" s_choice_text f fd) {f_expression_text : Addr} {d_expression_text : FuncData} (h_expression_text : Hd K mg "expression_text" s_expression_text ["expression"] f_expression_text d_expression_text) (G_expression_text : FnOk P w K mg base CX0 (k) f_expression_text d_expression_text ["expression"] (spTx K n)) : FnOk P w K mg base CX0 (k + 1) f fd ["expression"] (spHd K n ["if", "let"]) := by
  refine F.ok sc_choice_text (fun vs H Q E h => ?_) (fun cdv A outer s H vs Q E hr h => ?_)
  · obtain ⟨_, _, _, _, rfl, _⟩ := h
    rfl
  · obtain ⟨x, d, z, r, rfl, e, hz, hx, hok, hf, hc, q⟩ := h
    refine ⟨_, (pss_cons (ps_asg (pv 0) (pg_seq (n := 4) (by rfl) (pgs_cons (pg_name (i := 1) sc_choice_text.nd rfl (.inl rfl)) (pgs_cons (pg_name (i := 2) sc_choice_text.nd rfl (.inl rfl)) (pgs_cons (pg_name (i := 3) sc_choice_text.nd rfl (.inl rfl)) (pgs_cons (pg_name (i := 4) sc_choice_text.nd rfl (.inl rfl)) pgs_nil))))))
  (pss_cons (ps_if (pt_cmpR op_eq (pv 1) pe_str (nomark _)) (pss_one (ps_ret (pe_op op_add_str (pe_op op_add_str (pe_op op_add_str (pe_op op_add_str (pe_op op_add_str pe_str (pv 2)) pe_str) (pe_call G_expression_text (hr.mono (by show _ ≤ _; omega)) (by rfl) h_expression_text.g h_expression_text.F.kp h_expression_text.b .nil pass0 (pa_cons (pv 3) pa_nil))) pe_str) (pe_call G_expression_text (hr.mono (by show _ ≤ _; omega)) (by rfl) h_expression_text.g h_expression_text.F.kp h_expression_text.b .nil pass0 (pa_cons (pv 4) pa_nil))))) pss_nil)
  (pss_cons (ps_set (i := 5) sc_choice_text.nd rfl (.inl rfl) (pe_op op_add_str (pe_op op_add_str (pe_op op_add_str pe_str (pe_call G_expression_text (hr.mono (by show _ ≤ _; omega)) (by rfl) h_expression_text.g h_expression_text.F.kp h_expression_text.b .nil pass0 (pa_cons (pv 3) pa_nil))) pe_str) (pe_call G_expression_text (hr.mono (by show _ ≤ _; omega)) (by rfl) h_expression_text.g h_expression_text.F.kp h_expression_text.b .nil pass0 (pa_cons (pv 4) pa_nil))))
  (pss_one (ps_ret (pe_op op_add_str (pe_op op_add_str pe_str (pe_call G_expression_text (hr.mono (by show _ ≤ _; omega)) (by rfl) h_expression_text.g h_expression_text.F.kp h_expression_text.b .nil pass0 (pa_cons (pv 2) pa_nil))) (pv 5))))))), ?_⟩
    have zl : ∀ {x : Nat}, x ≤ 200000 → x ≤ sizeLine := fun h => Nat.le_trans h (by decide)
    obtain ⟨a, xr, rfl, hq, hd⟩ := hd_of hx e
    obtain ⟨hform, hparts⟩ := parts_fm hf hc
    have hi : ∀ y, y ∈ items d → Ok y := fun y m => ok_mem hok m
    have hz3 : z = "if" ∨ z = "let" := by simpa using hz
    cases fm_of hform with
    | ife da db dc e2 p =>
      rw [e2] at e hi
      have er := (List.cons.inj e).2
      have e3 := PyData.str.inj (List.cons.inj e).1
      subst er e3
      rcases hd with _ | ⟨ka, _ | ⟨kb, _ | ⟨kc, _ | _⟩⟩⟩
      have ea := etext_at (n := n) e2
      rw [p] at hparts
      obtain ⟨pa1, pa2⟩ := hparts da (by simp)
      obtain ⟨pb1, pb2⟩ := hparts db (by simp)
      obtain ⟨pc1, pc2⟩ := hparts dc (by simp)
      have l1 := tx_len pa1 (Nat.le_succ_of_le pa2)
      have l2 := tx_len pb1 (Nat.le_succ_of_le pb2)
      have l3 := tx_len pc1 (Nat.le_succ_of_le pc2)
      refine seqA (asgA ⟨.ref a, rfl, a, _, rfl, hq, rfl, _, _, rfl, _, _, rfl, _, _, rfl, _, _, rfl, rfl, ?_⟩)
      dsimp only
      refine seqA (ifA (eqz_q rfl (ite2 (fun g => absurd g (by decide)) (fun g => nextA ?_))))
      dsimp only
      have h1 : ((" then " : Str) ++ etext n db).length = 6 + (etext n db).length := slen _ _
      have h2 : ((" then " : Str) ++ etext n db ++ (" else " : Str)).length = ((" then " : Str) ++ etext n db).length + 6 := slen _ _
      have h3 := slen ((" then " : Str) ++ etext n db ++ (" else " : Str)) (etext n dc)
      have h4 : (("if " : Str) ++ etext n da).length = 3 + (etext n da).length := slen _ _
      refine seqA (asgA ⟨_, rfl, _, db, rfl, kb, hi _ (by simp), pb1, Nat.le_succ_of_le pb2, fun H1 s1 => ⟨_, _, rfl, rfl, zl (by show 6 + _ ≤ _; omega), _, " else ", rfl, rfl, zl (by show _ + 6 ≤ _; omega), _, rfl, _, dc, rfl, dp_keep s1 kc, hi _ (by simp), pc1, Nat.le_succ_of_le pc2, fun H2 s2 => ⟨_, _, rfl, rfl, zl (by omega), nameA ?_⟩⟩⟩)
      dsimp only
      refine retA ⟨_, rfl, _, da, rfl, dp_keep (s1.trans s2) ka, hi _ (by simp), pa1, Nat.le_succ_of_le pa2, fun H3 s3 => ⟨_, _, rfl, rfl, zl (by show 3 + _ ≤ _; omega), .str _, rfl, _, _, rfl, rfl, zl (by omega), ?_⟩⟩
      have z0 := q H3 ((s1.trans s2).trans s3)
      rw [ea] at z0
      exact z0
    | let_ w db dc e2 hw p =>
      rw [e2] at e hi
      have er := (List.cons.inj e).2
      have e3 := PyData.str.inj (List.cons.inj e).1
      subst er e3
      rcases hd with _ | ⟨ka, _ | ⟨kb, _ | ⟨kc, _ | _⟩⟩⟩
      cases ka
      have ea := etext_at (n := n) e2
      rw [p] at hparts
      obtain ⟨pb1, pb2⟩ := hparts db (by simp)
      obtain ⟨pc1, pc2⟩ := hparts dc (by simp)
      have l2 := tx_len pb1 (Nat.le_succ_of_le pb2)
      have l3 := tx_len pc1 (Nat.le_succ_of_le pc2)
      obtain ⟨z, e3, _, l1⟩ := name_len hw
      cases e3
      refine seqA (asgA ⟨.ref a, rfl, a, _, rfl, hq, rfl, _, _, rfl, _, _, rfl, _, _, rfl, _, _, rfl, rfl, ?_⟩)
      dsimp only
      refine seqA (ifA (eqz_q rfl (ite2 (fun g => retA ?_) (fun g => absurd (by decide) g))))
      have h1 : (("let " : Str) ++ w).length = 4 + w.length := slen _ _
      have h2 : (("let " : Str) ++ w ++ (" = " : Str)).length = (("let " : Str) ++ w).length + 3 := slen _ _
      have h3 := slen (("let " : Str) ++ w ++ (" = " : Str)) (etext n db)
      have h4 : (("let " : Str) ++ w ++ (" = " : Str) ++ etext n db ++ (" in " : Str)).length = (("let " : Str) ++ w ++ (" = " : Str) ++ etext n db).length + 4 := slen _ _
      refine ⟨.str w, rfl, _, _, rfl, rfl, zl (by show 4 + _ ≤ _; omega), _, " = ", rfl, rfl, zl (by show _ + 3 ≤ _; omega), _, rfl, _, db, rfl, kb, hi _ (by simp), pb1, Nat.le_succ_of_le pb2, fun H1 s1 => ⟨_, _, rfl, rfl, zl (by omega), _, " in ", rfl, rfl, zl (by show _ + 4 ≤ _; omega), _, rfl, _, dc, rfl, dp_keep s1 kc, hi _ (by simp), pc1, Nat.le_succ_of_le pc2, fun H2 s2 => ⟨_, _, rfl, rfl, zl (by omega), ?_⟩⟩⟩
      have z0 := q H2 (s1.trans s2)
      rw [ea] at z0
      exact z0
    | int i e2 => rw [e2] at e; rcases hz3 with rfl | rfl <;> cases e
    | name w e2 => rw [e2] at e; rcases hz3 with rfl | rfl <;> cases e
    | next e2 => rw [e2] at e; rcases hz3 with rfl | rfl <;> cases e
    | new w b e2 => rw [e2] at e; rcases hz3 with rfl | rfl <;> cases e
    | call w b e2 => rw [e2] at e; rcases hz3 with rfl | rfl <;> cases e
    | field w b c e2 => rw [e2] at e; rcases hz3 with rfl | rfl <;> cases e
    | sign z2 hz2 b c e2 => rw [e2] at e; rcases hz3 with rfl | rfl <;> rcases hz2 with rfl | rfl | rfl <;> cases e
end
end Cw

set_option Elab.async false
set_option linter.all false
set_option maxRecDepth 100000
set_option maxHeartbeats 4000000
namespace Cw
open PySem PySem.Spec PyProof.Rows L2
section
variable {P : Program} {w : World} {K : PySem.W.Frag} {mg : Str → Option Value} {base : Heap} {S : Addr → Option Sp}
theorem sc_expression_text : FnScope ["expression", "word"] ["expression"] (defScope s_expression_text) := ⟨rfl, rfl, rfl, by decide +kernel, rfl, by decide +kernel, by decide +kernel⟩
theorem ok_expression_text {f_expression_text : Addr} {d_expression_text : FuncData} (h_expression_text : Hd K mg "expression_text" s_expression_text ["expression"] f_expression_text d_expression_text) {f_arguments_text : Addr} {d_arguments_text : FuncData} (h_arguments_text : Hd K mg "arguments_text" s_arguments_text ["arguments"] f_arguments_text d_arguments_text) {f_part_text : Addr} {d_part_text : FuncData} (h_part_text : Hd K mg "part_text" s_part_text ["part", "words"] f_part_text d_part_text) {f_field_text : Addr} {d_field_text : FuncData} (h_field_text : Hd K mg "field_text" s_field_text ["expression"] f_field_text d_field_text) {f_sign_text : Addr} {d_sign_text : FuncData} (h_sign_text : Hd K mg "sign_text" s_sign_text ["expression"] f_sign_text d_sign_text) {f_choice_text : Addr} {d_choice_text : FuncData} (h_choice_text : Hd K mg "choice_text" s_choice_text ["expression"] f_choice_text d_choice_text) {a_CHOICES : Addr} {u_CHOICES : Value} (h_CHOICES : Cst K mg "CHOICES" (.ref a_CHOICES) u_CHOICES) (t_CHOICES : ∀ H : Hp, SqT K H a_CHOICES (choicesW.map V.str)) {a_SUMS : Addr} {u_SUMS : Value} (h_SUMS : Cst K mg "SUMS" (.ref a_SUMS) u_SUMS) (t_SUMS : ∀ H : Hp, SqT K H a_SUMS (sumsW.map V.str)) {a_PRODUCTS : Addr} {u_PRODUCTS : Value} (h_PRODUCTS : Cst K mg "PRODUCTS" (.ref a_PRODUCTS) u_PRODUCTS) (t_PRODUCTS : ∀ H : Hp, SqT K H a_PRODUCTS (productsW.map V.str)) {a_SIGNS_printing : Addr} {u_SIGNS_printing : Value} (h_SIGNS_printing : Cst K mg "SIGNS_printing" (.ref a_SIGNS_printing) u_SIGNS_printing) (t_SIGNS_printing : Signs K w a_SIGNS_printing) (m_str : mg "str" = none) : ∀ n, FnOk P w K mg base CX0 (3 * n + 1) f_expression_text d_expression_text ["expression"] (spTx K n)
  | 0 => ⟨fun _ _ _ _ h => (by obtain ⟨_, d, _, _, _, h, _⟩ := h; cases h), fun _ _ _ _ _ _ _ _ _ _ _ _ _ h => (by obtain ⟨_, d, _, _, _, h, _⟩ := h; cases h)⟩
  | n + 1 => by
    have G0 := ok_expression_text h_expression_text h_arguments_text h_part_text h_field_text h_sign_text h_choice_text h_CHOICES t_CHOICES h_SUMS t_SUMS h_PRODUCTS t_PRODUCTS h_SIGNS_printing t_SIGNS_printing m_str n
    have G_arguments_text := ok_arguments_text h_arguments_text.F h_expression_text G0
    have G_part_text := ok_part_text h_part_text.F h_expression_text G0
    have G_field_text := ok_field_text h_field_text.F h_part_text G_part_text h_PRODUCTS t_PRODUCTS
    have G_sign_text := ok_sign_text h_sign_text.F h_part_text G_part_text h_SUMS t_SUMS h_SIGNS_printing t_SIGNS_printing h_PRODUCTS t_PRODUCTS h_CHOICES t_CHOICES
    have G_choice_text := ok_choice_text h_choice_text.F h_expression_text G0
    refine h_expression_text.F.ok sc_expression_text (fun vs H Q E h => ?_) (fun cdv A outer s H vs Q E hr h => ?_)
    · obtain ⟨_, _, rfl, _⟩ := h
      rfl
    · obtain ⟨x, d, rfl, hx, hok, hf, hc, q⟩ := h
      obtain ⟨es, en, DS, tS⟩ := t_SIGNS_printing
      refine ⟨_, (pss_cons (ps_set (i := 1) sc_expression_text.nd rfl (.inl rfl) (pe_ix ix_seq (pv 0) pe_int (fun _ _ => rfl)))
  (pss_cons (ps_if (pt_cmpR op_eq (pv 1) pe_str (nomark _)) (pss_one (ps_ret (pe_callTy call_str_int (by rfl) m_str (by decide +kernel) (pa_cons (pe_ix ix_seq (pv 0) pe_int (fun _ _ => rfl)) pa_nil)))) pss_nil)
  (pss_cons (ps_if (pt_cmpR op_eq (pv 1) pe_str (nomark _)) (pss_one (ps_ret (pe_ix ix_seq (pv 0) pe_int (fun _ _ => rfl)))) pss_nil)
  (pss_cons (ps_if (pt_cmpR op_eq (pv 1) pe_str (nomark _)) (pss_one (ps_ret pe_str)) pss_nil)
  (pss_cons (ps_if (pt_cmpR op_eq (pv 1) pe_str (nomark _)) (pss_one (ps_ret (pe_op op_add_str (pe_op op_add_str pe_str (pe_ix ix_seq (pv 0) pe_int (fun _ _ => rfl))) (pe_call G_arguments_text (hr.mono (by show _ ≤ _; omega)) (by rfl) h_arguments_text.g h_arguments_text.F.kp h_arguments_text.b .nil pass0 (pa_cons (pe_ix ix_seq (pv 0) pe_int (fun _ _ => rfl)) pa_nil))))) pss_nil)
  (pss_cons (ps_if (pt_cmpR op_eq (pv 1) pe_str (nomark _)) (pss_one (ps_ret (pe_op op_add_str (pe_ix ix_seq (pv 0) pe_int (fun _ _ => rfl)) (pe_call G_arguments_text (hr.mono (by show _ ≤ _; omega)) (by rfl) h_arguments_text.g h_arguments_text.F.kp h_arguments_text.b .nil pass0 (pa_cons (pe_ix ix_seq (pv 0) pe_int (fun _ _ => rfl)) pa_nil))))) pss_nil)
  (pss_cons (ps_if (pt_cmpR op_eq (pv 1) pe_str (nomark _)) (pss_one (ps_ret (pe_call G_field_text (hr.mono (by show _ ≤ _; omega)) (by rfl) h_field_text.g h_field_text.F.kp h_field_text.b .nil pass0 (pa_cons (pv 0) pa_nil)))) pss_nil)
  (pss_cons (ps_if (pt_cmpR (op_in_kd DS) (pv 1) (pe_glob (v := .ref a_SIGNS_printing) rfl h_SIGNS_printing.g h_SIGNS_printing.r) (by rfl)) (pss_one (ps_ret (pe_call G_sign_text (hr.mono (by show _ ≤ _; omega)) (by rfl) h_sign_text.g h_sign_text.F.kp h_sign_text.b .nil pass0 (pa_cons (pv 0) pa_nil)))) pss_nil)
  (pss_one (ps_ret (pe_call G_choice_text (hr.mono (by show _ ≤ _; omega)) (by rfl) h_choice_text.g h_choice_text.F.kp h_choice_text.b .nil pass0 (pa_cons (pv 0) pa_nil)))))))))))), ?_⟩
      have zl : ∀ {x : Nat}, x ≤ 200000 → x ≤ sizeLine := fun h => Nat.le_trans h (by decide)
      obtain ⟨hform, hparts⟩ := parts_fm hf hc
      obtain ⟨z0, r0, e0, _⟩ := (fm_of hform).head
      obtain ⟨a, xr, rfl, hq, hd⟩ := hd_of hx e0
      have hi : ∀ y, y ∈ items d → Ok y := fun y m => ok_mem hok m
      refine seqA (asgA ⟨.ref a, rfl, ixA hq (atI_nat (j := 0) rfl) (nameA ?_)⟩)
      dsimp only
      cases fm_of hform with
      | int i e2 i0 i1 p =>
        rw [e2] at e0 hi
        have er := (List.cons.inj e0).2
        have e3 := PyData.str.inj (List.cons.inj e0).1
        subst er e3
        rcases hd with _ | ⟨ka, _ | _⟩
        cases ka
        (refine seqA (ifA (eqz_q rfl (ite2 (fun g => retA ?_) (fun g => absurd (by decide) g)))))
        refine ⟨.ref a, rfl, ixA hq (atI_nat (j := 1) rfl) ⟨i, rfl, ?_, ?_⟩⟩
        · by_cases g : i.natAbs = 0
          · rw [g]; decide
          · exact (Nat.log2_lt g).mpr (Nat.lt_of_lt_of_le (by omega : i.natAbs < 2 ^ 16) (Nat.pow_le_pow_right (by decide) (by decide)))
        · have z0 := q H (Same.refl H)
          rw [etext_at e2] at z0
          exact z0
      | name w e2 hw p =>
        rw [e2] at e0 hi
        have er := (List.cons.inj e0).2
        have e3 := PyData.str.inj (List.cons.inj e0).1
        subst er e3
        rcases hd with _ | ⟨ka, _ | _⟩
        cases ka
        (refine seqA (ifA (eqz_q rfl (ite2 (fun g => absurd g (by decide)) (fun g => nextA ?_)))); dsimp only)
        (refine seqA (ifA (eqz_q rfl (ite2 (fun g => retA ?_) (fun g => absurd (by decide) g)))))
        refine ⟨.ref a, rfl, ixA hq (atI_nat (j := 1) rfl) ?_⟩
        have z0 := q H (Same.refl H)
        rw [etext_at e2] at z0
        exact z0
      | next e2 p =>
        rw [e2] at e0 hi
        have er := (List.cons.inj e0).2
        have e3 := PyData.str.inj (List.cons.inj e0).1
        subst er e3
        (refine seqA (ifA (eqz_q rfl (ite2 (fun g => absurd g (by decide)) (fun g => nextA ?_)))); dsimp only)
        (refine seqA (ifA (eqz_q rfl (ite2 (fun g => absurd g (by decide)) (fun g => nextA ?_)))); dsimp only)
        (refine seqA (ifA (eqz_q rfl (ite2 (fun g => retA ?_) (fun g => absurd (by decide) g)))))
        have z0 := q H (Same.refl H)
        rw [etext_at e2] at z0
        exact z0
      | new w b e2 hw hb p =>
        rw [e2] at e0 hi
        have er := (List.cons.inj e0).2
        have e3 := PyData.str.inj (List.cons.inj e0).1
        subst er e3
        rcases hd with _ | ⟨ka, _ | ⟨kb, _ | _⟩⟩
        cases ka
        rw [p] at hparts
        obtain ⟨z, e3, l1⟩ := cname_len hw
        cases e3
        (refine seqA (ifA (eqz_q rfl (ite2 (fun g => absurd g (by decide)) (fun g => nextA ?_)))); dsimp only)
        (refine seqA (ifA (eqz_q rfl (ite2 (fun g => absurd g (by decide)) (fun g => nextA ?_)))); dsimp only)
        (refine seqA (ifA (eqz_q rfl (ite2 (fun g => absurd g (by decide)) (fun g => nextA ?_)))); dsimp only)
        (refine seqA (ifA (eqz_q rfl (ite2 (fun g => retA ?_) (fun g => absurd (by decide) g)))))
        have hb2 : ∀ e, e ∈ items b → formN n e = true ∧ ecnt n e ≤ 60 := fun e m => ⟨(hparts e m).1, Nat.le_succ_of_le (hparts e m).2⟩
        have la := argsT_len (f := etext n) (g := fun _ => 60) (seq_lenM hb) fun e m => tx_len (hb2 e m).1 (hb2 e m).2
        have lb : (items b).length ≤ 12 := seq_lenM hb
        have lc : ((items b).map fun _ => 60).sum ≤ 720 := by
          have : ∀ l : List PyData, (l.map fun _ => 60).sum = 60 * l.length := by
            intro l
            induction l with
            | nil => rfl
            | cons x l ih => rw [List.map_cons, List.sum_cons, ih, List.length_cons]; omega
          rw [this]
          omega
        have h1 : (("new " : Str) ++ w).length = 4 + w.length := slen _ _
        refine ⟨.ref a, rfl, ixA hq (atI_nat (j := 1) rfl) ⟨_, _, rfl, rfl, zl (by show 4 + _ ≤ _; omega), .ref a, rfl, ixA hq (atI_nat (j := 2) rfl) ⟨_, b, rfl, kb, hi _ (by simp), hb, hb2, fun H1 s1 => ⟨_, _, rfl, rfl, zl (by omega), ?_⟩⟩⟩⟩
        have z0 := q H1 s1
        rw [etext_at e2] at z0
        exact z0
      | call w b e2 hw hb p =>
        rw [e2] at e0 hi
        have er := (List.cons.inj e0).2
        have e3 := PyData.str.inj (List.cons.inj e0).1
        subst er e3
        rcases hd with _ | ⟨ka, _ | ⟨kb, _ | _⟩⟩
        cases ka
        rw [p] at hparts
        obtain ⟨z, e3, l1⟩ := gname_len hw
        cases e3
        (refine seqA (ifA (eqz_q rfl (ite2 (fun g => absurd g (by decide)) (fun g => nextA ?_)))); dsimp only)
        (refine seqA (ifA (eqz_q rfl (ite2 (fun g => absurd g (by decide)) (fun g => nextA ?_)))); dsimp only)
        (refine seqA (ifA (eqz_q rfl (ite2 (fun g => absurd g (by decide)) (fun g => nextA ?_)))); dsimp only)
        (refine seqA (ifA (eqz_q rfl (ite2 (fun g => absurd g (by decide)) (fun g => nextA ?_)))); dsimp only)
        (refine seqA (ifA (eqz_q rfl (ite2 (fun g => retA ?_) (fun g => absurd (by decide) g)))))
        have hb2 : ∀ e, e ∈ items b → formN n e = true ∧ ecnt n e ≤ 60 := fun e m => ⟨(hparts e m).1, Nat.le_succ_of_le (hparts e m).2⟩
        have hb12 : isSeq 0 12 b = true := seq_le hb (by decide) (by decide)
        have la := argsT_len (f := etext n) (g := fun _ => 60) (seq_lenM hb12) fun e m => tx_len (hb2 e m).1 (hb2 e m).2
        have lb : (items b).length ≤ 12 := seq_lenM hb12
        have lc : ((items b).map fun _ => 60).sum ≤ 720 := by
          have : ∀ l : List PyData, (l.map fun _ => 60).sum = 60 * l.length := by
            intro l
            induction l with
            | nil => rfl
            | cons x l ih => rw [List.map_cons, List.sum_cons, ih, List.length_cons]; omega
          rw [this]
          omega
        refine ⟨.ref a, rfl, ixA hq (atI_nat (j := 1) rfl) ⟨.ref a, rfl, ixA hq (atI_nat (j := 2) rfl) ⟨_, b, rfl, kb, hi _ (by simp), hb12, hb2, fun H1 s1 => ⟨_, _, rfl, rfl, zl (by omega), ?_⟩⟩⟩⟩
        have z0 := q H1 s1
        rw [etext_at e2] at z0
        exact z0
      | field da w v e2 hw hv p =>
        have e3 := PyData.str.inj (List.cons.inj (e2.symm.trans e0)).1
        subst e3
        (refine seqA (ifA (eqz_q rfl (ite2 (fun g => absurd g (by decide)) (fun g => nextA ?_)))); dsimp only)
        (refine seqA (ifA (eqz_q rfl (ite2 (fun g => absurd g (by decide)) (fun g => nextA ?_)))); dsimp only)
        (refine seqA (ifA (eqz_q rfl (ite2 (fun g => absurd g (by decide)) (fun g => nextA ?_)))); dsimp only)
        (refine seqA (ifA (eqz_q rfl (ite2 (fun g => absurd g (by decide)) (fun g => nextA ?_)))); dsimp only)
        (refine seqA (ifA (eqz_q rfl (ite2 (fun g => absurd g (by decide)) (fun g => nextA ?_)))); dsimp only)
        (refine seqA (ifA (eqz_q rfl (ite2 (fun g => retA ?_) (fun g => absurd (by decide) g)))))
        exact ⟨.ref a, rfl, .ref a, d, _, r0, rfl, e0, by simp, hx, hok, hf, hc, q⟩
      | sign z hz da db e2 p =>
        have e3 := PyData.str.inj (List.cons.inj (e2.symm.trans e0)).1
        subst e3
        obtain ⟨tk, ht⟩ := (tS z).1 hz
        have fin : ∀ H1, Same H H1 → tCall (spHd K n ["add", "sub", "mul"]) [] E0 (tCons (tVar 0) tNil) ([some (.ref a), some (.str z)]) H1 Q := fun H1 s1 => ⟨.ref a, rfl, .ref a, d, z, r0, rfl, e0, by simpa using hz, dp_keep s1 hx, hok, hf, hc, fun H' s' => q H' (s1.trans s')⟩
        rcases hz with rfl | rfl | rfl
        · (refine seqA (ifA (eqz_q rfl (ite2 (fun g => absurd g (by decide)) (fun g => nextA ?_)))); dsimp only)
          (refine seqA (ifA (eqz_q rfl (ite2 (fun g => absurd g (by decide)) (fun g => nextA ?_)))); dsimp only)
          (refine seqA (ifA (eqz_q rfl (ite2 (fun g => absurd g (by decide)) (fun g => nextA ?_)))); dsimp only)
          (refine seqA (ifA (eqz_q rfl (ite2 (fun g => absurd g (by decide)) (fun g => nextA ?_)))); dsimp only)
          (refine seqA (ifA (eqz_q rfl (ite2 (fun g => absurd g (by decide)) (fun g => nextA ?_)))); dsimp only)
          (refine seqA (ifA (eqz_q rfl (ite2 (fun g => absurd g (by decide)) (fun g => nextA ?_)))); dsimp only)
          exact seqA (ifA ⟨_, rfl, _, some _, rfl, rfl, ht, _, rfl, iteT (retA (fin H (Same.refl H)))⟩)
        · (refine seqA (ifA (eqz_q rfl (ite2 (fun g => absurd g (by decide)) (fun g => nextA ?_)))); dsimp only)
          (refine seqA (ifA (eqz_q rfl (ite2 (fun g => absurd g (by decide)) (fun g => nextA ?_)))); dsimp only)
          (refine seqA (ifA (eqz_q rfl (ite2 (fun g => absurd g (by decide)) (fun g => nextA ?_)))); dsimp only)
          (refine seqA (ifA (eqz_q rfl (ite2 (fun g => absurd g (by decide)) (fun g => nextA ?_)))); dsimp only)
          (refine seqA (ifA (eqz_q rfl (ite2 (fun g => absurd g (by decide)) (fun g => nextA ?_)))); dsimp only)
          (refine seqA (ifA (eqz_q rfl (ite2 (fun g => absurd g (by decide)) (fun g => nextA ?_)))); dsimp only)
          exact seqA (ifA ⟨_, rfl, _, some _, rfl, rfl, ht, _, rfl, iteT (retA (fin H (Same.refl H)))⟩)
        · (refine seqA (ifA (eqz_q rfl (ite2 (fun g => absurd g (by decide)) (fun g => nextA ?_)))); dsimp only)
          (refine seqA (ifA (eqz_q rfl (ite2 (fun g => absurd g (by decide)) (fun g => nextA ?_)))); dsimp only)
          (refine seqA (ifA (eqz_q rfl (ite2 (fun g => absurd g (by decide)) (fun g => nextA ?_)))); dsimp only)
          (refine seqA (ifA (eqz_q rfl (ite2 (fun g => absurd g (by decide)) (fun g => nextA ?_)))); dsimp only)
          (refine seqA (ifA (eqz_q rfl (ite2 (fun g => absurd g (by decide)) (fun g => nextA ?_)))); dsimp only)
          (refine seqA (ifA (eqz_q rfl (ite2 (fun g => absurd g (by decide)) (fun g => nextA ?_)))); dsimp only)
          exact seqA (ifA ⟨_, rfl, _, some _, rfl, rfl, ht, _, rfl, iteT (retA (fin H (Same.refl H)))⟩)
      | ife da db dc e2 p =>
        have e3 := PyData.str.inj (List.cons.inj (e2.symm.trans e0)).1
        subst e3
        have ht := (tS "if").2 (by decide)
        (refine seqA (ifA (eqz_q rfl (ite2 (fun g => absurd g (by decide)) (fun g => nextA ?_)))); dsimp only)
        (refine seqA (ifA (eqz_q rfl (ite2 (fun g => absurd g (by decide)) (fun g => nextA ?_)))); dsimp only)
        (refine seqA (ifA (eqz_q rfl (ite2 (fun g => absurd g (by decide)) (fun g => nextA ?_)))); dsimp only)
        (refine seqA (ifA (eqz_q rfl (ite2 (fun g => absurd g (by decide)) (fun g => nextA ?_)))); dsimp only)
        (refine seqA (ifA (eqz_q rfl (ite2 (fun g => absurd g (by decide)) (fun g => nextA ?_)))); dsimp only)
        (refine seqA (ifA (eqz_q rfl (ite2 (fun g => absurd g (by decide)) (fun g => nextA ?_)))); dsimp only)
        refine seqA (ifA ⟨_, rfl, _, none, rfl, rfl, ht, _, rfl, iteF (nextA ?_)⟩)
        dsimp only
        exact retA ⟨.ref a, rfl, .ref a, d, _, r0, rfl, e0, by simp, hx, hok, hf, hc, q⟩
      | let_ w db dc e2 hw p =>
        have e3 := PyData.str.inj (List.cons.inj (e2.symm.trans e0)).1
        subst e3
        have ht := (tS "let").2 (by decide)
        (refine seqA (ifA (eqz_q rfl (ite2 (fun g => absurd g (by decide)) (fun g => nextA ?_)))); dsimp only)
        (refine seqA (ifA (eqz_q rfl (ite2 (fun g => absurd g (by decide)) (fun g => nextA ?_)))); dsimp only)
        (refine seqA (ifA (eqz_q rfl (ite2 (fun g => absurd g (by decide)) (fun g => nextA ?_)))); dsimp only)
        (refine seqA (ifA (eqz_q rfl (ite2 (fun g => absurd g (by decide)) (fun g => nextA ?_)))); dsimp only)
        (refine seqA (ifA (eqz_q rfl (ite2 (fun g => absurd g (by decide)) (fun g => nextA ?_)))); dsimp only)
        (refine seqA (ifA (eqz_q rfl (ite2 (fun g => absurd g (by decide)) (fun g => nextA ?_)))); dsimp only)
        refine seqA (ifA ⟨_, rfl, _, none, rfl, rfl, ht, _, rfl, iteF (nextA ?_)⟩)
        dsimp only
        exact retA ⟨.ref a, rfl, .ref a, d, _, r0, rfl, e0, by simp, hx, hok, hf, hc, q⟩
end
end Cw

set_option Elab.async false
set_option linter.all false
set_option maxRecDepth 100000
set_option maxHeartbeats 4000000
namespace Cw
open PySem PySem.Spec PyProof.Rows L2
def lrank (d : PyData) : Int := if headW d = "if" ∨ headW d = "let" then 0 else if headW d = "add" ∨ headW d = "sub" then 1 else if headW d = "mul" then 2 else 3
def rankT (n : Nat) (r : Int) (d : PyData) : Str := if lrank d < r then ("(" : Str) ++ etext n d ++ (")" : Str) else etext n d
theorem part_rank {n : Nat} {d : PyData} {ws : List Str} {r : Int} (h : headW d ∈ ws ↔ lrank d < r) : partT (etext n) ws d = rankT n r d := by
  unfold partT rankT
  by_cases g : headW d ∈ ws
  · rw [if_pos g, if_pos (h.mp g)]
  · rw [if_neg g, if_neg (fun k => g (h.mpr k))]
theorem prod_rank {d : PyData} : headW d ∈ productsW ↔ lrank d < 3 := by
  unfold lrank productsW
  simp only [List.mem_cons, List.not_mem_nil, or_false]
  by_cases a : headW d = "if"
  · simp [a]
  by_cases b : headW d = "let"
  · simp [b]
  by_cases c : headW d = "add"
  · simp [c]
    split <;> omega
  by_cases e : headW d = "sub"
  · simp [e]
    split <;> omega
  by_cases f : headW d = "mul"
  · simp [f]
    split
    · omega
    · split <;> omega
  simp [a, b, c, e, f]
theorem sums_rank {d : PyData} : headW d ∈ sumsW ↔ lrank d < 2 := by
  unfold lrank sumsW
  simp only [List.mem_cons, List.not_mem_nil, or_false]
  by_cases a : headW d = "if"
  · simp [a]
  by_cases b : headW d = "let"
  · simp [b]
  by_cases c : headW d = "add"
  · simp [c]
    split <;> omega
  by_cases e : headW d = "sub"
  · simp [e]
    split <;> omega
  by_cases f : headW d = "mul"
  · rw [if_neg (by simp [a, b]), if_neg (by simp [c, e]), if_pos f]
    simp [a, b, c, e]
  rw [if_neg (by simp [a, b]), if_neg (by simp [c, e]), if_neg f]
  simp [a, b, c, e]
theorem choi_rank {d : PyData} : headW d ∈ choicesW ↔ lrank d < 1 := by
  unfold lrank choicesW
  simp only [List.mem_cons, List.not_mem_nil, or_false]
  by_cases a : headW d = "if"
  · simp [a]
  by_cases b : headW d = "let"
  · simp [b]
  rw [if_neg (by simp [a, b])]
  simp only [a, b, or_self, false_iff]
  split
  · omega
  · split <;> omega
theorem lrank_nn (d : PyData) : 0 ≤ lrank d := by
  unfold lrank
  split
  · omega
  split
  · omega
  split <;> omega
theorem rank0 {n : Nat} {d : PyData} : rankT n 0 d = etext n d := by
  unfold rankT
  have := lrank_nn d
  rw [if_neg (by omega)]
def rankKv : List (Key × V) := [(.inr "add", .int 1), (.inr "sub", .int 1), (.inr "mul", .int 2)]
theorem rank_merge : mergeK [] rankKv = rankKv := by decide
def spRank (K : PySem.W.Frag) : Sp := fun vs H Q _ => ∃ x z r, vs = [x] ∧ Dp K H x (.tuple (.str z :: r)) ∧ ∀ H', Same H H' → Q (.int (lrank (.tuple (.str z :: r)))) H'
section
variable {n k : Nat} {P : Program} {w : World} {K : PySem.W.Frag} {mg : Str → Option Value} {base : Heap} {S : Addr → Option Sp}
abbrev s__law_rank : Stmt := topS 93
theorem sc__law_rank : FnScope ["value"] ["value"] (defScope s__law_rank) := ⟨rfl, rfl, rfl, by decide +kernel, rfl, by decide +kernel, by decide +kernel⟩
theorem ok__law_rank {f : Addr} {fd : FuncData} (F : Fun K "_law_rank" "_law_rank" s__law_rank f fd) : FnOk P w K mg base CX0 1 f fd ["value"] (spRank K) := by
  refine F.ok sc__law_rank (fun vs H Q E h => ?_) (fun cdv A outer s H vs Q E hr h => ?_)
  · obtain ⟨_, _, _, rfl, _⟩ := h
    rfl
  · obtain ⟨x, z, r, rfl, hx, q⟩ := h
    refine ⟨_, (pss_cons (ps_if (PW.pt (pw_or (pt_cmpR op_eq (pe_ix ix_tup (pv 0) pe_int (fun _ _ => rfl)) pe_str (nomark _)) (pw_or1 (pt_cmpR op_eq (pe_ix ix_tup (pv 0) pe_int (fun _ _ => rfl)) pe_str (nomark _))))) (pss_one (ps_ret pe_int)) pss_nil)
  (pss_one (ps_ret (pe_ifExp (pt_cmpR op_in_seq (pe_ix ix_tup (pv 0) pe_int (fun _ _ => rfl)) (pe_tup (pa_cons pe_str (pa_cons pe_str (pa_cons pe_str pa_nil)))) (by rfl)) (pe_dget (hu_of hr) (pe_disp (pps_cons pe_str pe_int (pps_cons pe_str pe_int (pps_cons pe_str pe_int pps_nil))) rfl rfl (by decide) (by decide)) (pe_ix ix_tup (pv 0) pe_int (fun _ _ => rfl)) (fun _ _ => rfl)) pe_int)))), ?_⟩
    obtain ⟨a, xs, _, rfl, e1, hq, hd⟩ := tu_of hx rfl
    obtain rfl := PyData.tuple.inj e1
    rcases hd with _ | ⟨k0, kr⟩
    cases k0
    have hh : headW (.tuple (.str z :: r)) = z := rfl
    have eqt : ∀ (y : Str) (R : Bool → Hp → Prop), R (decide (z = y)) H → tTest (tOp rEq (tOp (rIxT K) (tVar 0) (tC (V.int 0))) (tC (V.str y))) (L2.start ["value"] [V.ref a]) H R := fun y R hR => ⟨.ref a, rfl, a, _, _, _, rfl, rfl, hq, atI_nat (j := 0) rfl, rfl, _, rfl, by rw [dec_str]; exact hR⟩
    refine seqA (ifA (or_q (b := decide (z = "if")) (c := decide (z = "let")) (fun R hR => eqt "if" R hR) (fun _ R hR => eqt "let" R hR) (ite2 (fun g => retA ?_) (fun g => nextA ?_))))
    · have z0 := q H (Same.refl H)
      unfold lrank at z0
      rw [hh, if_pos (by simpa using g)] at z0
      exact z0
    dsimp only
    have g1 : ¬ (z = "if" ∨ z = "let") := by simpa using g
    have hl : lrank (.tuple (.str z :: r)) = if z = "add" ∨ z = "sub" then 1 else if z = "mul" then 2 else 3 := by
      unfold lrank
      rw [hh, if_neg g1]
    refine retA ⟨.ref a, rfl, a, _, _, _, rfl, rfl, hq, atI_nat (j := 0) rfl, Nat.le_trans (by decide : 3 ≤ 1000) (by decide), fun p hp => ⟨p, (["add", "sub", "mul"] : List Str).map V.str, rfl, .inr (.inl (.inl upd_same)), rfl, rfl, _, rfl, ?_⟩⟩
    have s1 := same_upd (o := .tup [.str "add", .str "sub", .str "mul"]) hp
    have hq1 := sqt_keep s1 hq
    have q1 : ∀ H', Same (upd H p (.tup [.str "add", .str "sub", .str "mul"])) H' → Q (.int (lrank (.tuple (.str z :: r)))) H' := fun H' s' => q H' (s1.trans s')
    show ite ((if false = true then !inV (.str z) ((["add", "sub", "mul"] : List Str).map V.str) else inV (.str z) ((["add", "sub", "mul"] : List Str).map V.str)) = true) _ _
    rw [inV_strs]
    refine ite2 (fun g => ?_) (fun g => ?_)
    · have g2 : z = "add" ∨ z = "sub" ∨ z = "mul" := by simpa using of_decide_eq_true g
      refine fun p2 hp2 => ⟨upd_same, rankKv, rfl, by decide, ?_⟩
      rw [upd_upd, rank_merge]
      have s2 := same_upd (o := .dK rankKv) hp2
      refine ⟨.ref a, rfl, a, _, _, _, rfl, rfl, sqt_keep s2 hq1, atI_nat (j := 0) rfl, p2, .int (lrank (.tuple (.str z :: r))), rfl, ?_, q1 _ s2⟩
      have h9 := DGet.k (H := upd (upd H p (.tup [.str "add", .str "sub", .str "mul"])) p2 (.dK rankKv)) (a := p2) (kvs := rankKv) (k := .inr z) upd_same
      rw [hl]
      rcases g2 with rfl | rfl | rfl
      · exact h9
      · exact h9
      · exact h9
    · have g2 : ¬ (z = "add" ∨ z = "sub" ∨ z = "mul") := by simpa using of_decide_eq_false (Bool.eq_false_iff.mpr g)
      have z0 := q1 _ (Same.refl _)
      rw [hl, if_neg (fun h => g2 (h.elim .inl fun h => .inr (.inl h))), if_neg (fun h => g2 (.inr (.inr h)))] at z0
      exact z0
end
end Cw

set_option Elab.async false
set_option linter.all false
set_option maxRecDepth 100000
set_option maxHeartbeats 4000000
namespace Cw
open PySem PySem.Spec PyProof.Rows L2
/-- a shape whose expressions may be counted -/
def shapeE : Nat → PyData → Prop
  | n + 1, .tuple (.str z :: r) => innerOk z r ∧ ∀ d, d ∈ innerL z r → shapeE n d
  | _, _ => False
theorem form_inner {z : Str} {r : List PyData} (h : lawForm z r = true) : innerOk z r := by
  cases ek : kindsOf z with
  | none => unfold lawForm at h; rw [ek] at h; cases h
  | some ks =>
  have el : r.length = ks.length := by
    unfold lawForm at h
    rw [ek] at h
    exact of_decide_eq_true (Bool.and_eq_true _ _ ▸ h).1
  refine ⟨fun e => ?_, fun e => ?_, fun e => ?_⟩
  · have hl := el.trans (form_nc_len e ek)
    obtain ⟨y, v, rfl⟩ := len2 hl
    rw [form_nc e] at h
    have h2 := (Bool.and_eq_true _ _ ▸ h).2
    cases v with
    | tuple l => exact ⟨y, l, rfl⟩
    | _ => cases h2
  · subst e
    rw [el, kinds_eq (l := ["part", "class", "name"]) ek (by rfl)]
    rfl
  · subst e
    rw [el, kinds_eq (l := ["name", "part", "part"]) ek (by rfl)]
    rfl
theorem shape_of : ∀ (n : Nat) (d : PyData), lawExpr n d = true → shapeE n d
  | 0, _, h => by cases h
  | n + 1, .tuple (.str z :: r), h => by
    have h1 : (lawForm z r && (innerL z r).all (lawExpr n)) = true := h
    rw [Bool.and_eq_true, List.all_eq_true] at h1
    exact ⟨form_inner h1.1, fun d m => shape_of n d (h1.2 d m)⟩
  | n + 1, .tuple [], h => by cases h
  | n + 1, .tuple (.none :: _), h => by cases h
  | n + 1, .tuple (.bool _ :: _), h => by cases h
  | n + 1, .tuple (.int _ :: _), h => by cases h
  | n + 1, .tuple (.list _ :: _), h => by cases h
  | n + 1, .tuple (.tuple _ :: _), h => by cases h
  | n + 1, .tuple (.dict _ :: _), h => by cases h
  | n + 1, .none, h => by cases h
  | n + 1, .bool _, h => by cases h
  | n + 1, .int _, h => by cases h
  | n + 1, .str _, h => by cases h
  | n + 1, .list _, h => by cases h
  | n + 1, .dict _, h => by cases h
theorem inner_len {z : Str} {r : List PyData} (h : Ok (.tuple r)) : (innerL z r).length ≤ 100000 := by
  unfold innerL
  split
  · exact ok_len (ok_get h 1)
  split
  · exact (by decide : 1 ≤ 100000)
  split
  · exact (by decide : 2 ≤ 100000)
  split
  · exact ok_len h
  · decide
/-- a count in any heap in which the value stands -/
def spCount (K : PySem.W.Frag) (n : Nat) : Sp := fun vs H Q _ => ∃ x d, vs = [x] ∧ Dp K H x d ∧ shapeE n d ∧ Ok d ∧ ∀ H', Same H H' → Q (.int (cntE n d : Nat)) H'
section
variable {P : Program} {w : World} {K : PySem.W.Frag} {mg : Str → Option Value} {base : Heap} {S : Addr → Option Sp}
abbrev s__law_count : Stmt := topS 91
theorem sc__law_count : FnScope ["value", "part"] ["value"] (defScope s__law_count) := ⟨rfl, rfl, rfl, by decide +kernel, rfl, by decide +kernel, by decide +kernel⟩
theorem ok__law_count {f : Addr} {fd : FuncData} (F : Fun K "_law_count" "_law_count" s__law_count f fd) {f__law_inner_parts : Addr} {d__law_inner_parts : FuncData} (h__law_inner_parts : Hd K mg "_law_inner_parts" s__law_inner_parts ["value"] f__law_inner_parts d__law_inner_parts) (G__law_inner_parts : FnOk P w K mg base CX0 1 f__law_inner_parts d__law_inner_parts ["value"] (spInner K)) (m_sum : mg "sum" = none) (bF : Binds K fd ["value"] []) (gF : mg "_law_count" = some (.ref f)) : ∀ n, FnOk P w K mg base CX0 (2 + n) f fd ["value"] (spCount K n)
  | 0 => ⟨fun _ _ _ _ h => (by obtain ⟨_, d, _, _, h, _⟩ := h; cases d <;> exact h.elim), fun _ _ _ _ _ _ _ _ _ _ _ _ _ h => (by obtain ⟨_, d, _, _, h, _⟩ := h; cases d <;> exact h.elim)⟩
  | n + 1 => by
    have G := ok__law_count F h__law_inner_parts G__law_inner_parts m_sum bF gF n
    refine F.ok sc__law_count (fun vs H Q E h => ?_) (fun cdv A outer s H vs Q E hr h => ?_)
    · obtain ⟨_, _, rfl, _⟩ := h
      rfl
    · obtain ⟨x, d, rfl, hx, hsh, hok, q⟩ := h
      refine ⟨_, (pss_one (ps_ret (pe_op op_add pe_int (pe_callB (cr_sum rfl) (by rfl) m_sum (by decide +kernel) (pa_cons (pe_lc (own := [("part", 1)]) rfl sc__law_count.nd (pi_list (pe_call G__law_inner_parts (hr.mono (Nat.le_trans (by decide) (Nat.le_add_right 2 n))) (by rfl) h__law_inner_parts.g h__law_inner_parts.F.kp h__law_inner_parts.b .nil pass0 (pa_cons (pv 0) pa_nil))) (blkOk_by (N := ["value", "part"]) (sc := defScope s__law_count) (by decide +kernel)) (fun _ _ _ _ _ => by exact (pg_name (i := 1) sc__law_count.nd rfl (.inl rfl))) (fun _ _ _ _ _ => by exact pts_nil) (fun _ _ _ _ _ => by exact (pe_call G hr (by rfl) gF F.kp bF .nil pass0 (pa_cons (pv 1) pa_nil)))) pa_nil))))), ?_⟩
      match d, hsh, hx, hok, q with
      | .tuple (.str z :: r), hsh, hx, hok, q =>
      obtain ⟨hi, hp⟩ := hsh
      have okr : Ok (.tuple r) := by
        cases hok with
        | tuple _ h1 h2 => exact .tuple r (by simp at h1; omega) fun d m => h2 d (List.mem_cons_of_mem _ m)
      refine retA ⟨x, rfl, x, z, r, rfl, hx, hi, fun H5 L ys s5 hL hn hys => ⟨L, rfl, ⟨ys, SqL.of hL⟩, fun D hD => lc_list (xs := ys)
        (fun j H' => Same H5 H' ∧ H' D = some (.lst (((innerL z r).take j).map fun y => V.int (cntE n y : Nat)))) ⟨same_upd hD, upd_same⟩ (fun j H' _ p => SqL.of (p.1 _ _ hL)) ?_ ?_⟩⟩
      · rintro j y H6 hy ⟨s6, hacc⟩
        have hj : j < (innerL z r).length := by
          rw [← (dp_get hys).1]
          exact (List.getElem?_eq_some_iff.mp hy).1
        obtain ⟨y', hy1, hy2⟩ := (dp_get hys).2 j (innerL z r)[j] (List.getElem?_eq_getElem hj)
        obtain rfl : y' = y := Option.some.inj (hy1.symm.trans hy)
        refine ⟨rfl, ?_⟩
        unfold tYes
        dsimp only
        rw [if_pos rfl]
        refine ⟨y', rfl, y', (innerL z r)[j], rfl, dp_keep s6 hy2, hp _ (List.getElem_mem hj), ok_inner okr _ (List.getElem_mem hj), fun H7 s7 => ⟨_, s7 _ _ hacc, ?_, same_mut (s6.trans s7) hD, ?_⟩⟩
        · rw [List.length_map, List.length_take]
          exact Nat.lt_of_le_of_lt (Nat.le_trans (Nat.min_le_right _ _) (inner_len okr)) (by decide)
        · rw [upd_same, List.take_add_one, List.getElem?_eq_getElem hj, List.map_append]
          rfl
      · rintro H6 ⟨s6, hacc⟩
        rw [(dp_get hys).1, List.take_length] at hacc
        refine ⟨D, (innerL z r).map fun y => (cntE n y : Int), rfl, SqL.of (by rw [hacc, List.map_map]; rfl), 1, _, rfl, rfl, ?_⟩
        have hz := q H6 (s5.trans s6)
        have e : (1 : Int) + ((innerL z r).map fun y => (cntE n y : Int)).sum = ((cntE (n + 1) (.tuple (.str z :: r)) : Nat) : Int) := by
          show _ = ((1 + ((innerL z r).map (cntE n)).sum : Nat) : Int)
          have : ∀ l : List PyData, (l.map fun y => (cntE n y : Int)).sum = (((l.map (cntE n)).sum : Nat) : Int) := by
            intro l
            induction l with
            | nil => rfl
            | cons a l ih => rw [List.map_cons, List.sum_cons, List.map_cons, List.sum_cons, ih]; omega
          rw [this]
          omega
        rw [← e] at hz
        exact hz
theorem sc__law_is_right_expr : FnScope ["value"] ["value"] (defScope s__law_is_right_expr) := ⟨rfl, rfl, rfl, by decide +kernel, rfl, by decide +kernel, by decide +kernel⟩
theorem ok__law_is_right_expr {f : Addr} {fd : FuncData} (F : Fun K "_law_is_right_expr" "_law_is_right_expr" s__law_is_right_expr f fd) {f__law_is_expr : Addr} {d__law_is_expr : FuncData} (h__law_is_expr : Hd K mg "_law_is_expr" s__law_is_expr ["value", "deep"] f__law_is_expr d__law_is_expr) (G__law_is_expr : FnOk P w K mg base CX0 12 f__law_is_expr d__law_is_expr ["value", "deep"] (spExpr K 8)) {f__law_count : Addr} {d__law_count : FuncData} (h__law_count : Hd K mg "_law_count" s__law_count ["value"] f__law_count d__law_count) (G__law_count : FnOk P w K mg base CX0 9 f__law_count d__law_count ["value"] (spCount K 7)) : FnOk P w K mg base CX0 14 f fd ["value"] (sp1 K lawRx) := by
  refine F.ok sc__law_is_right_expr (fun vs H Q E h => ?_) (fun cdv A outer s H vs Q E hr h => ?_)
  · obtain ⟨x, d, rfl, _⟩ := h
    rfl
  · obtain ⟨x, d, rfl, hx, hok, q⟩ := h
    refine ⟨_, (pss_one (ps_ret (pe_and (pe_call G__law_is_expr (hr.mono (by decide)) (by rfl) h__law_is_expr.g h__law_is_expr.F.kp h__law_is_expr.b .nil pass0 (pa_cons (pv 0) (pa_cons pe_int pa_nil))) (pe_one (pe_cmpR op_lt (pe_call G__law_count (hr.mono (by decide)) (by rfl) h__law_count.g h__law_count.F.kp h__law_count.b .nil pass0 (pa_cons (pv 0) pa_nil)) pe_int (nomark _)))))), ?_⟩
    refine retA ⟨x, rfl, x, d, rfl, hx, hok, fun H1 s1 => ⟨_, rfl, ?_⟩⟩
    cases e : lawExpr 7 d with
    | false =>
      refine iteF ?_
      have hz := q H1 s1
      unfold lawRx at hz
      rw [e] at hz
      exact hz
    | true =>
      refine iteT ⟨x, rfl, x, d, rfl, dp_keep s1 hx, shape_of 7 d e, hok, fun H2 s2 => ⟨_, 61, rfl, rfl, ?_⟩⟩
      have hz := q H2 (s1.trans s2)
      unfold lawRx at hz
      rw [e, Bool.true_and] at hz
      have e2 : decide (((cntE 7 d : Nat) : Int) < 61) = decide (cntE 7 d < 61) := decide_eq_decide.mpr (by omega)
      show Q (.bl (decide (((cntE 7 d : Nat) : Int) < 61))) H2
      rw [e2]
      exact hz
end
end Cw

set_option Elab.async false
set_option linter.all false
set_option maxRecDepth 100000
set_option maxHeartbeats 4000000
namespace Cw
open PySem PySem.Spec PyProof.Rows L2
/-- what stays but at the addresses of A -/
def Fr (A : List Addr) (H H' : Hp) : Prop := ∀ b o, b ∉ A → H b = some o → H' b = some o
theorem Fr.refl {A : List Addr} (H : Hp) : Fr A H H := fun _ _ _ h => h
theorem Fr.trans {A : List Addr} {H H' H'' : Hp} (h : Fr A H H') (g : Fr A H' H'') : Fr A H H'' := fun b o n e => g b o n (h b o n e)
theorem Fr.of {A : List Addr} {H H' : Hp} (s : Same H H') : Fr A H H' := fun b o _ e => s b o e
theorem Fr.mono {A B : List Addr} {H H' : Hp} (h : Fr A H H') (m : ∀ b, b ∈ A → b ∈ B) : Fr B H H' := fun b o n e => h b o (fun k => n (m b k)) e
/-- what was not there may change -/
theorem Fr.drop {A : List Addr} {u : Addr} {H H' : Hp} (h : Fr (u :: A) H H') (hu : H u = none) : Fr A H H' := fun b o n e => h b o (fun k => by
  rcases List.mem_cons.mp k with rfl | k
  · rw [hu] at e; cases e
  · exact n k) e
theorem Fr.upd {A : List Addr} {H H' : Hp} {p : Addr} {o : HO} (h : Fr A H H') (hp : H p = none) : Fr A H (upd H' p o) := fun b x n e => by
  have k : b ≠ p := fun k => by rw [k, hp] at e; cases e
  rw [upd_ne k]
  exact h b x n e
theorem Fr.set {A : List Addr} {H H' : Hp} {p : Addr} {o : HO} (h : Fr A H H') (hp : p ∈ A) : Fr A H (L2.upd H' p o) := fun b x n e => by
  have k : b ≠ p := fun k => n (by rw [k]; exact hp)
  rw [upd_ne k]
  exact h b x n e
/-- the numbers, the place in them -/
def Sta (r sp : Addr) (H : Hp) : Prop := r ≠ sp ∧ (∃ row : List Int, row ≠ [] ∧ H r = some (.lst (row.map V.int))) ∧ ∃ n : Nat, H sp = some (.lst [.int (n : Int)])
theorem Sta.same {r sp : Addr} {H H' : Hp} (h : Sta r sp H) (s : Same H H') : Sta r sp H' := by
  obtain ⟨h1, ⟨row, h2, h3⟩, n, h4⟩ := h
  exact ⟨h1, ⟨row, h2, s _ _ h3⟩, n, s _ _ h4⟩
theorem Sta.new {r sp p : Addr} {H : Hp} {o : HO} (h : Sta r sp H) (hp : H p = none) : Sta r sp (upd H p o) := h.same (same_upd hp)
theorem Sta.sp_ne {r sp p : Addr} {H : Hp} (h : Sta r sp H) (hp : H p = none) : p ≠ sp := fun e => by
  obtain ⟨_, _, n, h4⟩ := h
  rw [← e, hp] at h4
  cases h4
theorem Sta.set {r sp p : Addr} {H : Hp} {o : HO} (h : Sta r sp H) (h1 : p ≠ r) (h2 : p ≠ sp) : Sta r sp (upd H p o) := by
  obtain ⟨a, ⟨row, b, c⟩, n, d⟩ := h
  exact ⟨a, ⟨row, b, by rw [upd_ne (Ne.symm h1)]; exact c⟩, n, by rw [upd_ne (Ne.symm h2)]; exact d⟩
theorem Sta.dk {r sp u : Addr} {H : Hp} {kv : List (Key × V)} (h : Sta r sp H) (hu : H u = some (.dK kv)) : u ≠ r ∧ u ≠ sp := by
  obtain ⟨a, ⟨row, b, c⟩, n, d⟩ := h
  refine ⟨fun e => ?_, fun e => ?_⟩
  · rw [← e, hu] at c; cases c
  · rw [← e, hu] at d; cases d
/-- data without lists stay where no tuple changes -/
def NoTup (A : List Addr) (H : Hp) : Prop := ∀ b, b ∈ A → ∀ xs, ¬ Rd H b (.tup xs)
theorem sqt_fr {K : PySem.W.Frag} {A : List Addr} {H H' : Hp} (s : Fr A H H') (n : NoTup A H) {a : Addr} {xs : List V} (h : SqT K H a xs) : SqT K H' a xs := by
  rcases h with h | h
  · have na : a ∉ A := fun m => n a m xs h
    rcases h with h | ⟨o, h⟩
    · exact .inl (.inl (s _ _ na h))
    · exact .inl (.inr ⟨o, s _ _ na h⟩)
  · exact .inr h
mutual
theorem dp_fr {K : PySem.W.Frag} {A : List Addr} {H H' : Hp} (s : Fr A H H') (n : NoTup A H) : ∀ {x : V} {d : PyData}, OnT d → Dp K H x d → Dp K H' x d
  | _, _, _, .non => .non
  | _, _, _, .bl b => .bl b
  | _, _, _, .int i => .int i
  | _, _, _, .str z => .str z
  | _, _, o, .lst h t => by cases o
  | _, _, o, .tup h t => .tup (sqt_fr s n h) (dps_fr s n (fun d m => ont_mem o m) t)
theorem dps_fr {K : PySem.W.Frag} {A : List Addr} {H H' : Hp} (s : Fr A H H') (n : NoTup A H) : ∀ {xs : List V} {ds : List PyData}, (∀ d, d ∈ ds → OnT d) → DpAll K H xs ds → DpAll K H' xs ds
  | _, _, _, .nil => .nil
  | _, _, o, .cons h t => .cons (dp_fr s n (o _ (List.mem_cons_self ..)) h) (dps_fr s n (fun d m => o d (List.mem_cons_of_mem _ m)) t)
end
theorem Sta.nt {r sp : Addr} {H : Hp} (h : Sta r sp H) : NoTup [sp] H := fun b m xs e => by
  obtain ⟨_, _, n, d⟩ := h
  rcases List.mem_singleton.mp m with rfl
  rcases e with e | ⟨o, e⟩ <;> · rw [d] at e; cases e
theorem Sta.nt2 {r sp u : Addr} {H : Hp} {kv : List (Key × V)} (h : Sta r sp H) (hu : H u = some (.dK kv)) : NoTup [u, sp] H := fun b m xs e => by
  rcases List.mem_cons.mp m with rfl | m
  · rcases e with e | ⟨o, e⟩ <;> · rw [hu] at e; cases e
  · exact h.nt b m xs e
/-! ### the numbers -/
def spTk (K : PySem.W.Frag) : Sp := fun vs H Q _ => ∃ (r sp : Addr) (lim : Int), vs = [.ref r, .ref sp, .int lim] ∧ Sta r sp H ∧ 0 < lim ∧ ∀ (z : Int) H', 0 ≤ z → z < lim → Sta r sp H' → Fr [sp] H H' → Q (.int z) H'
def spLet (K : PySem.W.Frag) : Sp := fun vs H Q _ => ∃ (r sp : Addr) (m : Int), vs = [.ref r, .ref sp, .int m] ∧ Sta r sp H ∧ 0 ≤ m ∧ m ≤ 1000 ∧ ∀ (z : Str) H', z.length = m.toNat → Sta r sp H' → Fr [sp] H H' → Q (.str z) H'
def spName (K : PySem.W.Frag) : Sp := fun vs H Q _ => ∃ (r sp u : Addr) (kv : List (Key × V)), vs = [.ref r, .ref sp, .ref u] ∧ Sta r sp H ∧ H u = some (.dK kv) ∧ kv.length ≤ 1000 ∧ ∀ (z : Str) H' kv', z.length ≤ 100 → Sta r sp H' → Fr [u, sp] H H' → H' u = some (.dK kv') → kv'.length ≤ kv.length + 1 → Q (.str z) H'
theorem ok_tk {P : Program} {w : World} {K : PySem.W.Frag} {mg : Str → Option Value} {base : Heap} {k : Nat} {f : Addr} {fd : FuncData} {ps : List Str} (h : FnOk P w K mg base CX0 k f fd ps (spTake K)) : FnOk P w K mg base CX0 k f fd ps (spTk K) :=
  h.imp fun vs H Q E q => by
    obtain ⟨r, sp, lim, rfl, ⟨a, ⟨row, b, c⟩, n, d⟩, hl, q⟩ := q
    exact ⟨r, sp, row, n, lim, rfl, c, b, a, d, hl, fun z z0 z1 => q z _ z0 z1 ⟨a, ⟨row, b, by rw [upd_ne a]; exact c⟩, n + 1, upd_same⟩ ((Fr.refl H).set (List.mem_singleton.mpr rfl))⟩
theorem at_in {α : Type} {l : List α} {i : Int} (h0 : 0 ≤ i) (h : i < (l.length : Int)) : ∃ z, atI l i = some z := by
  obtain ⟨j, rfl⟩ := Int.eq_ofNat_of_zero_le h0
  have hj : j < l.length := Int.ofNat_lt.mp h
  exact ⟨l[j], atI_nat (List.getElem?_eq_getElem hj)⟩
theorem len_app (x y : Str) : (x ++ y).length = x.length + y.length := by
  show (x.cps ++ y.cps).size = _
  rw [Array.size_append]
  rfl
abbrev s__law_take : Stmt := topS 78
section
variable {P : Program} {w : World} {K : PySem.W.Frag} {mg : Str → Option Value} {base : Heap} {S : Addr → Option Sp}
abbrev s__law_wide : Stmt := topS 79
theorem sc__law_wide : FnScope ["row", "spot", "limit", "first", "second", "third"] ["row", "spot", "limit"] (defScope s__law_wide) := ⟨rfl, rfl, rfl, by decide +kernel, rfl, by decide +kernel, by decide +kernel⟩
theorem ok__law_wide {f : Addr} {fd : FuncData} (F : Fun K "_law_wide" "_law_wide" s__law_wide f fd) {f__law_take : Addr} {d__law_take : FuncData} (h__law_take : Hd K mg "_law_take" s__law_take ["row", "spot", "limit"] f__law_take d__law_take) (G__law_take : FnOk P w K mg base CX0 2 f__law_take d__law_take ["row", "spot", "limit"] (spTk K)) (m_int : mg "int" = none) : FnOk P w K mg base CX0 3 f fd ["row", "spot", "limit"] (spTk K) := by
  refine F.ok sc__law_wide (fun vs H Q E h => ?_) (fun cdv A outer s H vs Q E hr h => ?_)
  · obtain ⟨_, _, _, rfl, _⟩ := h
    rfl
  · obtain ⟨r, sp, lim, rfl, st, hl, q⟩ := h
    refine ⟨_, (pss_cons (ps_set (i := 3) sc__law_wide.nd rfl (.inl rfl) (pe_call G__law_take (hr.mono (by decide)) (by rfl) h__law_take.g h__law_take.F.kp h__law_take.b .nil pass0 (pa_cons (pv 0) (pa_cons (pv 1) (pa_cons pe_int pa_nil)))))
  (pss_cons (ps_set (i := 4) sc__law_wide.nd rfl (.inl rfl) (pe_call G__law_take (hr.mono (by decide)) (by rfl) h__law_take.g h__law_take.F.kp h__law_take.b .nil pass0 (pa_cons (pv 0) (pa_cons (pv 1) (pa_cons pe_int pa_nil)))))
  (pss_cons (ps_set (i := 5) sc__law_wide.nd rfl (.inl rfl) (pe_call G__law_take (hr.mono (by decide)) (by rfl) h__law_take.g h__law_take.F.kp h__law_take.b .nil pass0 (pa_cons (pv 0) (pa_cons (pv 1) (pa_cons pe_int pa_nil)))))
  (pss_one (ps_ret (pe_op op_mod (pe_callTy call_int1 (by rfl) m_int (by decide +kernel) (pa_cons (pe_op op_add (pe_op op_add (pe_op op_mul (pv 3) pe_int) (pe_op op_mul (pv 4) pe_int)) (pv 5)) pa_nil)) (pv 2))))))), ?_⟩
    refine ⟨.ref r, rfl, .ref sp, rfl, r, sp, 997, rfl, st, by decide, fun z1 H1 a1 b1 st1 f1 => ?_⟩
    refine ⟨.ref r, rfl, .ref sp, rfl, r, sp, 997, rfl, st1, by decide, fun z2 H2 a2 b2 st2 f2 => ?_⟩
    refine ⟨.ref r, rfl, .ref sp, rfl, r, sp, 997, rfl, st2, by decide, fun z3 H3 a3 b3 st3 f3 => ?_⟩
    refine ⟨.int z1, rfl, z1, 994009, rfl, rfl, .inr (by decide), .int z2, rfl, z2, 997, rfl, rfl, .inr (by decide), _, _, rfl, rfl, .int z3, rfl, _, _, rfl, rfl, .inl ⟨_, rfl, .int lim, rfl, _, lim, rfl, rfl, hl, ?_⟩⟩
    exact q _ H3 (Int.emod_nonneg _ (by omega)) (Int.emod_lt_of_pos _ hl) st3 (f1.trans (f2.trans f3))
abbrev s__law_letters : Stmt := topS 83
theorem sc__law_letters : FnScope ["row", "spot", "many", "made", "k", "at"] ["row", "spot", "many"] (defScope s__law_letters) := ⟨rfl, rfl, rfl, by decide +kernel, rfl, by decide +kernel, by decide +kernel⟩
theorem ok__law_letters {f : Addr} {fd : FuncData} (F : Fun K "_law_letters" "_law_letters" s__law_letters f fd) {f__law_take : Addr} {d__law_take : FuncData} (h__law_take : Hd K mg "_law_take" s__law_take ["row", "spot", "limit"] f__law_take d__law_take) (G__law_take : FnOk P w K mg base CX0 2 f__law_take d__law_take ["row", "spot", "limit"] (spTk K)) (m_range : mg "range" = none) : FnOk P w K mg base CX0 3 f fd ["row", "spot", "many"] (spLet K) := by
  refine F.ok sc__law_letters (fun vs H Q E h => ?_) (fun cdv A outer s H vs Q E hr h => ?_)
  · obtain ⟨_, _, _, rfl, _⟩ := h
    rfl
  · obtain ⟨r, sp, m, rfl, st, hm0, hm, q⟩ := h
    refine ⟨_, (pss_cons (ps_set (i := 3) sc__law_letters.nd rfl (.inl rfl) pe_str)
  (pss_cons (ps_for PassesOwn.never rfl (pi_range1 rfl m_range (pa_cons (pv 2) pa_nil)) (pg_name (i := 4) sc__law_letters.nd rfl (.inl rfl)) (pss_cons (ps_set (i := 5) sc__law_letters.nd rfl (.inl rfl) (pe_call G__law_take (hr.mono (by decide)) (by rfl) h__law_take.g h__law_take.F.kp h__law_take.b .nil pass0 (pa_cons (pv 0) (pa_cons (pv 1) (pa_cons pe_int pa_nil)))))
  (pss_one (ps_set (i := 3) sc__law_letters.nd rfl (.inl rfl) (pe_op op_add_str (pv 3) (pe_ix ix_str pe_str (pv 5) (fun _ _ => rfl)))))))
  (pss_one (ps_ret (pv 3))))), ?_⟩
    refine seqA (asgA (nameA ?_))
    dsimp only
    refine seqA ⟨.int m, rfl, m, rfl, by omega, by omega, for_range (lo := 0) (n := m.toNat) (fun i σ H' => ∃ c4 c5 z, σ = [some (.ref r), some (.ref sp), some (.int m), some (.str z), c4, c5] ∧ z.length = i ∧ Sta r sp H' ∧ Fr [sp] H H') ⟨_, _, "", rfl, rfl, st, Fr.refl H⟩ ?_ ?_⟩
    · rintro i σ H1 hi ⟨c4, c5, z, rfl, hz, st1, f1⟩
      refine nameA (seqA (asgA ⟨.ref r, rfl, .ref sp, rfl, r, sp, 26, rfl, st1, by decide, fun t H2 t0 t1 st2 f2 => nameA ?_⟩))
      dsimp only
      obtain ⟨c, hc⟩ := at_in (l := (PySem.Str.ofString "abcdefghijklmnopqrstuvwxyz").cps.toList) t0 (by rw [show (PySem.Str.ofString "abcdefghijklmnopqrstuvwxyz").cps.toList.length = 26 by decide +kernel]; exact t1)
      refine asgA ⟨.str z, rfl, .int t, rfl, _, t, c, rfl, rfl, by decide, hc, z, _, rfl, rfl, ?_, nameA ⟨_, _, _, rfl, ?_, st2, f1.trans f2⟩⟩
      · show z.length + 1 ≤ sizeLine
        exact Nat.le_trans (by omega : z.length + 1 ≤ 1001) (by decide)
      · rw [len_app, hz]
        rfl
    · rintro σ H1 ⟨c4, c5, z, rfl, hz, st1, f1⟩
      exact ⟨.str z, rfl, q z H1 hz st1 f1⟩
end
end Cw

set_option Elab.async false
set_option linter.all false
set_option maxRecDepth 100000
set_option maxHeartbeats 4000000
namespace Cw
open PySem PySem.Spec PyProof.Rows L2
theorem seq_merge {t rest : TS} {D : Ends} {σ : L2.St} {H : Hp} (X : L2.St → Hp → Prop) (h1 : ∀ σ' H', X σ' H' → rest D σ' H') (h2 : (∀ σ' H', X σ' H' → rest D σ' H') → t { D with nx := rest D } σ H) : tSeq t rest D σ H := h2 h1
theorem res_flat : (reserved19.map V.str).all flatV = true := by decide
theorem Fr.u {sp u : Addr} {H H' : Hp} {kv : List (Key × V)} (f : Fr [sp] H H') (hu : H u = some (.dK kv)) (h : u ≠ sp) : H' u = some (.dK kv) := f _ _ (fun m => h (List.mem_singleton.mp m)) hu
theorem Fr.two {sp u : Addr} {H H' : Hp} (f : Fr [sp] H H') : Fr [u, sp] H H' := f.mono fun _ m => List.mem_cons_of_mem _ m
section
variable {P : Program} {w : World} {K : PySem.W.Frag} {mg : Str → Option Value} {base : Heap} {S : Addr → Option Sp}
abbrev s__law_name : Stmt := topS 84
theorem sc__law_name : FnScope ["row", "spot", "used", "made", "k"] ["row", "spot", "used"] (defScope s__law_name) := ⟨rfl, rfl, rfl, by decide +kernel, rfl, by decide +kernel, by decide +kernel⟩
theorem ok__law_name {f : Addr} {fd : FuncData} (F : Fun K "_law_name" "_law_name" s__law_name f fd) {f__law_letters : Addr} {d__law_letters : FuncData} (h__law_letters : Hd K mg "_law_letters" s__law_letters ["row", "spot", "many"] f__law_letters d__law_letters) (G__law_letters : FnOk P w K mg base CX0 3 f__law_letters d__law_letters ["row", "spot", "many"] (spLet K)) {f__law_take : Addr} {d__law_take : FuncData} (h__law_take : Hd K mg "_law_take" s__law_take ["row", "spot", "limit"] f__law_take d__law_take) (G__law_take : FnOk P w K mg base CX0 2 f__law_take d__law_take ["row", "spot", "limit"] (spTk K)) {f__law_reserved : Addr} {d__law_reserved : FuncData} (h__law_reserved : Hd K mg "_law_reserved" s__law_reserved [] f__law_reserved d__law_reserved) (G__law_reserved : FnOk P w K mg base CX0 1 f__law_reserved d__law_reserved [] (spReserved)) (m_range : mg "range" = none) : FnOk P w K mg base CX0 4 f fd ["row", "spot", "used"] (spName K) := by
  refine F.ok sc__law_name (fun vs H Q E h => ?_) (fun cdv A outer s H vs Q E hr h => ?_)
  · obtain ⟨_, _, _, _, rfl, _⟩ := h
    rfl
  · obtain ⟨r, sp, u, kv, rfl, st, hu, hkv, q⟩ := h
    obtain ⟨ur, us⟩ := st.dk hu
    refine ⟨_, (pss_cons (ps_set (i := 3) sc__law_name.nd rfl (.inl rfl) (pe_call G__law_letters (hr.mono (by decide)) (by rfl) h__law_letters.g h__law_letters.F.kp h__law_letters.b .nil pass0 (pa_cons (pv 0) (pa_cons (pv 1) (pa_cons (pe_op op_add pe_int (pe_call G__law_take (hr.mono (by decide)) (by rfl) h__law_take.g h__law_take.F.kp h__law_take.b .nil pass0 (pa_cons (pv 0) (pa_cons (pv 1) (pa_cons (pe_ifExp (pt_cmpR op_gt (pe_call G__law_take (hr.mono (by decide)) (by rfl) h__law_take.g h__law_take.F.kp h__law_take.b .nil pass0 (pa_cons (pv 0) (pa_cons (pv 1) (pa_cons pe_int pa_nil)))) pe_int (nomark _)) pe_int pe_int) pa_nil))))) pa_nil)))))
  (pss_cons (ps_for PassesOwn.never rfl (pi_range1 rfl m_range (pa_cons pe_int pa_nil)) (pg_name (i := 4) sc__law_name.nd rfl (.inl rfl)) (pss_cons (ps_if (PW.pt (pw_and (pt_cmp (pc_dnotin (hu_of hr) (pv 3) (pv 2))) (pw_and1 (pt_cmpR op_notIn_seq (pv 3) (pe_call0 G__law_reserved (hr.mono (by decide)) (by rfl) h__law_reserved.g h__law_reserved.F.kp h__law_reserved.b .nil pass0) (by rfl))))) (pss_one ps_break) pss_nil)
  (pss_cons (ps_set (i := 3) sc__law_name.nd rfl (.inl rfl) (pe_op op_add_str (pe_slice sl_str (pv 3) po_none (po_some pe_int)) (pe_ix ix_str pe_str (pe_op op_mod (pv 4) pe_int) (fun _ _ => rfl))))
  (pss_one (ps_if (pt_cmpR op_gt (pv 4) pe_int (nomark _)) (pss_one (ps_set (i := 3) sc__law_name.nd rfl (.inl rfl) (pe_op op_add_str (pe_slice sl_str (pv 3) (po_some pe_int) po_none) pe_str))) pss_nil)))))
  (pss_cons (ps_dput (hu_of hr) (pv 2) (pv 3) pe_bl rfl)
  (pss_one (ps_ret (pv 3)))))), ?_⟩
    refine seq_merge (fun σ' H' => (∃ z, σ' = [some (.ref r), some (.ref sp), some (.ref u), some (.str z), none] ∧ z.length ≤ 13) ∧ Sta r sp H' ∧ Fr [sp] H H') ?_ (fun kont => ?_)
    rotate_left
    · refine asgA ⟨.ref r, rfl, .ref sp, rfl, .ref r, rfl, .ref sp, rfl, .ref r, rfl, .ref sp, rfl, r, sp, 9, rfl, st, by decide, fun z H1 a1 b1 st1 f1 => ⟨z, 0, rfl, rfl, _, rfl, ite2 (fun _ => ?_) (fun _ => ?_)⟩⟩
      · exact ⟨r, sp, 3, rfl, st1, by decide, fun z2 H2 a2 b2 st2 f2 => ⟨1, z2, rfl, rfl, r, sp, 1 + z2, rfl, st2, by omega, by omega, fun w H3 hw st3 f3 => nameA (kont _ _ ⟨⟨w, rfl, by omega⟩, st3, f1.trans (f2.trans f3)⟩)⟩⟩
      · exact ⟨r, sp, 12, rfl, st1, by decide, fun z2 H2 a2 b2 st2 f2 => ⟨1, z2, rfl, rfl, r, sp, 1 + z2, rfl, st2, by omega, by omega, fun w H3 hw st3 f3 => nameA (kont _ _ ⟨⟨w, rfl, by omega⟩, st3, f1.trans (f2.trans f3)⟩)⟩⟩
    rintro σ' H' ⟨⟨z, rfl, hz⟩, st1, f1⟩
    refine seq_merge (fun σ' H' => (∃ z c4, σ' = [some (.ref r), some (.ref sp), some (.ref u), some (.str z), c4] ∧ z.length ≤ 13 + 2 * 30) ∧ Sta r sp H' ∧ Fr [sp] H H') ?_ (fun kont => ?_)
    rotate_left
    · refine ⟨30, rfl, by decide, by decide, for_range (lo := 0) (n := 30) (fun i σ H' => (∃ z c4, σ = [some (.ref r), some (.ref sp), some (.ref u), some (.str z), c4] ∧ z.length ≤ 13 + 2 * i) ∧ Sta r sp H' ∧ Fr [sp] H H') ⟨⟨z, none, rfl, by omega⟩, st1, f1⟩ ?_ (fun σ H' p => kont _ _ p)⟩
      rintro i σ H2 hi ⟨⟨z2, c4, rfl, hz2⟩, st2, f2⟩
      refine nameA ?_
      dsimp only
      refine seq_merge (fun σ' H' => σ' = [some (.ref r), some (.ref sp), some (.ref u), some (.str z2), some (.int (0 + (i : Int)))] ∧ Sta r sp H' ∧ Fr [sp] H H') ?_ (fun kont2 => ?_)
      rotate_left
      · refine ifA ⟨.str z2, rfl, .ref u, rfl, u, _, rfl, DGet.k (k := .inr z2) (f2.u hu us), _, rfl, ite2 (fun e => ?_) (fun e => iteF (nextA (kont2 _ _ ⟨rfl, st2, f2⟩)))⟩
        refine ⟨.str z2, rfl, rfl, fun L H3 s3 hL hL3 => ⟨L, _, rfl, .inl (SqL.of hL3), rfl, res_flat, _, rfl, ite2 (fun e => ?_) (fun e => nextA (kont2 _ _ ⟨rfl, st2.same s3, f2.trans (Fr.of s3)⟩))⟩⟩
        exact kont _ _ ⟨⟨z2, _, rfl, by omega⟩, st2.same s3, f2.trans (Fr.of s3)⟩
      rintro σ3 H3 ⟨rfl, st3, f3⟩
      have zl : ∀ {x : Str}, x.length ≤ 100 → x.length + 1 ≤ sizeLine := fun {x} h => Nat.le_trans (by omega : x.length + 1 ≤ 101) (by decide)
      obtain ⟨c, hc⟩ := at_in (l := (PySem.Str.ofString "abcdefghijklmnopqrstuvwxyz").cps.toList) (i := (0 + (i : Int)) % 26) (Int.emod_nonneg _ (by decide)) (by rw [show (PySem.Str.ofString "abcdefghijklmnopqrstuvwxyz").cps.toList.length = 26 by decide +kernel]; exact Int.emod_lt_of_pos _ (by decide))
      have l1 := cutS_length z2 none (some 11)
      refine seqA (asgA ⟨.str z2, rfl, 11, rfl, z2, rfl, Nat.le_of_succ_le (zl (by omega)), .int (0 + (i : Int)), rfl, 0 + (i : Int), 26, rfl, rfl, (by decide : (0 : Int) < 26), _, _, c, rfl, rfl, by decide, hc, _, _, rfl, rfl, zl (by omega), nameA ?_⟩)
      dsimp only
      have l2 : (cutS z2 none (some 11) ++ (⟨#[c]⟩ : Str)).length = (cutS z2 none (some 11)).length + 1 := len_app _ _
      generalize cutS z2 none (some 11) ++ (⟨#[c]⟩ : Str) = z3 at l2 ⊢
      refine ifA ⟨.int (0 + (i : Int)), rfl, _, 10, rfl, rfl, _, rfl, ite2 (fun e => ?_) (fun e => nextA ⟨⟨z3, _, rfl, by omega⟩, st3, f3⟩)⟩
      have l3 := cutS_length z3 (some 1) none
      refine asgA ⟨.str z3, rfl, 1, rfl, z3, rfl, Nat.le_of_succ_le (zl (by omega)), _, "z", rfl, rfl, zl (by omega), nameA ⟨⟨_, _, rfl, ?_⟩, st3, f3⟩⟩
      rw [len_app]
      show _ + 1 ≤ _
      omega
    rintro σ' H' ⟨⟨z, c4, rfl, hz⟩, st1, f1⟩
    refine seqA ⟨.ref u, rfl, .str z, rfl, u, _, rfl, DPut.k (k := .inr z) (f1.u hu us) (Nat.lt_of_le_of_lt hkv (by decide)), ?_⟩
    dsimp only
    refine retA ?_
    exact ⟨.str z, rfl, q z _ _ (by omega) (st1.set ur us) (f1.two.set (List.mem_cons_self ..)) upd_same (length_putK _ _ _)⟩
abbrev s__law_word : Stmt := topS 86
theorem sc__law_word : FnScope ["row", "spot", "used", "at", "made", "k"] ["row", "spot", "used"] (defScope s__law_word) := ⟨rfl, rfl, rfl, by decide +kernel, rfl, by decide +kernel, by decide +kernel⟩
theorem ok__law_word {f : Addr} {fd : FuncData} (F : Fun K "_law_word" "_law_word" s__law_word f fd) {f__law_take : Addr} {d__law_take : FuncData} (h__law_take : Hd K mg "_law_take" s__law_take ["row", "spot", "limit"] f__law_take d__law_take) (G__law_take : FnOk P w K mg base CX0 2 f__law_take d__law_take ["row", "spot", "limit"] (spTk K)) {f__law_letters : Addr} {d__law_letters : FuncData} (h__law_letters : Hd K mg "_law_letters" s__law_letters ["row", "spot", "many"] f__law_letters d__law_letters) (G__law_letters : FnOk P w K mg base CX0 3 f__law_letters d__law_letters ["row", "spot", "many"] (spLet K)) (m_range : mg "range" = none) : FnOk P w K mg base CX0 4 f fd ["row", "spot", "used"] (spName K) := by
  refine F.ok sc__law_word (fun vs H Q E h => ?_) (fun cdv A outer s H vs Q E hr h => ?_)
  · obtain ⟨_, _, _, _, rfl, _⟩ := h
    rfl
  · obtain ⟨r, sp, u, kv, rfl, st, hu, hkv, q⟩ := h
    obtain ⟨ur, us⟩ := st.dk hu
    have zl : ∀ {x : Str}, x.length ≤ 100 → 1 + x.length ≤ sizeLine := fun {x} h => Nat.le_trans (by omega : 1 + x.length ≤ 101) (by decide)
    refine ⟨_, (pss_cons (ps_set (i := 3) sc__law_word.nd rfl (.inl rfl) (pe_call G__law_take (hr.mono (by decide)) (by rfl) h__law_take.g h__law_take.F.kp h__law_take.b .nil pass0 (pa_cons (pv 0) (pa_cons (pv 1) (pa_cons pe_int pa_nil)))))
  (pss_cons (ps_set (i := 4) sc__law_word.nd rfl (.inl rfl) (pe_op op_add_str (pe_ix ix_str pe_str (pv 3) (fun _ _ => rfl)) (pe_call G__law_letters (hr.mono (by decide)) (by rfl) h__law_letters.g h__law_letters.F.kp h__law_letters.b .nil pass0 (pa_cons (pv 0) (pa_cons (pv 1) (pa_cons (pe_call G__law_take (hr.mono (by decide)) (by rfl) h__law_take.g h__law_take.F.kp h__law_take.b .nil pass0 (pa_cons (pv 0) (pa_cons (pv 1) (pa_cons (pe_ifExp (pt_cmpR op_gt (pe_call G__law_take (hr.mono (by decide)) (by rfl) h__law_take.g h__law_take.F.kp h__law_take.b .nil pass0 (pa_cons (pv 0) (pa_cons (pv 1) (pa_cons pe_int pa_nil)))) pe_int (nomark _)) pe_int pe_int) pa_nil)))) pa_nil))))))
  (pss_cons (ps_for PassesOwn.never rfl (pi_range1 rfl m_range (pa_cons pe_int pa_nil)) (pg_name (i := 5) sc__law_word.nd rfl (.inl rfl)) (pss_cons (ps_if (pt_cmp (pc_dnotin (hu_of hr) (pv 4) (pv 2))) (pss_one ps_break) pss_nil)
  (pss_one (ps_set (i := 4) sc__law_word.nd rfl (.inl rfl) (pe_op op_add_str (pe_ix ix_str pe_str (pe_op op_mod (pv 5) pe_int) (fun _ _ => rfl)) (pe_slice sl_str (pv 4) (po_some pe_int) po_none))))))
  (pss_cons (ps_dput (hu_of hr) (pv 2) (pv 4) pe_bl rfl)
  (pss_one (ps_ret (pv 4))))))), ?_⟩
    refine seq_merge (fun σ' H' => (∃ t, 0 ≤ t ∧ t < 26 ∧ σ' = [some (.ref r), some (.ref sp), some (.ref u), some (.int t), none, none]) ∧ Sta r sp H' ∧ Fr [sp] H H') ?_ (fun kont => ?_)
    rotate_left
    · exact asgA ⟨.ref r, rfl, .ref sp, rfl, r, sp, 26, rfl, st, by decide, fun t H1 t0 t1 st1 f1 => nameA (kont _ _ ⟨⟨t, t0, t1, rfl⟩, st1, f1⟩)⟩
    rintro σ' H' ⟨⟨t, t0, t1, rfl⟩, st1, f1⟩
    obtain ⟨c, hc⟩ := at_in (l := (PySem.Str.ofString "ABCDEFGHIJKLMNOPQRSTUVWXYZ").cps.toList) t0 (by rw [show (PySem.Str.ofString "ABCDEFGHIJKLMNOPQRSTUVWXYZ").cps.toList.length = 26 by decide +kernel]; exact t1)
    refine seq_merge (fun σ' H' => (∃ z, σ' = [some (.ref r), some (.ref sp), some (.ref u), some (.int t), some (.str z), none] ∧ z.length ≤ 13) ∧ Sta r sp H' ∧ Fr [sp] H H') ?_ (fun kont => ?_)
    rotate_left
    · refine asgA ⟨.int t, rfl, _, t, c, rfl, rfl, by decide, hc, .ref r, rfl, .ref sp, rfl, .ref r, rfl, .ref sp, rfl, .ref r, rfl, .ref sp, rfl, r, sp, 9, rfl, st1, by decide, fun z H1 a1 b1 st2 f2 => ⟨z, 0, rfl, rfl, _, rfl, ite2 (fun _ => ?_) (fun _ => ?_)⟩⟩
      · exact ⟨r, sp, 3, rfl, st2, by decide, fun z2 H2 a2 b2 st3 f3 => ⟨r, sp, z2, rfl, st3, by omega, by omega, fun w H3 hw st4 f4 => ⟨_, _, rfl, rfl, zl (by omega), nameA (kont _ _ ⟨⟨_, rfl, by rw [len_app]; show 1 + _ ≤ _; omega⟩, st4, f1.trans (f2.trans (f3.trans f4))⟩)⟩⟩⟩
      · exact ⟨r, sp, 12, rfl, st2, by decide, fun z2 H2 a2 b2 st3 f3 => ⟨r, sp, z2, rfl, st3, by omega, by omega, fun w H3 hw st4 f4 => ⟨_, _, rfl, rfl, zl (by omega), nameA (kont _ _ ⟨⟨_, rfl, by rw [len_app]; show 1 + _ ≤ _; omega⟩, st4, f1.trans (f2.trans (f3.trans f4))⟩)⟩⟩⟩
    rintro σ' H' ⟨⟨z, rfl, hz⟩, st1, f1⟩
    refine seq_merge (fun σ' H' => (∃ z c4, σ' = [some (.ref r), some (.ref sp), some (.ref u), some (.int t), some (.str z), c4] ∧ z.length ≤ 13 + 2 * 30) ∧ Sta r sp H' ∧ Fr [sp] H H') ?_ (fun kont => ?_)
    rotate_left
    · refine ⟨30, rfl, by decide, by decide, for_range (lo := 0) (n := 30) (fun i σ H' => (∃ z c4, σ = [some (.ref r), some (.ref sp), some (.ref u), some (.int t), some (.str z), c4] ∧ z.length ≤ 13 + 2 * i) ∧ Sta r sp H' ∧ Fr [sp] H H') ⟨⟨z, none, rfl, by omega⟩, st1, f1⟩ ?_ (fun σ H' p => kont _ _ p)⟩
      rintro i σ H2 hi ⟨⟨z2, c4, rfl, hz2⟩, st2, f2⟩
      refine nameA ?_
      dsimp only
      refine seq_merge (fun σ' H' => σ' = [some (.ref r), some (.ref sp), some (.ref u), some (.int t), some (.str z2), some (.int (0 + (i : Int)))] ∧ Sta r sp H' ∧ Fr [sp] H H') ?_ (fun kont2 => ?_)
      rotate_left
      · exact ifA ⟨.str z2, rfl, .ref u, rfl, u, _, rfl, DGet.k (k := .inr z2) (f2.u hu us), _, rfl, ite2 (fun e => kont _ _ ⟨⟨z2, _, rfl, by omega⟩, st2, f2⟩) (fun e => nextA (kont2 _ _ ⟨rfl, st2, f2⟩))⟩
      rintro σ3 H3 ⟨rfl, st3, f3⟩
      obtain ⟨c, hc⟩ := at_in (l := (PySem.Str.ofString "ABCDEFGHIJKLMNOPQRSTUVWXYZ").cps.toList) (i := (0 + (i : Int)) % 26) (Int.emod_nonneg _ (by decide)) (by rw [show (PySem.Str.ofString "ABCDEFGHIJKLMNOPQRSTUVWXYZ").cps.toList.length = 26 by decide +kernel]; exact Int.emod_lt_of_pos _ (by decide))
      have l1 := cutS_length z2 (some 1) none
      refine asgA ⟨.int (0 + (i : Int)), rfl, 0 + (i : Int), 26, rfl, rfl, (by decide : (0 : Int) < 26), _, _, c, rfl, rfl, by decide, hc, .str z2, rfl, 1, rfl, z2, rfl, Nat.le_trans (Nat.le_add_left _ _) (zl (by omega)), _, _, rfl, rfl, zl (by omega), nameA ⟨⟨_, _, rfl, ?_⟩, st3, f3⟩⟩
      rw [len_app]
      show 1 + _ ≤ _
      omega
    rintro σ' H' ⟨⟨z, c4, rfl, hz⟩, st1, f1⟩
    refine seqA ⟨.ref u, rfl, .str z, rfl, u, _, rfl, DPut.k (k := .inr z) (f1.u hu us) (Nat.lt_of_le_of_lt hkv (by decide)), ?_⟩
    dsimp only
    refine retA ?_
    exact ⟨.str z, rfl, q z _ _ (by omega) (st1.set ur us) (f1.two.set (List.mem_cons_self ..)) upd_same (length_putK _ _ _)⟩
end
end Cw

set_option Elab.async false
set_option linter.all false
set_option maxRecDepth 100000
set_option maxHeartbeats 4000000
namespace Cw
open PySem PySem.Spec PyProof.Rows L2
theorem Fr.new {sp p : Addr} {H H' : Hp} {o : HO} (hp : H p = none) (f : Fr [p, sp] (L2.upd H p o) H') : Fr [sp] H H' := ((Fr.of (same_upd hp)).trans f).drop hp
theorem Fr.named {sp u : Addr} {H H1 H2 : Hp} (h0 : H u = none) (f : Fr [sp] H H1) (g : Fr [u, sp] H1 H2) : Fr [sp] H H2 := (f.two.trans g).drop h0
def spNamed (K : PySem.W.Frag) : Sp := fun vs H Q _ => ∃ (r sp : Addr) (cap : Bool), vs = [.ref r, .ref sp, .bl cap] ∧ Sta r sp H ∧ ∀ (z : Str) H', z.length ≤ 201 → Sta r sp H' → Fr [sp] H H' → Q (.str z) H'
section
variable {P : Program} {w : World} {K : PySem.W.Frag} {mg : Str → Option Value} {base : Heap} {S : Addr → Option Sp}
end
end Cw

set_option Elab.async false
set_option linter.all false
set_option maxRecDepth 100000
set_option maxHeartbeats 4000000
namespace Cw
open PySem PySem.Spec PyProof.Rows L2
/-- data without lists, of a depth, its texts and tuples not long -/
inductive Sz (k : Nat) : Nat → PyData → Prop
  | non (n : Nat) : Sz k n .none
  | bool (n : Nat) (b : Bool) : Sz k n (.bool b)
  | int (n : Nat) (i : Int) : Sz k n (.int i)
  | str (n : Nat) (z : Str) (h : z.length ≤ k) : Sz k n (.str z)
  | tuple (n : Nat) (l : List PyData) (h : l.length ≤ k) (t : ∀ d, d ∈ l → Sz k n d) : Sz k (n + 1) (.tuple l)
theorem sz_ont {k n : Nat} {d : PyData} (h : Sz k n d) : OnT d := by
  induction h with
  | non => exact .non
  | bool _ b => exact .bool b
  | int _ i => exact .int i
  | str _ z _ => exact .str z
  | tuple _ l _ _ ih => exact .tuple l ih
theorem sz_mono {k n : Nat} {d : PyData} (h : Sz k n d) : ∀ {k' n' : Nat}, k ≤ k' → n ≤ n' → Sz k' n' d := by
  induction h with
  | non => exact fun _ _ => .non _
  | bool _ b => exact fun _ _ => .bool _ b
  | int _ i => exact fun _ _ => .int _ i
  | str _ z h => exact fun a _ => .str _ z (Nat.le_trans h a)
  | tuple n l h _ ih =>
    intro k' n' a b
    match n', b with
    | m + 1, b => exact .tuple m l (Nat.le_trans h a) fun d hd => ih d hd a (by omega)
theorem sz_ok {k n : Nat} {d : PyData} (h : Sz k n d) (hk : k ≤ 100000) : Ok d := by
  induction h with
  | non => exact .non
  | bool _ b => exact .bool b
  | int _ i => exact .int i
  | str _ z h => exact .str z (by omega)
  | tuple _ l h _ ih => exact .tuple l (by omega) ih
theorem sz_okl {k n : Nat} {d : PyData} (h : Sz k n d) (hk : k ≤ 100000) : Ok (listed d) := by
  induction h with
  | non => rw [listed]; exact .non
  | bool _ b => rw [listed]; exact .bool b
  | int _ i => rw [listed]; exact .int i
  | str _ z h => rw [listed]; exact .str z (by omega)
  | tuple _ l h _ ih =>
    rw [listed_tup]
    refine .list _ (by rw [List.length_map]; omega) fun d m => ?_
    obtain ⟨e, me, rfl⟩ := List.mem_map.mp m
    exact ih e me
/-- the listed value stands in H0' , all of which is new -/
def spListed (K : PySem.W.Frag) : Nat → Sp
  | 0 => fun _ _ _ _ => False
  | n + 1 => fun vs H Q _ => ∃ x d H0, vs = [x] ∧ Same H0 H ∧ Dp K H0 x d ∧ Sz 10000 n d ∧ ∀ x' H' H0', Same H H' → Same H0 H0' → Same H0' H' → (∀ b, H b ≠ none → H0 b = none → H0' b = none) → Dp K H0' x' (listed d) → Q x' H'
/-- a value of tuples alone, from itself or from the listed one -/
def spTupled (K : PySem.W.Frag) : Nat → Sp
  | 0 => fun _ _ _ _ => False
  | n + 1 => fun vs H Q _ => ∃ x d e, vs = [x] ∧ (e = d ∨ e = listed d) ∧ Dp K H x e ∧ Sz 10000 n d ∧ ∀ x' H', Same H H' → Dp K H' x' d → Q x' H'
section
variable {P : Program} {w : World} {K : PySem.W.Frag} {mg : Str → Option Value} {base : Heap} {S : Addr → Option Sp}
abbrev s__law_listed : Stmt := topS 81
theorem sc__law_listed : FnScope ["value", "one"] ["value"] (defScope s__law_listed) := ⟨rfl, rfl, rfl, by decide +kernel, rfl, by decide +kernel, by decide +kernel⟩
theorem ok__law_listed {f : Addr} {fd : FuncData} (F : Fun K "_law_listed" "_law_listed" s__law_listed f fd) (m_isinstance : mg "isinstance" = none) (m_tuple : mg "tuple" = none) (bF : Binds K fd ["value"] []) (gF : mg "_law_listed" = some (.ref f)) : ∀ n, FnOk P w K mg base CX0 (1 + n) f fd ["value"] (spListed K n)
  | 0 => ⟨fun _ _ _ _ h => h.elim, fun _ _ _ _ _ _ _ _ _ _ _ _ _ h => h.elim⟩
  | n + 1 => by
    have G := ok__law_listed F m_isinstance m_tuple bF gF n
    refine F.ok sc__law_listed (fun vs H Q E h => ?_) (fun cdv A outer s H vs Q E hr h => ?_)
    · obtain ⟨_, _, _, rfl, _⟩ := h
      rfl
    · obtain ⟨x, d, H0, rfl, s0, hx, hz, q⟩ := h
      refine ⟨_, (pss_cons (ps_if (pt_val (pe_callB call_isi (by rfl) m_isinstance (by decide +kernel) (pa_cons (pv 0) (pa_cons (pe_bltn (v := .ty "tuple") (by rfl) m_tuple (by decide +kernel) rfl) pa_nil)))) (pss_one (ps_ret (pe_lc (own := [("one", 1)]) rfl sc__law_listed.nd (pi_seq (pv 0)) (blkOk_by (N := ["value", "one"]) (sc := defScope s__law_listed) (by decide +kernel)) (fun _ _ _ _ _ => by exact (pg_name (i := 1) sc__law_listed.nd rfl (.inl rfl))) (fun _ _ _ _ _ => by exact pts_nil) (fun _ _ _ _ _ => by exact (pe_call G hr (by rfl) gF F.kp bF .nil pass0 (pa_cons (pv 1) pa_nil)))))) pss_nil)
  (pss_one (ps_ret (pv 0)))), ?_⟩
      refine seqA (ifA ?_)
      refine r_isi rfl (dp_keep s0 hx) (kb_tu d) ?_
      have idn : listed d = d → tRet (tVar 0) { nx := fun x H' => Q V.non H', rt := Q } (L2.start ["value", "one"] [x]) H := fun e => ⟨x, rfl, q x H H0 (Same.refl H) (Same.refl H0) s0 (fun _ _ h => h) (by rw [e]; exact hx)⟩
      cases hx with
      | @tup a xs ds hq hd =>
        refine iteT (retA (lc_seq (fun R r => ⟨.ref a, rfl, r⟩) (.inr (sqt_keep s0 hq)) (fun D i H' => ∃ H0' acc, Same H H' ∧ Same H0 H0' ∧ Same H0' H' ∧ (∀ b, H b ≠ none → H0 b = none → H0' b = none) ∧ H0' D = none ∧ H' D = some (.lst acc) ∧ DpAll K H0' acc ((ds.take i).map listed)) ?_ ?_ ?_ ?_))
        · intro D hD
          have h0 : H0 D = none := by
            cases e : H0 D with
            | none => rfl
            | some o => rw [s0 _ _ e] at hD; cases hD
          exact ⟨H0, [], same_upd hD, Same.refl _, s0.trans (same_upd hD), fun _ _ h => h, h0, upd_same, .nil⟩
        · rintro D i H' ⟨_, _, s, _⟩
          exact s
        · rintro D i y H1 hD hy ⟨H2, acc, s1, s2, s3, fr, hn, hacc, hdp⟩
          have hi : i < ds.length := by
            rw [← (dp_get hd).1]
            exact (List.getElem?_eq_some_iff.mp hy).1
          obtain ⟨y', hy1, hy2⟩ := (dp_get hd).2 i ds[i] (List.getElem?_eq_getElem hi)
          obtain rfl : y' = y := Option.some.inj (hy1.symm.trans hy)
          match n, hz, G with
          | m + 1, hz, G =>
          have hzi : Sz 10000 m ds[i] := by
            cases hz with
            | tuple _ _ _ t => exact t _ (List.getElem_mem hi)
          have hlen : ds.length ≤ 10000 := by
            cases hz with
            | tuple _ _ h _ => exact h
          refine ⟨rfl, ?_⟩
          unfold tYes
          dsimp only
          rw [if_pos rfl]
          refine ⟨y', rfl, y', ds[i], H2, rfl, s3, dp_keep s2 hy2, hzi, fun x' H3 H4 t1 t2 t3 fr2 hx' => ?_⟩
          have hn4 : H4 D = none := fr2 D (by rw [hacc]; exact nofun) hn
          refine ⟨acc, t1 _ _ hacc, ?_, H4, acc ++ [x'], same_mut (s1.trans t1) hD, s2.trans t2, same_mut t3 hn4, fun b h1 h2 => ?_, hn4, upd_same, ?_⟩
          · have := (dp_get hdp).1
            rw [List.length_map, List.length_take] at this
            exact Nat.lt_of_le_of_lt (by omega : acc.length ≤ 10000) (by decide)
          · refine fr2 b ?_ (fr b h1 h2)
            cases e : H b with
            | none => exact absurd e h1
            | some o => rw [s1 _ _ e]; exact nofun
          · rw [List.take_add_one, List.getElem?_eq_getElem hi, List.map_append]
            exact dps_app (dps_keep t2 hdp) (.cons hx' .nil)
        · rintro D H1 hD ⟨H2, acc, s1, s2, s3, fr, hn, hacc, hdp⟩
          rw [(dp_get hd).1, List.take_length] at hdp
          have s4 : Same H2 (upd H2 D (.lst acc)) := same_upd hn
          refine q (.ref D) H1 (upd H2 D (.lst acc)) s1 (s2.trans s4) (fun b o e => ?_) (fun b h1 h2 => ?_) ?_
          · by_cases k : b = D
            · rw [k, upd_same] at e; rw [k, hacc]; exact e
            · rw [upd_ne k] at e; exact s3 _ _ e
          · have k : b ≠ D := fun k => h1 (by rw [k]; exact hD)
            rw [upd_ne k]
            exact fr b h1 h2
          · rw [listed_tup]
            exact .lst (SqL.of upd_same) (dps_keep s4 hdp)
      | non => exact iteF (idn rfl)
      | bl b => exact iteF (idn rfl)
      | int i => exact iteF (idn rfl)
      | str z => exact iteF (idn rfl)
      | lst h1 h2 => cases hz
end
end Cw

set_option Elab.async false
set_option linter.all false
set_option maxRecDepth 100000
set_option maxHeartbeats 4000000
namespace Cw
open PySem PySem.Spec PyProof.Rows L2
def isLi : PyData → Bool | .list _ => true | _ => false
theorem kb_li (d : PyData) : kitB (tyName d) "list" = some (isLi d) := match d with
  | .none => rfl
  | .bool _ => rfl
  | .int _ => rfl
  | .str _ => rfl
  | .list _ => rfl
  | .tuple _ => rfl
  | .dict _ => rfl
theorem r_isi2 {K : PySem.W.Frag} {te : TE} {x : V} {d : PyData} {n : String} {b : Bool} {σ : L2.St} {H : Hp} {Q : Bool → Hp → Prop} (e : ∀ R : V → Hp → Prop, R x H → te σ H R) (h : Dp K H x d) (kb : kitB (tyName d) n = some b) (q : Q b H) : tB (tCB (rIsi K) (tCons te (tCons (tC (V.ty n)) tNil))) σ H Q := by
  exact e _ ⟨x, .ty n, .type (tyName d), .type n, b, rfl, .ty n, ty_dp h, kit_ty kb, b, rfl, q⟩
theorem nt_lst {D : Addr} {H : Hp} {acc : List V} (h : H D = some (.lst acc)) : NoTup [D] H := fun b m xs e => by
  rcases List.mem_singleton.mp m with rfl
  rcases e with e | ⟨o, e⟩ <;> · rw [h] at e; cases e
theorem dps_set {K : PySem.W.Frag} {H : Hp} {D : Addr} {acc : List V} {o : HO} {xs : List V} {ds : List PyData} (h : H D = some (.lst acc)) (ho : ∀ d, d ∈ ds → OnT d) (hd : DpAll K H xs ds) : DpAll K (upd H D o) xs ds :=
  dps_fr ((Fr.refl H).set (List.mem_singleton.mpr rfl)) (nt_lst h) ho hd
theorem flat_of {d e : PyData} (o : OnT d) (he : e = d ∨ e = listed d) (h : (isLi e || isTu e) = false) : e = d := by
  rcases he with rfl | rfl
  · rfl
  · cases o with
    | tuple l t => rw [listed_tup] at h; cases h
    | _ => rw [listed]
theorem seqd_of {K : PySem.W.Frag} {H : Hp} {x : V} {d e : PyData} (o : OnT d) (he : e = d ∨ e = listed d) (hx : Dp K H x e) (h : (isLi e || isTu e) = true) : ∃ a xs ds es, x = .ref a ∧ d = .tuple ds ∧ (es = ds ∨ es = ds.map listed) ∧ SqA K H a xs ∧ DpAll K H xs es := by
  cases o with
  | tuple l t =>
    rcases he with rfl | rfl
    · cases hx with
      | tup hq hd => exact ⟨_, _, l, l, rfl, rfl, .inl rfl, .inr hq, hd⟩
    · rw [listed_tup] at hx
      cases hx with
      | lst hq hd => exact ⟨_, _, l, _, rfl, rfl, .inr rfl, .inl hq, hd⟩
  | non => rcases he with rfl | rfl <;> (try rw [listed] at h) <;> cases h
  | bool b => rcases he with rfl | rfl <;> (try rw [listed] at h) <;> cases h
  | int i => rcases he with rfl | rfl <;> (try rw [listed] at h) <;> cases h
  | str z => rcases he with rfl | rfl <;> (try rw [listed] at h) <;> cases h
/-- a value as it is, or listed -/
def spHanded (K : PySem.W.Frag) : Sp := fun vs H Q _ => ∃ (r sp : Addr) (x : V) (d : PyData), vs = [.ref r, .ref sp, x] ∧ Sta r sp H ∧ Dp K H x d ∧ Sz 10000 40 d ∧ ∀ x' e H', (e = d ∨ e = listed d) → Sta r sp H' → Fr [sp] H H' → Dp K H' x' e → Q x' H'
section
variable {P : Program} {w : World} {K : PySem.W.Frag} {mg : Str → Option Value} {base : Heap} {S : Addr → Option Sp}
abbrev s__law_handed : Stmt := topS 82
theorem sc__law_handed : FnScope ["row", "spot", "value"] ["row", "spot", "value"] (defScope s__law_handed) := ⟨rfl, rfl, rfl, by decide +kernel, rfl, by decide +kernel, by decide +kernel⟩
theorem ok__law_handed {f : Addr} {fd : FuncData} (F : Fun K "_law_handed" "_law_handed" s__law_handed f fd) {f__law_take : Addr} {d__law_take : FuncData} (h__law_take : Hd K mg "_law_take" s__law_take ["row", "spot", "limit"] f__law_take d__law_take) (G__law_take : FnOk P w K mg base CX0 2 f__law_take d__law_take ["row", "spot", "limit"] (spTk K)) {f__law_listed : Addr} {d__law_listed : FuncData} (h__law_listed : Hd K mg "_law_listed" s__law_listed ["value"] f__law_listed d__law_listed) (G__law_listed : FnOk P w K mg base CX0 42 f__law_listed d__law_listed ["value"] (spListed K 41)) : FnOk P w K mg base CX0 43 f fd ["row", "spot", "value"] (spHanded K) := by
  refine F.ok sc__law_handed (fun vs H Q E h => ?_) (fun cdv A outer s H vs Q E hr h => ?_)
  · obtain ⟨_, _, _, _, rfl, _⟩ := h
    rfl
  · obtain ⟨r, sp, x, d, rfl, st, hx, hz, q⟩ := h
    refine ⟨_, (pss_one (ps_ret (pe_ifExp (pt_cmpR op_eq (pe_call G__law_take (hr.mono (by decide)) (by rfl) h__law_take.g h__law_take.F.kp h__law_take.b .nil pass0 (pa_cons (pv 0) (pa_cons (pv 1) (pa_cons pe_int pa_nil)))) pe_int (nomark _)) (pe_call G__law_listed (hr.mono (by decide)) (by rfl) h__law_listed.g h__law_listed.F.kp h__law_listed.b .nil pass0 (pa_cons (pv 2) pa_nil)) (pv 2)))), ?_⟩
    refine retA ⟨.ref r, rfl, .ref sp, rfl, r, sp, 2, rfl, st, by decide, fun t H1 t0 t1 st1 f1 => ⟨rfl, _, rfl, ite2 (fun _ => ?_) (fun _ => ?_)⟩⟩
    · exact ⟨x, rfl, x, d, H1, rfl, Same.refl H1, dp_fr f1 st.nt (sz_ont hz) hx, hz, fun x' H2 H3 s1 s2 s3 _ hx' => q x' (listed d) H2 (.inr rfl) (st1.same s1) (f1.trans (Fr.of s1)) (dp_keep s3 hx')⟩
    · exact ⟨x, rfl, q x d H1 (.inl rfl) st1 f1 (dp_fr f1 st.nt (sz_ont hz) hx)⟩
end
end Cw

set_option Elab.async false
set_option linter.all false
set_option maxRecDepth 100000
set_option maxHeartbeats 4000000
namespace Cw
open PySem PySem.Spec PyProof.Rows L2
theorem eqi_q {i : Nat} {k j : Int} {σ : L2.St} {H : Hp} {Q : Bool → Hp → Prop} (e : σ[i]? = some (some (.int k))) (q : Q (decide (k = j)) H) : tTest (tOp rEq (tVar i) (tC (.int j))) σ H Q := by
  have h : decide (V.int k = V.int j) = decide (k = j) := decide_eq_decide.mpr ⟨fun h => V.int.inj h, fun h => by rw [h]⟩
  refine ⟨.int k, e, rfl, _, rfl, ?_⟩
  rw [h]
  exact q
theorem shape_leaf {n : Nat} {z : Str} {r : List PyData} (h : z = "int" ∨ z = "name" ∨ z = "next") : shapeE (n + 1) (.tuple (.str z :: r)) := by
  rcases h with rfl | rfl | rfl
  · exact ⟨⟨fun e => absurd e (by decide), fun e => absurd e (by decide), fun e => absurd e (by decide)⟩, fun d m => nomatch (show d ∈ ([] : List PyData) from m)⟩
  · exact ⟨⟨fun e => absurd e (by decide), fun e => absurd e (by decide), fun e => absurd e (by decide)⟩, fun d m => nomatch (show d ∈ ([] : List PyData) from m)⟩
  · exact ⟨⟨fun e => absurd e (by decide), fun e => absurd e (by decide), fun e => absurd e (by decide)⟩, fun d m => nomatch (show d ∈ ([] : List PyData) from m)⟩
theorem shape_nc {n : Nat} {z : Str} {y : PyData} {l : List PyData} (h : z = "new" ∨ z = "call") (t : ∀ d, d ∈ l → shapeE n d) : shapeE (n + 1) (.tuple [.str z, y, .tuple l]) := by
  rcases h with rfl | rfl
  · exact ⟨⟨fun e => ⟨_, _, rfl⟩, fun e => absurd e (by decide), fun e => absurd e (by decide)⟩, fun d m => t d m⟩
  · exact ⟨⟨fun e => ⟨_, _, rfl⟩, fun e => absurd e (by decide), fun e => absurd e (by decide)⟩, fun d m => t d m⟩
theorem shape_field {n : Nat} {a y v : PyData} (t : shapeE n a) : shapeE (n + 1) (.tuple [.str "field", a, y, v]) :=
  ⟨⟨fun e => absurd e (by decide), fun _ => rfl, fun e => absurd e (by decide)⟩, fun d m => by
    rcases List.mem_singleton.mp (show d ∈ [a] from m) with rfl
    exact t⟩
theorem shape_let {n : Nat} {a b y : PyData} (t : shapeE n a) (u : shapeE n b) : shapeE (n + 1) (.tuple [.str "let", y, a, b]) :=
  ⟨⟨fun e => absurd e (by decide), fun e => absurd e (by decide), fun _ => rfl⟩, fun d m => by
    rcases List.mem_cons.mp (show d ∈ [a, b] from m) with rfl | m
    · exact t
    rcases List.mem_singleton.mp m with rfl
    exact u⟩
theorem shape_if {n : Nat} {a b c : PyData} (t : shapeE n a) (u : shapeE n b) (v : shapeE n c) : shapeE (n + 1) (.tuple [.str "if", a, b, c]) :=
  ⟨⟨fun e => absurd e (by decide), fun e => absurd e (by decide), fun e => absurd e (by decide)⟩, fun d m => by
    rcases List.mem_cons.mp (show d ∈ [a, b, c] from m) with rfl | m
    · exact t
    rcases List.mem_cons.mp m with rfl | m
    · exact u
    rcases List.mem_singleton.mp m with rfl
    exact v⟩
theorem shape_sign {n : Nat} {z : Str} {a b : PyData} (h : z = "add" ∨ z = "sub" ∨ z = "mul") (t : shapeE n a) (u : shapeE n b) : shapeE (n + 1) (.tuple [.str z, a, b]) := by
  have key : ∀ d, d ∈ [a, b] → shapeE n d := fun d m => by
    rcases List.mem_cons.mp m with rfl | m
    · exact t
    rcases List.mem_singleton.mp m with rfl
    exact u
  rcases h with rfl | rfl | rfl
  · exact ⟨⟨fun e => absurd e (by decide), fun e => absurd e (by decide), fun e => absurd e (by decide)⟩, fun d m => key d m⟩
  · exact ⟨⟨fun e => absurd e (by decide), fun e => absurd e (by decide), fun e => absurd e (by decide)⟩, fun d m => key d m⟩
  · exact ⟨⟨fun e => absurd e (by decide), fun e => absurd e (by decide), fun e => absurd e (by decide)⟩, fun d m => key d m⟩
theorem szs {k n : Nat} {l : List PyData} (t : ∀ d, d ∈ l → Sz k n d) (h : l.length ≤ k) : Sz k (n + 1) (.tuple l) := .tuple n l h t
theorem mem2 {P : PyData → Prop} {a b : PyData} (ha : P a) (hb : P b) : ∀ d, d ∈ [a, b] → P d := fun d m => by
  rcases List.mem_cons.mp m with rfl | m
  · exact ha
  rcases List.mem_singleton.mp m with rfl
  exact hb
theorem mem3 {P : PyData → Prop} {a b c : PyData} (ha : P a) (hb : P b) (hc : P c) : ∀ d, d ∈ [a, b, c] → P d := fun d m => by
  rcases List.mem_cons.mp m with rfl | m
  · exact ha
  · exact mem2 hb hc d m
theorem mem4 {P : PyData → Prop} {a b c e : PyData} (ha : P a) (hb : P b) (hc : P c) (he : P e) : ∀ d, d ∈ [a, b, c, e] → P d := fun d m => by
  rcases List.mem_cons.mp m with rfl | m
  · exact ha
  · exact mem3 hb hc he d m
theorem mem5 {P : PyData → Prop} {a b c e f : PyData} (ha : P a) (hb : P b) (hc : P c) (he : P e) (hf : P f) : ∀ d, d ∈ [a, b, c, e, f] → P d := fun d m => by
  rcases List.mem_cons.mp m with rfl | m
  · exact ha
  · exact mem4 hb hc he hf d m
/-- a fresh tuple -/
theorem dp_new {K : PySem.W.Frag} {H : Hp} {p : Addr} {xs : List V} {ds : List PyData} (hp : H p = none) (h : DpAll K H xs ds) : Dp K (upd H p (.tup xs)) (.ref p) (.tuple ds) := .tup (.inl (.inl upd_same)) (dps_keep (same_upd hp) h)
theorem at3 {a b e c : Int} (h0 : 0 ≤ c) (h1 : c < 3) : ∃ w, atI [V.int a, V.int b, V.int e] c = some (.int w) := by
  obtain ⟨j, rfl⟩ := Int.eq_ofNat_of_zero_le h0
  match j, h1 with
  | 0, _ => exact ⟨_, atI_nat (j := 0) rfl⟩
  | 1, _ => exact ⟨_, atI_nat (j := 1) rfl⟩
  | 2, _ => exact ⟨_, atI_nat (j := 2) rfl⟩
/-- behind the making of the dict at u -/
def Inv (r sp u : Addr) (j : Nat) (H H1 : Hp) : Prop := H u = none ∧ Sta r sp H1 ∧ Fr [sp] H H1 ∧ ∃ kv, H1 u = some (.dK kv) ∧ kv.length ≤ j
theorem name_q {K : PySem.W.Frag} {σ : L2.St} {r sp u : Addr} {j : Nat} {H H1 : Hp} {Q : VK} (e0 : σ[0]? = some (some (.ref r))) (e1 : σ[1]? = some (some (.ref sp))) (e4 : σ[4]? = some (some (.ref u))) (hj : j ≤ 1000) (I : Inv r sp u j H H1)
    (q : ∀ z H2, z.length ≤ 100 → Inv r sp u (j + 1) H H2 → Fr [u, sp] H1 H2 → Q (.str z) H2) : tCall (spName K) [] E0 (tCons (tVar 0) (tCons (tVar 1) (tCons (tVar 4) tNil))) σ H1 Q := by
  obtain ⟨h0, st, f, kv, hk, hl⟩ := I
  exact ⟨.ref r, e0, .ref sp, e1, .ref u, e4, r, sp, u, kv, rfl, st, hk, by omega, fun z H2 kv' hz st2 f2 hk2 hl2 => q z H2 hz ⟨h0, st2, f.named h0 f2, kv', hk2, by omega⟩ f2⟩
theorem newn_q {K : PySem.W.Frag} {σ : L2.St} {r sp u : Addr} {j : Nat} {H H1 : Hp} {Q : VK} (e0 : σ[0]? = some (some (.ref r))) (e1 : σ[1]? = some (some (.ref sp))) (I : Inv r sp u j H H1)
    (q : ∀ z H2, z.length ≤ 100 → Inv r sp u j H H2 → Fr [sp] H1 H2 → Q (.str z) H2) : tCall (spName K) [] E0 (tCons (tVar 0) (tCons (tVar 1) (tCons tDNewK tNil))) σ H1 Q := by
  obtain ⟨h0, st, f, kv, hk, hl⟩ := I
  exact ⟨.ref r, e0, .ref sp, e1, fun p hp => ⟨r, sp, p, [], rfl, st.new hp, upd_same, Nat.le_of_ble_eq_true rfl, fun z H2 kv' hz st2 f2 hk2 hl2 => q z H2 hz ⟨h0, st2, f.trans (f2.new hp), kv, (f2.new hp).u hk (st.dk hk).2, hl⟩ (f2.new hp)⟩⟩
theorem take_q {K : PySem.W.Frag} {σ : L2.St} {r sp u : Addr} {j : Nat} {lim : Int} {H H1 : Hp} {Q : VK} (e0 : σ[0]? = some (some (.ref r))) (e1 : σ[1]? = some (some (.ref sp))) (hl : 0 < lim) (I : Inv r sp u j H H1)
    (q : ∀ (z : Int) H2, 0 ≤ z → z < lim → Inv r sp u j H H2 → Fr [sp] H1 H2 → Q (.int z) H2) : tCall (spTk K) [] E0 (tCons (tVar 0) (tCons (tVar 1) (tCons (tC (.int lim)) tNil))) σ H1 Q := by
  obtain ⟨h0, st, f, kv, hk, hkl⟩ := I
  exact ⟨.ref r, e0, .ref sp, e1, r, sp, lim, rfl, st, hl, fun z H2 z0 z1 st2 f2 => q z H2 z0 z1 ⟨h0, st2, f.trans f2, kv, f2.u hk (st.dk hk).2, hkl⟩ f2⟩
def spFx (K : PySem.W.Frag) : Nat → Sp
  | 0 => fun _ _ _ _ => False
  | n + 1 => fun vs H Q _ => ∃ (r sp : Addr), vs = [.ref r, .ref sp, .int (n : Int)] ∧ Sta r sp H ∧ ∀ x d H', Sta r sp H' → Fr [sp] H H' → Dp K H' x d → Sz 300 (2 * n + 1) d → shapeE (n + 1) d → Q x H'
theorem rec_q {K : PySem.W.Frag} {σ : L2.St} {r sp u : Addr} {j m : Nat} {H H1 : Hp} {Q : VK} (e0 : σ[0]? = some (some (.ref r))) (e1 : σ[1]? = some (some (.ref sp))) (e2 : σ[2]? = some (some (.int ((m + 1 : Nat) : Int)))) (I : Inv r sp u j H H1)
    (q : ∀ x d H2, Inv r sp u j H H2 → Fr [sp] H1 H2 → Dp K H2 x d → Sz 300 (2 * m + 1) d → shapeE (m + 1) d → Q x H2) : tCall (spFx K (m + 1)) [] E0 (tCons (tVar 0) (tCons (tVar 1) (tCons (tOp (rI0 fun i j => V.int (i - j)) (tVar 2) (tC (V.int 1))) tNil))) σ H1 Q := by
  obtain ⟨h0, st, f, kv, hk, hkl⟩ := I
  refine ⟨.ref r, e0, .ref sp, e1, .int ((m + 1 : Nat) : Int), e2, _, 1, rfl, rfl, r, sp, ?_, st, fun x d H2 st2 f2 hx hz hs => q x d H2 ⟨h0, st2, f.trans f2, kv, f2.u hk (st.dk hk).2, hkl⟩ f2 hx hz hs⟩
  show [V.ref r, V.ref sp, V.int (((m + 1 : Nat) : Int) - 1)] = [V.ref r, V.ref sp, V.int (m : Int)]
  rw [show ((m + 1 : Nat) : Int) - 1 = (m : Int) by omega]
theorem Inv.dp {K : PySem.W.Frag} {r sp u : Addr} {j : Nat} {H H1 H2 : Hp} {x : V} {d : PyData} (I : Inv r sp u j H H1) (f : Fr [sp] H1 H2) (o : OnT d) (h : Dp K H1 x d) : Dp K H2 x d := dp_fr f I.2.1.nt o h
theorem Inv.dp2 {K : PySem.W.Frag} {r sp u : Addr} {j : Nat} {H H1 H2 : Hp} {x : V} {d : PyData} (I : Inv r sp u j H H1) (f : Fr [u, sp] H1 H2) (o : OnT d) (h : Dp K H1 x d) : Dp K H2 x d := by
  obtain ⟨_, st, _, kv, hk, _⟩ := I
  exact dp_fr f (st.nt2 hk) o h
theorem Inv.fin {r sp u : Addr} {j : Nat} {H H1 : Hp} (I : Inv r sp u j H H1) {p : Addr} {o : HO} (hp : H1 p = none) : Sta r sp (upd H1 p o) ∧ Fr [sp] H (upd H1 p o) := ⟨I.2.1.new hp, I.2.2.1.trans (Fr.of (same_upd hp))⟩
theorem Inv.step {r sp u : Addr} {j : Nat} {H H1 H2 : Hp} (I : Inv r sp u j H H1) (st : Sta r sp H2) (f : Fr [sp] H1 H2) : Inv r sp u j H H2 := by
  obtain ⟨h0, st1, f1, kv, hk, hl⟩ := I
  exact ⟨h0, st, f1.trans f, kv, f.u hk (st1.dk hk).2, hl⟩
/-- a row of drawn data -/
theorem lc_data {K : PySem.W.Frag} {r sp : Addr} {wi : TI} {te : TE} {σ : L2.St} {H0 : Hp} {Q : VK} {i lo nb : Nat} (kd : PyData → Prop) (ko : ∀ d, kd d → OnT d) (hnb : nb ≤ 1000) (st0 : Sta r sp H0)
    (hw : ∀ R : It → Hp → Prop, (∀ n H1, lo ≤ n → n ≤ nb → Sta r sp H1 → Fr [sp] H0 H1 → R (Itr 0 n) H1) → wi σ H0 R)
    (hw2 : ∀ x, wipe ((wipe σ [i]).set i (some x)) [i] = wipe σ [i])
    (hs : ∀ x H1 (R : V → Hp → Prop), Sta r sp H1 → Fr [sp] H0 H1 → (∀ y d H2, Sta r sp H2 → Fr [sp] H1 H2 → Dp K H2 y d → kd d → R y H2) → te ((wipe σ [i]).set i (some x)) H1 R)
    (q : ∀ D acc ds H2, Sta r sp H2 → Fr [sp] H0 H2 → H2 D = some (.lst acc) → H0 D = none → DpAll K H2 acc ds → lo ≤ ds.length → ds.length ≤ nb → (∀ d, d ∈ ds → kd d) → Q (.ref D) H2) : tLc wi (gName i) tYes te [i] σ H0 Q := by
  refine hw _ fun n H1 hlo hn st1 f1 => fun D hD => ?_
  have hD0 : H0 D = none := by
    cases e : H0 D with
    | none => rfl
    | some o =>
      by_cases h : D = sp
      · exact absurd h (st1.sp_ne hD)
      · rw [f1 D o (fun m => h (List.mem_singleton.mp m)) e] at hD
        cases hD
  have dsp := st1.sp_ne hD
  have dr : D ≠ r := fun e => by
    obtain ⟨_, ⟨row, _, h⟩, _⟩ := st1
    rw [← e, hD] at h
    cases h
  refine lc_range (fun j H' => Sta r sp H' ∧ Fr [sp] H1 H' ∧ ∃ acc ds, H' D = some (.lst acc) ∧ DpAll K H' acc ds ∧ ds.length = j ∧ ∀ d, d ∈ ds → kd d) ⟨st1.new hD, Fr.of (same_upd hD), [], [], upd_same, .nil, rfl, fun _ m => nomatch m⟩ ?_ ?_
  · rintro j H2 hj ⟨st2, f2, acc, ds, hacc, hdp, hl, hk⟩
    refine ⟨hw2 _, ?_⟩
    unfold tYes
    dsimp only
    rw [if_pos rfl]
    refine hs _ H2 _ st2 (f1.trans f2) fun y d H3 st3 f3 hy hd => ?_
    have ha : H3 D = some (.lst acc) := f3 D _ (fun m => dsp (List.mem_singleton.mp m)) hacc
    have hdp3 : DpAll K H3 acc ds := dps_fr f3 st2.nt (fun d m => ko d (hk d m)) hdp
    refine ⟨acc, ha, ?_, st3.set dr dsp, (f2.trans f3).upd hD, acc ++ [y], ds ++ [d], upd_same, ?_, ?_, ?_⟩
    · rw [(dp_get hdp).1, hl]
      exact Nat.lt_of_lt_of_le (by omega : j < 1001) (by decide)
    · refine dps_set ha (fun e m => ?_) (dps_app hdp3 (.cons hy .nil))
      rcases List.mem_append.mp m with m | m
      · exact ko e (hk e m)
      · rcases List.mem_singleton.mp m with rfl
        exact ko _ hd
    · rw [List.length_append, hl]; rfl
    · intro e m
      rcases List.mem_append.mp m with m | m
      · exact hk e m
      · rcases List.mem_singleton.mp m with rfl
        exact hd
  · rintro H2 ⟨st2, f2, acc, ds, hacc, hdp, hl, hk⟩
    exact q D acc ds H2 st2 (f1.trans f2) hacc hD0 hdp (by omega) (by omega) hk
section
variable {P : Program} {w : World} {K : PySem.W.Frag} {mg : Str → Option Value} {base : Heap} {S : Addr → Option Sp}
abbrev s__law_free_expr : Stmt := topS 95
theorem sc__law_free_expr : FnScope ["row", "spot", "deep", "kind", "held", "many", "named", "parts", "one", "other", "k"] ["row", "spot", "deep"] (defScope s__law_free_expr) := ⟨rfl, rfl, rfl, by decide +kernel, rfl, by decide +kernel, by decide +kernel⟩
theorem ok__law_free_expr {f : Addr} {fd : FuncData} (F : Fun K "_law_free_expr" "_law_free_expr" s__law_free_expr f fd) {f__law_take : Addr} {d__law_take : FuncData} (h__law_take : Hd K mg "_law_take" s__law_take ["row", "spot", "limit"] f__law_take d__law_take) (G__law_take : FnOk P w K mg base CX0 2 f__law_take d__law_take ["row", "spot", "limit"] (spTk K)) {f__law_wide : Addr} {d__law_wide : FuncData} (h__law_wide : Hd K mg "_law_wide" s__law_wide ["row", "spot", "limit"] f__law_wide d__law_wide) (G__law_wide : FnOk P w K mg base CX0 3 f__law_wide d__law_wide ["row", "spot", "limit"] (spTk K)) {f__law_name : Addr} {d__law_name : FuncData} (h__law_name : Hd K mg "_law_name" s__law_name ["row", "spot", "used"] f__law_name d__law_name) (G__law_name : FnOk P w K mg base CX0 4 f__law_name d__law_name ["row", "spot", "used"] (spName K)) {f__law_word : Addr} {d__law_word : FuncData} (h__law_word : Hd K mg "_law_word" s__law_word ["row", "spot", "used"] f__law_word d__law_word) (G__law_word : FnOk P w K mg base CX0 4 f__law_word d__law_word ["row", "spot", "used"] (spName K)) (m_range : mg "range" = none) (m_max : mg "max" = none) (m_tuple : mg "tuple" = none) (bF : Binds K fd ["row", "spot", "deep"] []) (gF : mg "_law_free_expr" = some (.ref f)) : ∀ n, FnOk P w K mg base CX0 (6 + n) f fd ["row", "spot", "deep"] (spFx K n)
  | 0 => ⟨fun _ _ _ _ h => h.elim, fun _ _ _ _ _ _ _ _ _ _ _ _ _ h => h.elim⟩
  | n + 1 => by
    have G := ok__law_free_expr F h__law_take G__law_take h__law_wide G__law_wide h__law_name G__law_name h__law_word G__law_word m_range m_max m_tuple bF gF n
    refine F.ok sc__law_free_expr (fun vs H Q E h => ?_) (fun cdv A outer s H vs Q E hr h => ?_)
    · obtain ⟨_, _, rfl, _⟩ := h
      rfl
    · obtain ⟨r, sp, rfl, st, q⟩ := h
      have zl : ∀ {x : Nat}, x ≤ 1000 → x ≤ sizeLine := fun h => Nat.le_trans h (by decide)
      refine ⟨_, (pss_cons (ps_set (i := 3) sc__law_free_expr.nd rfl (.inl rfl) (pe_ifExp (pt_cmpR op_gt (pv 2) pe_int (nomark _)) (pe_call G__law_take (hr.mono (Nat.le_trans (by decide) (Nat.le_add_right 6 n))) (by rfl) h__law_take.g h__law_take.F.kp h__law_take.b .nil pass0 (pa_cons (pv 0) (pa_cons (pv 1) (pa_cons pe_int pa_nil)))) (pe_call G__law_take (hr.mono (Nat.le_trans (by decide) (Nat.le_add_right 6 n))) (by rfl) h__law_take.g h__law_take.F.kp h__law_take.b .nil pass0 (pa_cons (pv 0) (pa_cons (pv 1) (pa_cons pe_int pa_nil))))))
  (pss_cons (ps_set (i := 4) sc__law_free_expr.nd rfl (.inl rfl) pe_dnewK)
  (pss_cons (ps_if (pt_cmpR op_eq (pv 3) pe_int (nomark _)) (pss_one (ps_ret (pe_tup (pa_cons pe_str (pa_cons (pe_ix ix_list (pe_lst (pa_cons (pe_call G__law_take (hr.mono (Nat.le_trans (by decide) (Nat.le_add_right 6 n))) (by rfl) h__law_take.g h__law_take.F.kp h__law_take.b .nil pass0 (pa_cons (pv 0) (pa_cons (pv 1) (pa_cons pe_int pa_nil)))) (pa_cons (pe_call G__law_wide (hr.mono (Nat.le_trans (by decide) (Nat.le_add_right 6 n))) (by rfl) h__law_wide.g h__law_wide.F.kp h__law_wide.b .nil pass0 (pa_cons (pv 0) (pa_cons (pv 1) (pa_cons pe_int pa_nil)))) (pa_cons pe_int pa_nil)))) (pe_call G__law_take (hr.mono (Nat.le_trans (by decide) (Nat.le_add_right 6 n))) (by rfl) h__law_take.g h__law_take.F.kp h__law_take.b .nil pass0 (pa_cons (pv 0) (pa_cons (pv 1) (pa_cons pe_int pa_nil)))) (fun _ _ => rfl)) pa_nil))))) pss_nil)
  (pss_cons (ps_if (pt_cmpR op_eq (pv 3) pe_int (nomark _)) (pss_one (ps_ret (pe_tup (pa_cons pe_str (pa_cons (pe_call G__law_name (hr.mono (Nat.le_trans (by decide) (Nat.le_add_right 6 n))) (by rfl) h__law_name.g h__law_name.F.kp h__law_name.b .nil pass0 (pa_cons (pv 0) (pa_cons (pv 1) (pa_cons (pv 4) pa_nil)))) pa_nil))))) pss_nil)
  (pss_cons (ps_if (pt_cmpR op_eq (pv 3) pe_int (nomark _)) (pss_one (ps_ret (pe_tup (pa_cons pe_str pa_nil)))) pss_nil)
  (pss_cons (ps_set (i := 5) sc__law_free_expr.nd rfl (.inl rfl) (pe_call G__law_take (hr.mono (Nat.le_trans (by decide) (Nat.le_add_right 6 n))) (by rfl) h__law_take.g h__law_take.F.kp h__law_take.b .nil pass0 (pa_cons (pv 0) (pa_cons (pv 1) (pa_cons pe_int pa_nil)))))
  (pss_cons (ps_if (PW.pt (pw_or (pt_cmpR op_eq (pv 3) pe_int (nomark _)) (pw_or1 (pt_cmpR op_eq (pv 3) pe_int (nomark _))))) (pss_cons (ps_set (i := 6) sc__law_free_expr.nd rfl (.inl rfl) (pe_op op_add_str (pe_op op_add_str (pe_call G__law_name (hr.mono (Nat.le_trans (by decide) (Nat.le_add_right 6 n))) (by rfl) h__law_name.g h__law_name.F.kp h__law_name.b .nil pass0 (pa_cons (pv 0) (pa_cons (pv 1) (pa_cons (pv 4) pa_nil)))) pe_str) (pe_ifExp (pt_cmpR op_eq (pv 3) pe_int (nomark _)) (pe_call G__law_word (hr.mono (Nat.le_trans (by decide) (Nat.le_add_right 6 n))) (by rfl) h__law_word.g h__law_word.F.kp h__law_word.b .nil pass0 (pa_cons (pv 0) (pa_cons (pv 1) (pa_cons pe_dnewK pa_nil)))) (pe_call G__law_name (hr.mono (Nat.le_trans (by decide) (Nat.le_add_right 6 n))) (by rfl) h__law_name.g h__law_name.F.kp h__law_name.b .nil pass0 (pa_cons (pv 0) (pa_cons (pv 1) (pa_cons (pv 4) pa_nil)))))))
  (pss_cons (ps_setLc (i := 7) (own := [("k", 10)]) rfl sc__law_free_expr.nd rfl rfl rfl (pi_range1 rfl m_range (pa_cons (pe_ifExp (pt_cmpR op_eq (pv 3) pe_int (nomark _)) (pv 5) (pe_callB (call_max2 rfl) (by rfl) m_max (by decide +kernel) (pa_cons pe_int (pa_cons (pv 5) pa_nil)))) pa_nil)) (blkOk_by (N := ["row", "spot", "deep", "kind", "held", "many", "named", "parts", "one", "other", "k"]) (sc := defScope s__law_free_expr) (by decide +kernel)) (fun _ _ _ _ _ => by exact (pg_name (i := 10) sc__law_free_expr.nd rfl (.inl rfl))) (fun _ _ _ _ _ => by exact pts_nil) (fun _ _ _ _ _ => by exact (pe_call G hr (by rfl) gF F.kp bF .nil pass0 (pa_cons (pv 0) (pa_cons (pv 1) (pa_cons (pe_op op_sub (pv 2) pe_int) pa_nil))))))
  (pss_one (ps_ret (pe_tup (pa_cons (pe_ifExp (pt_cmpR op_eq (pv 3) pe_int (nomark _)) pe_str pe_str) (pa_cons (pv 6) (pa_cons (pe_callTy call_tuple_of (by rfl) m_tuple (by decide +kernel) (pa_cons (pv 7) pa_nil)) pa_nil)))))))) pss_nil)
  (pss_cons (ps_set (i := 8) sc__law_free_expr.nd rfl (.inl rfl) (pe_call G hr (by rfl) gF F.kp bF .nil pass0 (pa_cons (pv 0) (pa_cons (pv 1) (pa_cons (pe_op op_sub (pv 2) pe_int) pa_nil)))))
  (pss_cons (ps_if (pt_cmpR op_eq (pv 3) pe_int (nomark _)) (pss_one (ps_ret (pe_tup (pa_cons pe_str (pa_cons (pv 8) (pa_cons (pe_op op_add_str (pe_op op_add_str (pe_call G__law_name (hr.mono (Nat.le_trans (by decide) (Nat.le_add_right 6 n))) (by rfl) h__law_name.g h__law_name.F.kp h__law_name.b .nil pass0 (pa_cons (pv 0) (pa_cons (pv 1) (pa_cons (pv 4) pa_nil)))) pe_str) (pe_call G__law_word (hr.mono (Nat.le_trans (by decide) (Nat.le_add_right 6 n))) (by rfl) h__law_word.g h__law_word.F.kp h__law_word.b .nil pass0 (pa_cons (pv 0) (pa_cons (pv 1) (pa_cons pe_dnewK pa_nil))))) (pa_cons (pe_call G__law_name (hr.mono (Nat.le_trans (by decide) (Nat.le_add_right 6 n))) (by rfl) h__law_name.g h__law_name.F.kp h__law_name.b .nil pass0 (pa_cons (pv 0) (pa_cons (pv 1) (pa_cons (pv 4) pa_nil)))) pa_nil))))))) pss_nil)
  (pss_cons (ps_set (i := 9) sc__law_free_expr.nd rfl (.inl rfl) (pe_call G hr (by rfl) gF F.kp bF .nil pass0 (pa_cons (pv 0) (pa_cons (pv 1) (pa_cons (pe_op op_sub (pv 2) pe_int) pa_nil)))))
  (pss_cons (ps_if (pt_cmpR op_eq (pv 3) pe_int (nomark _)) (pss_one (ps_ret (pe_tup (pa_cons pe_str (pa_cons (pe_call G__law_name (hr.mono (Nat.le_trans (by decide) (Nat.le_add_right 6 n))) (by rfl) h__law_name.g h__law_name.F.kp h__law_name.b .nil pass0 (pa_cons (pv 0) (pa_cons (pv 1) (pa_cons (pv 4) pa_nil)))) (pa_cons (pv 8) (pa_cons (pv 9) pa_nil))))))) pss_nil)
  (pss_cons (ps_if (pt_cmpR op_eq (pv 3) pe_int (nomark _)) (pss_one (ps_ret (pe_tup (pa_cons pe_str (pa_cons (pv 8) (pa_cons (pv 9) (pa_cons (pe_call G hr (by rfl) gF F.kp bF .nil pass0 (pa_cons (pv 0) (pa_cons (pv 1) (pa_cons (pe_op op_sub (pv 2) pe_int) pa_nil)))) pa_nil))))))) pss_nil)
  (pss_one (ps_ret (pe_tup (pa_cons (pe_ix ix_list (pe_lst (pa_cons pe_str (pa_cons pe_str (pa_cons pe_str pa_nil)))) (pe_op op_sub (pv 3) pe_int) (fun _ _ => rfl)) (pa_cons (pv 8) (pa_cons (pv 9) pa_nil)))))))))))))))))), ?_⟩
      refine seq_merge (fun σ' H' => (∃ k : Int, 0 ≤ k ∧ k < 11 ∧ (n = 0 → k < 3) ∧ σ' = [some (.ref r), some (.ref sp), some (.int n), some (.int k), none, none, none, none, none, none, none]) ∧ Sta r sp H' ∧ Fr [sp] H H') ?_ (fun kont => ?_)
      rotate_left
      · refine asgA ⟨.int n, rfl, n, 0, rfl, rfl, _, rfl, ite2 (fun e => ?_) (fun e => ?_)⟩
        · have e := of_decide_eq_true e
          exact ⟨.ref r, rfl, .ref sp, rfl, r, sp, 11, rfl, st, by decide, fun t H1 t0 t1 st1 f1 => nameA (kont _ _ ⟨⟨t, t0, t1, fun h => by omega, rfl⟩, st1, f1⟩)⟩
        · exact ⟨.ref r, rfl, .ref sp, rfl, r, sp, 3, rfl, st, by decide, fun t H1 t0 t1 st1 f1 => nameA (kont _ _ ⟨⟨t, t0, by omega, fun _ => t1, rfl⟩, st1, f1⟩)⟩
      rintro σ' H1 ⟨⟨k, k0, k1, k2, rfl⟩, st1, f1⟩
      refine seqA (asgA fun u hu => nameA ?_)
      dsimp only
      have hu0 : H u = none := by
        cases e : H u with
        | none => rfl
        | some o =>
          by_cases h : u = sp
          · exact absurd h (st1.sp_ne hu)
          · rw [f1 u o (fun m => h (List.mem_singleton.mp m)) e] at hu
            cases hu
      have I2 : Inv r sp u 0 H (upd H1 u (.dK [])) := ⟨hu0, st1.new hu, f1.upd hu0, [], upd_same, Nat.le_refl _⟩
      generalize upd H1 u (.dK []) = H2 at I2 ⊢
      refine seqA (ifA (eqi_q rfl (ite2 (fun e => retA ?_) (fun e0 => nextA ?_))))
      · refine take_q rfl rfl (by decide) I2 fun a H3 _ _ I3 f3 => ?_
        refine ⟨.ref r, rfl, .ref sp, rfl, r, sp, 65536, rfl, I3.2.1, by decide, fun b H4 _ _ st4 f4 => ?_⟩
        refine ⟨zl (Nat.le_of_ble_eq_true rfl), fun p hp => ⟨.ref r, rfl, .ref sp, rfl, r, sp, 3, rfl, st4.new hp, by decide, fun c H5 c0 c1 st5 f5 => ?_⟩⟩
        obtain ⟨wv, hw⟩ := at3 (a := a) (b := b) (e := 65535) c0 c1
        have pk : H5 p = some (.lst [.int a, .int b, .int 65535]) := f5 p _ (fun m => st4.sp_ne hp (List.mem_singleton.mp m)) upd_same
        refine ⟨p, _, c, _, rfl, rfl, SqL.of pk, hw, zl (Nat.le_of_ble_eq_true rfl), fun p2 hp2 => ?_⟩
        exact q _ (.tuple [.str "int", .int wv]) _ (st5.new hp2) ((I3.2.2.1.trans (f4.trans ((Fr.of (same_upd hp)).trans f5))).trans (Fr.of (same_upd hp2))) (dp_new hp2 (.cons (.str _) (.cons (.int _) .nil))) (szs (mem2 (.str _ _ (Nat.le_of_ble_eq_true rfl)) (.int _ _)) (Nat.le_of_ble_eq_true rfl)) (shape_leaf (.inl rfl))
      dsimp only
      refine seqA (ifA (eqi_q rfl (ite2 (fun e => retA ?_) (fun e1 => nextA ?_))))
      · refine name_q rfl rfl rfl (by decide) I2 fun z H3 hz I3 _ => ⟨zl (Nat.le_of_ble_eq_true rfl), fun p hp => ?_⟩
        exact q _ (.tuple [.str "name", .str z]) _ (I3.fin hp).1 (I3.fin hp).2 (dp_new hp (.cons (.str _) (.cons (.str _) .nil))) (szs (mem2 (.str _ _ (Nat.le_of_ble_eq_true rfl)) (.str _ _ (by omega))) (Nat.le_of_ble_eq_true rfl)) (shape_leaf (.inr (.inl rfl)))
      dsimp only
      refine seqA (ifA (eqi_q rfl (ite2 (fun e => retA ?_) (fun e2 => nextA ?_))))
      · refine ⟨zl (Nat.le_of_ble_eq_true rfl), fun p hp => ?_⟩
        exact q _ (.tuple [.str "next"]) _ (I2.fin hp).1 (I2.fin hp).2 (dp_new hp (.cons (.str _) .nil)) (szs (fun d m => by rcases List.mem_singleton.mp m with rfl; exact .str _ _ (Nat.le_of_ble_eq_true rfl)) (Nat.le_of_ble_eq_true rfl)) (shape_leaf (.inr (.inr rfl)))
      dsimp only
      have e0 := of_decide_eq_false (Bool.eq_false_iff.mpr e0)
      have e1 := of_decide_eq_false (Bool.eq_false_iff.mpr e1)
      have e2 := of_decide_eq_false (Bool.eq_false_iff.mpr e2)
      obtain ⟨m, rfl⟩ : ∃ m, n = m + 1 := ⟨n - 1, by omega⟩
      refine seqA (asgA (take_q rfl rfl (by decide) I2 fun many H3 m0 m1 I3 f3 => nameA ?_))
      dsimp only
      refine seq_merge (fun σ' H' => σ' = [some (.ref r), some (.ref sp), some (.int ((m + 1 : Nat) : Int)), some (.int k), some (.ref u), some (.int many), none, none, none, none, none] ∧ Inv r sp u 0 H H' ∧ k ≠ 3 ∧ k ≠ 4) ?_ (fun kont => ?_)
      rotate_left
      · refine ifA (or_q (b := decide (k = 3)) (c := decide (k = 4)) (fun R hR => eqi_q rfl hR) (fun _ R hR => eqi_q rfl hR) (ite2 (fun e => ?_) (fun e => nextA (kont _ _ ⟨rfl, I3, fun h => e (by rw [decide_eq_true h]; rfl), fun h => e (by rw [decide_eq_true h, Bool.or_true])⟩))))
        refine seq_merge (fun σ' H' => (∃ z, z.length ≤ 201 ∧ σ' = [some (.ref r), some (.ref sp), some (.int ((m + 1 : Nat) : Int)), some (.int k), some (.ref u), some (.int many), some (.str z), none, none, none, none]) ∧ Inv r sp u 2 H H') ?_ (fun kont2 => ?_)
        rotate_left
        · refine asgA (name_q rfl rfl rfl (by decide) I3 fun z H4 hz I4 f4 => ?_)
          have l1 : (z ++ (".": Str)).length = z.length + 1 := len_app _ _
          refine ⟨_, ".", rfl, rfl, zl (by show _ + 1 ≤ _; omega), eqi_q rfl (ite2 (fun e => ?_) (fun e => ?_))⟩
          · refine newn_q rfl rfl I4 fun y H5 hy I5 f5 => ⟨_, _, rfl, rfl, zl (by omega), nameA (kont2 _ _ ⟨⟨_, ?_, rfl⟩, I5.1, I5.2.1, I5.2.2.1, ?_⟩)⟩
            · rw [len_app]; omega
            · obtain ⟨kv, hk, hl⟩ := I5.2.2.2
              exact ⟨kv, hk, by omega⟩
          · refine name_q rfl rfl rfl (by decide) I4 fun y H5 hy I5 f5 => ⟨_, _, rfl, rfl, zl (by omega), nameA (kont2 _ _ ⟨⟨_, ?_, rfl⟩, I5⟩)⟩
            rw [len_app]; omega
        rintro σ' H4 ⟨⟨z, hz, rfl⟩, I4⟩
        refine seq_merge (fun σ' H' => (∃ D acc ds c10, ds.length ≤ 4 ∧ H' D = some (.lst acc) ∧ DpAll K H' acc ds ∧ (∀ d, d ∈ ds → Sz 300 (2 * m + 1) d ∧ shapeE (m + 1) d) ∧ σ' = [some (.ref r), some (.ref sp), some (.int ((m + 1 : Nat) : Int)), some (.int k), some (.ref u), some (.int many), some (.str z), some (.ref D), none, none, c10]) ∧ Inv r sp u 2 H H') ?_ (fun kont3 => ?_)
        rotate_left
        · refine asgA (lc_data (K := K) (lo := 0) (nb := 4) (fun d => Sz 300 (2 * m + 1) d ∧ shapeE (m + 1) d) (fun d h => sz_ont h.1) (by decide) I4.2.1 (fun R hR => ?_) (fun _ => rfl) (fun x H5 R st5 f5 hR => ?_) fun D acc ds H5 st5 f5 hD hD0 hdp _ hl hk => ?_)
          · exact eqi_q rfl (ite2 (fun e => ⟨.int many, rfl, many, rfl, by omega, by omega, hR _ H4 (Nat.zero_le _) (by omega) I4.2.1 (Fr.refl H4)⟩) (fun e => ⟨.int many, rfl, 1, many, rfl, _, rfl, by split <;> omega, by split <;> omega, hR _ H4 (Nat.zero_le _) (by split <;> omega) I4.2.1 (Fr.refl H4)⟩))
          · exact rec_q rfl rfl rfl (I4.step st5 f5) fun y d H6 I6 f6 hy hz2 hs2 => hR y d H6 I6.2.1 f6 hy ⟨hz2, hs2⟩
          · exact nameA (kont3 _ _ ⟨⟨D, acc, ds, none, hl, hD, hdp, hk, rfl⟩, I4.step st5 f5⟩)
        rintro σ' H5 ⟨⟨D, acc, ds, c10, hl, hD, hdp, hds, rfl⟩, I5⟩
        have fin : ∀ w : Str, (w = "new" ∨ w = "call") → w.length ≤ 4 → ∀ l, H5 l = none → ∀ p, upd H5 l (.tup acc) p = none → Q (.ref p) (upd (upd H5 l (.tup acc)) p (.tup [.str w, .str z, .ref l])) := fun w hw hwl l hl1 p hp => by
          refine q _ (.tuple [.str w, .str z, .tuple ds]) _ ((I5.2.1.new hl1).new hp) ((I5.2.2.1.trans (Fr.of (same_upd hl1))).trans (Fr.of (same_upd hp))) (dp_new hp (.cons (.str _) (.cons (.str _) (.cons (dp_new hl1 hdp) .nil)))) ?_ (shape_nc hw fun d m => (hds d m).2)
          exact szs (n := 2 * m + 2) (mem3 (.str _ _ (by omega)) (.str _ _ (by omega)) (szs (n := 2 * m + 1) (fun d m => (hds d m).1) (by omega))) (Nat.le_of_ble_eq_true rfl)
        refine retA (eqi_q rfl (ite2 (fun e => ?_) (fun e => ?_)))
        · exact ⟨.str z, rfl, .ref D, rfl, D, acc, rfl, .inl ⟨SqL.of hD, fun l hl1 => ⟨zl (Nat.le_of_ble_eq_true rfl), fun p hp => fin "new" (.inl rfl) (by decide) l hl1 p hp⟩⟩⟩
        · exact ⟨.str z, rfl, .ref D, rfl, D, acc, rfl, .inl ⟨SqL.of hD, fun l hl1 => ⟨zl (Nat.le_of_ble_eq_true rfl), fun p hp => fin "call" (.inr rfl) (by decide) l hl1 p hp⟩⟩⟩
      rintro σ' H4 ⟨rfl, I4, e3, e4⟩
      refine seqA (asgA (rec_q rfl rfl rfl I4 fun x1 d1 H5 I5 f5 h1 z1 s1 => nameA ?_))
      dsimp only
      have o1 := sz_ont z1
      refine seqA (ifA (eqi_q rfl (ite2 (fun e => retA ?_) (fun e5 => nextA ?_))))
      · refine ⟨x1, rfl, name_q rfl rfl rfl (by decide) I5 fun z H6 hz I6 f6 => ?_⟩
        have l1 : (z ++ (".": Str)).length = z.length + 1 := len_app _ _
        refine ⟨_, ".", rfl, rfl, zl (by show _ + 1 ≤ _; omega), newn_q rfl rfl I6 fun y H7 hy I7 f7 => ⟨_, _, rfl, rfl, zl (by omega), name_q rfl rfl rfl (by decide) I7 fun v H8 hv I8 f8 => ⟨zl (Nat.le_of_ble_eq_true rfl), fun p hp => ?_⟩⟩⟩
        have l2 : (z ++ (".": Str) ++ y).length = z.length + 1 + y.length := by rw [len_app, l1]
        exact q _ (.tuple [.str "field", d1, .str (z ++ (".": Str) ++ y), .str v]) _ (I8.fin hp).1 (I8.fin hp).2 (dp_new hp (.cons (.str _) (.cons (I7.dp2 f8 o1 (I6.dp f7 o1 (I5.dp2 f6 o1 h1))) (.cons (.str _) (.cons (.str _) .nil))))) (szs (n := 2 * m + 2) (mem4 (.str _ _ (Nat.le_of_ble_eq_true rfl)) (sz_mono z1 (Nat.le_refl _) (by omega)) (.str _ _ (by omega)) (.str _ _ (by omega))) (Nat.le_of_ble_eq_true rfl)) (shape_field s1)
      dsimp only
      refine seqA (asgA (rec_q rfl rfl rfl I5 fun x2 d2 H6 I6 f6 h2 z2 s2 => nameA ?_))
      dsimp only
      have o2 := sz_ont z2
      have h1b := I5.dp f6 o1 h1
      refine seqA (ifA (eqi_q rfl (ite2 (fun e => retA ?_) (fun e6 => nextA ?_))))
      · refine name_q rfl rfl rfl (by decide) I6 fun z H7 hz I7 f7 => ⟨x1, rfl, x2, rfl, zl (Nat.le_of_ble_eq_true rfl), fun p hp => ?_⟩
        exact q _ (.tuple [.str "let", .str z, d1, d2]) _ (I7.fin hp).1 (I7.fin hp).2 (dp_new hp (.cons (.str _) (.cons (.str _) (.cons (I6.dp2 f7 o1 h1b) (.cons (I6.dp2 f7 o2 h2) .nil))))) (szs (n := 2 * m + 2) (mem4 (.str _ _ (Nat.le_of_ble_eq_true rfl)) (.str _ _ (by omega)) (sz_mono z1 (Nat.le_refl _) (by omega)) (sz_mono z2 (Nat.le_refl _) (by omega))) (Nat.le_of_ble_eq_true rfl)) (shape_let s1 s2)
      dsimp only
      refine seqA (ifA (eqi_q rfl (ite2 (fun e => retA ?_) (fun e7 => nextA ?_))))
      · refine ⟨x1, rfl, x2, rfl, rec_q rfl rfl rfl I6 fun x3 d3 H7 I7 f7 h3 z3 s3 => ⟨zl (Nat.le_of_ble_eq_true rfl), fun p hp => ?_⟩⟩
        exact q _ (.tuple [.str "if", d1, d2, d3]) _ (I7.fin hp).1 (I7.fin hp).2 (dp_new hp (.cons (.str _) (.cons (I6.dp f7 o1 h1b) (.cons (I6.dp f7 o2 h2) (.cons h3 .nil))))) (szs (n := 2 * m + 2) (mem4 (.str _ _ (Nat.le_of_ble_eq_true rfl)) (sz_mono z1 (Nat.le_refl _) (by omega)) (sz_mono z2 (Nat.le_refl _) (by omega)) (sz_mono z3 (Nat.le_refl _) (by omega))) (Nat.le_of_ble_eq_true rfl)) (shape_if s1 s2 s3)
      dsimp only
      have e5 := of_decide_eq_false (Bool.eq_false_iff.mpr e5)
      have e6 := of_decide_eq_false (Bool.eq_false_iff.mpr e6)
      have e7 := of_decide_eq_false (Bool.eq_false_iff.mpr e7)
      obtain ⟨w, hw, hat⟩ : ∃ w : Str, (w = "add" ∨ w = "sub" ∨ w = "mul") ∧ atI [V.str "add", V.str "sub", V.str "mul"] (k - 8) = some (.str w) := by
        rcases (by omega : k = 8 ∨ k = 9 ∨ k = 10) with rfl | rfl | rfl
        · exact ⟨_, .inl rfl, rfl⟩
        · exact ⟨_, .inr (.inl rfl), rfl⟩
        · exact ⟨_, .inr (.inr rfl), rfl⟩
      have hwl : w.length ≤ 300 := by rcases hw with rfl | rfl | rfl <;> exact Nat.le_of_ble_eq_true rfl
      refine retA ⟨zl (Nat.le_of_ble_eq_true rfl), fun p hp => ⟨.int k, rfl, k, 8, rfl, rfl, p, _, k - 8, .str w, rfl, rfl, SqL.of upd_same, hat, x1, rfl, x2, rfl, zl (Nat.le_of_ble_eq_true rfl), fun p2 hp2 => ?_⟩⟩
      exact q _ (.tuple [.str w, d1, d2]) _ ((I6.2.1.new hp).new hp2) ((I6.fin hp).2.trans (Fr.of (same_upd hp2))) (dp_new hp2 (.cons (.str _) (.cons (dp_keep (same_upd hp) h1b) (.cons (dp_keep (same_upd hp) h2) .nil)))) (szs (n := 2 * m + 2) (mem3 (.str _ _ hwl) (sz_mono z1 (Nat.le_refl _) (by omega)) (sz_mono z2 (Nat.le_refl _) (by omega))) (Nat.le_of_ble_eq_true rfl)) (shape_sign hw s1 s2)
end
end Cw

set_option Elab.async false
set_option linter.all false
set_option maxRecDepth 100000
set_option maxHeartbeats 4000000
namespace Cw
open PySem PySem.Spec PyProof.Rows L2
theorem shape_mono : ∀ (n m : Nat) (d : PyData), n ≤ m → shapeE n d → shapeE m d
  | n + 1, m + 1, .tuple (.str z :: r), h, s => ⟨s.1, fun d hd => shape_mono n m d (by omega) (s.2 d hd)⟩
  | n + 1, 0, _, h, _ => absurd h (by omega)
  | 0, _, .none, _, s => s.elim
  | 0, _, .bool _, _, s => s.elim
  | 0, _, .int _, _, s => s.elim
  | 0, _, .str _, _, s => s.elim
  | 0, _, .list _, _, s => s.elim
  | 0, _, .dict _, _, s => s.elim
  | 0, _, .tuple _, _, s => s.elim
  | _ + 1, _, .none, _, s => s.elim
  | _ + 1, _, .bool _, _, s => s.elim
  | _ + 1, _, .int _, _, s => s.elim
  | _ + 1, _, .str _, _, s => s.elim
  | _ + 1, _, .list _, _, s => s.elim
  | _ + 1, _, .dict _, _, s => s.elim
  | _ + 1, _, .tuple [], _, s => s.elim
  | _ + 1, _, .tuple (.none :: _), _, s => s.elim
  | _ + 1, _, .tuple (.bool _ :: _), _, s => s.elim
  | _ + 1, _, .tuple (.int _ :: _), _, s => s.elim
  | _ + 1, _, .tuple (.list _ :: _), _, s => s.elim
  | _ + 1, _, .tuple (.dict _ :: _), _, s => s.elim
  | _ + 1, _, .tuple (.tuple _ :: _), _, s => s.elim
/-- an expression of any depth up to ten -/
def spFxA (K : PySem.W.Frag) : Sp := fun vs H Q _ => ∃ (n : Nat) (r sp : Addr), n ≤ 10 ∧ vs = [.ref r, .ref sp, .int (n : Int)] ∧ Sta r sp H ∧ ∀ x d H', Sta r sp H' → Fr [sp] H H' → Dp K H' x d → Sz 300 (2 * n + 1) d → shapeE (n + 1) d → Q x H'
theorem ok_fxa {P : Program} {w : World} {K : PySem.W.Frag} {mg : Str → Option Value} {base : Heap} {f : Addr} {fd : FuncData} {ps : List Str} (h : ∀ n, FnOk P w K mg base CX0 (6 + n) f fd ps (spFx K n)) : FnOk P w K mg base CX0 17 f fd ps (spFxA K) :=
  ⟨fun vs H Q E q => by
    obtain ⟨n, r, sp, hn, e, st, q⟩ := q
    exact (h (n + 1)).len vs H Q E ⟨r, sp, e, st, q⟩,
  fun A outer s H args us vs Q E hr he hb hv q => by
    obtain ⟨n, r, sp, hn, e, st, q⟩ := q
    exact ((h (n + 1)).mono (by omega)).run A outer s H args us vs Q E hr he hb hv ⟨r, sp, e, st, q⟩⟩
def spMod (K : PySem.W.Frag) : Sp := fun vs H Q _ => ∃ (r sp : Addr), vs = [.ref r, .ref sp] ∧ Sta r sp H ∧ ∀ x d H', Sta r sp H' → Fr [sp] H H' → Dp K H' x d → Sz 300 10 d → Q x H'
def rTupOf (K : PySem.W.Frag) : List V → Hp → VK → Prop := fun xs H Q => ∃ p ys, xs = [.ref p] ∧ ((SqL K H p ys ∧ ∀ l, H l = none → Q (.ref l) (upd H l (.tup ys))) ∨ (SqT K H p ys ∧ Q (.ref p) H))
/-- a tuple of drawn data -/
theorem tup_data {K : PySem.W.Frag} {r sp : Addr} {wi : TI} {te : TE} {σ : L2.St} {H0 : Hp} {Q : VK} {i lo nb : Nat} (kd : PyData → Prop) (ko : ∀ d, kd d → OnT d) (hnb : nb ≤ 1000) (st0 : Sta r sp H0)
    (hw : ∀ R : It → Hp → Prop, (∀ n H1, lo ≤ n → n ≤ nb → Sta r sp H1 → Fr [sp] H0 H1 → R (Itr 0 n) H1) → wi σ H0 R)
    (hw2 : ∀ x, wipe ((wipe σ [i]).set i (some x)) [i] = wipe σ [i])
    (hs : ∀ x H1 (R : V → Hp → Prop), Sta r sp H1 → Fr [sp] H0 H1 → (∀ y d H2, Sta r sp H2 → Fr [sp] H1 H2 → Dp K H2 y d → kd d → R y H2) → te ((wipe σ [i]).set i (some x)) H1 R)
    (q : ∀ x ds H2, Sta r sp H2 → Fr [sp] H0 H2 → Dp K H2 x (.tuple ds) → lo ≤ ds.length → ds.length ≤ nb → (∀ d, d ∈ ds → kd d) → Q x H2) : tCB (rTupOf K) (tCons (tLc wi (gName i) tYes te [i]) tNil) σ H0 Q :=
  cb1 (lc_data kd ko hnb st0 hw hw2 hs fun D acc ds H2 st2 f2 hD _ hdp hlo hl hk => ⟨D, acc, rfl, .inl ⟨SqL.of hD, fun l hl1 => q _ ds _ (st2.new hl1) (f2.trans (Fr.of (same_upd hl1))) (dp_new hl1 hdp) hlo hl hk⟩⟩)
theorem Fr.app {C sp : Addr} {H0 H1 H2 : Hp} {o : HO} (f : Fr [C, sp] H0 H1) (g : Fr [sp] H1 H2) : Fr [C, sp] H0 (L2.upd H2 C o) := (f.trans g.two).set (List.mem_cons_self ..)
/-- a loop that appends drawn data to the list at C -/
theorem for_data {K : PySem.W.Frag} {r sp C : Addr} {wi : TI} {g : TG} {tb : TS} {D : Ends} {σ : L2.St} {H0 : Hp} {nb : Nat} (Sg : L2.St → Prop) (kd : PyData → Prop) (ko : ∀ d, kd d → OnT d) (hnb : nb ≤ 1000) (st0 : Sta r sp H0) (hC : H0 C = some (.lst [])) (cr : C ≠ r) (cs : C ≠ sp) (sg : Sg σ)
    (hw : ∀ R : It → Hp → Prop, (∀ n H1, 0 ≤ n → n ≤ nb → Sta r sp H1 → Fr [sp] H0 H1 → R (Itr 0 n) H1) → wi σ H0 R)
    (hs : ∀ x σ1 H1 acc (D' : Ends), Sg σ1 → Sta r sp H1 → Fr [C, sp] H0 H1 → H1 C = some (.lst acc) → acc.length < sizeLine → (∀ σ2 y d H2, Sg σ2 → Sta r sp H2 → Fr [sp] H1 H2 → Dp K H2 y d → kd d → D'.nx σ2 (upd H2 C (.lst (acc ++ [y])))) → g x σ1 H1 fun σ2 H2 => tb D' σ2 H2)
    (hd : ∀ σ2 acc ds H2, Sg σ2 → Sta r sp H2 → Fr [C, sp] H0 H2 → H2 C = some (.lst acc) → DpAll K H2 acc ds → ds.length ≤ nb → (∀ d, d ∈ ds → kd d) → D.nx σ2 H2) : tFor wi g tb D σ H0 := by
  refine hw _ fun n H1 _ hn st1 f1 => ?_
  refine for_range (fun j σ' H' => Sg σ' ∧ Sta r sp H' ∧ Fr [C, sp] H0 H' ∧ ∃ acc ds, H' C = some (.lst acc) ∧ DpAll K H' acc ds ∧ ds.length = j ∧ ∀ d, d ∈ ds → kd d) ⟨sg, st1, f1.two, [], [], f1 _ _ (fun m => cs (List.mem_singleton.mp m)) hC, .nil, rfl, fun _ m => nomatch m⟩ ?_ ?_
  · rintro j σ1 H2 hj ⟨sg1, st2, f2, acc, ds, hacc, hdp, hl, hk⟩
    refine hs _ σ1 H2 acc _ sg1 st2 f2 hacc ?_ fun σ2 y d H3 sg2 st3 f3 hy hd => ?_
    · rw [(dp_get hdp).1, hl]
      exact Nat.lt_of_lt_of_le (by omega : j < 1001) (by decide)
    have ha : H3 C = some (.lst acc) := f3 C _ (fun m => cs (List.mem_singleton.mp m)) hacc
    have hdp3 : DpAll K H3 acc ds := dps_fr f3 st2.nt (fun d m => ko d (hk d m)) hdp
    refine ⟨sg2, st3.set cr cs, f2.app f3, acc ++ [y], ds ++ [d], upd_same, ?_, ?_, ?_⟩
    · refine dps_set ha (fun e m => ?_) (dps_app hdp3 (.cons hy .nil))
      rcases List.mem_append.mp m with m | m
      · exact ko e (hk e m)
      · rcases List.mem_singleton.mp m with rfl
        exact ko _ hd
    · rw [List.length_append, hl]; rfl
    · intro e m
      rcases List.mem_append.mp m with m | m
      · exact hk e m
      · rcases List.mem_singleton.mp m with rfl
        exact hd
  · rintro σ2 H2 ⟨sg2, st2, f2, acc, ds, hacc, hdp, hl, hk⟩
    exact hd σ2 acc ds H2 sg2 st2 f2 hacc hdp (by omega) hk
theorem tk_q {K : PySem.W.Frag} {σ : L2.St} {r sp : Addr} {lim : Int} {H1 : Hp} {Q : VK} (e0 : σ[0]? = some (some (.ref r))) (e1 : σ[1]? = some (some (.ref sp))) (hl : 0 < lim) (st : Sta r sp H1)
    (q : ∀ (z : Int) H2, 0 ≤ z → z < lim → Sta r sp H2 → Fr [sp] H1 H2 → Q (.int z) H2) : tCall (spTk K) [] E0 (tCons (tVar 0) (tCons (tVar 1) (tCons (tC (.int lim)) tNil))) σ H1 Q :=
  ⟨.ref r, e0, .ref sp, e1, r, sp, lim, rfl, st, hl, q⟩
theorem fresh_q {K : PySem.W.Frag} {σ : L2.St} {r sp : Addr} {H1 : Hp} {Q : VK} (e0 : σ[0]? = some (some (.ref r))) (e1 : σ[1]? = some (some (.ref sp))) (st : Sta r sp H1)
    (q : ∀ (z : Str) H2, z.length ≤ 100 → Sta r sp H2 → Fr [sp] H1 H2 → Q (.str z) H2) : tCall (spName K) [] E0 (tCons (tVar 0) (tCons (tVar 1) (tCons tDNewK tNil))) σ H1 Q :=
  ⟨.ref r, e0, .ref sp, e1, fun p hp => ⟨r, sp, p, [], rfl, st.new hp, upd_same, Nat.le_of_ble_eq_true rfl, fun z H2 kv' hz st2 f2 hk2 hl2 => q z H2 hz st2 (f2.new hp)⟩⟩
theorem nm_q {K : PySem.W.Frag} {σ : L2.St} {r sp : Addr} {cap : Bool} {H1 : Hp} {Q : VK} (e0 : σ[0]? = some (some (.ref r))) (e1 : σ[1]? = some (some (.ref sp))) (st : Sta r sp H1)
    (q : ∀ (z : Str) H2, z.length ≤ 201 → Sta r sp H2 → Fr [sp] H1 H2 → Q (.str z) H2) : tCall (spNamed K) [] E0 (tCons (tVar 0) (tCons (tVar 1) (tCons (tC (.bl cap)) tNil))) σ H1 Q :=
  ⟨.ref r, e0, .ref sp, e1, r, sp, cap, rfl, st, q⟩
theorem rng_q {K : PySem.W.Frag} {σ : L2.St} {r sp : Addr} {lim : Int} {H0 : Hp} {nb : Nat} (e0 : σ[0]? = some (some (.ref r))) (e1 : σ[1]? = some (some (.ref sp))) (hl : 0 < lim) (hl2 : lim ≤ nb + 1) (hnb : nb ≤ 1000) (st : Sta r sp H0) :
    ∀ R : It → Hp → Prop, (∀ n H1, 0 ≤ n → n ≤ nb → Sta r sp H1 → Fr [sp] H0 H1 → R (Itr 0 n) H1) → iRng1 (tCons (tCall (spTk K) [] E0 (tCons (tVar 0) (tCons (tVar 1) (tCons (tC (.int lim)) tNil)))) tNil) σ H0 R :=
  fun R hR => tk_q e0 e1 hl st fun z H2 z0 z1 st2 f2 => ⟨z, rfl, by omega, by omega, hR _ H2 (Nat.zero_le _) (by omega) st2 f2⟩
theorem rng1_q {K : PySem.W.Frag} {σ : L2.St} {r sp : Addr} {lim : Int} {H0 : Hp} {nb : Nat} (e0 : σ[0]? = some (some (.ref r))) (e1 : σ[1]? = some (some (.ref sp))) (hl : 0 < lim) (hl2 : lim ≤ nb) (hnb : nb ≤ 1000) (st : Sta r sp H0) :
    ∀ R : It → Hp → Prop, (∀ n H1, 1 ≤ n → n ≤ nb → Sta r sp H1 → Fr [sp] H0 H1 → R (Itr 0 n) H1) → iRng1 (tCons (tOp (rI0 fun i j => V.int (i + j)) (tC (.int 1)) (tCall (spTk K) [] E0 (tCons (tVar 0) (tCons (tVar 1) (tCons (tC (.int lim)) tNil))))) tNil) σ H0 R :=
  fun R hR => tk_q e0 e1 hl st fun z H2 z0 z1 st2 f2 => ⟨1, z, rfl, rfl, 1 + z, rfl, by omega, by omega, hR _ H2 (by omega) (by omega) st2 f2⟩
theorem at4 {c : Int} (h0 : 0 ≤ c) (h1 : c < 4) : ∃ w : Int, 0 ≤ w ∧ w ≤ 11 ∧ atI [V.int 0, V.int 0, V.int 1, V.int 11] c = some (.int w) := by
  rcases (by omega : c = 0 ∨ c = 1 ∨ c = 2 ∨ c = 3) with rfl | rfl | rfl | rfl
  · exact ⟨0, by decide, by decide, rfl⟩
  · exact ⟨0, by decide, by decide, rfl⟩
  · exact ⟨1, by decide, by decide, rfl⟩
  · exact ⟨11, by decide, by decide, rfl⟩
theorem at2 {c : Int} (h0 : 0 ≤ c) (h1 : c < 2) : ∃ w : Str, w.length ≤ 300 ∧ atI [V.str "open", V.str "sealed"] c = some (.str w) := by
  rcases (by omega : c = 0 ∨ c = 1) with rfl | rfl
  · exact ⟨"open", Nat.le_of_ble_eq_true rfl, rfl⟩
  · exact ⟨"sealed", Nat.le_of_ble_eq_true rfl, rfl⟩
theorem rng2_q {K : PySem.W.Frag} {σ : L2.St} {r sp : Addr} {H0 : Hp} (e0 : σ[0]? = some (some (.ref r))) (e1 : σ[1]? = some (some (.ref sp))) (st : Sta r sp H0) :
    ∀ R : It → Hp → Prop, (∀ n H1, 1 ≤ n → n ≤ 12 → Sta r sp H1 → Fr [sp] H0 H1 → R (Itr 0 n) H1) → iRng1 (tCons (tOp (rI0 fun i j => V.int (i + j)) (tC (.int 1)) (tOp (rIxL K) (tLst (tCons (tC (V.int 0)) (tCons (tC (V.int 0)) (tCons (tC (V.int 1)) (tCons (tC (V.int 11)) tNil))))) (tCall (spTk K) [] E0 (tCons (tVar 0) (tCons (tVar 1) (tCons (tC (.int 4)) tNil)))))) tNil) σ H0 R :=
  fun R hR => ⟨Nat.le_of_ble_eq_true rfl, fun p hp => tk_q e0 e1 (by decide) (st.new hp) fun z H2 z0 z1 st2 f2 => by
    obtain ⟨w, w0, w1, hw⟩ := at4 z0 z1
    exact ⟨p, _, z, _, rfl, rfl, SqL.of (f2 p _ (fun m => st.sp_ne hp (List.mem_singleton.mp m)) upd_same), hw, 1, w, rfl, rfl, 1 + w, rfl, by omega, by omega, hR _ H2 (by omega) (by omega) st2 ((Fr.of (same_upd hp)).trans f2)⟩⟩
theorem pair_q {K : PySem.W.Frag} {σ : L2.St} {r sp : Addr} {cap : Bool} {H1 : Hp} {R : VK} (e0 : σ[0]? = some (some (.ref r))) (e1 : σ[1]? = some (some (.ref sp))) (st : Sta r sp H1)
    (q : ∀ y d H2, Sta r sp H2 → Fr [sp] H1 H2 → Dp K H2 y d → Sz 300 1 d → R y H2) : tTup (tCons (tCall (spName K) [] E0 (tCons (tVar 0) (tCons (tVar 1) (tCons tDNewK tNil)))) (tCons (tCall (spNamed K) [] E0 (tCons (tVar 0) (tCons (tVar 1) (tCons (tC (.bl cap)) tNil)))) tNil)) σ H1 R :=
  fresh_q e0 e1 st fun a H2 ha st2 f2 => nm_q e0 e1 st2 fun b H3 hb st3 f3 => ⟨Nat.le_of_ble_eq_true rfl, fun p hp => q _ (.tuple [.str a, .str b]) _ (st3.new hp) ((f2.trans f3).trans (Fr.of (same_upd hp))) (dp_new hp (.cons (.str _) (.cons (.str _) .nil))) (szs (n := 0) (mem2 (.str _ _ (by omega)) (.str _ _ (by omega))) (Nat.le_of_ble_eq_true rfl))⟩
theorem none_back {r sp C : Addr} {H H1 : Hp} (st : Sta r sp H1) (f : Fr [sp] H H1) (h : H1 C = none) : H C = none := by
  cases e : H C with
  | none => rfl
  | some o =>
    by_cases k : C = sp
    · exact absurd k (st.sp_ne h)
    · rw [f C o (fun m => k (List.mem_singleton.mp m)) e] at h
      cases h
theorem Sta.r_ne {r sp p : Addr} {H : Hp} (h : Sta r sp H) (hp : H p = none) : p ≠ r := fun e => by
  obtain ⟨_, ⟨row, _, h4⟩, _⟩ := h
  rw [← e, hp] at h4
  cases h4
/-- a list of data -/
def Lst (K : PySem.W.Frag) (k : Nat) (H : Hp) (C : Addr) (dc : List PyData) : Prop := ∃ acc, H C = some (.lst acc) ∧ DpAll K H acc dc ∧ dc.length ≤ 8 ∧ ∀ d, d ∈ dc → Sz 300 k d
theorem Lst.fr {K : PySem.W.Frag} {k : Nat} {A : List Addr} {H H' : Hp} {C : Addr} {dc : List PyData} (h : Lst K k H C dc) (f : Fr A H H') (n : NoTup A H) (hc : C ∉ A) : Lst K k H' C dc := by
  obtain ⟨acc, h1, h2, h3, h4⟩ := h
  exact ⟨acc, f _ _ hc h1, dps_fr f n (fun d m => sz_ont (h4 d m)) h2, h3, h4⟩
theorem Sta.nt3 {r sp C : Addr} {H : Hp} {acc : List V} (h : Sta r sp H) (hC : H C = some (.lst acc)) : NoTup [C, sp] H := fun b m xs e => by
  rcases List.mem_cons.mp m with rfl | m
  · exact nt_lst hC b (List.mem_singleton.mpr rfl) xs e
  · exact h.nt b m xs e
theorem Lst.ne {K : PySem.W.Frag} {k : Nat} {H : Hp} {C p : Addr} {dc : List PyData} (h : Lst K k H C dc) (hp : H p = none) : C ≠ p := fun e => by
  obtain ⟨acc, h1, _⟩ := h
  rw [e, hp] at h1
  cases h1
theorem Lst.new {K : PySem.W.Frag} {k : Nat} {H : Hp} {C p : Addr} {o : HO} {dc : List PyData} (h : Lst K k H C dc) (hp : H p = none) : Lst K k (upd H p o) C dc := by
  obtain ⟨acc, h1, h2, h3, h4⟩ := h
  exact ⟨acc, same_upd hp _ _ h1, dps_keep (same_upd hp) h2, h3, h4⟩
theorem nsp {C sp : Addr} (h : C ≠ sp) : C ∉ [sp] := fun m => h (List.mem_singleton.mp m)
theorem nsp2 {C G sp : Addr} (h1 : C ≠ G) (h : C ≠ sp) : C ∉ [G, sp] := fun m => by
  rcases List.mem_cons.mp m with rfl | m
  · exact h1 rfl
  · exact h (List.mem_singleton.mp m)
section
variable {P : Program} {w : World} {K : PySem.W.Frag} {mg : Str → Option Value} {base : Heap} {S : Addr → Option Sp}
end
end Cw

set_option Elab.async false
set_option linter.all false
set_option maxRecDepth 100000
set_option maxHeartbeats 4000000
namespace Cw
open PySem PySem.Spec PyProof.Rows L2
def spLtx (K : PySem.W.Frag) (n : Nat) : Sp := fun vs H Q _ => ∃ x d r, vs = [x, .int r] ∧ Dp K H x d ∧ OnT d ∧ Ok d ∧ formN n d = true ∧ ecnt n d ≤ 60 ∧ ∀ H', Same H H' → Q (.str (rankT n r d)) H'
theorem sapp (x y z : Str) : x ++ y ++ z = x ++ (y ++ z) := by
  show (⟨(x.cps ++ y.cps) ++ z.cps⟩ : Str) = ⟨x.cps ++ (y.cps ++ z.cps)⟩
  rw [Array.append_assoc]
theorem sempty (x : Str) : ("" : Str) ++ x = x := by
  show (⟨#[] ++ x.cps⟩ : Str) = x
  rw [Array.empty_append]
theorem rank_len {n : Nat} {r : Int} {d : PyData} (h : formN n d = true) (c : ecnt n d ≤ 60) : (rankT n r d).length ≤ 6002 := by
  have := tx_len h c
  unfold rankT
  split
  · rw [slen, slen]
    show 1 + _ + 1 ≤ _
    omega
  · omega
def signKv : List (Key × V) := [(.inr "add", .str " + "), (.inr "sub", .str " - "), (.inr "mul", .str " * ")]
theorem sign_merge : mergeK [] signKv = signKv := by decide
def rJn (K : PySem.W.Frag) : V → List V → Hp → VK → Prop := fun x xs H Q => ∃ a p, ∃ ys : List Str, x = .str a ∧ xs = [.ref p] ∧ (SqL K H p (ys.map V.str) ∨ SqT K H p (ys.map V.str)) ∧ (ys.map (·.length)).sum + ys.length * a.length ≤ 16777216 ∧ Q (.str (Txt.join a ys)) H
def rAd : R2 := fun x y H Q => ∃ i j, x = .str i ∧ y = .str j ∧ i.length + j.length ≤ sizeLine ∧ Q (.str (i ++ j)) H
theorem join_q {K : PySem.W.Frag} {i : Nat} {tl te : TE} {σ : L2.St} {H : Hp} {R : VK} {a : Addr} {xs : List V} {ds : List PyData} {f : PyData → Str} (e : ∀ R : V → Hp → Prop, R (.ref a) H → tl σ H R) (hq : SqA K H a xs) (hd : DpAll K H xs ds) (hl : ds.length ≤ 12)
    (hw : ∀ x, wipe ((wipe σ [i]).set i (some x)) [i] = wipe σ [i]) (ht : ∀ x d H' R, d ∈ ds → Same H H' → Dp K H' x d → (∀ H'', Same H' H'' → R (.str (f d)) H'') → te ((wipe σ [i]).set i (some x)) H' R)
    (hf : ∀ d, d ∈ ds → (f d).length ≤ 6002) (q : ∀ H1, Same H H1 → R (.str (Str.join ", " (ds.map f))) H1) : tBM K "str" (rJn K) (tC (.str ", ")) (tCons (tLc (iSeq K tl) (gName i) tYes te [i]) tNil) σ H R := by
  refine ⟨rfl, ca1 (lc_seq e hq (fun D j H' => Same H H' ∧ H' D = some (.lst ((ds.take j).map fun e => V.str (f e)))) (fun D hD => ⟨same_upd hD, upd_same⟩) (fun D j H' p => p.1) ?_ ?_)⟩
  · rintro D j y H2 hD hy ⟨s2, e2⟩
    have hi : j < ds.length := by rw [← (dp_get hd).1]; exact (List.getElem?_eq_some_iff.mp hy).1
    obtain ⟨y', hy1, hy2⟩ := (dp_get hd).2 j ds[j] (List.getElem?_eq_getElem hi)
    obtain rfl : y' = y := Option.some.inj (hy1.symm.trans hy)
    refine ⟨hw _, ?_⟩
    unfold tYes
    dsimp only
    rw [if_pos rfl]
    refine ht y' ds[j] H2 _ (List.getElem_mem hi) s2 (dp_keep s2 hy2) fun H3 s3 => ⟨_, s3 _ _ e2, ?_, same_mut (s2.trans s3) hD, ?_⟩
    · rw [List.length_map, List.length_take]
      exact Nat.lt_of_le_of_lt (by omega : min j ds.length ≤ 12) (by decide)
    · rw [upd_same, List.take_add_one, List.getElem?_eq_getElem hi, List.map_append]
      rfl
  · rintro D H2 hD ⟨s2, e2⟩
    rw [(dp_get hd).1, List.take_length] at e2
    have hb : (((ds.map f).map (·.length)).sum) ≤ 6002 * ds.length := sum_lt hf
    refine ⟨", ", D, ds.map f, rfl, rfl, .inl (SqL.of (by rw [e2, List.map_map]; rfl)), ?_, ?_⟩
    · rw [List.length_map, show (", " : Str).length = 2 from rfl]
      omega
    rw [jn_eq]
    exact q H2 s2
theorem args_q {te tb : TE} {σ : L2.St} {H : Hp} {Q : VK} {pre js : Str} (h1 : ∀ R : V → Hp → Prop, R (.str pre) H → te σ H R) (h2 : ∀ R : V → Hp → Prop, (∀ H1, Same H H1 → R (.str js) H1) → tb σ H R) (l1 : pre.length ≤ 1000) (l2 : js.length ≤ 100000)
    (q : ∀ H1, Same H H1 → Q (.str (pre ++ (("(" : Str) ++ js ++ (")" : Str)))) H1) : tOp rAd (tOp rAd (tOp rAd te (tC (.str "("))) tb) (tC (.str ")")) σ H Q := by
  have zl : ∀ {x : Nat}, x ≤ 200000 → x ≤ sizeLine := fun h => Nat.le_trans h (by decide)
  have e1 : (pre ++ ("(" : Str)).length = pre.length + 1 := slen _ _
  refine h1 _ ⟨_, "(", rfl, rfl, zl (by show _ + 1 ≤ _; omega), h2 _ fun H1 s1 => ⟨_, _, rfl, rfl, zl (by omega), _, ")", rfl, rfl, zl ?_, ?_⟩⟩
  · rw [slen, e1]
    show _ + 1 ≤ _
    omega
  · have z0 := q H1 s1
    rw [← sapp, ← sapp] at z0
    exact z0
theorem ont_seq {b : PyData} {lo hi : Int} (o : OnT b) (h : isSeq lo hi b = true) : isTu b = true := by
  cases o with
  | tuple l t => rfl
  | _ => cases h
section
variable {P : Program} {w : World} {K : PySem.W.Frag} {mg : Str → Option Value} {base : Heap} {S : Addr → Option Sp}
abbrev s__law_expr_text : Stmt := topS 94
theorem sc__law_expr_text : FnScope ["value", "rank", "word", "made", "parts", "sign", "part"] ["value", "rank"] (defScope s__law_expr_text) := ⟨rfl, rfl, rfl, by decide +kernel, rfl, by decide +kernel, by decide +kernel⟩
theorem ok__law_expr_text {f : Addr} {fd : FuncData} (F : Fun K "_law_expr_text" "_law_expr_text" s__law_expr_text f fd) {f__law_rank : Addr} {d__law_rank : FuncData} (h__law_rank : Hd K mg "_law_rank" s__law_rank ["value"] f__law_rank d__law_rank) (G__law_rank : FnOk P w K mg base CX0 1 f__law_rank d__law_rank ["value"] (spRank K)) (m_str : mg "str" = none) (bF : Binds K fd ["value", "rank"] []) (gF : mg "_law_expr_text" = some (.ref f)) : ∀ n, FnOk P w K mg base CX0 (2 + n) f fd ["value", "rank"] (spLtx K n)
  | 0 => ⟨fun _ _ _ _ h => (by obtain ⟨_, d, _, _, _, _, _, h, _⟩ := h; cases h), fun _ _ _ _ _ _ _ _ _ _ _ _ _ h => (by obtain ⟨_, d, _, _, _, _, _, h, _⟩ := h; cases h)⟩
  | n + 1 => by
    have G := ok__law_expr_text F h__law_rank G__law_rank m_str bF gF n
    refine F.ok sc__law_expr_text (fun vs H Q E h => ?_) (fun cdv A outer s H vs Q E hr h => ?_)
    · obtain ⟨_, _, _, rfl, _⟩ := h
      rfl
    · obtain ⟨x, d, r, rfl, hx, ho, hok, hf, hc, q⟩ := h
      refine ⟨_, (pss_cons (ps_set (i := 2) sc__law_expr_text.nd rfl (.inl rfl) (pe_ix ix_tup (pv 0) pe_int (fun _ _ => rfl)))
  (pss_cons (ps_if (pt_cmpR op_eq (pv 2) pe_str (nomark _)) (pss_one (ps_set (i := 3) sc__law_expr_text.nd rfl (.inl rfl) (pe_callTy call_str_int (by rfl) m_str (by decide +kernel) (pa_cons (pe_ix ix_tup (pv 0) pe_int (fun _ _ => rfl)) pa_nil)))) (pss_one (ps_if (pt_cmpR op_eq (pv 2) pe_str (nomark _)) (pss_one (ps_set (i := 3) sc__law_expr_text.nd rfl (.inl rfl) (pe_ix ix_tup (pv 0) pe_int (fun _ _ => rfl)))) (pss_one (ps_if (pt_cmpR op_eq (pv 2) pe_str (nomark _)) (pss_one (ps_set (i := 3) sc__law_expr_text.nd rfl (.inl rfl) pe_str)) (pss_one (ps_if (PW.pt (pw_or (pt_cmpR op_eq (pv 2) pe_str (nomark _)) (pw_or1 (pt_cmpR op_eq (pv 2) pe_str (nomark _))))) (pss_one (ps_set (i := 3) sc__law_expr_text.nd rfl (.inl rfl) (pe_op op_add_str (pe_op op_add_str (pe_op op_add_str (pe_op op_add_str (pe_ifExp (pt_cmpR op_eq (pv 2) pe_str (nomark _)) pe_str pe_str) (pe_ix ix_tup (pv 0) pe_int (fun _ _ => rfl))) pe_str) (pe_bm PySem.F.plainAttrs_str PySem.F.slot_str_join PySem.F.type_str_join mt_join pe_str (pa_cons (pe_lc (own := [("part", 6)]) rfl sc__law_expr_text.nd (pi_seq (pe_ix ix_tup (pv 0) pe_int (fun _ _ => rfl))) (blkOk_by (N := ["value", "rank", "word", "made", "parts", "sign", "part"]) (sc := defScope s__law_expr_text) (by decide +kernel)) (fun _ _ _ _ _ => by exact (pg_name (i := 6) sc__law_expr_text.nd rfl (.inl rfl))) (fun _ _ _ _ _ => by exact pts_nil) (fun _ _ _ _ _ => by exact (pe_call G hr (by rfl) gF F.kp bF .nil pass0 (pa_cons (pv 6) (pa_cons pe_int pa_nil))))) pa_nil))) pe_str))) (pss_one (ps_if (pt_cmpR op_eq (pv 2) pe_str (nomark _)) (pss_one (ps_set (i := 3) sc__law_expr_text.nd rfl (.inl rfl) (pe_op op_add_str (pe_op op_add_str (pe_op op_add_str (pe_op op_add_str (pe_op op_add_str (pe_call G hr (by rfl) gF F.kp bF .nil pass0 (pa_cons (pe_ix ix_tup (pv 0) pe_int (fun _ _ => rfl)) (pa_cons pe_int pa_nil))) pe_str) (pe_ix ix_tup (pv 0) pe_int (fun _ _ => rfl))) pe_str) (pe_ix ix_tup (pv 0) pe_int (fun _ _ => rfl))) pe_str))) (pss_one (ps_if (pt_cmpR op_eq (pv 2) pe_str (nomark _)) (pss_cons (ps_setLc (i := 4) (own := [("part", 6)]) rfl sc__law_expr_text.nd rfl rfl rfl (pi_tup (pe_slice sl_tupA (pv 0) (po_some pe_int) po_none)) (blkOk_by (N := ["value", "rank", "word", "made", "parts", "sign", "part"]) (sc := defScope s__law_expr_text) (by decide +kernel)) (fun _ _ _ _ _ => by exact (pg_name (i := 6) sc__law_expr_text.nd rfl (.inl rfl))) (fun _ _ _ _ _ => by exact pts_nil) (fun _ _ _ _ _ => by exact (pe_call G hr (by rfl) gF F.kp bF .nil pass0 (pa_cons (pv 6) (pa_cons pe_int pa_nil)))))
  (pss_one (ps_set (i := 3) sc__law_expr_text.nd rfl (.inl rfl) (pe_op op_add_str (pe_op op_add_str (pe_op op_add_str (pe_op op_add_str (pe_op op_add_str pe_str (pe_ix ix_list (pv 4) pe_int (fun _ _ => rfl))) pe_str) (pe_ix ix_list (pv 4) pe_int (fun _ _ => rfl))) pe_str) (pe_ix ix_list (pv 4) pe_int (fun _ _ => rfl)))))) (pss_one (ps_if (pt_cmpR op_eq (pv 2) pe_str (nomark _)) (pss_one (ps_set (i := 3) sc__law_expr_text.nd rfl (.inl rfl) (pe_op op_add_str (pe_op op_add_str (pe_op op_add_str (pe_op op_add_str (pe_op op_add_str pe_str (pe_ix ix_tup (pv 0) pe_int (fun _ _ => rfl))) pe_str) (pe_call G hr (by rfl) gF F.kp bF .nil pass0 (pa_cons (pe_ix ix_tup (pv 0) pe_int (fun _ _ => rfl)) (pa_cons pe_int pa_nil)))) pe_str) (pe_call G hr (by rfl) gF F.kp bF .nil pass0 (pa_cons (pe_ix ix_tup (pv 0) pe_int (fun _ _ => rfl)) (pa_cons pe_int pa_nil)))))) (pss_cons (ps_set (i := 5) sc__law_expr_text.nd rfl (.inl rfl) (pe_dget (hu_of hr) (pe_disp (pps_cons pe_str pe_str (pps_cons pe_str pe_str (pps_cons pe_str pe_str pps_nil))) rfl rfl (by decide) (by decide)) (pv 2) (fun _ _ => rfl)))
  (pss_one (ps_set (i := 3) sc__law_expr_text.nd rfl (.inl rfl) (pe_op op_add_str (pe_op op_add_str (pe_call G hr (by rfl) gF F.kp bF .nil pass0 (pa_cons (pe_ix ix_tup (pv 0) pe_int (fun _ _ => rfl)) (pa_cons (pe_call G__law_rank (hr.mono (Nat.le_trans (by decide) (Nat.le_add_right 2 n))) (by rfl) h__law_rank.g h__law_rank.F.kp h__law_rank.b .nil pass0 (pa_cons (pv 0) pa_nil)) pa_nil))) (pv 5)) (pe_call G hr (by rfl) gF F.kp bF .nil pass0 (pa_cons (pe_ix ix_tup (pv 0) pe_int (fun _ _ => rfl)) (pa_cons (pe_op op_add (pe_call G__law_rank (hr.mono (Nat.le_trans (by decide) (Nat.le_add_right 2 n))) (by rfl) h__law_rank.g h__law_rank.F.kp h__law_rank.b .nil pass0 (pa_cons (pv 0) pa_nil)) pe_int) pa_nil))))))))))))))))))))
  (pss_one (ps_ret (pe_ifExp (pt_cmpR op_lt (pe_call G__law_rank (hr.mono (Nat.le_trans (by decide) (Nat.le_add_right 2 n))) (by rfl) h__law_rank.g h__law_rank.F.kp h__law_rank.b .nil pass0 (pa_cons (pv 0) pa_nil)) (pv 1) (nomark _)) (pe_op op_add_str (pe_op op_add_str pe_str (pv 3)) pe_str) (pv 3)))))), ?_⟩
      have zl : ∀ {x : Nat}, x ≤ 200000 → x ≤ sizeLine := fun h => Nat.le_trans h (by decide)
      have tl := tx_len hf hc
      obtain ⟨hform, hparts⟩ := parts_fm hf hc
      obtain ⟨zw, r1, e1, _⟩ := (fm_of hform).head
      have hx' := hx
      obtain ⟨b1, rfl⟩ : ∃ b1, d = .tuple b1 := by
        cases ho with
        | tuple l t => exact ⟨l, rfl⟩
        | _ => cases e1
      obtain ⟨a, xs, _, rfl, e2, hq, hd⟩ := tu_of hx' rfl
      obtain rfl := PyData.tuple.inj e2
      have e1 : b1 = .str zw :: r1 := e1
      subst e1
      rcases hd with _ | ⟨k0, kr⟩
      cases k0
      rename_i xr
      refine seqA (asgA ⟨.ref a, rfl, a, _, _, _, rfl, rfl, hq, atI_nat (j := 0) rfl, nameA ?_⟩)
      dsimp only
      refine seq_merge (fun σ' H' => (∃ c4 c5 c6, σ' = [some (.ref a), some (.int r), some (.str zw), some (.str (etext (n + 1) (.tuple (.str zw :: r1)))), c4, c5, c6]) ∧ Same H H') ?_ (fun kont => ?_)
      · clear hx'
        generalize hdd : PyData.tuple (.str zw :: r1) = d at *
        generalize V.ref a = x at *
        rintro σ' H1 ⟨⟨c4, c5, c6, rfl⟩, s1⟩
        obtain ⟨z0, r0, e0, _⟩ := (fm_of hform).head
        obtain ⟨b0, rfl⟩ : ∃ b0, d = .tuple b0 := by
          cases ho with
          | tuple l t => exact ⟨l, rfl⟩
          | _ => cases e0
        have e0 : b0 = .str z0 :: r0 := e0
        subst e0
        refine retA ⟨x, rfl, x, z0, r0, rfl, dp_keep s1 hx, fun H2 s2 => ⟨.int r, rfl, _, _, rfl, rfl, _, rfl, ite2 (fun g => ?_) (fun g => ?_)⟩⟩
        · have z0 := q H2 (s1.trans s2)
          unfold rankT at z0
          rw [if_pos (of_decide_eq_true g)] at z0
          refine ⟨.str _, rfl, _, _, rfl, rfl, zl (by show 1 + _ ≤ _; omega), _, ")", rfl, rfl, zl ?_, z0⟩
          rw [slen]
          show 1 + _ + 1 ≤ _
          omega
        · have z0 := q H2 (s1.trans s2)
          unfold rankT at z0
          rw [if_neg (of_decide_eq_false (Bool.eq_false_iff.mpr g))] at z0
          exact ⟨.str _, rfl, z0⟩
      clear hx'
      cases fm_of hform with
      | int i e2 i0 i1 p =>
        have e3 : PyData.str zw :: r1 = _ := e2
        obtain ⟨e4, e5⟩ := List.cons.inj e3
        obtain rfl := PyData.str.inj e4
        subst e5
        rcases kr with _ | ⟨ka, _ | _⟩
        have ea := etext_at (n := n) e2
        refine ifA (eqz_q rfl (ite2 (fun g => ?_) (fun g => absurd (by decide) g)))
        cases ka
        refine asgA ⟨.ref a, rfl, a, _, _, _, rfl, rfl, hq, atI_nat (j := 1) rfl, i, rfl, ?_, nameA (kont _ _ ⟨⟨none, none, none, ?_⟩, Same.refl H⟩)⟩
        · by_cases g : i.natAbs = 0
          · rw [g]; decide
          · exact (Nat.log2_lt g).mpr (Nat.lt_of_lt_of_le (by omega : i.natAbs < 2 ^ 16) (Nat.pow_le_pow_right (by decide) (by decide)))
        · rw [ea]
          rfl
      | name w e2 hw p =>
        have e3 : PyData.str zw :: r1 = _ := e2
        obtain ⟨e4, e5⟩ := List.cons.inj e3
        obtain rfl := PyData.str.inj e4
        subst e5
        rcases kr with _ | ⟨ka, _ | _⟩
        have ea := etext_at (n := n) e2
        refine ifA (eqz_q rfl (ite2 (fun g => absurd g (by decide)) (fun g => ?_)))
        refine ifA (eqz_q rfl (ite2 (fun g => ?_) (fun g => absurd (by decide) g)))
        cases ka
        refine asgA ⟨.ref a, rfl, a, _, _, _, rfl, rfl, hq, atI_nat (j := 1) rfl, nameA (kont _ _ ⟨⟨none, none, none, ?_⟩, Same.refl H⟩)⟩
        rw [ea]
        rfl
      | next e2 p =>
        have e3 : PyData.str zw :: r1 = _ := e2
        obtain ⟨e4, e5⟩ := List.cons.inj e3
        obtain rfl := PyData.str.inj e4
        subst e5
        rcases kr with _ | _
        have ea := etext_at (n := n) e2
        refine ifA (eqz_q rfl (ite2 (fun g => absurd g (by decide)) (fun g => ?_)))
        refine ifA (eqz_q rfl (ite2 (fun g => absurd g (by decide)) (fun g => ?_)))
        refine ifA (eqz_q rfl (ite2 (fun g => ?_) (fun g => absurd (by decide) g)))
        refine asgA (nameA (kont _ _ ⟨⟨none, none, none, ?_⟩, Same.refl H⟩))
        rw [ea]
        rfl
      | new w b e2 hw hb p =>
        have e3 : PyData.str zw :: r1 = _ := e2
        obtain ⟨e4, e5⟩ := List.cons.inj e3
        obtain rfl := PyData.str.inj e4
        subst e5
        rcases kr with _ | ⟨ka, _ | ⟨kb, _ | _⟩⟩
        have ea := etext_at (n := n) e2
        refine ifA (eqz_q rfl (ite2 (fun g => absurd g (by decide)) (fun g => ?_)))
        refine ifA (eqz_q rfl (ite2 (fun g => absurd g (by decide)) (fun g => ?_)))
        refine ifA (eqz_q rfl (ite2 (fun g => absurd g (by decide)) (fun g => ?_)))
        refine ifA (or_q (b := decide (_ = ("new" : Str))) (c := decide (_ = ("call" : Str))) (fun R hR => eqz_q rfl hR) (fun _ R hR => eqz_q rfl hR) (ite2 (fun g => ?_) (fun g => absurd (by decide) g)))
        cases ka
        obtain ⟨z, e7, l1⟩ := cname_len hw
        cases e7
        have hb12 : isSeq 0 12 b = true := hb
        have ob : OnT b := ont_mem ho (by simp)
        have kb1 : Ok b := ok_mem hok (by simp [items])
        have lb : (items b).length ≤ 12 := seq_lenM hb12
        obtain ⟨ab, ys, bl, rfl, rfl, hqb, hdb⟩ := tu_of kb (ont_seq ob hb12)
        rw [p] at hparts
        have hp2 : ∀ e, e ∈ bl → formN n e = true ∧ ecnt n e ≤ 60 := fun e m => ⟨(hparts e m).1, Nat.le_succ_of_le (hparts e m).2⟩
        have lj := join_len ", " (bl.map (etext n))
        have lj2 : ((bl.map (etext n)).map (·.length)).sum ≤ 6000 * bl.length := sum_lt fun e m => tx_len (hp2 e m).1 (hp2 e m).2
        rw [List.length_map, show (", " : Str).length = 2 from rfl] at lj
        have lb : bl.length ≤ 12 := lb
        have lw : (("new " : Str) ++ w).length ≤ 1000 := by rw [slen]; show 4 + _ ≤ _; omega
        refine asgA (args_q (pre := ("new " : Str) ++ w) (js := Str.join ", " (bl.map (etext n))) (fun R hR => ?_) (fun R hR => ?_) lw (by omega) (fun H1 s1 => nameA (kont _ _ ⟨⟨none, none, none, ?_⟩, s1⟩)))
        · refine eqz_q rfl (ite2 (fun _ => ?_) (fun g => absurd (by decide) g))
          refine ⟨.ref a, rfl, a, _, _, _, rfl, rfl, hq, atI_nat (j := 1) rfl, _, _, rfl, rfl, zl ?_, ?_⟩
          · show 4 + w.length ≤ _
            omega
          exact hR
        · exact join_q (K := K) (fun R hR => ⟨.ref a, rfl, a, _, _, _, rfl, rfl, hq, atI_nat (j := 2) rfl, hR⟩) (.inr hqb) hdb lb (fun _ => rfl) (fun x d H' R hm s hx hR' => ⟨x, rfl, x, d, 0, rfl, hx, ont_mem ob hm, ok_mem kb1 hm, (hp2 d hm).1, (hp2 d hm).2, fun H'' s'' => by rw [rank0]; exact hR' H'' s''⟩) (fun d m => Nat.le_trans (tx_len (hp2 d m).1 (hp2 d m).2) (by decide)) hR
        · rw [ea]
          rfl
      | call w b e2 hw hb p =>
        have e3 : PyData.str zw :: r1 = _ := e2
        obtain ⟨e4, e5⟩ := List.cons.inj e3
        obtain rfl := PyData.str.inj e4
        subst e5
        rcases kr with _ | ⟨ka, _ | ⟨kb, _ | _⟩⟩
        have ea := etext_at (n := n) e2
        refine ifA (eqz_q rfl (ite2 (fun g => absurd g (by decide)) (fun g => ?_)))
        refine ifA (eqz_q rfl (ite2 (fun g => absurd g (by decide)) (fun g => ?_)))
        refine ifA (eqz_q rfl (ite2 (fun g => absurd g (by decide)) (fun g => ?_)))
        refine ifA (or_q (b := decide (_ = ("new" : Str))) (c := decide (_ = ("call" : Str))) (fun R hR => eqz_q rfl hR) (fun _ R hR => eqz_q rfl hR) (ite2 (fun g => ?_) (fun g => absurd (by decide) g)))
        cases ka
        obtain ⟨z, e7, l1⟩ := gname_len hw
        cases e7
        have hb12 : isSeq 0 12 b = true := (seq_le hb (by decide) (by decide))
        have ob : OnT b := ont_mem ho (by simp)
        have kb1 : Ok b := ok_mem hok (by simp [items])
        have lb : (items b).length ≤ 12 := seq_lenM hb12
        obtain ⟨ab, ys, bl, rfl, rfl, hqb, hdb⟩ := tu_of kb (ont_seq ob hb12)
        rw [p] at hparts
        have hp2 : ∀ e, e ∈ bl → formN n e = true ∧ ecnt n e ≤ 60 := fun e m => ⟨(hparts e m).1, Nat.le_succ_of_le (hparts e m).2⟩
        have lj := join_len ", " (bl.map (etext n))
        have lj2 : ((bl.map (etext n)).map (·.length)).sum ≤ 6000 * bl.length := sum_lt fun e m => tx_len (hp2 e m).1 (hp2 e m).2
        rw [List.length_map, show (", " : Str).length = 2 from rfl] at lj
        have lb : bl.length ≤ 12 := lb
        have lw : (w).length ≤ 1000 := by omega
        refine asgA (args_q (pre := w) (js := Str.join ", " (bl.map (etext n))) (fun R hR => ?_) (fun R hR => ?_) lw (by omega) (fun H1 s1 => nameA (kont _ _ ⟨⟨none, none, none, ?_⟩, s1⟩)))
        · refine eqz_q rfl (ite2 (fun g => absurd g (by decide)) (fun _ => ?_))
          refine ⟨.ref a, rfl, a, _, _, _, rfl, rfl, hq, atI_nat (j := 1) rfl, _, _, rfl, rfl, zl ?_, ?_⟩
          · show 0 + w.length ≤ _
            omega
          rw [sempty]; exact hR
        · exact join_q (K := K) (fun R hR => ⟨.ref a, rfl, a, _, _, _, rfl, rfl, hq, atI_nat (j := 2) rfl, hR⟩) (.inr hqb) hdb lb (fun _ => rfl) (fun x d H' R hm s hx hR' => ⟨x, rfl, x, d, 0, rfl, hx, ont_mem ob hm, ok_mem kb1 hm, (hp2 d hm).1, (hp2 d hm).2, fun H'' s'' => by rw [rank0]; exact hR' H'' s''⟩) (fun d m => Nat.le_trans (tx_len (hp2 d m).1 (hp2 d m).2) (by decide)) hR
        · rw [ea]
          rfl
      | field da w v e2 hw hv p =>
        have e3 : PyData.str zw :: r1 = _ := e2
        obtain ⟨e4, e5⟩ := List.cons.inj e3
        obtain rfl := PyData.str.inj e4
        subst e5
        rcases kr with _ | ⟨ka, _ | ⟨kw, _ | ⟨kv, _ | _⟩⟩⟩
        have ea := etext_at (n := n) e2
        refine ifA (eqz_q rfl (ite2 (fun g => absurd g (by decide)) (fun g => ?_)))
        refine ifA (eqz_q rfl (ite2 (fun g => absurd g (by decide)) (fun g => ?_)))
        refine ifA (eqz_q rfl (ite2 (fun g => absurd g (by decide)) (fun g => ?_)))
        refine ifA (or_q (b := decide (_ = ("new" : Str))) (c := decide (_ = ("call" : Str))) (fun R hR => eqz_q rfl hR) (fun _ R hR => eqz_q rfl hR) (ite2 (fun g => absurd g (by decide)) (fun g => ?_)))
        refine ifA (eqz_q rfl (ite2 (fun g => ?_) (fun g => absurd (by decide) g)))
        cases kw
        cases kv
        obtain ⟨z, e7, l1⟩ := cname_len hw
        cases e7
        obtain ⟨z, e7, _, l2⟩ := name_len hv
        cases e7
        rw [p] at hparts
        obtain ⟨pa1, pa2⟩ := hparts da (by simp)
        have l3 := rank_len (r := 3) pa1 (Nat.le_succ_of_le pa2)
        have h1 : (rankT n 3 da ++ (".(" : Str)).length = (rankT n 3 da).length + 2 := slen _ _
        have h2 := slen (rankT n 3 da ++ (".(" : Str)) w
        have h3 : (rankT n 3 da ++ (".(" : Str) ++ w ++ ("." : Str)).length = (rankT n 3 da ++ (".(" : Str) ++ w).length + 1 := slen _ _
        have h4 := slen (rankT n 3 da ++ (".(" : Str) ++ w ++ ("." : Str)) v
        refine asgA ⟨.ref a, rfl, a, _, _, _, rfl, rfl, hq, atI_nat (j := 1) rfl, _, da, 3, rfl, ka, ont_mem ho (by simp), ok_mem hok (by simp [items]), pa1, Nat.le_succ_of_le pa2, fun H1 s1 => ?_⟩
        have hq1 := sqt_keep s1 hq
        refine ⟨_, ".(", rfl, rfl, zl (by show _ + 2 ≤ _; omega), .ref a, rfl, a, _, _, _, rfl, rfl, hq1, atI_nat (j := 2) rfl, _, w, rfl, rfl, zl (by omega), _, ".", rfl, rfl, zl (by show _ + 1 ≤ _; omega), .ref a, rfl, a, _, _, _, rfl, rfl, hq1, atI_nat (j := 3) rfl, _, v, rfl, rfl, zl (by omega), _, ")", rfl, rfl, zl (by show _ + 1 ≤ _; omega), nameA (kont _ _ ⟨⟨none, none, none, ?_⟩, s1⟩)⟩
        rw [ea, ← part_rank prod_rank]
        rfl
      | sign z2 hz da db e2 p =>
        have e3 : PyData.str zw :: r1 = _ := e2
        obtain ⟨e4, e5⟩ := List.cons.inj e3
        obtain rfl := PyData.str.inj e4
        subst e5
        rcases kr with _ | ⟨ka, _ | ⟨kb, _ | _⟩⟩
        have ea := etext_at (n := n) e2
        rw [p] at hparts
        obtain ⟨pa1, pa2⟩ := hparts da (by simp)
        obtain ⟨pb1, pb2⟩ := hparts db (by simp)
        have l1 := fun r => rank_len (r := r) pa1 (Nat.le_succ_of_le pa2)
        have l2 := fun r => rank_len (r := r) pb1 (Nat.le_succ_of_le pb2)
        have oa := ont_mem ho (d := da) (by simp)
        have ob := ont_mem ho (d := db) (by simp)
        have ka1 := ok_mem hok (z := da) (by simp [items])
        have kb1 := ok_mem hok (z := db) (by simp [items])
        have last : ∀ (w1 w2 : List Str) (k : Int), lrank (.tuple [.str zw, da, db]) = k → (headW da ∈ w1 ↔ lrank da < k) → (headW db ∈ w2 ↔ lrank db < k + 1) → etext (n + 1) (.tuple [.str zw, da, db]) = partT (etext n) w1 da ++ signOf zw ++ partT (etext n) w2 db →
            etext (n + 1) (.tuple [.str zw, da, db]) = rankT n (lrank (.tuple [.str zw, da, db])) da ++ signOf zw ++ rankT n (lrank (.tuple [.str zw, da, db]) + 1) db := fun w1 w2 k hk i1 i2 e => by
          rw [hk, e, part_rank i1, part_rank i2]
        have ee : etext (n + 1) (.tuple [.str zw, da, db]) = rankT n (lrank (.tuple [.str zw, da, db])) da ++ signOf zw ++ rankT n (lrank (.tuple [.str zw, da, db]) + 1) db := by
          rcases hz with rfl | rfl | rfl
          · exact last choicesW sumsW 1 (by show (if ("add" : Str) = "if" ∨ ("add" : Str) = "let" then (0 : Int) else if ("add" : Str) = "add" ∨ ("add" : Str) = "sub" then 1 else if ("add" : Str) = "mul" then 2 else 3) = 1; decide) choi_rank sums_rank ea
          · exact last choicesW sumsW 1 (by show (if ("sub" : Str) = "if" ∨ ("sub" : Str) = "let" then (0 : Int) else if ("sub" : Str) = "add" ∨ ("sub" : Str) = "sub" then 1 else if ("sub" : Str) = "mul" then 2 else 3) = 1; decide) choi_rank sums_rank ea
          · exact last sumsW productsW 2 (by show (if ("mul" : Str) = "if" ∨ ("mul" : Str) = "let" then (0 : Int) else if ("mul" : Str) = "add" ∨ ("mul" : Str) = "sub" then 1 else if ("mul" : Str) = "mul" then 2 else 3) = 2; decide) sums_rank prod_rank ea
        have ls : (signOf zw).length = 3 := by rcases hz with rfl | rfl | rfl <;> rfl
        have nz : zw ≠ "int" ∧ zw ≠ "name" ∧ zw ≠ "next" ∧ zw ≠ "new" ∧ zw ≠ "call" ∧ zw ≠ "field" ∧ zw ≠ "if" ∧ zw ≠ "let" := by rcases hz with rfl | rfl | rfl <;> decide
        refine ifA (eqz_q rfl (ite2 (fun g => absurd (of_decide_eq_true g) nz.1) (fun g => ?_)))
        refine ifA (eqz_q rfl (ite2 (fun g => absurd (of_decide_eq_true g) nz.2.1) (fun g => ?_)))
        refine ifA (eqz_q rfl (ite2 (fun g => absurd (of_decide_eq_true g) nz.2.2.1) (fun g => ?_)))
        refine ifA (or_q (b := false) (c := false) (fun R hR => eqz_q rfl (by rw [decide_eq_false nz.2.2.2.1]; exact hR)) (fun _ R hR => eqz_q rfl (by rw [decide_eq_false nz.2.2.2.2.1]; exact hR)) (ite2 (fun g => absurd g (by decide)) (fun g => ?_)))
        refine ifA (eqz_q rfl (ite2 (fun g => absurd (of_decide_eq_true g) nz.2.2.2.2.2.1) (fun g => ?_)))
        refine ifA (eqz_q rfl (ite2 (fun g => absurd (of_decide_eq_true g) nz.2.2.2.2.2.2.1) (fun g => ?_)))
        refine ifA (eqz_q rfl (ite2 (fun g => absurd (of_decide_eq_true g) nz.2.2.2.2.2.2.2) (fun g => ?_)))
        refine seqA (asgA fun p2 hp2 => ⟨upd_same, signKv, rfl, by decide, ?_⟩)
        rw [upd_upd, sign_merge]
        have s0 := same_upd (o := .dK signKv) hp2
        refine ⟨.str zw, rfl, p2, .str (signOf zw), rfl, ?_, nameA ?_⟩
        · have h9 := DGet.k (H := upd H p2 (.dK signKv)) (a := p2) (kvs := signKv) (k := .inr zw) upd_same
          rcases hz with rfl | rfl | rfl
          · exact h9
          · exact h9
          · exact h9
        dsimp only
        have hq0 := sqt_keep s0 hq
        have hx0 := dp_keep s0 hx
        have ka0 := dp_keep s0 ka
        have kb0 := dp_keep s0 kb
        generalize upd H p2 (.dK signKv) = H0 at s0 hq0 hx0 ka0 kb0 ⊢
        refine asgA ⟨.ref a, rfl, a, _, _, _, rfl, rfl, hq0, atI_nat (j := 1) rfl, .ref a, rfl, .ref a, zw, [da, db], rfl, hx0, fun H1 s1 => ⟨_, da, _, rfl, dp_keep s1 ka0, oa, ka1, pa1, Nat.le_succ_of_le pa2, fun H2 s2 => ?_⟩⟩
        have s12 := s1.trans s2
        refine ⟨.str (signOf zw), rfl, _, _, rfl, rfl, zl (by have := l1 (lrank (.tuple [.str zw, da, db])); omega), .ref a, rfl, a, _, _, _, rfl, rfl, sqt_keep s12 hq0, atI_nat (j := 2) rfl, .ref a, rfl, .ref a, zw, [da, db], rfl, dp_keep s12 hx0, fun H3 s3 => ?_⟩
        refine ⟨_, 1, rfl, rfl, _, db, _, rfl, dp_keep (s12.trans s3) kb0, ob, kb1, pb1, Nat.le_succ_of_le pb2, fun H4 s4 => ⟨_, _, rfl, rfl, zl ?_, nameA (kont _ _ ⟨⟨none, some (.str (signOf zw)), none, ?_⟩, s0.trans ((s12.trans s3).trans s4)⟩)⟩⟩
        · rw [slen]
          have := l1 (lrank (.tuple [.str zw, da, db]))
          have := l2 (lrank (.tuple [.str zw, da, db]) + 1)
          omega
        · rw [ee]
          rfl
      | ife da db dc e2 p =>
        have e3 : PyData.str zw :: r1 = _ := e2
        obtain ⟨e4, e5⟩ := List.cons.inj e3
        obtain rfl := PyData.str.inj e4
        subst e5
        have ea := etext_at (n := n) e2
        obtain ⟨x1, x2, x3, d1, d2, d3, rfl, e9, ka, kb, kc⟩ := dps3 kr rfl
        cases e9
        rw [p] at hparts
        have hp2 : ∀ e, e ∈ [da, db, dc] → formN n e = true ∧ ecnt n e ≤ 60 := fun e m => ⟨(hparts e m).1, Nat.le_succ_of_le (hparts e m).2⟩
        have l1 := tx_len (hp2 da (by simp)).1 (hp2 da (by simp)).2
        have l2 := tx_len (hp2 db (by simp)).1 (hp2 db (by simp)).2
        have l3 := tx_len (hp2 dc (by simp)).1 (hp2 dc (by simp)).2
        have oe : ∀ e, e ∈ [da, db, dc] → OnT e ∧ Ok e := fun e m => ⟨ont_mem ho (List.mem_cons_of_mem _ m), ok_mem hok (by show e ∈ PyData.str _ :: [da, db, dc]; exact List.mem_cons_of_mem _ m)⟩
        refine ifA (eqz_q rfl (ite2 (fun g => absurd g (by decide)) (fun g => ?_)))
        refine ifA (eqz_q rfl (ite2 (fun g => absurd g (by decide)) (fun g => ?_)))
        refine ifA (eqz_q rfl (ite2 (fun g => absurd g (by decide)) (fun g => ?_)))
        refine ifA (or_q (b := decide (_ = ("new" : Str))) (c := decide (_ = ("call" : Str))) (fun R hR => eqz_q rfl hR) (fun _ R hR => eqz_q rfl hR) (ite2 (fun g => absurd g (by decide)) (fun g => ?_)))
        refine ifA (eqz_q rfl (ite2 (fun g => absurd g (by decide)) (fun g => ?_)))
        refine ifA (eqz_q rfl (ite2 (fun g => ?_) (fun g => absurd (by decide) g)))
        refine seqA (asgA ⟨.ref a, rfl, 1, rfl, ?_⟩)
        dsimp only [tNoPart]
        refine sl_tailT hq (by simp) fun p1 H1 hp1 s1 hq1 => ⟨p1, rfl, ⟨_, hq1⟩, fun D hD => ?_⟩
        have hd1 : DpAll K H1 [x1, x2, x3] [da, db, dc] := .cons (dp_keep s1 ka) (.cons (dp_keep s1 kb) (.cons (dp_keep s1 kc) .nil))
        refine lc_tup (xs := [x1, x2, x3]) (fun j H' => Same H1 H' ∧ H' D = some (.lst (([da, db, dc].take j).map fun e => V.str (etext n e)))) ⟨same_upd hD, upd_same⟩ (fun j H' _ pp => sqt_keep pp.1 hq1) ?_ ?_
        · rintro j y H2 hy ⟨s2, e9⟩
          have hi : j < [da, db, dc].length := (List.getElem?_eq_some_iff.mp hy).1
          obtain ⟨y', hy1, hy2⟩ := (dp_get hd1).2 j [da, db, dc][j] (List.getElem?_eq_getElem hi)
          obtain rfl : y' = y := Option.some.inj (hy1.symm.trans hy)
          have hm : [da, db, dc][j] ∈ [da, db, dc] := List.getElem_mem hi
          refine ⟨rfl, ?_⟩
          unfold tYes
          dsimp only
          rw [if_pos rfl]
          refine ⟨y', rfl, y', [da, db, dc][j], 0, rfl, dp_keep s2 hy2, (oe _ hm).1, (oe _ hm).2, (hp2 _ hm).1, (hp2 _ hm).2, fun H3 s3 => ⟨_, s3 _ _ e9, ?_, same_mut (s2.trans s3) hD, ?_⟩⟩
          · rw [List.length_map, List.length_take]
            exact Nat.lt_of_le_of_lt (Nat.min_le_right _ _ : _ ≤ 3) (by decide)
          · rw [upd_same, List.take_add_one, List.getElem?_eq_getElem hi, List.map_append, rank0]
            rfl
        · rintro H2 ⟨s2, e9⟩
          have e9 : H2 D = some (.lst [.str (etext n da), .str (etext n db), .str (etext n dc)]) := e9
          refine nameA ?_
          have h1 : (("if " : Str) ++ etext n da).length = 3 + (etext n da).length := slen _ _
          have h2 : (("if " : Str) ++ etext n da ++ (" then " : Str)).length = (("if " : Str) ++ etext n da).length + 6 := slen _ _
          have h3 := slen (("if " : Str) ++ etext n da ++ (" then " : Str)) (etext n db)
          have h4 : (("if " : Str) ++ etext n da ++ (" then " : Str) ++ etext n db ++ (" else " : Str)).length = (("if " : Str) ++ etext n da ++ (" then " : Str) ++ etext n db).length + 6 := slen _ _
          refine asgA ⟨.ref D, rfl, D, _, _, _, rfl, rfl, SqL.of e9, atI_nat (j := 0) rfl, _, _, rfl, rfl, zl (by show 3 + _ ≤ _; omega), _, " then ", rfl, rfl, zl (by show _ + 6 ≤ _; omega), .ref D, rfl, D, _, _, _, rfl, rfl, SqL.of e9, atI_nat (j := 1) rfl, _, _, rfl, rfl, zl (by omega), _, " else ", rfl, rfl, zl (by show _ + 6 ≤ _; omega), .ref D, rfl, D, _, _, _, rfl, rfl, SqL.of e9, atI_nat (j := 2) rfl, _, _, rfl, rfl, zl (by omega), nameA (kont _ _ ⟨⟨some (.ref D), none, none, ?_⟩, s1.trans s2⟩)⟩
          have es : ("if " : Str) ++ etext n da ++ (" then " : Str) ++ etext n db ++ (" else " : Str) ++ etext n dc = ("if " : Str) ++ etext n da ++ ((" then " : Str) ++ etext n db ++ (" else " : Str) ++ etext n dc) := by rw [← sapp, ← sapp, ← sapp]
          rw [ea]
          show _ = [some (V.ref a), some (V.int r), some (V.str _), some (V.str (("if " : Str) ++ etext n da ++ ((" then " : Str) ++ etext n db ++ (" else " : Str) ++ etext n dc))), some (V.ref D), none, none]
          rw [← es]
          rfl
      | let_ w db dc e2 hw p =>
        have e3 : PyData.str zw :: r1 = _ := e2
        obtain ⟨e4, e5⟩ := List.cons.inj e3
        obtain rfl := PyData.str.inj e4
        subst e5
        have ea := etext_at (n := n) e2
        obtain ⟨x1, x2, x3, d1, d2, d3, rfl, e9, ka, kb, kc⟩ := dps3 kr rfl
        cases e9
        cases ka
        obtain ⟨z, e7, _, lw⟩ := name_len hw
        cases e7
        rw [p] at hparts
        have hp2 : ∀ e, e ∈ [db, dc] → formN n e = true ∧ ecnt n e ≤ 60 := fun e m => ⟨(hparts e m).1, Nat.le_succ_of_le (hparts e m).2⟩
        have l2 := tx_len (hp2 db (by simp)).1 (hp2 db (by simp)).2
        have l3 := tx_len (hp2 dc (by simp)).1 (hp2 dc (by simp)).2
        refine ifA (eqz_q rfl (ite2 (fun g => absurd g (by decide)) (fun g => ?_)))
        refine ifA (eqz_q rfl (ite2 (fun g => absurd g (by decide)) (fun g => ?_)))
        refine ifA (eqz_q rfl (ite2 (fun g => absurd g (by decide)) (fun g => ?_)))
        refine ifA (or_q (b := decide (_ = ("new" : Str))) (c := decide (_ = ("call" : Str))) (fun R hR => eqz_q rfl hR) (fun _ R hR => eqz_q rfl hR) (ite2 (fun g => absurd g (by decide)) (fun g => ?_)))
        refine ifA (eqz_q rfl (ite2 (fun g => absurd g (by decide)) (fun g => ?_)))
        refine ifA (eqz_q rfl (ite2 (fun g => absurd g (by decide)) (fun g => ?_)))
        refine ifA (eqz_q rfl (ite2 (fun g => ?_) (fun g => absurd (by decide) g)))
        have h1 : (("let " : Str) ++ w).length = 4 + w.length := slen _ _
        have h2 : (("let " : Str) ++ w ++ (" = " : Str)).length = (("let " : Str) ++ w).length + 3 := slen _ _
        have h3 := slen (("let " : Str) ++ w ++ (" = " : Str)) (etext n db)
        have h4 : (("let " : Str) ++ w ++ (" = " : Str) ++ etext n db ++ (" in " : Str)).length = (("let " : Str) ++ w ++ (" = " : Str) ++ etext n db).length + 4 := slen _ _
        refine asgA ⟨.ref a, rfl, a, _, _, _, rfl, rfl, hq, atI_nat (j := 1) rfl, _, _, rfl, rfl, zl (by show 4 + _ ≤ _; omega), _, " = ", rfl, rfl, zl (by show _ + 3 ≤ _; omega), .ref a, rfl, a, _, _, _, rfl, rfl, hq, atI_nat (j := 2) rfl, x2, db, 0, rfl, kb, ont_mem ho (by simp), ok_mem hok (by simp [items]), (hp2 db (by simp)).1, (hp2 db (by simp)).2, fun H1 s1 => ?_⟩
        rw [rank0]
        refine ⟨_, _, rfl, rfl, zl (by omega), _, " in ", rfl, rfl, zl (by show _ + 4 ≤ _; omega), .ref a, rfl, a, _, _, _, rfl, rfl, sqt_keep s1 hq, atI_nat (j := 3) rfl, x3, dc, 0, rfl, dp_keep s1 kc, ont_mem ho (by simp), ok_mem hok (by simp [items]), (hp2 dc (by simp)).1, (hp2 dc (by simp)).2, fun H2 s2 => ?_⟩
        rw [rank0]
        refine ⟨_, _, rfl, rfl, zl (by omega), nameA (kont _ _ ⟨⟨none, none, none, ?_⟩, s1.trans s2⟩)⟩
        rw [ea]
        rfl
end
end Cw

set_option Elab.async false
set_option linter.all false
set_option maxRecDepth 100000
set_option maxHeartbeats 4000000
/-! # CwPar: a reader of expressions that keeps what waits on a list, as a machine over tokens; it reads each text of an expression, however many parentheses stand around its parts. -/
namespace CwP
open PySem
abbrev KT := Str × Str
inductive Wt
  | ife | then_ (a : PyData) | else_ (a b : PyData) | let_ (w : Str) | in_ (w : Str) (a : PyData) | par | args (z c : Str) (ds : List PyData) | sign (s : Str) (a : PyData)
inductive Md
  | P (ts : List KT) (W : List Wt) | O (ts : List KT) (W : List Wt) (m : PyData) | D (ts : List KT) (m : PyData)
def wordOf (s : Str) : Str := if s = "+" then "add" else if s = "-" then "sub" else "mul"
def joined : List Wt → PyData → List Str → List Wt × PyData
  | .sign s a :: W, m, l => if s ∈ l then joined W (.tuple [.str (wordOf s), a, m]) l else (.sign s a :: W, m)
  | W, m, _ => (W, m)
def sgs : List Str := ["+", "-", "*"]
def nearer (k : Str) : List Str := if k = "*" then ["*"] else sgs
def topSg : List Wt → Bool
  | .sign _ _ :: _ => true
  | _ => false
def eInt (i : Int) : PyData := .tuple [.str "int", .int i]
def eName (w : Str) : PyData := .tuple [.str "name", .str w]
def eNext : PyData := .tuple [.str "next"]
def eArgs (z c : Str) (ds : List PyData) : PyData := .tuple [.str z, .str c, .tuple ds]
def eField (a : PyData) (c f : Str) : PyData := .tuple [.str "field", a, .str c, .str f]
def eBin (z : Str) (a b : PyData) : PyData := .tuple [.str z, a, b]
def eIf (a b c : PyData) : PyData := .tuple [.str "if", a, b, c]
def eLet (w : Str) (a b : PyData) : PyData := .tuple [.str "let", .str w, a, b]
variable (val : Str → Int)
def pLet : List KT → List Wt → Option Md
  | (k1, w) :: (k2, _) :: r2, W => if k1 = "name" ∧ k2 = "=" then some (.P r2 (.let_ w :: W)) else none
  | _, _ => none
def pNew : List KT → List Wt → Option Md
  | (k1, m) :: (k2, _) :: (k3, c) :: (k4, _) :: (k5, t5) :: r2, W => if k1 = "name" ∧ k2 = "." ∧ k3 = "word" ∧ k4 = "(" then
      (if k5 = ")" then some (.O r2 W (eArgs "new" (m ++ ("." : Str) ++ c) [])) else some (.P ((k5, t5) :: r2) (.args "new" (m ++ ("." : Str) ++ c) [] :: W))) else none
  | _, _ => none
def pName (t : Str) : List KT → List Wt → Option Md
  | [], W => some (.O [] W (eName t))
  | [(k1, t1)], W => if k1 = "." then none else some (.O [(k1, t1)] W (eName t))
  | (k1, t1) :: (k2, t2) :: r2, W => if k1 = "." ∧ k2 ≠ "(" then (match r2 with
      | (k3, _) :: r3 => if k2 = "name" ∧ k3 = "(" then some (.P r3 (.args "call" (t ++ ("." : Str) ++ t2) [] :: W)) else none
      | [] => none) else some (.O ((k1, t1) :: (k2, t2) :: r2) W (eName t))
/-- the primary that begins -/
def pStart : List KT → List Wt → Option Md
  | (k, t) :: r, W =>
    if (k = "if" ∨ k = "let") ∧ topSg W = false then (if k = "if" then some (.P r (.ife :: W)) else pLet r W)
    else if k = "(" then some (.P r (.par :: W))
    else if k = "integer" then some (.O r W (eInt (val t)))
    else if k = "next" then some (.O r W eNext)
    else if k = "new" then pNew r W
    else if k = "name" then pName t r W
    else none
  | [], _ => none
def pField : List KT → List Wt → PyData → Option Md
  | (k1, _) :: (k2, a) :: (k3, _) :: (k4, b) :: (k5, _) :: (k6, f) :: (k7, _) :: r2, W, m => if k1 = "(" ∧ k2 = "name" ∧ k3 = "." ∧ k4 = "word" ∧ k5 = "." ∧ k6 = "name" ∧ k7 = ")" then some (.O r2 W (eField m (a ++ ("." : Str) ++ b) f)) else none
  | _, _, _ => none
/-- what the innermost that waits is with this part -/
def comp (k t : Str) (r : List KT) : List Wt → PyData → Option Md
  | [], m => some (.D ((k, t) :: r) m)
  | .par :: W2, m => if k = ")" then some (.O r W2 m) else none
  | .args z c ds :: W2, m => if k = "," then some (.P r (.args z c (ds ++ [m]) :: W2)) else if k = ")" then some (.O r W2 (eArgs z c (ds ++ [m]))) else none
  | .else_ a b :: W2, m => some (.O ((k, t) :: r) W2 (eIf a b m))
  | .in_ w a :: W2, m => some (.O ((k, t) :: r) W2 (eLet w a m))
  | .ife :: W2, m => if k = "then" then some (.P r (.then_ m :: W2)) else none
  | .then_ a :: W2, m => if k = "else" then some (.P r (.else_ a m :: W2)) else none
  | .let_ w :: W2, m => if k = "in" then some (.P r (.in_ w m :: W2)) else none
  | .sign _ _ :: _, _ => none
/-- behind a part -/
def pOn : List KT → List Wt → PyData → Option Md
  | (k, t) :: r, W, m =>
    if k = "." then pField r W m
    else if k ∈ sgs then some (.P r (.sign k (joined W m (nearer k)).2 :: (joined W m (nearer k)).1))
    else comp k t r (joined W m sgs).1 (joined W m sgs).2
  | [], _, _ => none
def step : Md → Option Md
  | .P ts W => pStart val ts W
  | .O ts W m => pOn ts W m
  | .D _ _ => none
inductive Re : Md → Md → Prop
  | refl (a : Md) : Re a a
  | step {a b c : Md} (h : step val a = some b) (t : Re b c) : Re a c
theorem Re.trans {a b c : Md} (h : Re val a b) (g : Re val b c) : Re val a c := by
  induction h with
  | refl => exact g
  | step h _ ih => exact .step h (ih g)
theorem Re.one {a b : Md} (h : CwP.step val a = some b) : Re val a b := .step h (.refl _)
/-! ### the texts -/
abbrev tk (k : Str) : KT := (k, k)
abbrev nm (w : Str) : KT := ("name", w)
def cnameT (m c : Str) : List KT := [("name", m), tk ".", ("word", c)]
mutual
inductive Tx : Nat → PyData → List KT → Prop
  | int (t : Str) : Tx 3 (eInt (val t)) [("integer", t)]
  | name (w : Str) : Tx 3 (eName w) [("name", w)]
  | next : Tx 3 eNext [tk "next"]
  | new0 (m c : Str) : Tx 3 (eArgs "new" (m ++ ("." : Str) ++ c) []) (tk "new" :: cnameT m c ++ [tk "(", tk ")"])
  | new (m c : Str) {ds : List PyData} {ts : List KT} (h : Ta ds ts) : Tx 3 (eArgs "new" (m ++ ("." : Str) ++ c) ds) (tk "new" :: cnameT m c ++ tk "(" :: ts ++ [tk ")"])
  | call (m g : Str) {ds : List PyData} {ts : List KT} (h : Ta ds ts) : Tx 3 (eArgs "call" (m ++ ("." : Str) ++ g) ds) (nm m :: tk "." :: nm g :: tk "(" :: ts ++ [tk ")"])
  | par {d : PyData} {ts : List KT} (h : Tx 0 d ts) : Tx 3 d (tk "(" :: ts ++ [tk ")"])
  | field {a : PyData} {ts : List KT} (m c f : Str) (h : Tx 3 a ts) : Tx 3 (eField a (m ++ ("." : Str) ++ c) f) (ts ++ (tk "." :: tk "(" :: cnameT m c ++ [tk ".", ("name", f), tk ")"]))
  | up3 {d : PyData} {ts : List KT} (h : Tx 3 d ts) : Tx 2 d ts
  | mul {a b : PyData} {ts us : List KT} (h : Tx 2 a ts) (g : Tx 3 b us) : Tx 2 (eBin "mul" a b) (ts ++ tk "*" :: us)
  | up2 {d : PyData} {ts : List KT} (h : Tx 2 d ts) : Tx 1 d ts
  | add {a b : PyData} {ts us : List KT} (h : Tx 1 a ts) (g : Tx 2 b us) : Tx 1 (eBin "add" a b) (ts ++ tk "+" :: us)
  | sub {a b : PyData} {ts us : List KT} (h : Tx 1 a ts) (g : Tx 2 b us) : Tx 1 (eBin "sub" a b) (ts ++ tk "-" :: us)
  | up1 {d : PyData} {ts : List KT} (h : Tx 1 d ts) : Tx 0 d ts
  | ife {a b c : PyData} {ts us vs : List KT} (h : Tx 0 a ts) (g : Tx 0 b us) (k : Tx 0 c vs) : Tx 0 (eIf a b c) (tk "if" :: ts ++ tk "then" :: us ++ tk "else" :: vs)
  | let_ (w : Str) {a b : PyData} {ts us : List KT} (h : Tx 0 a ts) (g : Tx 0 b us) : Tx 0 (eLet w a b) (tk "let" :: ("name", w) :: tk "=" :: ts ++ tk "in" :: us)
inductive Ta : List PyData → List KT → Prop
  | one {d : PyData} {ts : List KT} (h : Tx 0 d ts) : Ta [d] ts
  | cons {d : PyData} {ds : List PyData} {ts us : List KT} (h : Tx 0 d ts) (t : Ta ds us) : Ta (d :: ds) (ts ++ tk "," :: us)
end
variable {val}
def okR (rest : List KT) : Prop := ∀ k t r, rest = (k, t) :: r → k = "." → ∃ (t2 : Str) (r2 : List KT), r = (("(" : Str), t2) :: r2
def F0 (rest : List KT) : Prop := ∃ k t r, rest = (k, t) :: r ∧ k ≠ "." ∧ k ∉ sgs
theorem F0.ok {rest : List KT} (h : F0 rest) : okR rest := by
  obtain ⟨k, t, r, rfl, h1, _⟩ := h
  intro k2 t2 r2 e e2
  obtain ⟨e3, _⟩ := List.cons.inj e
  cases e3
  exact absurd e2 h1
theorem okR_dot {t t2 : Str} {r : List KT} : okR ((".", t) :: ("(", t2) :: r) := fun k t3 r3 e _ => by
  obtain ⟨_, e4⟩ := List.cons.inj e
  exact ⟨t2, r, e4.symm⟩
theorem okR_ne {k t : Str} {r : List KT} (h : k ≠ ".") : okR ((k, t) :: r) := fun k2 t3 r3 e e2 => by
  obtain ⟨e3, _⟩ := List.cons.inj e
  cases e3
  exact absurd e2 h
def starTop : List Wt → Prop
  | .sign s _ :: _ => s ≠ "*"
  | _ => True
theorem joined_top {W : List Wt} {m : PyData} {l : List Str} (h : topSg W = false) : joined W m l = (W, m) := by
  match W, h with
  | [], _ => rfl
  | .ife :: _, _ => rfl
  | .then_ _ :: _, _ => rfl
  | .else_ _ _ :: _, _ => rfl
  | .let_ _ :: _, _ => rfl
  | .in_ _ _ :: _, _ => rfl
  | .par :: _, _ => rfl
  | .args _ _ _ :: _, _ => rfl
theorem joined_star {W : List Wt} {m : PyData} (h : starTop W) : joined W m ["*"] = (W, m) := by
  match W, h with
  | [], _ => rfl
  | .ife :: _, _ => rfl
  | .then_ _ :: _, _ => rfl
  | .else_ _ _ :: _, _ => rfl
  | .let_ _ :: _, _ => rfl
  | .in_ _ _ :: _, _ => rfl
  | .par :: _, _ => rfl
  | .args _ _ _ :: _, _ => rfl
  | .sign s a :: W, h =>
    have h : s ≠ "*" := h
    show (if s ∈ (["*"] : List Str) then _ else (Wt.sign s a :: W, m)) = _
    rw [if_neg (by simpa using h)]
theorem star_of {W : List Wt} (h : topSg W = false) : starTop W := by
  match W, h with
  | [], _ => trivial
  | .ife :: _, _ => trivial
  | .then_ _ :: _, _ => trivial
  | .else_ _ _ :: _, _ => trivial
  | .let_ _ :: _, _ => trivial
  | .in_ _ _ :: _, _ => trivial
  | .par :: _, _ => trivial
  | .args _ _ _ :: _, _ => trivial
theorem joined_cons {s : Str} {a m : PyData} {W : List Wt} {l : List Str} (h : s ∈ l) : joined (.sign s a :: W) m l = joined W (.tuple [.str (wordOf s), a, m]) l := by
  show (if s ∈ l then _ else _) = _
  rw [if_pos h]
/-! the first token closes nothing -/
def hdOk (ts : List KT) : Prop := ∃ k t r, ts = (k, t) :: r ∧ k ≠ ")"
theorem hdOk.app {ts us : List KT} (h : hdOk ts) : hdOk (ts ++ us) := by
  obtain ⟨k, t, r, rfl, e⟩ := h
  exact ⟨k, t, r ++ us, rfl, e⟩
mutual
theorem head_ne : ∀ {n : Nat} {d : PyData} {ts : List KT}, Tx val n d ts → hdOk ts
  | _, _, _, .int t => ⟨_, _, _, rfl, by decide⟩
  | _, _, _, .name w => ⟨_, _, _, rfl, by decide⟩
  | _, _, _, .next => ⟨_, _, _, rfl, by decide⟩
  | _, _, _, .new0 m c => ⟨_, _, _, rfl, by decide⟩
  | _, _, _, .new m c h => ⟨_, _, _, rfl, by decide⟩
  | _, _, _, .call m g h => ⟨_, _, _, rfl, by decide⟩
  | _, _, _, .par h => ⟨_, _, _, rfl, by decide⟩
  | _, _, _, .field m c f h => (head_ne h).app
  | _, _, _, .up3 h => head_ne h
  | _, _, _, .mul h g => (head_ne h).app
  | _, _, _, .up2 h => head_ne h
  | _, _, _, .add h g => (head_ne h).app
  | _, _, _, .sub h g => (head_ne h).app
  | _, _, _, .up1 h => head_ne h
  | _, _, _, .ife h g k => ⟨_, _, _, rfl, by decide⟩
  | _, _, _, .let_ w h g => ⟨_, _, _, rfl, by decide⟩
theorem head_ne_a : ∀ {ds : List PyData} {ts : List KT}, Ta val ds ts → hdOk ts
  | _, _, .one h => head_ne h
  | _, _, .cons h t => (head_ne h).app
end
def T2 (W W' : List Wt) (m d : PyData) : Prop := (W' = W ∧ m = d) ∨ ∃ a, W' = .sign "*" a :: W ∧ d = eBin "mul" a m
theorem T2.star {W W' : List Wt} {m d : PyData} (h : T2 W W' m d) (s : starTop W) : joined W' m ["*"] = (W, d) := by
  rcases h with ⟨rfl, rfl⟩ | ⟨a, rfl, rfl⟩
  · exact joined_star s
  · rw [joined_cons (by decide)]
    exact joined_star s
theorem T2.all {W W' : List Wt} {m d : PyData} (h : T2 W W' m d) : joined W' m sgs = joined W d sgs := by
  rcases h with ⟨rfl, rfl⟩ | ⟨a, rfl, rfl⟩
  · rfl
  · rw [joined_cons (by decide)]
    rfl
def Gl : Nat → PyData → List KT → Prop
  | 3, d, ts => ∀ W rest, okR rest → Re val (.P (ts ++ rest) W) (.O rest W d)
  | 2, d, ts => ∀ W rest, okR rest → starTop W → ∃ W' m, Re val (.P (ts ++ rest) W) (.O rest W' m) ∧ T2 W W' m d
  | 1, d, ts => ∀ W rest, okR rest → topSg W = false → ∃ W' m, Re val (.P (ts ++ rest) W) (.O rest W' m) ∧ joined W' m sgs = (W, d)
  | 0, d, ts => ∀ W rest, F0 rest → topSg W = false → ∃ W' m, Re val (.P (ts ++ rest) W) (.O rest W' m) ∧ joined W' m sgs = (W, d)
  | _, _, _ => True
def Ga (ds : List PyData) (ts : List KT) : Prop := ∀ z c pre W rest, Re val (.P (ts ++ tk ")" :: rest) (.args z c pre :: W)) (.O rest W (eArgs z c (pre ++ ds)))
theorem on_eq {k t : Str} {r : List KT} {W W1 : List Wt} {m m1 : PyData} (h : joined W m sgs = (W1, m1)) (hk : k ≠ ".") (hs : k ∉ sgs) : pOn ((k, t) :: r) W m = comp k t r W1 m1 := by
  show (if k = "." then pField r W m else if k ∈ sgs then _ else comp k t r (joined W m sgs).1 (joined W m sgs).2) = _
  rw [if_neg hk, if_neg hs, h]
theorem on_sign {k t : Str} {r : List KT} {W W1 : List Wt} {m m1 : PyData} (h : joined W m (nearer k) = (W1, m1)) (hk : k ≠ ".") (hs : k ∈ sgs) : pOn ((k, t) :: r) W m = some (.P r (.sign k m1 :: W1)) := by
  show (if k = "." then pField r W m else if k ∈ sgs then some (Md.P r (.sign k (joined W m (nearer k)).2 :: (joined W m (nearer k)).1)) else _) = _
  rw [if_neg hk, if_pos hs, h]
theorem st_name {w : Str} {rest : List KT} {W : List Wt} (h : okR rest) : pStart val (nm w :: rest) W = some (.O rest W (eName w)) := by
  show pName w rest W = _
  match rest, h with
  | [], _ => rfl
  | [(k1, t1)], h =>
    have hk : k1 ≠ "." := fun e => by
      obtain ⟨t2, r2, e2⟩ := h k1 t1 [] rfl e
      cases e2
    show (if k1 = "." then none else some (Md.O [(k1, t1)] W (eName w))) = _
    rw [if_neg hk]
  | (k1, t1) :: (k2, t2) :: r2, h =>
    have hk : ¬ (k1 = "." ∧ k2 ≠ "(") := fun e => by
      obtain ⟨t3, r3, e2⟩ := h k1 t1 _ rfl e.1
      have e3 := (List.cons.inj e2).1
      exact e.2 (Prod.mk.inj e3).1
    show (if k1 = "." ∧ k2 ≠ "(" then _ else some (Md.O ((k1, t1) :: (k2, t2) :: r2) W (eName w))) = _
    rw [if_neg hk]
theorem F0.mk {k t : Str} {r : List KT} (h1 : k ≠ ".") (h2 : k ∉ sgs) : F0 ((k, t) :: r) := ⟨k, t, r, rfl, h1, h2⟩
mutual
theorem reads : ∀ {n : Nat} {d : PyData} {ts : List KT}, Tx val n d ts → Gl (val := val) n d ts
  | _, _, _, .int t => fun W rest ok => .one val rfl
  | _, _, _, .name w => fun W rest ok => .one val (st_name (val := val) ok)
  | _, _, _, .next => fun W rest ok => .one val rfl
  | _, _, _, .new0 m c => fun W rest ok => .one val rfl
  | _, _, _, .new (ds := ds) (ts := ts) m c h => fun W rest ok => by
    have ih := reads_a h "new" (m ++ ("." : Str) ++ c) [] W rest
    obtain ⟨k, t, r, rfl, hk⟩ := head_ne_a h
    refine .step (b := .P ((k, t) :: r ++ tk ")" :: rest) (.args "new" (m ++ ("." : Str) ++ c) [] :: W)) ?_ ih
    show (if k = ")" then _ else some (Md.P ((k, t) :: (r ++ [tk ")"] ++ rest)) (.args "new" (m ++ ("." : Str) ++ c) [] :: W))) = _
    rw [if_neg hk, List.append_assoc]
    rfl
  | _, _, _, .call (ds := ds) (ts := ts) m g h => fun W rest ok => by
    have ih := reads_a h "call" (m ++ ("." : Str) ++ g) [] W rest
    refine .step (b := .P (ts ++ tk ")" :: rest) (.args "call" (m ++ ("." : Str) ++ g) [] :: W)) ?_ ih
    show some (Md.P ((ts ++ [tk ")"]) ++ rest) (.args "call" (m ++ ("." : Str) ++ g) [] :: W)) = _
    rw [List.append_assoc]
    rfl
  | _, _, _, .par (d := d) (ts := ts) h => fun W rest ok => by
    obtain ⟨W', m, h1, h2⟩ := reads h (.par :: W) (tk ")" :: rest) (F0.mk (by decide) (by decide)) rfl
    refine .step (b := .P (ts ++ tk ")" :: rest) (.par :: W)) ?_ (h1.trans val (.one val ?_))
    · show some (Md.P ((ts ++ [tk ")"]) ++ rest) (.par :: W)) = _
      rw [List.append_assoc]
      rfl
    · exact on_eq (k := ")") (t := ")") (r := rest) h2 (by decide) (by decide)
  | _, _, _, .field (a := a) (ts := ts) m c f h => fun W rest ok => by
    have h1 := reads h W (tk "." :: tk "(" :: cnameT m c ++ [tk ".", nm f, tk ")"] ++ rest) okR_dot
    rw [List.append_assoc]
    exact h1.trans val (.one val rfl)
  | _, _, _, .up3 h => fun W rest ok _ => ⟨W, _, reads h W rest ok, .inl ⟨rfl, rfl⟩⟩
  | _, _, _, .mul (a := a) (b := b) (ts := ts) (us := us) h g => fun W rest ok s => by
    obtain ⟨W1, m1, h1, h2⟩ := reads h W (tk "*" :: us ++ rest) (okR_ne (by decide)) s
    have g1 := reads g (.sign "*" a :: W) rest ok
    rw [List.append_assoc]
    exact ⟨.sign "*" a :: W, b, h1.trans val (.step (on_sign (k := "*") (t := "*") (r := us ++ rest) (show joined W1 m1 (nearer "*") = (W, a) from h2.star s) (by decide) (by decide)) g1), .inr ⟨a, rfl, rfl⟩⟩
  | _, _, _, .up2 h => fun W rest ok s => by
    obtain ⟨W', m, h1, h2⟩ := reads h W rest ok (star_of s)
    exact ⟨W', m, h1, h2.all.trans (joined_top s)⟩
  | _, _, _, .add (a := a) (b := b) (ts := ts) (us := us) h g => fun W rest ok s => by
    obtain ⟨W1, m1, h1, h2⟩ := reads h W (tk "+" :: us ++ rest) (okR_ne (by decide)) s
    obtain ⟨W2, m2, g1, g2⟩ := reads g (.sign "+" a :: W) rest ok (by show ("+" : Str) ≠ "*"; decide)
    rw [List.append_assoc]
    refine ⟨W2, m2, h1.trans val (.step (on_sign (k := "+") (t := "+") (r := us ++ rest) (show joined W1 m1 (nearer "+") = (W, a) from h2) (by decide) (by decide)) g1), ?_⟩
    rw [g2.all, joined_cons (by decide), joined_top s]
    rfl
  | _, _, _, .sub (a := a) (b := b) (ts := ts) (us := us) h g => fun W rest ok s => by
    obtain ⟨W1, m1, h1, h2⟩ := reads h W (tk "-" :: us ++ rest) (okR_ne (by decide)) s
    obtain ⟨W2, m2, g1, g2⟩ := reads g (.sign "-" a :: W) rest ok (by show ("-" : Str) ≠ "*"; decide)
    rw [List.append_assoc]
    refine ⟨W2, m2, h1.trans val (.step (on_sign (k := "-") (t := "-") (r := us ++ rest) (show joined W1 m1 (nearer "-") = (W, a) from h2) (by decide) (by decide)) g1), ?_⟩
    rw [g2.all, joined_cons (by decide), joined_top s]
    rfl
  | _, _, _, .up1 h => fun W rest ok s => reads h W rest ok.ok s
  | _, _, _, .ife (a := a) (b := b) (c := c) (ts := ts) (us := us) (vs := vs) h g k => fun W rest ok s => by
    obtain ⟨W1, m1, h1, h2⟩ := reads h (.ife :: W) (tk "then" :: us ++ tk "else" :: vs ++ rest) (F0.mk (by decide) (by decide)) rfl
    obtain ⟨W2, m2, g1, g2⟩ := reads g (.then_ a :: W) (tk "else" :: vs ++ rest) (F0.mk (by decide) (by decide)) rfl
    obtain ⟨W3, m3, k1, k2⟩ := reads k (.else_ a b :: W) rest ok rfl
    obtain ⟨kk, tt, rr, rfl, e1, e2⟩ := ok
    refine ⟨W, eIf a b c, ?_, joined_top s⟩
    have st : CwP.step val (.P (tk "if" :: (ts ++ (tk "then" :: us ++ tk "else" :: vs ++ (kk, tt) :: rr))) W) = some (.P (ts ++ (tk "then" :: us ++ tk "else" :: vs ++ (kk, tt) :: rr)) (.ife :: W)) := by
      show (if (("if" : Str) = "if" ∨ ("if" : Str) = "let") ∧ topSg W = false then _ else _) = _
      rw [if_pos ⟨.inl rfl, s⟩]
      rfl
    have e3 : (tk "if" :: ts ++ tk "then" :: us ++ tk "else" :: vs) ++ (kk, tt) :: rr = tk "if" :: (ts ++ (tk "then" :: us ++ tk "else" :: vs ++ (kk, tt) :: rr)) := by simp
    rw [e3]
    refine .step st (h1.trans val (.step (on_eq (k := "then") (t := "then") (r := us ++ tk "else" :: vs ++ (kk, tt) :: rr) h2 (by decide) (by decide)) ?_))
    have e4 : us ++ tk "else" :: vs ++ (kk, tt) :: rr = us ++ (tk "else" :: vs ++ (kk, tt) :: rr) := by simp
    show Re val (.P (us ++ tk "else" :: vs ++ (kk, tt) :: rr) (.then_ a :: W)) _
    rw [e4]
    refine g1.trans val (.step (on_eq (k := "else") (t := "else") (r := vs ++ (kk, tt) :: rr) g2 (by decide) (by decide)) (k1.trans val (.one val ?_)))
    exact on_eq k2 e1 e2
  | _, _, _, .let_ (a := a) (b := b) (ts := ts) (us := us) w h g => fun W rest ok s => by
    obtain ⟨W1, m1, h1, h2⟩ := reads h (.let_ w :: W) (tk "in" :: us ++ rest) (F0.mk (by decide) (by decide)) rfl
    obtain ⟨W2, m2, g1, g2⟩ := reads g (.in_ w a :: W) rest ok rfl
    obtain ⟨kk, tt, rr, rfl, e1, e2⟩ := ok
    refine ⟨W, eLet w a b, ?_, joined_top s⟩
    have st : CwP.step val (.P (tk "let" :: nm w :: tk "=" :: (ts ++ (tk "in" :: us ++ (kk, tt) :: rr))) W) = some (.P (ts ++ (tk "in" :: us ++ (kk, tt) :: rr)) (.let_ w :: W)) := by
      show (if (("let" : Str) = "if" ∨ ("let" : Str) = "let") ∧ topSg W = false then _ else _) = _
      rw [if_pos ⟨.inr rfl, s⟩]
      rfl
    have e3 : (tk "let" :: nm w :: tk "=" :: ts ++ tk "in" :: us) ++ (kk, tt) :: rr = tk "let" :: nm w :: tk "=" :: (ts ++ (tk "in" :: us ++ (kk, tt) :: rr)) := by simp
    show Re val (.P ((tk "let" :: nm w :: tk "=" :: ts ++ tk "in" :: us) ++ (kk, tt) :: rr) W) _
    rw [e3]
    refine .step st (h1.trans val (.step (on_eq (k := "in") (t := "in") (r := us ++ (kk, tt) :: rr) h2 (by decide) (by decide)) (g1.trans val (.one val ?_))))
    exact on_eq g2 e1 e2
theorem reads_a : ∀ {ds : List PyData} {ts : List KT}, Ta val ds ts → Ga (val := val) ds ts
  | _, _, .one (d := d) (ts := ts) h => fun z c pre W rest => by
    obtain ⟨W1, m1, h1, h2⟩ := reads h (.args z c pre :: W) (tk ")" :: rest) (F0.mk (by decide) (by decide)) rfl
    exact h1.trans val (.one val (on_eq (k := ")") (t := ")") (r := rest) h2 (by decide) (by decide)))
  | _, _, .cons (d := d) (ds := ds) (ts := ts) (us := us) h t => fun z c pre W rest => by
    obtain ⟨W1, m1, h1, h2⟩ := reads h (.args z c pre :: W) (tk "," :: us ++ tk ")" :: rest) (F0.mk (by decide) (by decide)) rfl
    have ih := reads_a t z c (pre ++ [d]) W rest
    rw [List.append_assoc] at ih
    rw [List.append_assoc]
    exact h1.trans val (.step (on_eq (k := ",") (t := ",") (r := us ++ tk ")" :: rest) h2 (by decide) (by decide)) ih)
end
/-- the whole text of an expression, and what ends it -/
theorem reads_all {d : PyData} {ts : List KT} {t : Str} (h : Tx val 0 d ts) : Re val (.P (ts ++ [((("end" : Str), t) : KT)]) []) (.D [((("end" : Str), t) : KT)] d) := by
  obtain ⟨W1, m1, h1, h2⟩ := reads h [] [((("end" : Str), t) : KT)] (F0.mk (by decide) (by decide)) rfl
  exact h1.trans val (.one val (on_eq (k := "end") (t := t) (r := []) h2 (by decide) (by decide)))
end CwP

set_option Elab.async false
set_option linter.all false
set_option maxRecDepth 100000
set_option maxHeartbeats 4000000
namespace Cw
open PySem PySem.Spec PyProof.Rows L2 CwP
/-! ### tokens -/
def digC (c : Nat) : Bool := decide (48 ≤ c ∧ c ≤ 57)
def letC (c : Nat) : Bool := lowC c || upC c
def blaC (c : Nat) : Bool := decide (c = 32 ∨ c = 10)
def alnC (c : Nat) : Bool := digC c || letC c
def signs11 : List Str := ["(", ")", "{", "}", ":", ",", "=", ".", "+", "-", "*"]
variable (num : Str → Bool)
def kindOf (z : Str) : Str :=
  if z ∈ signs11 ∨ z ∈ reserved then z else if isName (.str z) = true then "name" else if isWord (.str z) = true then "word"
  else if (z.cps.toList.head?.any digC && num z) = true then "integer" else "strange"
def sOf (l : List Nat) : Str := ⟨l.toArray⟩
/-- what the tokens of some characters are -/
inductive Sc : List Nat → List KT → Prop
  | nil : Sc [] [((("end" : Str), ("" : Str)) : KT)]
  | bla {c : Nat} {r : List Nat} {ts : List KT} (h : blaC c = true) (t : Sc r ts) : Sc (c :: r) ts
  | dig {a r : List Nat} {ts : List KT} (n : a ≠ []) (h : a.all digC = true) (g : r.head?.any digC = false) (t : Sc r ts) : Sc (a ++ r) ((kindOf num (sOf a), sOf a) :: ts)
  | let_ {a r : List Nat} {ts : List KT} (n : a ≠ []) (h : a.all letC = true) (g : r.head?.any letC = false) (t : Sc r ts) : Sc (a ++ r) ((kindOf num (sOf a), sOf a) :: ts)
  | one {c : Nat} {r : List Nat} {ts : List KT} (h : blaC c = false) (g : alnC c = false) (t : Sc r ts) : Sc (c :: r) ((kindOf num (sOf [c]), sOf [c]) :: ts)
def clean (r : List Nat) : Prop := r.head?.any alnC = false
/-- behind which only what is no letter and no digit may stand; behind which anything may stand -/
def Sx (s : List Nat) (ts : List KT) : Prop := ∀ r us, clean r → Sc num r us → Sc num (s ++ r) (ts ++ us)
def Sa (s : List Nat) (ts : List KT) : Prop := ∀ r us, Sc num r us → Sc num (s ++ r) (ts ++ us)
variable {num}
theorem Sa.x {s : List Nat} {ts : List KT} (h : Sa num s ts) : Sx num s ts := fun r us _ g => h r us g
theorem Sa.app {s t : List Nat} {ts us : List KT} (h : Sa num s ts) (g : Sa num t us) : Sa num (s ++ t) (ts ++ us) := fun r vs k => by
  rw [List.append_assoc, List.append_assoc]
  exact h _ _ (g _ _ k)
theorem Sa.appx {s t : List Nat} {ts us : List KT} (h : Sa num s ts) (g : Sx num t us) : Sx num (s ++ t) (ts ++ us) := fun r vs c k => by
  rw [List.append_assoc, List.append_assoc]
  exact h _ _ (g _ _ c k)
theorem Sx.appa {s t : List Nat} {ts us : List KT} (h : Sx num s ts) (g : Sa num t us) (c : t ≠ []) (e : t.head?.any alnC = false) : Sa num (s ++ t) (ts ++ us) := fun r vs k => by
  rw [List.append_assoc, List.append_assoc]
  refine h _ _ ?_ (g _ _ k)
  match t, c, e with
  | a :: t, _, e => exact e
theorem sa_sign {c : Nat} (h : blaC c = false) (g : alnC c = false) : Sa num [c] [(kindOf num (sOf [c]), sOf [c])] := fun r us k => .one h g k
theorem sa_bla {c : Nat} (h : blaC c = true) : Sa num [c] [] := fun r us k => .bla h k
theorem head_imp {r : List Nat} {p q : Nat → Bool} (h : ∀ c, q c = true → p c = true) (e : r.head?.any p = false) : r.head?.any q = false := by
  cases r with
  | nil => rfl
  | cons c r =>
    have e : p c = false := e
    show q c = false
    cases k : q c with
    | false => rfl
    | true => rw [h c k] at e; cases e
theorem sx_let {a : List Nat} (n : a ≠ []) (h : a.all letC = true) : Sx num a [(kindOf num (sOf a), sOf a)] := fun r us c k =>
  .let_ n h (head_imp (fun c e => by unfold alnC; rw [e, Bool.or_true]) c) k
theorem sx_dig {a : List Nat} (n : a ≠ []) (h : a.all digC = true) : Sx num a [(kindOf num (sOf a), sOf a)] := fun r us c k =>
  .dig n h (head_imp (fun c e => by unfold alnC; rw [e, Bool.true_or]) c) k
/-- the characters of a text -/
abbrev L (z : Str) : List Nat := z.cps.toList
theorem L_app (x y : Str) : L (x ++ y) = L x ++ L y := by
  show (x.cps ++ y.cps).toList = _
  rw [Array.toList_append]
theorem sOf_L (z : Str) : sOf (L z) = z := by
  show (⟨z.cps.toList.toArray⟩ : Str) = z
  rw [Array.toArray_toList]
/-! ### kinds of names and words -/
theorem name_parts {z : Str} (h : isName (.str z) = true) : L z ≠ [] ∧ (L z).all letC = true ∧ kindOf num z = "name" := by
  have h1 : isNameS z = true := h
  unfold isNameS at h1
  simp only [Bool.and_eq_true, decide_eq_true_iff] at h1
  obtain ⟨⟨⟨a1, a2⟩, a3⟩, a4⟩ := h1
  have a3 : z.cps.toList.all lowC = true := a3
  refine ⟨fun e => ?_, ?_, ?_⟩
  · have : z.length = 0 := by
      show z.cps.size = 0
      rw [← Array.length_toList]
      show (L z).length = 0
      rw [e]
      rfl
    omega
  · rw [List.all_eq_true] at a3 ⊢
    intro c m
    unfold letC
    rw [a3 c m, Bool.true_or]
  · unfold kindOf
    have nr : z ∉ reserved := by
      intro m
      rw [List.contains_iff_mem.mpr m] at a4
      cases a4
    have ns : z ∉ signs11 := by
      intro m
      have : signs11.all (fun s => !(s.cps.toList.all lowC)) = true := by decide +kernel
      have := List.all_eq_true.mp this z m
      rw [a3] at this
      cases this
    rw [if_neg (by rintro (m | m); exact ns m; exact nr m), if_pos h]
theorem word_parts {z : Str} (h : isWord (.str z) = true) : L z ≠ [] ∧ (L z).all letC = true ∧ kindOf num z = "word" := by
  have h1 : isWordS z = true := h
  unfold isWordS at h1
  simp only [Bool.and_eq_true, decide_eq_true_iff] at h1
  obtain ⟨⟨a1, a2⟩, a3⟩ := h1
  cases e : z.cps.toList with
  | nil => rw [e] at a3; cases a3
  | cons c r =>
    rw [e] at a3
    have a3 : (upC c && r.all lowC) = true := a3
    rw [Bool.and_eq_true] at a3
    refine ⟨fun k => ?_, ?_, ?_⟩
    · have k : z.cps.toList = [] := k
      rw [e] at k
      cases k
    · show z.cps.toList.all letC = true
      rw [e, List.all_eq_true]
      intro b m
      unfold letC
      rcases List.mem_cons.mp m with rfl | m
      · rw [a3.1, Bool.or_true]
      · rw [List.all_eq_true.mp a3.2 b m, Bool.true_or]
    · unfold kindOf
      have nl : lowC c = false := up_low a3.1
      have nr : z ∉ reserved := by
        intro m
        have := List.all_eq_true.mp res_low z m
        rw [Bool.and_eq_true] at this
        have t1 : z.cps.toList.all lowC = true := this.1
        rw [e, List.all_cons, nl] at t1
        cases t1
      have ns : z ∉ signs11 := by
        intro m
        have : signs11.all (fun s => !(s.cps.toList.head?.any upC)) = true := by decide +kernel
        have := List.all_eq_true.mp this z m
        rw [e] at this
        have this : (!upC c) = true := this
        rw [a3.1] at this
        cases this
      have nn : ¬ isName (.str z) = true := by
        intro k
        have k1 : isNameS z = true := k
        unfold isNameS at k1
        simp only [Bool.and_eq_true] at k1
        have t1 : z.cps.toList.all lowC = true := k1.1.2
        rw [e, List.all_cons, nl] at t1
        cases t1
      rw [if_neg (by rintro (m | m); exact ns m; exact nr m), if_neg nn, if_pos h]
theorem sx_name {z : Str} (h : isName (.str z) = true) : Sx num (L z) [nm z] := by
  obtain ⟨a, b, c⟩ := name_parts (num := num) h
  have := sx_let (num := num) a b
  rw [sOf_L, c] at this
  exact this
theorem sx_word {z : Str} (h : isWord (.str z) = true) : Sx num (L z) [((("word" : Str), z) : KT)] := by
  obtain ⟨a, b, c⟩ := word_parts (num := num) h
  have := sx_let (num := num) a b
  rw [sOf_L, c] at this
  exact this
theorem kind_res {z : Str} (h : z ∈ signs11 ∨ z ∈ reserved) : kindOf num z = z := by
  unfold kindOf
  rw [if_pos h]
end Cw

set_option Elab.async false
set_option linter.all false
set_option maxRecDepth 100000
set_option maxHeartbeats 4000000
namespace Cw
open PySem PySem.Spec PyProof.Rows L2 CwP
variable {num : Str → Bool} {val : Str → Int}
/-! ### the written pieces -/
theorem sx_res {z : Str} (h : z ∈ reserved) (n : L z ≠ []) (a : (L z).all letC = true) : Sx num (L z) [tk z] := by
  have := sx_let (num := num) n a
  rw [sOf_L, kind_res (.inr h)] at this
  exact this
theorem sa_sig {z : Str} {c : Nat} (h : z ∈ signs11) (e : L z = [c]) (b : blaC c = false) (g : alnC c = false) : Sa num (L z) [tk z] := by
  have := sa_sign (num := num) b g
  have e2 : sOf [c] = z := by rw [← e, sOf_L]
  rw [e2, kind_res (.inl h)] at this
  rw [e]
  exact this
theorem sa_sp : Sa num [32] [] := sa_bla (by decide)
theorem sa_op : Sa num (L "(") [tk "("] := sa_sig (c := 40) (by decide) (by decide +kernel) (by decide) (by decide)
theorem sa_cl : Sa num (L ")") [tk ")"] := sa_sig (c := 41) (by decide) (by decide +kernel) (by decide) (by decide)
theorem sa_dot : Sa num (L ".") [tk "."] := sa_sig (c := 46) (by decide) (by decide +kernel) (by decide) (by decide)
theorem sa_com : Sa num (L ",") [tk ","] := sa_sig (c := 44) (by decide) (by decide +kernel) (by decide) (by decide)
theorem sa_eqs : Sa num (L "=") [tk "="] := sa_sig (c := 61) (by decide) (by decide +kernel) (by decide) (by decide)
theorem sa_plus : Sa num (L "+") [tk "+"] := sa_sig (c := 43) (by decide) (by decide +kernel) (by decide) (by decide)
theorem sa_min : Sa num (L "-") [tk "-"] := sa_sig (c := 45) (by decide) (by decide +kernel) (by decide) (by decide)
theorem sa_mul : Sa num (L "*") [tk "*"] := sa_sig (c := 42) (by decide) (by decide +kernel) (by decide) (by decide)
theorem sa_com2 : Sa num (L ", ") [tk ","] := by
  have e : L ", " = L "," ++ [32] := by decide +kernel
  rw [e]
  exact sa_com.app sa_sp
theorem sa_dot2 : Sa num (L ".(") [tk ".", tk "("] := by
  have e : L ".(" = L "." ++ L "(" := by decide +kernel
  rw [e]
  exact sa_dot.app sa_op
/-- a sign between spaces -/
theorem sa_mid {z y : Str} (h : Sa num (L z) [tk z]) (e : L y = [32] ++ (L z ++ [32])) : Sa num (L y) [tk z] := by
  rw [e]
  exact sa_sp.app (h.app sa_sp)
/-- a kept word with a space behind it, or between spaces -/
theorem sa_kw1 {z y : Str} (h : z ∈ reserved) (n : L z ≠ []) (a : (L z).all letC = true) (e : L y = L z ++ [32]) : Sa num (L y) [tk z] := by
  rw [e]
  exact (sx_res h n a).appa sa_sp (by decide) (by decide)
theorem sa_kw2 {z y : Str} (h : z ∈ reserved) (n : L z ≠ []) (a : (L z).all letC = true) (e : L y = [32] ++ (L z ++ [32])) : Sa num (L y) [tk z] := by
  rw [e]
  exact sa_sp.app ((sx_res h n a).appa sa_sp (by decide) (by decide))
theorem sa_new : Sa num (L "new ") [tk "new"] := sa_kw1 (by decide) (by decide +kernel) (by decide +kernel) (by decide +kernel)
theorem sa_if : Sa num (L "if ") [tk "if"] := sa_kw1 (by decide) (by decide +kernel) (by decide +kernel) (by decide +kernel)
theorem sa_let : Sa num (L "let ") [tk "let"] := sa_kw1 (by decide) (by decide +kernel) (by decide +kernel) (by decide +kernel)
theorem sa_then : Sa num (L " then ") [tk "then"] := sa_kw2 (by decide) (by decide +kernel) (by decide +kernel) (by decide +kernel)
theorem sa_else : Sa num (L " else ") [tk "else"] := sa_kw2 (by decide) (by decide +kernel) (by decide +kernel) (by decide +kernel)
theorem sa_in : Sa num (L " in ") [tk "in"] := sa_kw2 (by decide) (by decide +kernel) (by decide +kernel) (by decide +kernel)
theorem sa_eq2 : Sa num (L " = ") [tk "="] := sa_mid sa_eqs (by decide +kernel)
theorem sa_plus2 : Sa num (L " + ") [tk "+"] := sa_mid sa_plus (by decide +kernel)
theorem sa_min2 : Sa num (L " - ") [tk "-"] := sa_mid sa_min (by decide +kernel)
theorem sa_mul2 : Sa num (L " * ") [tk "*"] := sa_mid sa_mul (by decide +kernel)
theorem sx_next : Sx num (L "next") [tk "next"] := sx_res (by decide) (by decide +kernel) (by decide +kernel)
/-! ### joined by a sign -/
theorem Str.ext' {x y : Str} (h : x.cps.toList = y.cps.toList) : x = y := by
  have := congrArg sOf h
  rw [sOf_L, sOf_L] at this
  exact this
theorem part_eq {w : Str} (h : (Txt.partition w ".").2.2.length ≠ 0) : w = (Txt.partition w ".").1 ++ ("." : Str) ++ (Txt.partition w ".").2.2 := by
  rcases PyProof.Rows.partition_whole w "." with ⟨e, _⟩ | ⟨i, e, hi, hm⟩
  · rw [e] at h
    exact absurd rfl h
  · rw [e]
    have g := (StrLaws.subAt_one w 46 i).mp hi
    apply Str.ext'
    show w.cps.toList = _
    have l1 : (Builtin.Str.strSub w 0 i).cps.toList = w.cps.toList.take i := by
      show (w.cps.extract 0 i).toList = _
      simp
    have l2 : (Builtin.Str.strSub w (i + 1) w.length).cps.toList = w.cps.toList.drop (i + 1) := by
      show (w.cps.extract (i + 1) w.cps.size).toList = _
      rw [Array.toList_extract, List.extract_eq_take_drop, List.take_of_length_le]
      rw [List.length_drop, Array.length_toList]
      exact Nat.le_refl _
    show w.cps.toList = L ((Builtin.Str.strSub w 0 i ++ (".":Str)) ++ Builtin.Str.strSub w (i + 1) w.length)
    rw [L_app, L_app]
    show w.cps.toList = (Builtin.Str.strSub w 0 i).cps.toList ++ [46] ++ (Builtin.Str.strSub w (i + 1) w.length).cps.toList
    rw [l1, l2, List.append_assoc]
    show w.cps.toList = w.cps.toList.take i ++ 46 :: w.cps.toList.drop (i + 1)
    have hl : i < w.cps.toList.length := (List.getElem?_eq_some_iff.mp g).1
    have hv : w.cps.toList[i] = 46 := (List.getElem?_eq_some_iff.mp g).2
    rw [← hv, ← List.drop_eq_getElem_cons hl, List.take_append_drop]
end Cw

set_option Elab.async false
set_option linter.all false
set_option maxRecDepth 100000
set_option maxHeartbeats 4000000
namespace Cw
open PySem PySem.Spec PyProof.Rows L2 CwP
variable {num : Str → Bool} {val : Str → Int}
/-- what the two ways to read digits do on an integer of the language -/
def Nv (num : Str → Bool) (val : Str → Int) : Prop := ∀ i : Int, 0 ≤ i → i ≤ 65535 → num ((toString i : String) : Str) = true ∧ val ((toString i : String) : Str) = i ∧ L ((toString i : String) : Str) ≠ [] ∧ (L ((toString i : String) : Str)).all digC = true
theorem Sx.then_ {s t : List Nat} {ts us : List KT} (h : Sx num s ts) (g : Sx num t us) (c : t ≠ []) (e : t.head?.any alnC = false) : Sx num (s ++ t) (ts ++ us) := fun r vs k j => by
  rw [List.append_assoc, List.append_assoc]
  refine h _ _ ?_ (g _ _ k j)
  match t, c, e with
  | a :: t, _, e => exact e
theorem L_ne {z : Str} (h : 1 ≤ z.length) : L z ≠ [] := fun e => by
  have : z.length = (L z).length := by
    show z.cps.size = z.cps.toList.length
    rw [Array.length_toList]
  rw [e] at this
  simp at this
  omega
theorem cname_cut {w : Str} (h : isCname (.str w) = true) : ∃ m c : Str, w = m ++ ("." : Str) ++ c ∧ isName (.str m) = true ∧ isWord (.str c) = true := by
  have h1 : (isName (.str (Txt.partition w ".").1) && isWord (.str (Txt.partition w ".").2.2)) = true := h
  rw [Bool.and_eq_true] at h1
  refine ⟨_, _, part_eq ?_, h1.1, h1.2⟩
  obtain ⟨z, e, l, _⟩ := word_len2 h1.2
  rw [PyData.str.inj e]
  omega
theorem gname_cut {w : Str} (h : isGname (.str w) = true) : ∃ m c : Str, w = m ++ ("." : Str) ++ c ∧ isName (.str m) = true ∧ isName (.str c) = true := by
  have h1 : (isName (.str (Txt.partition w ".").1) && isName (.str (Txt.partition w ".").2.2)) = true := h
  rw [Bool.and_eq_true] at h1
  refine ⟨_, _, part_eq ?_, h1.1, h1.2⟩
  obtain ⟨z, e, l, _⟩ := name_len h1.2
  rw [PyData.str.inj e]
  omega
theorem sx_cname {m c : Str} (h : isName (.str m) = true) (g : isWord (.str c) = true) : Sx num (L (m ++ ("." : Str) ++ c)) (cnameT m c) := by
  rw [L_app, L_app]
  exact ((sx_name h).appa sa_dot (by decide) (by decide)).appx (sx_word g)
theorem sx_gname {m c : Str} (h : isName (.str m) = true) (g : isName (.str c) = true) : Sx num (L (m ++ ("." : Str) ++ c)) [nm m, tk ".", nm c] := by
  rw [L_app, L_app]
  exact ((sx_name h).appa sa_dot (by decide) (by decide)).appx (sx_name g)
theorem sx_int (hv : Nv num val) {i : Int} (h0 : 0 ≤ i) (h1 : i ≤ 65535) : Sx num (L ((toString i : String) : Str)) [((("integer" : Str), ((toString i : String) : Str)) : KT)] := by
  obtain ⟨a, b, c, d⟩ := hv i h0 h1
  have := sx_dig (num := num) c d
  rw [sOf_L] at this
  have k : kindOf num ((toString i : String) : Str) = "integer" := by
    generalize hz : ((toString i : String) : Str) = z at *
    cases e : L z with
    | nil => exact absurd e c
    | cons x r =>
      rw [e, List.all_cons, Bool.and_eq_true] at d
      have dx : digC x = true := d.1
      have nl : lowC x = false := by
        unfold digC at dx
        rw [decide_eq_true_iff] at dx
        unfold lowC
        exact decide_eq_false (by omega)
      have nu : upC x = false := by
        unfold digC at dx
        rw [decide_eq_true_iff] at dx
        unfold upC
        exact decide_eq_false (by omega)
      have e : z.cps.toList = x :: r := e
      unfold kindOf
      rw [if_neg, if_neg, if_neg, if_pos]
      · show ((z.cps.toList).head?.any digC && num z) = true
        rw [e, a]
        show (digC x && true) = true
        rw [dx]
        rfl
      · intro k
        have h1 : isWordS z = true := k
        unfold isWordS at h1
        rw [e] at h1
        simp only [Bool.and_eq_true] at h1
        rw [nu] at h1
        exact absurd h1.2.1 (by decide)
      · intro k
        have k1 : isNameS z = true := k
        unfold isNameS at k1
        simp only [Bool.and_eq_true] at k1
        have t1 : z.cps.toList.all lowC = true := k1.1.2
        rw [e, List.all_cons, nl] at t1
        cases t1
      · rintro (m | m)
        · have : signs11.all (fun s => !(s.cps.toList.head?.any digC)) = true := by decide +kernel
          have := List.all_eq_true.mp this z m
          rw [e] at this
          have this : (!digC x) = true := this
          rw [dx] at this
          cases this
        · have := List.all_eq_true.mp res_low z m
          rw [Bool.and_eq_true] at this
          have t1 : z.cps.toList.all lowC = true := this.1
          rw [e, List.all_cons, nl] at t1
          cases t1
  rw [k] at this
  exact this
end Cw

set_option Elab.async false
set_option linter.all false
set_option maxRecDepth 100000
set_option maxHeartbeats 4000000
namespace Cw
open PySem PySem.Spec PyProof.Rows L2 CwP
variable {num : Str → Bool} {val : Str → Int}
def lev (z : Str) : Nat := if z ∈ choicesW then 0 else if z = "add" ∨ z = "sub" then 1 else if z = "mul" then 2 else 3
theorem lev_le (z : Str) : lev z ≤ 3 := by
  unfold lev
  split
  · omega
  · split
    · omega
    · split <;> omega
theorem tx_low {k j : Nat} {d : PyData} {ts : List KT} (h : Tx val k d ts) (hk : k ≤ 3) (hj : j ≤ k) : Tx val j d ts := by
  match k, j, hk, hj, h with
  | 0, 0, _, _, h => exact h
  | 1, 0, _, _, h => exact .up1 h
  | 1, 1, _, _, h => exact h
  | 2, 0, _, _, h => exact .up1 (.up2 h)
  | 2, 1, _, _, h => exact .up2 h
  | 2, 2, _, _, h => exact h
  | 3, 0, _, _, h => exact .up1 (.up2 (.up3 h))
  | 3, 1, _, _, h => exact .up2 (.up3 h)
  | 3, 2, _, _, h => exact .up3 h
  | 3, 3, _, _, h => exact h
  | 0, j + 1, _, hj, _ => exact absurd hj (by omega)
  | 1, j + 2, _, hj, _ => exact absurd hj (by omega)
  | 2, j + 3, _, hj, _ => exact absurd hj (by omega)
  | 3, j + 4, _, hj, _ => exact absurd hj (by omega)
  | k + 4, _, hk, _, _ => exact absurd hk (by omega)
/-- a text of the expression at a level -/
def Tr (num : Str → Bool) (val : Str → Int) (k : Nat) (d : PyData) (t : Str) : Prop := ∃ ts, Tx val k d ts ∧ Sx num (L t) ts
theorem Tr.low {k j : Nat} {d : PyData} {t : Str} (h : Tr num val k d t) (hk : k ≤ 3) (hj : j ≤ k) : Tr num val j d t := by
  obtain ⟨ts, a, b⟩ := h
  exact ⟨ts, tx_low a hk hj, b⟩
theorem tr_par {d : PyData} {t : Str} (h : Tr num val 0 d t) : Tr num val 3 d (("(" : Str) ++ t ++ (")" : Str)) := by
  obtain ⟨ts, a, b⟩ := h
  refine ⟨_, .par a, ?_⟩
  rw [L_app, L_app]
  exact (Sx.appa (sa_op.appx b) sa_cl (by decide) (by decide)).x
theorem tr_part {f : PyData → Str} {ws : List Str} {d : PyData} {k : Nat} (hk : k ≤ 3) (h : Tr num val (lev (headW d)) d (f d)) (g : headW d ∉ ws → k ≤ lev (headW d)) : Tr num val k d (partT f ws d) := by
  unfold partT
  by_cases m : headW d ∈ ws
  · rw [if_pos m]
    exact (tr_par (h.low (lev_le _) (Nat.zero_le _))).low (Nat.le_refl _) hk
  · rw [if_neg m]
    exact h.low (lev_le _) (g m)
theorem lev_cho {z : Str} (h : z ∉ choicesW) : 1 ≤ lev z := by
  unfold lev
  rw [if_neg h]
  split
  · omega
  · split <;> omega
theorem lev_sum {z : Str} (h : z ∉ sumsW) : 2 ≤ lev z := by
  unfold lev
  rw [if_neg (fun m => h (by
    simp only [choicesW, List.mem_cons, List.not_mem_nil, or_false] at m
    simp only [sumsW, List.mem_cons, List.not_mem_nil, or_false]
    rcases m with m | m
    · exact .inl m
    · exact .inr (.inl m))), if_neg (fun m => h (by
    simp only [sumsW, List.mem_cons, List.not_mem_nil, or_false]
    rcases m with m | m
    · exact .inr (.inr (.inl m))
    · exact .inr (.inr (.inr m))))]
  split <;> omega
theorem lev_pro {z : Str} (h : z ∉ productsW) : 3 ≤ lev z := by
  unfold lev
  rw [if_neg (fun m => h (by
    simp only [choicesW, List.mem_cons, List.not_mem_nil, or_false] at m
    simp only [productsW, List.mem_cons, List.not_mem_nil, or_false]
    rcases m with m | m
    · exact .inl m
    · exact .inr (.inl m))), if_neg (fun m => h (by
    simp only [productsW, List.mem_cons, List.not_mem_nil, or_false]
    rcases m with m | m
    · exact .inr (.inr (.inl m))
    · exact .inr (.inr (.inr (.inl m))))), if_neg (fun m => h (by
    simp only [productsW, List.mem_cons, List.not_mem_nil, or_false]
    exact .inr (.inr (.inr (.inr m)))))]
  omega
theorem ta_join {f : PyData → Str} : ∀ (ds : List PyData), ds ≠ [] → (∀ d, d ∈ ds → Tr num val 0 d (f d)) → ∃ ts, Ta val ds ts ∧ Sx num (L (Str.join ", " (ds.map f))) ts
  | [], n, _ => absurd rfl n
  | [d], _, h => by
    obtain ⟨ts, a, b⟩ := h d (List.mem_cons_self ..)
    exact ⟨ts, .one a, b⟩
  | d :: e :: l, _, h => by
    obtain ⟨ts, a, b⟩ := h d (List.mem_cons_self ..)
    obtain ⟨us, c, g⟩ := ta_join (e :: l) (by simp) (fun x m => h x (List.mem_cons_of_mem _ m))
    refine ⟨_, .cons a c, ?_⟩
    show Sx num (L (f d ++ (", " : Str) ++ Str.join ", " ((e :: l).map f))) _
    rw [L_app, L_app, show ts ++ tk "," :: us = (ts ++ [tk ","]) ++ us by rw [List.append_assoc]; rfl]
    exact (b.appa sa_com2 (by decide +kernel) (by decide +kernel)).appx g
theorem sa_args {f : PyData → Str} {ds : List PyData} (h : ∀ d, d ∈ ds → Tr num val 0 d (f d)) :
    (ds = [] ∧ Sa num (L (argsT f (.tuple ds))) [tk "(", tk ")"]) ∨ (∃ ts, Ta val ds ts ∧ Sa num (L (argsT f (.tuple ds))) (tk "(" :: ts ++ [tk ")"])) := by
  cases ds with
  | nil =>
    refine .inl ⟨rfl, ?_⟩
    show Sa num (L (("(" : Str) ++ Str.join ", " [] ++ (")" : Str))) _
    rw [L_app, L_app]
    show Sa num (L "(" ++ [] ++ L ")") ([tk "("] ++ [tk ")"])
    rw [List.append_nil]
    exact sa_op.app sa_cl
  | cons d l =>
    obtain ⟨ts, a, b⟩ := ta_join (d :: l) (by simp) h
    refine .inr ⟨ts, a, ?_⟩
    show Sa num (L (("(" : Str) ++ Str.join ", " ((d :: l).map f) ++ (")" : Str))) _
    rw [L_app, L_app]
    exact (sa_op.appx b).appa sa_cl (by decide) (by decide)
theorem args_head (f : PyData → Str) (b : PyData) : L (argsT f b) ≠ [] ∧ (L (argsT f b)).head?.any alnC = false := by
  unfold argsT
  rw [L_app, L_app]
  have e : L "(" = [40] := by decide +kernel
  rw [e]
  refine ⟨?_, ?_⟩
  · intro e
    cases e
  · rfl
theorem ont_tup {d : PyData} {l : List PyData} (h : OnT d) (e : items d = l) (n : l ≠ []) : d = .tuple l := by
  cases h with
  | tuple r _ =>
    have e : r = l := e
    rw [e]
  | _ => exact absurd e.symm n
theorem ont_sq {lo hi : Int} {d : PyData} (h : OnT d) (e : isSeq lo hi d = true) : ∃ l, d = .tuple l := by
  cases h with
  | tuple r _ => exact ⟨r, rfl⟩
  | _ => cases e
theorem head_of {d : PyData} {z : Str} {r : List PyData} (e : items d = .str z :: r) : headW d = z := by
  unfold headW get
  rw [e]
  rfl
theorem etx_tr (hv : Nv num val) : ∀ (n : Nat) (d : PyData), formN n d = true → OnT d → Tr num val (lev (headW d)) d (etext n d)
  | 0, _, h, _ => by cases h
  | n + 1, d, h, o => by
    have h0 : (hasForm d && (partsOf d).all (formN n)) = true := h
    rw [Bool.and_eq_true] at h0
    have ih : ∀ e, e ∈ partsOf d → OnT e → Tr num val (lev (headW e)) e (etext n e) := fun e m g => etx_tr hv n e (List.all_eq_true.mp h0.2 e m) g
    have ih0 : ∀ e, e ∈ partsOf d → OnT e → Tr num val 0 e (etext n e) := fun e m g => (ih e m g).low (lev_le _) (Nat.zero_le _)
    cases fm_of h0.1 with
    | int i e a b p =>
      have ed := ont_tup o e (by simp)
      rw [head_of e, etext_at e, ed]
      have el : lev "int" = 3 := by decide +kernel
      rw [el]
      have := Tx.int (val := val) ((toString i : String) : Str)
      rw [(hv i a b).2.1] at this
      exact ⟨_, this, sx_int hv a b⟩
    | name w e a p =>
      have ed := ont_tup o e (by simp)
      rw [head_of e, etext_at e, ed]
      have el : lev "name" = 3 := by decide +kernel
      rw [el]
      exact ⟨_, .name w, sx_name a⟩
    | next e p =>
      have ed := ont_tup o e (by simp)
      rw [head_of e, etext_at e, ed]
      have el : lev "next" = 3 := by decide +kernel
      rw [el]
      exact ⟨_, .next, sx_next⟩
    | new w b e a hb p =>
      have ed := ont_tup o e (by simp)
      have ob : OnT b := ont_items o (by rw [e]; simp)
      obtain ⟨l, rfl⟩ := ont_sq ob hb
      obtain ⟨m, c, rfl, hm, hc⟩ := cname_cut a
      rw [head_of e, etext_at e, ed]
      have el : lev "new" = 3 := by decide +kernel
      rw [el]
      show Tr num val 3 _ (("new " : Str) ++ (m ++ ("." : Str) ++ c) ++ argsT (etext n) (.tuple l))
      obtain ⟨q1, q2⟩ := args_head (etext n) (.tuple l)
      have hd : ∀ x, x ∈ l → Tr num val 0 x (etext n x) := fun x mx => ih0 x (by rw [p]; exact mx) (ont_items ob mx)
      rcases sa_args hd with ⟨n1, n2⟩ | ⟨ts, n1, n2⟩
      · subst n1
        refine ⟨_, Tx.new0 (val := val) m c, ?_⟩
        rw [L_app, L_app]
        exact (((sa_new.appx (sx_cname hm hc)).appa n2 q1 q2)).x
      · refine ⟨_, Tx.new (val := val) m c n1, ?_⟩
        rw [L_app, L_app]
        have := (((sa_new.appx (sx_cname hm hc)).appa n2 q1 q2)).x
        simp only [List.append_assoc, List.cons_append, List.nil_append] at this ⊢
        exact this
    | call w b e a hb p =>
      have ed := ont_tup o e (by simp)
      have ob : OnT b := ont_items o (by rw [e]; simp)
      obtain ⟨l, rfl⟩ := ont_sq ob hb
      obtain ⟨m, c, rfl, hm, hc⟩ := gname_cut a
      rw [head_of e, etext_at e, ed]
      have el : lev "call" = 3 := by decide +kernel
      rw [el]
      show Tr num val 3 _ ((m ++ ("." : Str) ++ c) ++ argsT (etext n) (.tuple l))
      obtain ⟨q1, q2⟩ := args_head (etext n) (.tuple l)
      have hd : ∀ x, x ∈ l → Tr num val 0 x (etext n x) := fun x mx => ih0 x (by rw [p]; exact mx) (ont_items ob mx)
      rcases sa_args hd with ⟨n1, n2⟩ | ⟨ts, n1, n2⟩
      · subst n1
        cases hb
      · refine ⟨_, Tx.call (val := val) m c n1, ?_⟩
        rw [L_app]
        exact ((sx_gname hm hc).appa n2 q1 q2).x
    | field a w v e hw hv2 p =>
      have ed := ont_tup o e (by simp)
      have oa : OnT a := ont_items o (by rw [e]; simp)
      obtain ⟨m, c, rfl, hm, hc⟩ := cname_cut hw
      rw [head_of e, etext_at e, ed]
      have el : lev "field" = 3 := by decide +kernel
      rw [el]
      show Tr num val 3 _ (partT (etext n) productsW a ++ (".(" : Str) ++ (m ++ ("." : Str) ++ c) ++ ("." : Str) ++ v ++ (")" : Str))
      obtain ⟨ts, ha, hs⟩ := tr_part (k := 3) (Nat.le_refl _) (ih a (by rw [p]; simp) oa) lev_pro
      refine ⟨_, .field m c v ha, ?_⟩
      rw [L_app, L_app, L_app, L_app, L_app]
      have x1 := (hs.appa sa_dot2 (by decide +kernel) (by decide +kernel)).appx (sx_cname (num := num) hm hc)
      have x2 := (x1.appa sa_dot (by decide +kernel) (by decide +kernel)).appx (sx_name hv2)
      have x3 := (x2.appa sa_cl (by decide +kernel) (by decide +kernel)).x
      simp only [List.append_assoc] at x3 ⊢
      exact x3
    | sign z hz a b e p =>
      have ed := ont_tup o e (by simp)
      have oa : OnT a := ont_items o (by rw [e]; simp)
      have ob : OnT b := ont_items o (by rw [e]; simp)
      have ha := ih a (by rw [p]; simp) oa
      have hb := ih b (by rw [p]; simp) ob
      rw [head_of e, etext_at e, ed]
      rcases hz with rfl | rfl | rfl
      · have el : lev "add" = 1 := by decide +kernel
        rw [el]
        show Tr num val 1 _ (partT (etext n) choicesW a ++ (" + " : Str) ++ partT (etext n) sumsW b)
        obtain ⟨ts, h1, g1⟩ := tr_part (k := 1) (by omega) ha lev_cho
        obtain ⟨us, h2, g2⟩ := tr_part (k := 2) (by omega) hb lev_sum
        refine ⟨_, .add h1 h2, ?_⟩
        rw [L_app, L_app]
        have := (g1.appa sa_plus2 (by decide +kernel) (by decide +kernel)).appx g2
        rw [List.append_assoc] at this
        rw [List.append_assoc] at this
        rw [List.append_assoc]
        exact this
      · have el : lev "sub" = 1 := by decide +kernel
        rw [el]
        show Tr num val 1 _ (partT (etext n) choicesW a ++ (" - " : Str) ++ partT (etext n) sumsW b)
        obtain ⟨ts, h1, g1⟩ := tr_part (k := 1) (by omega) ha lev_cho
        obtain ⟨us, h2, g2⟩ := tr_part (k := 2) (by omega) hb lev_sum
        refine ⟨_, .sub h1 h2, ?_⟩
        rw [L_app, L_app]
        have := (g1.appa sa_min2 (by decide +kernel) (by decide +kernel)).appx g2
        rw [List.append_assoc] at this
        rw [List.append_assoc] at this
        rw [List.append_assoc]
        exact this
      · have el : lev "mul" = 2 := by decide +kernel
        rw [el]
        show Tr num val 2 _ (partT (etext n) sumsW a ++ (" * " : Str) ++ partT (etext n) productsW b)
        obtain ⟨ts, h1, g1⟩ := tr_part (k := 2) (by omega) ha lev_sum
        obtain ⟨us, h2, g2⟩ := tr_part (k := 3) (by omega) hb lev_pro
        refine ⟨_, .mul h1 h2, ?_⟩
        rw [L_app, L_app]
        have := (g1.appa sa_mul2 (by decide +kernel) (by decide +kernel)).appx g2
        rw [List.append_assoc] at this
        rw [List.append_assoc] at this
        rw [List.append_assoc]
        exact this
    | ife a b c e p =>
      have ed := ont_tup o e (by simp)
      obtain ⟨ts, h1, g1⟩ := ih0 a (by rw [p]; simp) (ont_items o (by rw [e]; simp))
      obtain ⟨us, h2, g2⟩ := ih0 b (by rw [p]; simp) (ont_items o (by rw [e]; simp))
      obtain ⟨vs, h3, g3⟩ := ih0 c (by rw [p]; simp) (ont_items o (by rw [e]; simp))
      rw [head_of e, etext_at e, ed]
      have el : lev "if" = 0 := by decide +kernel
      rw [el]
      show Tr num val 0 _ (("if " : Str) ++ etext n a ++ ((" then " : Str) ++ etext n b ++ (" else " : Str) ++ etext n c))
      refine ⟨_, .ife h1 h2 h3, ?_⟩
      rw [L_app, L_app, L_app, L_app, L_app]
      have x1 := ((sa_if.appx g1).appa sa_then (by decide +kernel) (by decide +kernel)).appx g2
      have x2 := (x1.appa sa_else (by decide +kernel) (by decide +kernel)).appx g3
      simp only [List.append_assoc, List.cons_append, List.nil_append] at x2 ⊢
      exact x2
    | let_ w b c e hw p =>
      have ed := ont_tup o e (by simp)
      obtain ⟨us, h2, g2⟩ := ih0 b (by rw [p]; simp) (ont_items o (by rw [e]; simp))
      obtain ⟨vs, h3, g3⟩ := ih0 c (by rw [p]; simp) (ont_items o (by rw [e]; simp))
      rw [head_of e, etext_at e, ed]
      have el : lev "let" = 0 := by decide +kernel
      rw [el]
      show Tr num val 0 _ (("let " : Str) ++ w ++ (" = " : Str) ++ etext n b ++ (" in " : Str) ++ etext n c)
      refine ⟨_, .let_ w h2 h3, ?_⟩
      rw [L_app, L_app, L_app, L_app, L_app]
      have x1 := ((sa_let.appx (sx_name hw)).appa sa_eq2 (by decide +kernel) (by decide +kernel)).appx g2
      have x2 := (x1.appa sa_in (by decide +kernel) (by decide +kernel)).appx g3
      simp only [List.append_assoc, List.cons_append, List.nil_append] at x2 ⊢
      exact x2
end Cw

set_option Elab.async false
set_option linter.all false
set_option maxRecDepth 100000
set_option maxHeartbeats 4000000
namespace Cw
open PySem PySem.Spec PyProof.Rows L2 CwP
/-- the number that digits tell; whether they tell one of the language -/
def valP (z : Str) : Int := ((NumText.digitsVal (L z) : Nat) : Int)
def numP (z : Str) : Bool := decide (z.length ≤ 5) && (decide (valP z ≤ 65535) && decide (z = ((toString (valP z) : String) : Str)))
theorem L_num (n : Nat) : L ((toString ((n : Nat) : Int) : String) : Str) = TL.numL n := TL.tl_num n
theorem L_len (z : Str) : (L z).length = z.length := Array.length_toList
theorem nv_p : Nv numP valP := by
  intro i h0 h1
  obtain ⟨n, rfl⟩ := Int.eq_ofNat_of_zero_le h0
  have hn : n ≤ 65535 := by omega
  have hv : valP ((toString ((n : Nat) : Int) : String) : Str) = n := by
    unfold valP
    rw [L_num, TL.numL_val]
  refine ⟨?_, hv, ?_, ?_⟩
  · unfold numP
    rw [hv]
    have hl := TL.numL_len (n := n) (k := 5) (by decide) (by omega)
    have : ((toString ((n : Nat) : Int) : String) : Str).length ≤ 5 := by rw [← L_len, L_num]; exact hl
    rw [decide_eq_true this, decide_eq_true h1, decide_eq_true rfl]
    rfl
  · rw [L_num]
    exact TL.numL_ne n
  · rw [L_num, List.all_eq_true]
    intro c m
    have := TL.numL_digits n c m
    unfold digC
    exact decide_eq_true this
theorem int_p {z : Str} (h : (L z).all digC = true) (n : L z ≠ []) (l : z.length ≤ 640) : intText? z = some (valP z) :=
  intText_digits (x := z) (fun c hc => by
    have := List.all_eq_true.mp h c hc
    unfold digC at this
    exact of_decide_eq_true this) n (by omega)
theorem valP0 (z : Str) : 0 ≤ valP z := Int.natCast_nonneg _
/-- digits of at most five signs tell at most 99999 -/
theorem val_lt : ∀ (l : List Nat) (acc : Nat), (∀ c, c ∈ l → digC c = true) → l.foldl (fun acc c => acc * 10 + (c - 48)) acc < (acc + 1) * 10 ^ l.length
  | [], acc, _ => by simp
  | c :: l, acc, h => by
    have hc := h c (List.mem_cons_self ..)
    unfold digC at hc
    rw [decide_eq_true_iff] at hc
    have ih := val_lt l (acc * 10 + (c - 48)) (fun x m => h x (List.mem_cons_of_mem _ m))
    rw [List.foldl_cons, List.length_cons]
    refine Nat.lt_of_lt_of_le ih ?_
    rw [Nat.pow_succ, Nat.mul_comm (10 ^ l.length) 10, ← Nat.mul_assoc]
    exact Nat.mul_le_mul_right _ (by omega)
theorem valP_lt {z : Str} (h : (L z).all digC = true) (l : z.length ≤ 5) : valP z < 100000 := by
  have := val_lt (L z) 0 (fun c m => List.all_eq_true.mp h c m)
  rw [L_len] at this
  have h2 : 10 ^ z.length ≤ 10 ^ 5 := Nat.pow_le_pow_right (by decide) l
  unfold valP NumText.digitsVal
  omega
end Cw

set_option Elab.async false
set_option linter.all false
set_option maxRecDepth 100000
set_option maxHeartbeats 4000000
namespace Cw
open PySem PySem.Spec PyProof.Rows L2
def runL (p : Nat → Bool) (l : List Nat) : Nat := (l.takeWhile p).length
def spRun : Sp := fun vs H Q _ => ∃ (z cs : Str) (a : Nat), vs = [.str z, .int a, .str cs] ∧ z.length ≤ 1000000 ∧ a ≤ z.length ∧ Q (.int ((a + runL (fun c => decide (c ∈ L cs)) ((L z).drop a) : Nat) : Int)) H
section
variable {n k : Nat} {P : Program} {w : World} {K : PySem.W.Frag} {mg : Str → Option Value} {base : Heap} {S : Addr → Option Sp}
abbrev s_end_of_run : Stmt := topS 50
theorem sc_end_of_run : FnScope ["text", "at", "characters"] ["text", "at", "characters"] (defScope s_end_of_run) := ⟨rfl, rfl, rfl, by decide +kernel, rfl, by decide +kernel, by decide +kernel⟩
theorem ok_end_of_run {f : Addr} {fd : FuncData} (F : Fun K "end_of_run" "end_of_run" s_end_of_run f fd) (m_len : mg "len" = none) : FnOk P w K mg base CX0 1 f fd ["text", "at", "characters"] (spRun) := by
  refine F.ok sc_end_of_run (fun vs H Q E h => ?_) (fun cdv A outer s H vs Q E hr h => ?_)
  · obtain ⟨_, _, _, rfl, _⟩ := h
    rfl
  · obtain ⟨z, cs, a, rfl, hz, ha, q⟩ := h
    refine ⟨_, (pss_cons (ps_while PassesOwn.never (PW.pt (pw_and (pt_cmpR op_lt (pv 1) (pe_callB call_len_str (by rfl) m_len PySem.boot_len (pa_cons (pv 0) pa_nil)) (nomark _)) (pw_and1 (pt_cmpR op_in_sign (pe_ix ix_str (pv 0) (pv 1) (fun _ _ => rfl)) (pv 2) (by rfl))))) (pss_one (ps_set (i := 1) sc_end_of_run.nd rfl (.inl rfl) (pe_op op_add (pv 1) pe_int))))
  (pss_one (ps_ret (pv 1)))), ?_⟩
    have zs : z.length ≤ sizeLine := Nat.le_trans hz (by decide)
    refine seqA ⟨fun m σ H' => H' = H ∧ ∃ i : Nat, σ = [some (.str z), some (.int (i : Int)), some (.str cs)] ∧ i ≤ z.length ∧ m = z.length - i ∧ i + runL (fun c => decide (c ∈ L cs)) ((L z).drop i) = a + runL (fun c => decide (c ∈ L cs)) ((L z).drop a), ⟨_, rfl, a, rfl, ha, rfl, rfl⟩, ?_⟩
    rintro m σ H' ⟨rfl, i, rfl, hi, rfl, e⟩
    refine ⟨_, rfl, _, rfl, z, rfl, zs, (i : Int), (z.length : Int), rfl, rfl, _, rfl, ?_⟩
    refine ite2 (fun g => ?_) (fun g => ?_)
    · have g := of_decide_eq_true g
      have g : i < z.length := by omega
      have gi : i < (L z).length := by rw [L_len]; exact g
      refine ⟨_, rfl, _, rfl, z, (i : Int), (L z)[i], rfl, rfl, zs, atI_nat (List.getElem?_eq_getElem gi), _, rfl, (L z)[i], cs, rfl, rfl, _, rfl, ?_⟩
      have ed : (L z).drop i = (L z)[i] :: (L z).drop (i + 1) := List.drop_eq_getElem_cons gi
      refine ite2 (fun k => ?_) (fun k => ?_)
      · have k := of_decide_eq_true k
        refine ⟨fun σ' H1 => H1 = H' ∧ σ' = [some (.str z), some (.int ((i + 1 : Nat) : Int)), some (.str cs)], ?_, ?_⟩
        · rintro σ' H1 ⟨rfl, rfl⟩
          refine ⟨z.length - (i + 1), by omega, rfl, i + 1, rfl, g, rfl, ?_⟩
          rw [← e, ed]
          unfold runL
          rw [List.takeWhile_cons_of_pos (by exact decide_eq_true k), List.length_cons]
          omega
        · exact ⟨_, rfl, (i : Int), 1, rfl, rfl, rfl, rfl⟩
      · have k : ¬ (L z)[i] ∈ L cs := fun m => k (decide_eq_true m)
        rw [ed] at e
        unfold runL at e q
        rw [List.takeWhile_cons_of_neg (by simpa using k), List.length_nil, Nat.add_zero] at e
        refine ⟨_, rfl, ?_⟩
        rw [← e] at q
        exact q
    · refine iteF ?_
      have g : ¬ i < z.length := fun m => g (decide_eq_true (by omega))
      have e2 : (L z).drop i = [] := List.drop_eq_nil_of_le (by rw [L_len]; omega)
      rw [e2] at e
      unfold runL at e q
      rw [List.takeWhile_nil, List.length_nil, Nat.add_zero] at e
      refine ⟨_, rfl, ?_⟩
      rw [← e] at q
      exact q
def tokL : List Nat → Nat
  | [] => 0
  | c :: r => if digC c = true then runL digC (c :: r) else if letC c = true then runL letC (c :: r) else 1
def spEot : Sp := fun vs H Q _ => ∃ (z : Str) (a : Nat), vs = [.str z, .int a] ∧ z.length ≤ 1000000 ∧ a < z.length ∧ Q (.int ((a + tokL ((L z).drop a) : Nat) : Int)) H
def spNmb : Sp := fun vs H Q _ => ∃ (z : Str), vs = [.str z] ∧ z.length ≤ 1000000 ∧ L z ≠ [] ∧ (L z).all digC = true ∧ Q (.bl (numP z)) H
theorem dig_mem (c : Nat) : decide (c ∈ L "0123456789") = digC c := by
  have e : L "0123456789" = [48, 49, 50, 51, 52, 53, 54, 55, 56, 57] := by decide +kernel
  rw [e]
  unfold digC
  rw [Bool.eq_iff_iff, decide_eq_true_iff, decide_eq_true_iff]
  simp only [List.mem_cons, List.not_mem_nil, or_false]
  omega
theorem bla_mem (c : Nat) : decide (c ∈ L " \n") = blaC c := by
  have e : L " \n" = [32, 10] := by decide +kernel
  rw [e]
  unfold blaC
  rw [Bool.eq_iff_iff, decide_eq_true_iff, decide_eq_true_iff]
  simp only [List.mem_cons, List.not_mem_nil, or_false]
theorem let_mem (c : Nat) : decide (c ∈ L (("abcdefghijklmnopqrstuvwxyz" : Str) ++ ("ABCDEFGHIJKLMNOPQRSTUVWXYZ" : Str))) = letC c := by
  rw [L_app]
  unfold letC
  rw [← low_mem, ← up_mem, Bool.eq_iff_iff, decide_eq_true_iff, List.mem_append, Bool.or_eq_true, decide_eq_true_iff, decide_eq_true_iff]
abbrev s_end_of_token : Stmt := topS 49
theorem sc_end_of_token : FnScope ["text", "at"] ["text", "at"] (defScope s_end_of_token) := ⟨rfl, rfl, rfl, by decide +kernel, rfl, by decide +kernel, by decide +kernel⟩
theorem ok_end_of_token {f : Addr} {fd : FuncData} (F : Fun K "end_of_token" "end_of_token" s_end_of_token f fd) {f_end_of_run : Addr} {d_end_of_run : FuncData} (h_end_of_run : Hd K mg "end_of_run" s_end_of_run ["text", "at", "characters"] f_end_of_run d_end_of_run) (G_end_of_run : FnOk P w K mg base CX0 1 f_end_of_run d_end_of_run ["text", "at", "characters"] (spRun)) {u_DIGITS : Value} (h_DIGITS : Cst K mg "DIGITS" (.str "0123456789") u_DIGITS) {u_LOWER : Value} (h_LOWER : Cst K mg "LOWER" (.str "abcdefghijklmnopqrstuvwxyz") u_LOWER) {u_UPPER : Value} (h_UPPER : Cst K mg "UPPER" (.str "ABCDEFGHIJKLMNOPQRSTUVWXYZ") u_UPPER) : FnOk P w K mg base CX0 2 f fd ["text", "at"] (spEot) := by
  refine F.ok sc_end_of_token (fun vs H Q E h => ?_) (fun cdv A outer s H vs Q E hr h => ?_)
  · obtain ⟨_, _, rfl, _⟩ := h
    rfl
  · obtain ⟨z, a, rfl, hz, ha, q⟩ := h
    have zs : z.length ≤ sizeLine := Nat.le_trans hz (by decide)
    have gi : a < (L z).length := by rw [L_len]; exact ha
    have ed : (L z).drop a = (L z)[a] :: (L z).drop (a + 1) := List.drop_eq_getElem_cons gi
    refine ⟨_, (pss_cons (ps_if (pt_cmpR op_in_sign (pe_ix ix_str (pv 0) (pv 1) (fun _ _ => rfl)) (pe_glob (v := .str "0123456789") rfl h_DIGITS.g h_DIGITS.r) (by rfl)) (pss_one (ps_ret (pe_call G_end_of_run (hr.mono (by decide)) (by rfl) h_end_of_run.g h_end_of_run.F.kp h_end_of_run.b .nil pass0 (pa_cons (pv 0) (pa_cons (pv 1) (pa_cons (pe_glob (v := .str "0123456789") rfl h_DIGITS.g h_DIGITS.r) pa_nil)))))) pss_nil)
  (pss_cons (ps_if (PW.pt (pw_or (pt_cmpR op_in_sign (pe_ix ix_str (pv 0) (pv 1) (fun _ _ => rfl)) (pe_glob (v := .str "abcdefghijklmnopqrstuvwxyz") rfl h_LOWER.g h_LOWER.r) (by rfl)) (pw_or1 (pt_cmpR op_in_sign (pe_ix ix_str (pv 0) (pv 1) (fun _ _ => rfl)) (pe_glob (v := .str "ABCDEFGHIJKLMNOPQRSTUVWXYZ") rfl h_UPPER.g h_UPPER.r) (by rfl))))) (pss_one (ps_ret (pe_call G_end_of_run (hr.mono (by decide)) (by rfl) h_end_of_run.g h_end_of_run.F.kp h_end_of_run.b .nil pass0 (pa_cons (pv 0) (pa_cons (pv 1) (pa_cons (pe_op op_add_str (pe_glob (v := .str "abcdefghijklmnopqrstuvwxyz") rfl h_LOWER.g h_LOWER.r) (pe_glob (v := .str "ABCDEFGHIJKLMNOPQRSTUVWXYZ") rfl h_UPPER.g h_UPPER.r)) pa_nil)))))) pss_nil)
  (pss_one (ps_ret (pe_op op_add (pv 1) pe_int))))), ?_⟩
    have ix : ∀ {R : V → Hp → Prop}, R (.str ⟨#[(L z)[a]]⟩) H → tOp rIxS (tVar 0) (tVar 1) [some (.str z), some (.int (a : Int))] H R := fun r => ⟨_, rfl, _, rfl, z, (a : Int), (L z)[a], rfl, rfl, zs, atI_nat (List.getElem?_eq_getElem gi), r⟩
    rw [ed] at q
    unfold tokL at q
    have dm := dig_mem (L z)[a]
    refine seqA (ifA (ix ⟨(L z)[a], _, rfl, rfl, _, rfl, ite2 (fun g => retA ?_) (fun g => nextA ?_)⟩))
    · have g2 : digC (L z)[a] = true := dm.symm.trans g
      refine ⟨_, rfl, _, rfl, z, "0123456789", a, rfl, hz, Nat.le_of_lt ha, ?_⟩
      dsimp only at q
      rw [if_pos g2] at q
      have e : (fun c => decide (c ∈ L "0123456789")) = digC := funext dig_mem
      rw [e, ed]
      exact q
    · have g2 : ¬ digC (L z)[a] = true := fun k => g (dm.trans k)
      dsimp only at q ⊢
      rw [if_neg g2] at q
      refine seqA (ifA (or_q (b := lowC (L z)[a]) (c := upC (L z)[a]) (fun R r => ix ⟨(L z)[a], _, rfl, rfl, _, rfl, by rw [low_mem]; exact r⟩) (fun _ R r => ix ⟨(L z)[a], _, rfl, rfl, _, rfl, by rw [up_mem]; exact r⟩) (ite2 (fun k => retA ?_) (fun k => nextA ?_))))
      · have k2 : letC (L z)[a] = true := k
        rw [if_pos k2] at q
        refine ⟨_, rfl, _, rfl, _, _, rfl, rfl, by decide +kernel, z, _, a, rfl, hz, Nat.le_of_lt ha, ?_⟩
        have e : (fun c => decide (c ∈ L (("abcdefghijklmnopqrstuvwxyz" : Str) ++ ("ABCDEFGHIJKLMNOPQRSTUVWXYZ" : Str)))) = letC := funext let_mem
        rw [e, ed]
        exact q
      · have k2 : ¬ letC (L z)[a] = true := k
        rw [if_neg k2] at q
        dsimp only
        refine retA ?_
        exact ⟨_, rfl, (a : Int), 1, rfl, rfl, q⟩
abbrev s_is_number : Stmt := topS 52
theorem sc_is_number : FnScope ["digits"] ["digits"] (defScope s_is_number) := ⟨rfl, rfl, rfl, by decide +kernel, rfl, by decide +kernel, by decide +kernel⟩
theorem ok_is_number {f : Addr} {fd : FuncData} (F : Fun K "is_number" "is_number" s_is_number f fd) {u_LARGEST : Value} (h_LARGEST : Cst K mg "LARGEST" (.int 65535) u_LARGEST) (m_len : mg "len" = none) (m_str : mg "str" = none) (m_int : mg "int" = none) : FnOk P w K mg base CX0 1 f fd ["digits"] (spNmb) := by
  refine F.ok sc_is_number (fun vs H Q E h => ?_) (fun cdv A outer s H vs Q E hr h => ?_)
  · obtain ⟨_, rfl, _⟩ := h
    rfl
  · obtain ⟨z, rfl, hz, hn, hd, q⟩ := h
    have zs : z.length ≤ sizeLine := Nat.le_trans hz (by decide)
    refine ⟨_, (pss_cons (ps_if (PW.pt (pw_or (pt_cmpR op_gt (pe_callB call_len_str (by rfl) m_len PySem.boot_len (pa_cons (pv 0) pa_nil)) (pe_callB call_len_str (by rfl) m_len PySem.boot_len (pa_cons (pe_callTy call_str_int (by rfl) m_str (by decide +kernel) (pa_cons (pe_glob (v := .int 65535) rfl h_LARGEST.g h_LARGEST.r) pa_nil)) pa_nil)) (nomark _)) (pw_or1 (pt_cmpR op_gt (pe_callTy call_int_str (by rfl) m_int (by decide +kernel) (pa_cons (pv 0) pa_nil)) (pe_glob (v := .int 65535) rfl h_LARGEST.g h_LARGEST.r) (nomark _))))) (pss_one (ps_ret pe_bl)) pss_nil)
  (pss_one (ps_ret (pe_cmpR op_eq (pv 0) (pe_callTy call_str_int (by rfl) m_str (by decide +kernel) (pa_cons (pe_callTy call_int_str (by rfl) m_int (by decide +kernel) (pa_cons (pv 0) pa_nil)) pa_nil)) (nomark _))))), ?_⟩
    have l5 : ((toString (65535 : Int) : String) : Str).length = 5 := by decide +kernel
    refine seqA (ifA (or_q (b := decide (5 < z.length)) (c := decide (65535 < valP z)) (fun R r => ⟨_, rfl, z, rfl, zs, 65535, rfl, by decide +kernel, _, rfl, by rw [l5]; decide, _, _, rfl, rfl, _, rfl, ?_⟩) (fun g R r => ⟨_, rfl, z, _, rfl, int_p hd hn (by have := of_decide_eq_false g; omega), by have := of_decide_eq_false g; omega, _, _, rfl, rfl, _, rfl, r⟩) (ite2 (fun k => retA ?_) (fun k => nextA ?_))))
    · rw [l5]
      have e : decide (((5 : Nat) : Int) < (z.length : Int)) = decide (5 < z.length) := decide_eq_decide.mpr (by omega)
      rw [e]
      exact r
    · have e : numP z = false := by
        unfold numP
        have k := Bool.or_eq_true .. ▸ k
        rw [decide_eq_true_iff, decide_eq_true_iff] at k
        rcases k with k | k
        · rw [decide_eq_false (by omega), Bool.false_and]
        · rw [decide_eq_false (p := valP z ≤ 65535) (by omega), Bool.false_and, Bool.and_false]
      rw [e] at q
      exact q
    · have k : ¬ 5 < z.length ∧ ¬ 65535 < valP z := ⟨fun m => k (by rw [decide_eq_true m]; rfl), fun m => k (by rw [decide_eq_true m, Bool.or_true])⟩
      dsimp only
      refine retA ?_
      have vl := valP_lt hd (by omega)
      have v0 := valP0 z
      refine ⟨_, rfl, _, rfl, z, _, rfl, int_p hd hn (by omega), by omega, _, rfl, ?_, rfl, ?_⟩
      · by_cases g : (valP z).natAbs = 0
        · rw [g]; decide
        · exact (Nat.log2_lt g).mpr (Nat.lt_of_lt_of_le (by omega : (valP z).natAbs < 2 ^ 17) (Nat.pow_le_pow_right (by decide) (by decide)))
      · have e : decide (V.str z = V.str ((toString (valP z) : String) : Str)) = numP z := by
          unfold numP
          rw [decide_eq_true (p := z.length ≤ 5) (by omega), decide_eq_true (p := valP z ≤ 65535) (by omega), Bool.true_and, Bool.true_and]
          exact decide_eq_decide.mpr ⟨fun e => V.str.inj e, fun e => congrArg V.str e⟩
        rw [e]
        exact q
def spKind (K : PySem.W.Frag) : Sp := fun vs H Q _ => ∃ (z : Str), vs = [.str z] ∧ z.length ≤ 1000000 ∧ L z ≠ [] ∧ ((L z).head?.any digC = true → (L z).all digC = true) ∧ ∀ H', Same H H' → Q (.str (kindOf numP z)) H'
theorem in_strs {z : Str} : ∀ {l : List Str}, inV (.str z) (l.map V.str) = decide (z ∈ l)
  | [] => rfl
  | y :: l => by
    have ih : inV (.str z) (l.map V.str) = decide (z ∈ l) := in_strs
    show (eqV (.str y) (.str z) || inV (.str z) (l.map V.str)) = _
    rw [ih]
    have e : eqV (.str y) (.str z) = decide (z = y) := by
      show (y == z) = _
      rw [Bool.eq_iff_iff, beq_iff_eq, decide_eq_true_iff]
      exact ⟨Eq.symm, Eq.symm⟩
    rw [e, Bool.eq_iff_iff, Bool.or_eq_true, decide_eq_true_iff, decide_eq_true_iff, decide_eq_true_iff, List.mem_cons]
abbrev s_kind_of : Stmt := topS 51
theorem sc_kind_of : FnScope ["token"] ["token"] (defScope s_kind_of) := ⟨rfl, rfl, rfl, by decide +kernel, rfl, by decide +kernel, by decide +kernel⟩
theorem ok_kind_of {f : Addr} {fd : FuncData} (F : Fun K "kind_of" "kind_of" s_kind_of f fd) {f_is_name : Addr} {d_is_name : FuncData} (h_is_name : Hd K mg "is_name" s_is_name ["value"] f_is_name d_is_name) (G_is_name : FnOk P w K mg base CX0 2 f_is_name d_is_name ["value"] (sp1 K isName)) {f_is_class_word : Addr} {d_is_class_word : FuncData} (h_is_class_word : Hd K mg "is_class_word" s_is_class_word ["value"] f_is_class_word d_is_class_word) (G_is_class_word : FnOk P w K mg base CX0 2 f_is_class_word d_is_class_word ["value"] (sp1 K isWord)) {f_is_number : Addr} {d_is_number : FuncData} (h_is_number : Hd K mg "is_number" s_is_number ["digits"] f_is_number d_is_number) (G_is_number : FnOk P w K mg base CX0 1 f_is_number d_is_number ["digits"] (spNmb)) {a_SIGNS_scanning : Addr} {u_SIGNS_scanning : Value} (h_SIGNS_scanning : Cst K mg "SIGNS_scanning" (.ref a_SIGNS_scanning) u_SIGNS_scanning) (t_SIGNS_scanning : ∀ H : Hp, SqT K H a_SIGNS_scanning (signs11.map V.str)) {a_RESERVED : Addr} {u_RESERVED : Value} (h_RESERVED : Cst K mg "RESERVED" (.ref a_RESERVED) u_RESERVED) (t_RESERVED : ∀ H : Hp, SqT K H a_RESERVED (reserved.map V.str)) {u_NAME : Value} (h_NAME : Cst K mg "NAME" (.str "name") u_NAME) {u_WORD : Value} (h_WORD : Cst K mg "WORD" (.str "word") u_WORD) {u_DIGITS : Value} (h_DIGITS : Cst K mg "DIGITS" (.str "0123456789") u_DIGITS) {u_INTEGER : Value} (h_INTEGER : Cst K mg "INTEGER" (.str "integer") u_INTEGER) {u_STRANGE : Value} (h_STRANGE : Cst K mg "STRANGE" (.str "strange") u_STRANGE) : FnOk P w K mg base CX0 3 f fd ["token"] (spKind K) := by
  refine F.ok sc_kind_of (fun vs H Q E h => ?_) (fun cdv A outer s H vs Q E hr h => ?_)
  · obtain ⟨_, rfl, _⟩ := h
    rfl
  · obtain ⟨z, rfl, hz, hn, hd, q⟩ := h
    have zs : z.length ≤ sizeLine := Nat.le_trans hz (by decide)
    refine ⟨_, (pss_cons (ps_if (PW.pt (pw_or (pt_cmpR op_in_seq (pv 0) (pe_glob (v := .ref a_SIGNS_scanning) rfl h_SIGNS_scanning.g h_SIGNS_scanning.r) (by rfl)) (pw_or1 (pt_cmpR op_in_seq (pv 0) (pe_glob (v := .ref a_RESERVED) rfl h_RESERVED.g h_RESERVED.r) (by rfl))))) (pss_one (ps_ret (pv 0))) pss_nil)
  (pss_cons (ps_if (pt_val (pe_call G_is_name (hr.mono (by decide)) (by rfl) h_is_name.g h_is_name.F.kp h_is_name.b .nil pass0 (pa_cons (pv 0) pa_nil))) (pss_one (ps_ret (pe_glob (v := .str "name") rfl h_NAME.g h_NAME.r))) pss_nil)
  (pss_cons (ps_if (pt_val (pe_call G_is_class_word (hr.mono (by decide)) (by rfl) h_is_class_word.g h_is_class_word.F.kp h_is_class_word.b .nil pass0 (pa_cons (pv 0) pa_nil))) (pss_one (ps_ret (pe_glob (v := .str "word") rfl h_WORD.g h_WORD.r))) pss_nil)
  (pss_cons (ps_if (PW.pt (pw_and (pt_cmpR op_in_sign (pe_ix ix_str (pv 0) pe_int (fun _ _ => rfl)) (pe_glob (v := .str "0123456789") rfl h_DIGITS.g h_DIGITS.r) (by rfl)) (pw_and1 (pt_val (pe_call G_is_number (hr.mono (by decide)) (by rfl) h_is_number.g h_is_number.F.kp h_is_number.b .nil pass0 (pa_cons (pv 0) pa_nil)))))) (pss_one (ps_ret (pe_glob (v := .str "integer") rfl h_INTEGER.g h_INTEGER.r))) pss_nil)
  (pss_one (ps_ret (pe_glob (v := .str "strange") rfl h_STRANGE.g h_STRANGE.r))))))), ?_⟩
    refine seqA (ifA (or_q (b := decide (z ∈ signs11)) (c := decide (z ∈ reserved)) (fun R r => ⟨_, rfl, a_SIGNS_scanning, _, rfl, .inr (t_SIGNS_scanning H), rfl, by decide, _, rfl, by rw [if_neg (by decide), in_strs]; exact r⟩) (fun _ R r => ⟨_, rfl, a_RESERVED, _, rfl, .inr (t_RESERVED H), rfl, reserved_flat, _, rfl, by rw [if_neg (by decide), in_strs]; exact r⟩) (ite2 (fun k => retA ?_) (fun k => nextA ?_))))
    · have e : kindOf numP z = z := kind_res (by
        rw [Bool.or_eq_true, decide_eq_true_iff, decide_eq_true_iff] at k
        exact k)
      rw [e] at q
      exact ⟨_, rfl, q H (Same.refl H)⟩
    · have nk : ¬ (z ∈ signs11 ∨ z ∈ reserved) := fun m => k (by rw [Bool.or_eq_true, decide_eq_true_iff, decide_eq_true_iff]; exact m)
      unfold kindOf at q
      rw [if_neg nk] at q
      dsimp only
      refine seqA (ifA ⟨_, rfl, _, .str z, rfl, .str z, .str z (by omega), fun H1 s1 => ⟨_, rfl, ite2 (fun g => retA ?_) (fun g => nextA ?_)⟩⟩)
      · have z0 := q H1 s1
        rw [if_pos g] at z0
        exact z0
      · rw [if_neg g] at q
        dsimp only
        refine seqA (ifA ⟨_, rfl, _, .str z, rfl, .str z, .str z (by omega), fun H2 s2 => ⟨_, rfl, ite2 (fun g2 => retA ?_) (fun g2 => nextA ?_)⟩⟩)
        · have z0 := q H2 (s1.trans s2)
          rw [if_pos g2] at z0
          exact z0
        · rw [if_neg g2] at q
          dsimp only
          have q2 := q H2 (s1.trans s2)
          cases el : L z with
          | nil => exact absurd el hn
          | cons c r =>
            have el2 : z.cps.toList = c :: r := el
            rw [el2] at q2
            have q2 : Q (.str (if (digC c && numP z) = true then "integer" else "strange")) H2 := q2
            refine seqA (ifA (and_q (b := digC c) (c := numP z) (fun R r2 => ⟨_, rfl, z, 0, c, rfl, rfl, zs, by rw [el2]; exact atI_nat (j := 0) rfl, c, _, rfl, rfl, _, rfl, by rw [dig_mem]; exact r2⟩) (fun g3 R r2 => ⟨_, rfl, z, rfl, hz, hn, hd (by rw [el]; exact g3), _, rfl, r2⟩) (ite2 (fun g3 => retA ?_) (fun g3 => nextA ?_))))
            · rw [if_pos g3] at q2
              exact q2
            · rw [if_neg g3] at q2
              dsimp only
              exact retA q2
end
end Cw

set_option Elab.async false
set_option linter.all false
set_option maxRecDepth 100000
set_option maxHeartbeats 4000000
namespace Cw
open PySem PySem.Spec PyProof.Rows L2
def RowsT (K : PySem.W.Frag) (H : Hp) : List V → List CwP.KT → Prop
  | [], [] => True
  | x :: xs, t :: ts => (∃ (a : Addr) (i : Int), x = .ref a ∧ SqT K H a [.str t.1, .str t.2, .int i]) ∧ RowsT K H xs ts
  | _, _ => False
theorem RowsT.fr {K : PySem.W.Frag} {A : List Addr} {H H' : Hp} (s : Fr A H H') (n : NoTup A H) : ∀ {xs : List V} {ts : List CwP.KT}, RowsT K H xs ts → RowsT K H' xs ts
  | [], [], _ => True.intro
  | x :: xs, t :: ts, h => by
    obtain ⟨⟨a, i, e, g⟩, h⟩ := h
    exact ⟨⟨a, i, e, sqt_fr s n g⟩, RowsT.fr s n h⟩
  | [], _ :: _, h => by cases h
  | _ :: _, [], h => by cases h
theorem RowsT.snoc {K : PySem.W.Frag} {H : Hp} {a : Addr} {i : Int} {t : CwP.KT} (g : SqT K H a [.str t.1, .str t.2, .int i]) : ∀ {xs : List V} {ts : List CwP.KT}, RowsT K H xs ts → RowsT K H (xs ++ [.ref a]) (ts ++ [t])
  | [], [], _ => ⟨⟨a, i, rfl, g⟩, True.intro⟩
  | x :: xs, u :: ts, h => ⟨h.1, RowsT.snoc g h.2⟩
  | [], _ :: _, h => by cases h
  | _ :: _, [], h => by cases h
def Toks (K : PySem.W.Frag) (H : Hp) (p : Addr) (ts : List CwP.KT) : Prop := ∃ rows, H p = some (.lst rows) ∧ RowsT K H rows ts
def spToks (K : PySem.W.Frag) : Sp := fun vs H Q _ => ∃ (z : Str) (ts : List CwP.KT), vs = [.str z] ∧ z.length ≤ 1000000 ∧ Sc numP (L z) ts ∧ ∀ p H', Same H H' → H p = none → Toks K H' p ts → Q (.ref p) H'
theorem tw_app {p : Nat → Bool} : ∀ {a r : List Nat}, a.all p = true → r.head?.any p = false → (a ++ r).takeWhile p = a
  | [], [], _, _ => rfl
  | [], c :: r, _, g => by
    have g : p c = false := g
    show (c :: r).takeWhile p = []
    rw [List.takeWhile_cons_of_neg (by rw [g]; decide)]
  | c :: a, r, h, g => by
    rw [List.all_cons, Bool.and_eq_true] at h
    rw [List.cons_append, List.takeWhile_cons_of_pos h.1, tw_app h.2 g]
theorem dig_let {c : Nat} (h : letC c = true) : digC c = false := by
  unfold letC lowC upC at h
  rw [Bool.or_eq_true, decide_eq_true_iff, decide_eq_true_iff] at h
  unfold digC
  exact decide_eq_false (by omega)
theorem bla_dig {c : Nat} (h : digC c = true) : blaC c = false := by
  unfold digC at h
  rw [decide_eq_true_iff] at h
  unfold blaC
  exact decide_eq_false (by omega)
theorem bla_let {c : Nat} (h : letC c = true) : blaC c = false := by
  unfold letC lowC upC at h
  rw [Bool.or_eq_true, decide_eq_true_iff, decide_eq_true_iff] at h
  unfold blaC
  exact decide_eq_false (by omega)
/-- what the tokens of some characters begin with -/
theorem Sc.inv {num : Str → Bool} {c : Nat} {r : List Nat} {us : List CwP.KT} (h : Sc num (c :: r) us) : (blaC c = true ∧ Sc num r us) ∨ (blaC c = false ∧ 1 ≤ tokL (c :: r) ∧ tokL (c :: r) ≤ (c :: r).length ∧
    (digC c = true → ((c :: r).take (tokL (c :: r))).all digC = true) ∧ ∃ vs, us = (kindOf num (sOf ((c :: r).take (tokL (c :: r)))), sOf ((c :: r).take (tokL (c :: r)))) :: vs ∧ Sc num ((c :: r).drop (tokL (c :: r))) vs) := by
  generalize e : c :: r = l at h
  cases h with
  | nil => cases e
  | bla h t =>
    cases e
    exact .inl ⟨h, t⟩
  | @dig a r' ts n h g t =>
    cases a with
    | nil => exact absurd rfl n
    | cons x a =>
      rw [List.cons_append] at e
      obtain ⟨rfl, rfl⟩ := List.cons.inj e
      have hd : digC c = true := by
        rw [List.all_cons, Bool.and_eq_true] at h
        exact h.1
      have et : tokL ((c :: a) ++ r') = (c :: a).length := by
        show (if digC c = true then runL digC (c :: (a ++ r')) else _) = _
        rw [if_pos hd]
        unfold runL
        rw [← List.cons_append, tw_app h g]
      rw [et, List.take_left, List.drop_left]
      refine .inr ⟨bla_dig hd, by simp, by simp, fun _ => h, _, rfl, t⟩
  | @let_ a r' ts n h g t =>
    cases a with
    | nil => exact absurd rfl n
    | cons x a =>
      rw [List.cons_append] at e
      obtain ⟨rfl, rfl⟩ := List.cons.inj e
      have hd : letC c = true := by
        rw [List.all_cons, Bool.and_eq_true] at h
        exact h.1
      have et : tokL ((c :: a) ++ r') = (c :: a).length := by
        show (if digC c = true then _ else if letC c = true then runL letC (c :: (a ++ r')) else _) = _
        rw [if_neg (by rw [dig_let hd]; decide), if_pos hd]
        unfold runL
        rw [← List.cons_append, tw_app h g]
      rw [et, List.take_left, List.drop_left]
      refine .inr ⟨bla_let hd, by simp, by simp, fun k => ?_, _, rfl, t⟩
      rw [dig_let hd] at k
      cases k
  | @one c' r' ts h g t =>
    obtain ⟨rfl, rfl⟩ := List.cons.inj e
    have gd : digC c = false := by
      unfold alnC at g
      cases k : digC c with
      | false => rfl
      | true => rw [k] at g; cases g
    have gl : letC c = false := by
      unfold alnC at g
      rw [gd] at g
      exact g
    have et : tokL (c :: r) = 1 := by
      show (if digC c = true then _ else if letC c = true then _ else 1) = _
      rw [if_neg (by rw [gd]; decide), if_neg (by rw [gl]; decide)]
    rw [et]
    refine .inr ⟨h, by simp, by simp, fun k => ?_, _, rfl, t⟩
    rw [gd] at k
    cases k
theorem sc_nil {num : Str → Bool} {us : List CwP.KT} (h : Sc num [] us) : us = [((("end" : Str), ("" : Str)) : CwP.KT)] := by
  generalize e : ([] : List Nat) = l at h
  cases h with
  | nil => rfl
  | bla h t => cases e
  | @dig a r ts n h g t =>
    have := (List.append_eq_nil_iff.mp e.symm).1
    exact absurd this n
  | @let_ a r ts n h g t =>
    have := (List.append_eq_nil_iff.mp e.symm).1
    exact absurd this n
  | one h g t => cases e
theorem cutS_mid {z : Str} {a b : Nat} (h : a ≤ z.length) (g : b ≤ z.length) : cutS z (some (a : Int)) (some (b : Int)) = sOf (((L z).drop a).take (b - a)) := by
  show (⟨((z.cps.toList.drop (HT.sIx z.length 0 (some (a : Int)))).take (HT.sIx z.length z.length (some (b : Int)) - HT.sIx z.length 0 (some (a : Int)))).toArray⟩ : Str) = _
  rw [HT.sIx_nat, HT.sIx_nat, Nat.min_eq_left h, Nat.min_eq_left g]
  rfl
def TokI (K : PySem.W.Frag) (H : Hp) (z : Str) (ts : List CwP.KT) (D : Addr) (i : Nat) (σ : L2.St) (H' : Hp) : Prop := ∃ (c3 c4 : Option V) (pre us : List CwP.KT) (rows : List V), σ = [some (.str z), some (.ref D), some (.int (i : Int)), c3, c4] ∧ i ≤ z.length ∧ pre ++ us = ts ∧ Sc numP ((L z).drop i) us ∧ Same H H' ∧ H' D = some (.lst rows) ∧ RowsT K H' rows pre ∧ rows.length ≤ i
theorem len_sOf (l : List Nat) : (sOf l).length = l.length := rfl
theorem same_nt {D : Addr} {H : Hp} {rows : List V} (e : H D = some (.lst rows)) : NoTup [D] H := fun b m xs k => by
  rcases List.mem_singleton.mp m with rfl
  rcases k with k | ⟨o, k⟩ <;> · rw [e] at k; cases k
section
variable {n k : Nat} {P : Program} {w : World} {K : PySem.W.Frag} {mg : Str → Option Value} {base : Heap} {S : Addr → Option Sp}
abbrev s_tokens_of : Stmt := topS 48
theorem sc_tokens_of : FnScope ["text", "tokens", "at", "stop", "token"] ["text"] (defScope s_tokens_of) := ⟨rfl, rfl, rfl, by decide +kernel, rfl, by decide +kernel, by decide +kernel⟩
theorem ok_tokens_of {f : Addr} {fd : FuncData} (F : Fun K "tokens_of" "tokens_of" s_tokens_of f fd) {f_end_of_token : Addr} {d_end_of_token : FuncData} (h_end_of_token : Hd K mg "end_of_token" s_end_of_token ["text", "at"] f_end_of_token d_end_of_token) (G_end_of_token : FnOk P w K mg base CX0 2 f_end_of_token d_end_of_token ["text", "at"] (spEot)) {f_kind_of : Addr} {d_kind_of : FuncData} (h_kind_of : Hd K mg "kind_of" s_kind_of ["token"] f_kind_of d_kind_of) (G_kind_of : FnOk P w K mg base CX0 3 f_kind_of d_kind_of ["token"] (spKind K)) {u_BLANKS : Value} (h_BLANKS : Cst K mg "BLANKS" (.str " \n") u_BLANKS) {u_END : Value} (h_END : Cst K mg "END" (.str "end") u_END) (m_len : mg "len" = none) : FnOk P w K mg base CX0 4 f fd ["text"] (spToks K) := by
  refine F.ok sc_tokens_of (fun vs H Q E h => ?_) (fun cdv A outer s H vs Q E hr h => ?_)
  · obtain ⟨_, _, rfl, _⟩ := h
    rfl
  · obtain ⟨z, ts, rfl, hz, hs, q⟩ := h
    have zs : z.length ≤ sizeLine := Nat.le_trans hz (by decide)
    refine ⟨_, (pss_cons (ps_set (i := 1) sc_tokens_of.nd rfl (.inl rfl) (pe_lst pa_nil))
  (pss_cons (ps_set (i := 2) sc_tokens_of.nd rfl (.inl rfl) pe_int)
  (pss_cons (ps_while PassesOwn.never (pt_cmpR op_lt (pv 2) (pe_callB call_len_str (by rfl) m_len PySem.boot_len (pa_cons (pv 0) pa_nil)) (nomark _)) (pss_cons (ps_if (pt_cmpR op_in_sign (pe_ix ix_str (pv 0) (pv 2) (fun _ _ => rfl)) (pe_glob (v := .str " \n") rfl h_BLANKS.g h_BLANKS.r) (by rfl)) (pss_cons (ps_set (i := 2) sc_tokens_of.nd rfl (.inl rfl) (pe_op op_add (pv 2) pe_int))
  (pss_one ps_continue)) pss_nil)
  (pss_cons (ps_set (i := 3) sc_tokens_of.nd rfl (.inl rfl) (pe_call G_end_of_token (hr.mono (by decide)) (by rfl) h_end_of_token.g h_end_of_token.F.kp h_end_of_token.b .nil pass0 (pa_cons (pv 0) (pa_cons (pv 2) pa_nil))))
  (pss_cons (ps_set (i := 4) sc_tokens_of.nd rfl (.inl rfl) (pe_slice sl_str (pv 0) (po_some (pv 2)) (po_some (pv 3))))
  (pss_cons (ps_expr (pe_bm PySem.F.plainAttrs_list PySem.F.slot_list_append PySem.F.type_list_append mt_append (pv 1) (pa_cons (pe_tup (pa_cons (pe_call G_kind_of (hr.mono (by decide)) (by rfl) h_kind_of.g h_kind_of.F.kp h_kind_of.b .nil pass0 (pa_cons (pv 4) pa_nil)) (pa_cons (pv 4) (pa_cons (pv 2) pa_nil)))) pa_nil)))
  (pss_one (ps_set (i := 2) sc_tokens_of.nd rfl (.inl rfl) (pv 3))))))))
  (pss_cons (ps_expr (pe_bm PySem.F.plainAttrs_list PySem.F.slot_list_append PySem.F.type_list_append mt_append (pv 1) (pa_cons (pe_tup (pa_cons (pe_glob (v := .str "end") rfl h_END.g h_END.r) (pa_cons pe_str (pa_cons (pe_callB call_len_str (by rfl) m_len PySem.boot_len (pa_cons (pv 0) pa_nil)) pa_nil)))) pa_nil)))
  (pss_one (ps_ret (pv 1))))))), ?_⟩
    refine seqA (asgA ⟨Nat.zero_le _, fun D hD => nameA ?_⟩)
    dsimp only
    refine seqA (asgA (nameA ?_))
    dsimp only
    refine seqA ⟨fun m σ H' => ∃ i, m = z.length - i ∧ TokI K H z ts D i σ H', ⟨_, 0, rfl, none, none, [], ts, [], rfl, Nat.zero_le _, rfl, hs, same_upd hD, upd_same, True.intro, Nat.le_refl _⟩, ?_⟩
    rintro m σ H1 ⟨i, rfl, c3, c4, pre, us, rows, rfl, hi, he, hsc, s1, eD, hrw, hl⟩
    have nt := same_nt eD
    refine ⟨_, rfl, _, rfl, z, rfl, zs, (i : Int), (z.length : Int), rfl, rfl, _, rfl, ite2 (fun g => ?_) (fun g => ?_)⟩
    · have g := of_decide_eq_true g
      have g : i < z.length := by omega
      have gi : i < (L z).length := by rw [L_len]; exact g
      have ed : (L z).drop i = (L z)[i] :: (L z).drop (i + 1) := List.drop_eq_getElem_cons gi
      rw [ed] at hsc
      refine ⟨fun σ' H2 => ∃ i', i < i' ∧ TokI K H z ts D i' σ' H2, fun σ' H2 ⟨i', h1, h2⟩ => ⟨z.length - i', by omega, i', rfl, h2⟩, ?_⟩
      refine seqA (ifA ⟨_, rfl, _, rfl, z, (i : Int), (L z)[i], rfl, rfl, zs, atI_nat (List.getElem?_eq_getElem gi), (L z)[i], _, rfl, rfl, _, rfl, ite2 (fun k => ?_) (fun k => nextA ?_)⟩)
      · have k : blaC (L z)[i] = true := (bla_mem _).symm.trans k
        rcases hsc.inv with ⟨_, hsc⟩ | ⟨k2, _⟩
        · refine seqA (asgA ⟨_, rfl, (i : Int), 1, rfl, rfl, nameA ?_⟩)
          exact ⟨i + 1, Nat.lt_succ_self _, c3, c4, pre, us, rows, rfl, g, he, hsc, s1, eD, hrw, Nat.le_succ_of_le hl⟩
        · rw [k] at k2
          cases k2
      · have k : ¬ blaC (L z)[i] = true := fun m => k ((bla_mem _).trans m)
        rcases hsc.inv with ⟨k2, _⟩ | ⟨_, t1, t2, t3, vs, t4, t5⟩
        · exact absurd k2 k
        rw [← ed] at t1 t2 t3 t4 t5
        generalize hn : tokL ((L z).drop i) = n at t1 t2 t3 t4 t5
        rw [List.length_drop, L_len] at t2
        rw [List.drop_drop] at t5
        have ln : (((L z).drop i).take n).length = n := by
          rw [List.length_take, List.length_drop, L_len]
          omega
        dsimp only
        refine seqA (asgA ⟨_, rfl, _, rfl, z, i, rfl, hz, g, nameA ?_⟩)
        rw [hn]
        dsimp only
        refine seqA (asgA ⟨_, rfl, _, rfl, (i : Int), rfl, _, rfl, ((i + n : Nat) : Int), rfl, z, rfl, zs, nameA ?_⟩)
        rw [cutS_mid (Nat.le_of_lt g) (by omega), Nat.add_sub_cancel_left]
        dsimp only
        generalize hw : sOf (((L z).drop i).take n) = w at t4
        have lw : L w = ((L z).drop i).take n := by rw [← hw]; rfl
        have nw : w.length = n := by rw [← L_len, lw, ln]
        refine seqA ⟨_, rfl, .inl ⟨rfl, rows, SqL.of eD⟩, _, rfl, w, rfl, by omega, ?_, ?_, fun H2 s2 => ⟨_, rfl, _, rfl, Nat.le_of_ble_eq_true rfl, fun p hp => ?_⟩⟩
        · intro e
          rw [lw] at e
          rw [e] at ln
          rw [List.length_nil] at ln
          omega
        · intro k2
          rw [lw] at k2 ⊢
          rw [ed] at k2
          cases n with
          | zero => omega
          | succ n => exact t3 k2
        · have eD2 := s2 _ _ eD
          have pD : p ≠ D := fun e => by rw [e, eD2] at hp; cases hp
          have hp1 : H1 p = none := by
            cases e : H1 p with
            | none => rfl
            | some o => rw [s2 _ _ e] at hp; cases hp
          have hp0 : H p = none := by
            cases e : H p with
            | none => rfl
            | some o => rw [s1 _ _ e] at hp1; cases hp1
          have lt : rows.length < sizeLine := Nat.lt_of_lt_of_le (by omega : rows.length < 1000000) (by decide)
          refine ⟨D, rows, .ref p, rfl, rfl, by rw [upd_ne (Ne.symm pD)]; exact eD2, lt, ?_⟩
          dsimp only
          refine asgA ⟨_, rfl, nameA ?_⟩
          have fr : Fr [D] H1 (upd (upd H2 p (.tup [V.str (kindOf numP w), V.str w, V.int (i : Int)])) D (.lst (rows ++ [.ref p]))) := ((Fr.of s2).upd hp1).set (List.mem_singleton.mpr rfl)
          have sq : SqT K (upd (upd H2 p (.tup [V.str (kindOf numP w), V.str w, V.int (i : Int)])) D (.lst (rows ++ [.ref p]))) p [V.str (kindOf numP w), V.str w, V.int (i : Int)] := .inl (.inl (by rw [upd_ne pD, upd_same]))
          refine ⟨i + n, by omega, _, _, pre ++ [(kindOf numP w, w)], vs, rows ++ [.ref p], rfl, by omega, ?_, t5, same_mut ((s1.trans s2).trans (same_upd hp)) hD, upd_same, RowsT.snoc sq (hrw.fr fr nt), ?_⟩
          · rw [← he, t4, List.append_assoc]
            rfl
          · rw [List.length_append, List.length_singleton]
            omega
    · have g : ¬ i < z.length := fun m => g (decide_eq_true (by omega))
      have e0 : (L z).drop i = [] := List.drop_eq_nil_of_le (by rw [L_len]; omega)
      rw [e0] at hsc
      have eu := sc_nil hsc
      dsimp only
      refine seqA ⟨_, rfl, .inl ⟨rfl, rows, SqL.of eD⟩, _, rfl, z, rfl, zs, Nat.le_of_ble_eq_true rfl, fun p hp => ?_⟩
      have pD : p ≠ D := fun e => by rw [e, eD] at hp; cases hp
      have lt : rows.length < sizeLine := Nat.lt_of_le_of_lt (by omega : rows.length ≤ 1000000) (by decide)
      refine ⟨D, rows, .ref p, rfl, rfl, by rw [upd_ne (Ne.symm pD)]; exact eD, lt, ?_⟩
      dsimp only
      have fr : Fr [D] H1 (upd (upd H1 p (.tup [V.str "end", V.str "", V.int (z.length : Int)])) D (.lst (rows ++ [.ref p]))) := ((Fr.refl H1).upd hp).set (List.mem_singleton.mpr rfl)
      have sq : SqT K (upd (upd H1 p (.tup [V.str "end", V.str "", V.int (z.length : Int)])) D (.lst (rows ++ [.ref p]))) p [V.str "end", V.str "", V.int (z.length : Int)] := .inl (.inl (by rw [upd_ne pD, upd_same]))
      refine retA ⟨_, rfl, q D _ (same_mut (s1.trans (same_upd hp)) hD) hD ⟨_, upd_same, ?_⟩⟩
      rw [← he, eu]
      exact RowsT.snoc sq (hrw.fr fr nt)
end
end Cw

set_option Elab.async false
set_option linter.all false
set_option maxRecDepth 100000
set_option maxHeartbeats 4000000
namespace Cw
open PySem PySem.Spec PyProof.Rows L2
/-- a statement that is never reached -/
theorem ps_dead {X : Cx} {st : Stmt} : PS X st (fun _ _ _ => False) := ⟨fun _ _ _ _ _ _ h => h.elim⟩
abbrev s_Cursor_init : Stmt := inClass (topS 53) 0
abbrev s_Cursor_kind : Stmt := inClass (topS 53) 1
abbrev s_Cursor_behind : Stmt := inClass (topS 53) 2
abbrev s_Cursor_take : Stmt := inClass (topS 53) 3
abbrev s_Cursor_skip : Stmt := inClass (topS 53) 4
theorem tp_ : ¬ (("tokens" : Str) = "place") := by decide +kernel
def cf (p : Addr) (n : Nat) : List (Str × V) := putF "place" (.int (n : Int)) (putF "tokens" (.ref p) [])
theorem cf_eq (p : Addr) (n : Nat) : cf p n = ([("tokens", V.ref p), ("place", V.int (n : Int))] : List (Str × V)) := by
  show (if ("tokens" : Str) = "place" then [(("tokens" : Str), V.int (n : Int))] else (("tokens" : Str), V.ref p) :: putF "place" (V.int (n : Int)) []) = ([("tokens", V.ref p), ("place", V.int (n : Int))] : List (Str × V))
  rw [if_neg tp_]
  all_goals rfl
theorem cf_tokens (p : Addr) (n : Nat) : (cf p n).lookup ("tokens" : Str) = some (.ref p) := by
  unfold cf
  rw [lookup_putF, if_neg tp_, lookup_putF, if_pos rfl]
theorem cf_place (p : Addr) (n : Nat) : (cf p n).lookup ("place" : Str) = some (.int (n : Int)) := by
  unfold cf
  rw [lookup_putF, if_pos rfl]
theorem cf_no (p : Addr) (n : Nat) {m : Str} (h1 : ¬ m = "place") (h2 : ¬ m = "tokens") : (cf p n).lookup m = none := by
  unfold cf
  rw [lookup_putF, if_neg h1, lookup_putF, if_neg h2]
  all_goals rfl
theorem cf_put (p : Addr) (n m : Nat) : putF "place" (.int (m : Int)) (cf p n) = cf p m := by
  rw [cf_eq, cf_eq]
  show (if ("tokens" : Str) = "place" then _ else (("tokens" : Str), V.ref p) :: (if ("place" : Str) = "place" then [(("place" : Str), V.int (m : Int))] else _)) = ([("tokens", V.ref p), ("place", V.int (m : Int))] : List (Str × V))
  rw [if_neg tp_, if_pos rfl]
/-- a cursor at c before these tokens -/
def Cur (K : PySem.W.Frag) (C : Addr) (H : Hp) (c p : Addr) (ts : List CwP.KT) : Prop := ∃ (dx : Addr) (rows : List V) (all : List CwP.KT) (n : Nat), H c = some (.ins C dx (cf p n)) ∧ H p = some (.lst rows) ∧ RowsT K H rows all ∧ all.drop n = ts
def spCinit (K : PySem.W.Frag) (C : Addr) : Sp := fun vs H Q _ => ∃ (c dx : Addr) (z : Str) (ts : List CwP.KT), vs = [.ref c, .str z] ∧ z.length ≤ 1000000 ∧ Sc numP (L z) ts ∧ H c = some (.ins C dx []) ∧ ∀ p H', Fr [c] H H' → Cur K C H' c p ts → Q .non H'
def spCkind (K : PySem.W.Frag) (C : Addr) : Sp := fun vs H Q _ => ∃ (c p : Addr) (k t : Str) (ts : List CwP.KT), vs = [.ref c] ∧ Cur K C H c p ((k, t) :: ts) ∧ Q (.str k) H
def spCbehind (K : PySem.W.Frag) (C : Addr) : Sp := fun vs H Q _ => ∃ (c p : Addr) (k t : Str) (u : CwP.KT) (ts : List CwP.KT), vs = [.ref c] ∧ Cur K C H c p (u :: (k, t) :: ts) ∧ Q (.str k) H
def spCtake (K : PySem.W.Frag) (C : Addr) : Sp := fun vs H Q _ => ∃ (c p : Addr) (k t : Str) (ts : List CwP.KT), vs = [.ref c, .str k] ∧ Cur K C H c p ((k, t) :: ts) ∧ ∀ H', Fr [c] H H' → Cur K C H' c p ts → Q (.str t) H'
def spCskip (K : PySem.W.Frag) (C : Addr) : Sp := fun vs H Q _ => ∃ (c p : Addr) (k k2 t : Str) (ts : List CwP.KT), vs = [.ref c, .str k] ∧ Cur K C H c p ((k2, t) :: ts) ∧ (k2 = k → ∀ H', Fr [c] H H' → Cur K C H' c p ts → Q (.bl true) H') ∧ (k2 ≠ k → Q (.bl false) H)
structure TCur (K : PySem.W.Frag) (mg : Str → Option Value) (C : Addr) : Prop where
  cl : Cls K C
  nT : NoAttr K C "tokens"
  nP : NoAttr K C "place"
  mgC : mg "Cursor" = some (.ref C)
theorem rows_at {K : PySem.W.Frag} {H : Hp} : ∀ {rows : List V} {all : List CwP.KT} {n : Nat} {t : CwP.KT} {ts : List CwP.KT}, RowsT K H rows all → all.drop n = t :: ts → ∃ (a : Addr) (i : Int), rows[n]? = some (.ref a) ∧ SqT K H a [.str t.1, .str t.2, .int i]
  | [], [], n, t, ts, _, e => by rw [List.drop_nil] at e; cases e
  | x :: xs, u :: us, 0, t, ts, ⟨⟨a, i, e1, g⟩, _⟩, e => by
    obtain ⟨rfl, _⟩ := List.cons.inj e
    exact ⟨a, i, by rw [e1]; rfl, g⟩
  | x :: xs, u :: us, n + 1, t, ts, ⟨_, h⟩, e => rows_at (n := n) h e
  | [], _ :: _, _, _, _, h, _ => by cases h
  | _ :: _, [], _, _, _, h, _ => by cases h
section
variable {P : Program} {w : World} {K : PySem.W.Frag} {mg : Str → Option Value} {base : Heap}
theorem sc_Ck : FnScope ["self"] ["self"] (defScope s_Cursor_kind) := ⟨rfl, rfl, rfl, by decide +kernel, rfl, by decide +kernel, by decide +kernel⟩
theorem ok_Ckind {f C : Addr} {fd : FuncData} (F : Fun K "kind" "Cursor.kind" s_Cursor_kind f fd) (T : TCur K mg C) : FnOk P w K mg base CX0 1 f fd ["self"] (spCkind K C) := by
  refine F.ok sc_Ck (fun vs H Q E h => ?_) (fun cdv A outer s H vs Q E hr h => ?_)
  · obtain ⟨_, _, _, _, _, rfl, _⟩ := h
    rfl
  · obtain ⟨c, p, k, t, ts, rfl, ⟨dx, rows, all, n, e1, e2, e3, e4⟩, q⟩ := h
    obtain ⟨a, i, g1, g2⟩ := rows_at e3 e4
    refine ⟨_, pss_one (ps_ret (pe_ix ix_tup (pe_ix ix_list (pe_fld (pv 0) rfl) (pe_fld (pv 0) rfl) (fun _ _ => rfl)) pe_int (fun _ _ => rfl))), ?_⟩
    exact ⟨_, rfl, c, C, dx, _, _, rfl, e1, T.cl, T.nT, cf_tokens _ _, _, rfl, c, C, dx, _, _, rfl, e1, T.cl, T.nP, cf_place _ _, p, rows, _, _, rfl, rfl, SqL.of e2, atI_nat g1, a, _, 0, _, rfl, rfl, g2, atI_nat (j := 0) rfl, q⟩
theorem sc_Cb : FnScope ["self"] ["self"] (defScope s_Cursor_behind) := ⟨rfl, rfl, rfl, by decide +kernel, rfl, by decide +kernel, by decide +kernel⟩
theorem ok_Cbehind {f C : Addr} {fd : FuncData} (F : Fun K "kind_behind" "Cursor.kind_behind" s_Cursor_behind f fd) (T : TCur K mg C) : FnOk P w K mg base CX0 1 f fd ["self"] (spCbehind K C) := by
  refine F.ok sc_Cb (fun vs H Q E h => ?_) (fun cdv A outer s H vs Q E hr h => ?_)
  · obtain ⟨_, _, _, _, _, _, rfl, _⟩ := h
    rfl
  · obtain ⟨c, p, k, t, u, ts, rfl, ⟨dx, rows, all, n, e1, e2, e3, e4⟩, q⟩ := h
    have e5 : all.drop (n + 1) = (k, t) :: ts := by
      rw [← List.drop_drop, e4]
      rfl
    obtain ⟨a, i, g1, g2⟩ := rows_at e3 e5
    refine ⟨_, pss_one (ps_ret (pe_ix ix_tup (pe_ix ix_list (pe_fld (pv 0) rfl) (pe_op op_add (pe_fld (pv 0) rfl) pe_int) (fun _ _ => rfl)) pe_int (fun _ _ => rfl))), ?_⟩
    exact ⟨_, rfl, c, C, dx, _, _, rfl, e1, T.cl, T.nT, cf_tokens _ _, _, rfl, c, C, dx, _, _, rfl, e1, T.cl, T.nP, cf_place _ _, _, _, rfl, rfl, p, rows, ((n + 1 : Nat) : Int), _, rfl, rfl, SqL.of e2, atI_nat g1, a, _, 0, _, rfl, rfl, g2, atI_nat (j := 0) rfl, q⟩
end
end Cw

set_option Elab.async false
set_option linter.all false
set_option maxRecDepth 100000
set_option maxHeartbeats 4000000
namespace Cw
open PySem PySem.Spec PyProof.Rows L2
theorem ins_nt {c C dx : Addr} {fs : List (Str × V)} {H : Hp} (e : H c = some (.ins C dx fs)) : NoTup [c] H := fun b m xs k => by
  rcases List.mem_singleton.mp m with rfl
  rcases k with k | ⟨o, k⟩ <;> · rw [e] at k; cases k
theorem iteF' {p : Bool} {A B : Prop} (h : p = false) (b : B) : if p = true then A else B := by
  rw [if_neg (by rw [h]; decide)]
  exact b
section
variable {P : Program} {w : World} {K : PySem.W.Frag} {mg : Str → Option Value} {base : Heap}
theorem sc_Ci : FnScope ["self", "text"] ["self", "text"] (defScope s_Cursor_init) := ⟨rfl, rfl, rfl, by decide +kernel, rfl, by decide +kernel, by decide +kernel⟩
theorem ok_Cinit {f C : Addr} {fd : FuncData} (F : Fun K "__init__" "Cursor.__init__" s_Cursor_init f fd) (T : TCur K mg C) {f_tokens_of : Addr} {d_tokens_of : FuncData} (h_tokens_of : Hd K mg "tokens_of" s_tokens_of ["text"] f_tokens_of d_tokens_of) (G_tokens_of : FnOk P w K mg base CX0 4 f_tokens_of d_tokens_of ["text"] (spToks K)) : FnOk P w K mg base CX0 5 f fd ["self", "text"] (spCinit K C) := by
  refine F.ok sc_Ci (fun vs H Q E h => ?_) (fun cdv A outer s H vs Q E hr h => ?_)
  · obtain ⟨_, _, _, _, rfl, _⟩ := h
    rfl
  · obtain ⟨c, dx, z, ts, rfl, hz, hs, hc, q⟩ := h
    refine ⟨_, pss_cons (ps_fld (pv 0) (pe_call G_tokens_of (hr.mono (by decide)) (by rfl) h_tokens_of.g h_tokens_of.F.kp h_tokens_of.b .nil pass0 (pa_cons (pv 1) pa_nil)) rfl) (pss_one (ps_fld (pv 0) pe_int rfl)), ?_⟩
    refine ⟨_, rfl, z, ts, rfl, hz, hs, fun p H1 s1 p0 ⟨rows, e2, e3⟩ => ?_⟩
    have pc : p ≠ c := fun e => by rw [e, hc] at p0; cases p0
    have hc1 := s1 _ _ hc
    refine ⟨_, rfl, c, C, dx, _, rfl, hc1, T.cl, T.nT, (by show 0 < 1000; decide), _, rfl, c, C, dx, _, rfl, upd_same, T.cl, T.nP, (by show 1 < 1000; decide), ?_⟩
    have fr : Fr [c] H1 (upd (upd H1 c (.ins C dx (putF "tokens" (.ref p) []))) c (.ins C dx (cf p 0))) := ((Fr.refl H1).set (List.mem_singleton.mpr rfl)).set (List.mem_singleton.mpr rfl)
    exact q p _ ((Fr.of s1).trans fr) ⟨dx, rows, ts, 0, upd_same, by rw [upd_ne pc, upd_ne pc]; exact e2, e3.fr fr (ins_nt hc1), rfl⟩
theorem sc_Ct : FnScope ["self", "kind", "found", "told", "at"] ["self", "kind"] (defScope s_Cursor_take) := ⟨rfl, rfl, rfl, by decide +kernel, rfl, by decide +kernel, by decide +kernel⟩
theorem ok_Ctake {f C : Addr} {fd : FuncData} (F : Fun K "take" "Cursor.take" s_Cursor_take f fd) (T : TCur K mg C) : FnOk P w K mg base CX0 1 f fd ["self", "kind"] (spCtake K C) := by
  refine F.ok sc_Ct (fun vs H Q E h => ?_) (fun cdv A outer s H vs Q E hr h => ?_)
  · obtain ⟨_, _, _, _, _, rfl, _⟩ := h
    rfl
  · obtain ⟨c, p, k, t, ts, rfl, ⟨dx, rows, all, n, e1, e2, e3, e4⟩, q⟩ := h
    obtain ⟨a, i, g1, g2⟩ := rows_at e3 e4
    refine ⟨_, pss_cons (ps_asg (pe_ix ix_list (pe_fld (pv 0) rfl) (pe_fld (pv 0) rfl) (fun _ _ => rfl)) (pg_tup (n := 3) (by rfl) (pgs_cons (pg_name (i := 2) sc_Ct.nd rfl (.inl rfl)) (pgs_cons (pg_name (i := 3) sc_Ct.nd rfl (.inl rfl)) (pgs_cons (pg_name (i := 4) sc_Ct.nd rfl (.inl rfl)) pgs_nil)))))
      (pss_cons (ps_if (pt_cmpR op_ne (pv 2) (pv 1) (nomark _)) (pss_one ps_dead) pss_nil) (pss_cons (ps_fld (pv 0) (pe_op op_add (pe_fld (pv 0) rfl) pe_int) rfl) (pss_one (ps_ret (pv 3))))), ?_⟩
    refine seqA (asgA ⟨_, rfl, c, C, dx, _, _, rfl, e1, T.cl, T.nT, cf_tokens _ _, _, rfl, c, C, dx, _, _, rfl, e1, T.cl, T.nP, cf_place _ _, p, rows, _, _, rfl, rfl, SqL.of e2, atI_nat g1, ?_⟩)
    refine ⟨a, _, rfl, g2, rfl, _, _, rfl, nameA ⟨_, _, rfl, nameA ⟨_, _, rfl, nameA ⟨rfl, ?_⟩⟩⟩⟩
    dsimp only
    refine seqA (ifA ⟨_, rfl, _, rfl, rfl, _, rfl, iteF' (by simp) (nextA ?_)⟩)
    dsimp only
    refine seqA ⟨_, rfl, c, C, dx, _, _, rfl, e1, T.cl, T.nP, cf_place _ _, _, _, rfl, rfl, _, rfl, c, C, dx, _, rfl, e1, T.cl, T.nP, (by rw [cf_eq]; show 2 < 1000; decide), ?_⟩
    dsimp only
    have pc : p ≠ c := fun e => by rw [e, e1] at e2; cases e2
    refine retA ⟨_, rfl, q _ ((Fr.refl H).set (List.mem_singleton.mpr rfl)) ⟨dx, rows, all, n + 1, ?_, by rw [upd_ne pc]; exact e2, e3.fr ((Fr.refl H).set (List.mem_singleton.mpr rfl)) (ins_nt e1), ?_⟩⟩
    · rw [upd_same]
      exact congrArg (fun f => some (HO.ins C dx f)) (cf_put p n (n + 1))
    · rw [← List.drop_drop, e4]
      rfl
theorem sc_Cs : FnScope ["self", "kind", "found"] ["self", "kind"] (defScope s_Cursor_skip) := ⟨rfl, rfl, rfl, by decide +kernel, rfl, by decide +kernel, by decide +kernel⟩
theorem ok_Cskip {f C fK fT : Addr} {fd fdK fdT : FuncData} (F : Fun K "skip" "Cursor.skip" s_Cursor_skip f fd) (T : TCur K mg C) (bK : Binds K fdK ["self"] []) (mK : Meth K C "kind" fK) (GK : FnOk P w K mg base CX0 1 fK fdK ["self"] (spCkind K C))
    (bT : Binds K fdT ["self", "kind"] []) (mT : Meth K C "take" fT) (GT : FnOk P w K mg base CX0 1 fT fdT ["self", "kind"] (spCtake K C)) : FnOk P w K mg base CX0 2 f fd ["self", "kind"] (spCskip K C) := by
  refine F.ok sc_Cs (fun vs H Q E h => ?_) (fun cdv A outer s H vs Q E hr h => ?_)
  · obtain ⟨_, _, _, _, _, _, rfl, _⟩ := h
    rfl
  · obtain ⟨c, p, k, k2, t, ts, rfl, hc, q1, q2⟩ := h
    have hr1 : Room 1 _ := hr.mono (by decide)
    have hc0 := hc
    obtain ⟨dx, rows, all, n, e1, e2, e3, e4⟩ := hc0
    have noK : (cf p n).lookup ("kind" : Str) = none := cf_no _ _ (by decide +kernel) (by decide +kernel)
    have noT : (cf p n).lookup ("take" : Str) = none := cf_no _ _ (by decide +kernel) (by decide +kernel)
    refine ⟨_, pss_cons (ps_set (i := 2) sc_Cs.nd rfl (.inl rfl) (pe_cmpR op_eq (pe_meth0 (pv 0) T.cl mK GK hr1 bK .nil pass0) (pv 1) (nomark _)))
      (pss_cons (ps_if (pt_val (pv 2)) (pss_one (ps_expr (pe_meth (pv 0) T.cl mT GT hr1 bT .nil pass0 (pa_cons (pv 1) pa_nil)))) pss_nil) (pss_one (ps_ret (pv 2)))), ?_⟩
    refine seqA (asgA ⟨_, rfl, c, dx, _, rfl, e1, noK, c, p, k2, t, ts, rfl, hc, _, rfl, rfl, nameA ?_⟩)
    dsimp only
    by_cases g : k2 = k
    · subst g
      rw [decide_eq_true rfl]
      refine seqA (ifA ⟨_, rfl, _, rfl, iteT ⟨_, rfl, c, dx, _, rfl, e1, noT, _, rfl, c, p, k2, t, ts, rfl, hc, fun H1 f1 c1 => ?_⟩⟩)
      dsimp only
      exact retA ⟨_, rfl, q1 rfl H1 f1 c1⟩
    · rw [decide_eq_false (fun e => g (V.str.inj e))]
      refine seqA (ifA ⟨_, rfl, _, rfl, iteF (nextA ?_)⟩)
      dsimp only
      exact retA ⟨_, rfl, q2 g⟩
end
end Cw

set_option Elab.async false
set_option linter.all false
set_option maxRecDepth 100000
set_option maxHeartbeats 4000000
namespace Cw
open PySem PySem.Spec PyProof.Rows L2
def CurM (P : Program) (w : World) (K : PySem.W.Frag) (mg : Str → Option Value) (base : Heap) (C : Addr) : Prop := TCur K mg C ∧ ∃ (fK : Addr) (dK : FuncData), Meth K C "kind" fK ∧ Binds K dK ["self"] [] ∧ FnOk P w K mg base CX0 1 fK dK ["self"] (spCkind K C) ∧
  ∃ (fB : Addr) (dB : FuncData), Meth K C "kind_behind" fB ∧ Binds K dB ["self"] [] ∧ FnOk P w K mg base CX0 1 fB dB ["self"] (spCbehind K C) ∧
  ∃ (fT : Addr) (dT : FuncData), Meth K C "take" fT ∧ Binds K dT ["self", "kind"] [] ∧ FnOk P w K mg base CX0 1 fT dT ["self", "kind"] (spCtake K C) ∧
  ∃ (fS : Addr) (dS : FuncData), Meth K C "skip" fS ∧ Binds K dS ["self", "kind"] [] ∧ FnOk P w K mg base CX0 2 fS dS ["self", "kind"] (spCskip K C)
/-- what tokens of a text are -/
def Tk (ts : List CwP.KT) : Prop := ∀ t, t ∈ ts → t.2.length ≤ 1000000 ∧ (t.1 = "integer" → (L t.2).all digC = true ∧ L t.2 ≠ [] ∧ t.2.length ≤ 5) ∧ (t.1 ∉ (["name", "word", "integer", "strange", "end"] : List Str) → t.2 = t.1)
theorem Tk.tail {t : CwP.KT} {ts : List CwP.KT} (h : Tk (t :: ts)) : Tk ts := fun u m => h u (List.mem_cons_of_mem _ m)
theorem Tk.len {t : CwP.KT} {ts : List CwP.KT} (h : Tk (t :: ts)) : t.2.length ≤ 1000000 := (h t (List.mem_cons_self ..)).1
theorem Cur.ins {K : PySem.W.Frag} {C : Addr} {H : Hp} {c : Addr} {ts : List CwP.KT} {p : Addr} (h : Cur K C H c p ts) : ∃ (dx : Addr) (n : Nat), H c = some (.ins C dx (cf p n)) := by
  obtain ⟨dx, rows, all, n, e1, _⟩ := h
  exact ⟨dx, n, e1⟩
/-- a method of a cursor -/
theorem cm_q {C : Addr} {m : Str} {sp : Sp} {t : TA} {te : TE} {σ : L2.St} {H : Hp} {Q : VK} {K : PySem.W.Frag} {c : Addr} {ts : List CwP.KT} (e : ∀ R : V → Hp → Prop, R (.ref c) H → te σ H R) {p : Addr} (h : Cur K C H c p ts) (h1 : ¬ m = "place") (h2 : ¬ m = "tokens") (q : t σ H fun vs H2 => sp (.ref c :: (vs ++ [])) H2 Q E0) : tMeth C m sp [] E0 te t σ H Q := by
  obtain ⟨dx, n, e1⟩ := h.ins
  exact e _ ⟨c, dx, _, rfl, e1, cf_no p n h1 h2, q⟩
theorem ne1 : ¬ ("take" : Str) = "place" := by decide +kernel
theorem ne2 : ¬ ("take" : Str) = "tokens" := by decide +kernel
theorem ne3 : ¬ ("skip" : Str) = "place" := by decide +kernel
theorem ne4 : ¬ ("skip" : Str) = "tokens" := by decide +kernel
theorem ne5 : ¬ ("kind" : Str) = "place" := by decide +kernel
theorem ne6 : ¬ ("kind" : Str) = "tokens" := by decide +kernel
theorem ne7 : ¬ ("kind_behind" : Str) = "place" := by decide +kernel
theorem ne8 : ¬ ("kind_behind" : Str) = "tokens" := by decide +kernel
/-- a name of a class, of a generic at the cursor -/
def spRcn (K : PySem.W.Frag) (C : Addr) : Sp := fun vs H Q _ => ∃ (c p : Addr) (m d t : Str) (ts : List CwP.KT), vs = [.ref c] ∧ Cur K C H c p (("name", m) :: (".", d) :: ("word", t) :: ts) ∧ m.length ≤ 1000000 ∧ t.length ≤ 1000000 ∧ ∀ H', Fr [c] H H' → Cur K C H' c p ts → Q (.str (m ++ ("." : Str) ++ t)) H'
def spRgn (K : PySem.W.Frag) (C : Addr) : Sp := fun vs H Q _ => ∃ (c p : Addr) (m d t : Str) (ts : List CwP.KT), vs = [.ref c] ∧ Cur K C H c p (("name", m) :: (".", d) :: ("name", t) :: ts) ∧ m.length ≤ 1000000 ∧ t.length ≤ 1000000 ∧ ∀ H', Fr [c] H H' → Cur K C H' c p ts → Q (.str (m ++ ("." : Str) ++ t)) H'
section
variable {n k : Nat} {P : Program} {w : World} {K : PySem.W.Frag} {mg : Str → Option Value} {base : Heap} {S : Addr → Option Sp}
variable {C : Addr}
abbrev s_read_class_name : Stmt := topS 54
theorem sc_read_class_name : FnScope ["cursor", "module"] ["cursor"] (defScope s_read_class_name) := ⟨rfl, rfl, rfl, by decide +kernel, rfl, by decide +kernel, by decide +kernel⟩
theorem ok_read_class_name {f : Addr} {fd : FuncData} (F : Fun K "read_class_name" "read_class_name" s_read_class_name f fd) {u_NAME : Value} (h_NAME : Cst K mg "NAME" (.str "name") u_NAME) {u_WORD : Value} (h_WORD : Cst K mg "WORD" (.str "word") u_WORD) (M : CurM P w K mg base C) : FnOk P w K mg base CX0 2 f fd ["cursor"] (spRcn K C) := by
  refine F.ok sc_read_class_name (fun vs H Q E h => ?_) (fun cdv A outer s H vs Q E hr h => ?_)
  · obtain ⟨_, _, _, _, _, _, rfl, _⟩ := h
    rfl
  · obtain ⟨c, p, m, d, t, ts, rfl, hc, lm, lt, q⟩ := h
    obtain ⟨T, fK, dK, mK, bK, GK, fB, dB, mB, bB, GB, fT, dT, mT, bT, GT, fS, dS, mS, bS, GS⟩ := M
    refine ⟨_, (pss_cons (ps_set (i := 1) sc_read_class_name.nd rfl (.inl rfl) (pe_meth (pv 0) T.cl mT GT (hr.mono (by decide)) bT .nil pass0 (pa_cons (pe_glob (v := .str "name") rfl h_NAME.g h_NAME.r) pa_nil)))
  (pss_cons (ps_expr (pe_meth (pv 0) T.cl mT GT (hr.mono (by decide)) bT .nil pass0 (pa_cons pe_str pa_nil)))
  (pss_one (ps_ret (pe_op op_add_str (pe_op op_add_str (pv 1) pe_str) (pe_meth (pv 0) T.cl mT GT (hr.mono (by decide)) bT .nil pass0 (pa_cons (pe_glob (v := .str "word") rfl h_WORD.g h_WORD.r) pa_nil))))))), ?_⟩
    refine seqA (asgA (cm_q (ts := _) (fun R r => ⟨_, rfl, r⟩) hc ne1 ne2 ⟨c, p, "name", m, _, rfl, hc, fun H1 f1 c1 => nameA ?_⟩))
    dsimp only
    refine seqA (cm_q (ts := _) (fun R r => ⟨_, rfl, r⟩) c1 ne1 ne2 ⟨c, p, ".", d, _, rfl, c1, fun H2 f2 c2 => ?_⟩)
    dsimp only
    have l1 : (m ++ ("." : Str)).length = m.length + 1 := slen _ _
    refine retA ⟨_, rfl, _, _, rfl, rfl, Nat.le_trans (by show m.length + 1 ≤ 2000000; omega) (by decide), cm_q (ts := _) (fun R r => ⟨_, rfl, r⟩) c2 ne1 ne2 ⟨c, p, "word", t, _, rfl, c2, fun H3 f3 c3 => ⟨_, _, rfl, rfl, Nat.le_trans (by rw [l1]; omega : _ ≤ 3000000) (by decide), q H3 (f1.trans (f2.trans f3)) c3⟩⟩⟩
end
end Cw

set_option Elab.async false
set_option linter.all false
set_option maxRecDepth 100000
set_option maxHeartbeats 4000000
namespace Cw
open PySem PySem.Spec PyProof.Rows L2
/-- an entry that waits, with the list that it owns -/
def WtV (K : PySem.W.Frag) (H : Hp) (x : V) : CwP.Wt → List Addr → Prop
  | .ife, ls => ls = [] ∧ ∃ a, x = .ref a ∧ SqT K H a [.str "if"]
  | .then_ d, ls => ls = [] ∧ ∃ a v, x = .ref a ∧ SqT K H a [.str "then", v] ∧ Dp K H v d ∧ OnT d
  | .else_ d e, ls => ls = [] ∧ ∃ a v u, x = .ref a ∧ SqT K H a [.str "else", v, u] ∧ Dp K H v d ∧ OnT d ∧ Dp K H u e ∧ OnT e
  | .let_ w, ls => ls = [] ∧ ∃ a, x = .ref a ∧ SqT K H a [.str "let", .str w]
  | .in_ w d, ls => ls = [] ∧ ∃ a v, x = .ref a ∧ SqT K H a [.str "in", .str w, v] ∧ Dp K H v d ∧ OnT d
  | .par, ls => ls = [] ∧ ∃ a, x = .ref a ∧ SqT K H a [.str "("]
  | .args z c ds, ls => ∃ l a vs, ls = [l] ∧ x = .ref a ∧ SqT K H a [.str z, .str c, .ref l] ∧ H l = some (.lst vs) ∧ DpAll K H vs ds ∧ (∀ d, d ∈ ds → OnT d) ∧ (z = "new" ∨ z = "call")
  | .sign s d, ls => ls = [] ∧ ∃ a v, x = .ref a ∧ SqT K H a [.str s, v] ∧ Dp K H v d ∧ OnT d ∧ s ∈ CwP.sgs
theorem WtV.fr {K : PySem.W.Frag} {A : List Addr} {H H' : Hp} (s : Fr A H H') (n : NoTup A H) {x : V} : ∀ {w : CwP.Wt} {ls : List Addr}, (∀ l, l ∈ ls → l ∉ A) → WtV K H x w ls → WtV K H' x w ls
  | .ife, ls, _, ⟨e, a, e1, e2⟩ => ⟨e, a, e1, sqt_fr s n e2⟩
  | .then_ d, ls, _, ⟨e, a, v, e1, e2, e3, e4⟩ => ⟨e, a, v, e1, sqt_fr s n e2, dp_fr s n e4 e3, e4⟩
  | .else_ d f, ls, _, ⟨e, a, v, u, e1, e2, e3, e4, e5, e6⟩ => ⟨e, a, v, u, e1, sqt_fr s n e2, dp_fr s n e4 e3, e4, dp_fr s n e6 e5, e6⟩
  | .let_ w, ls, _, ⟨e, a, e1, e2⟩ => ⟨e, a, e1, sqt_fr s n e2⟩
  | .in_ w d, ls, _, ⟨e, a, v, e1, e2, e3, e4⟩ => ⟨e, a, v, e1, sqt_fr s n e2, dp_fr s n e4 e3, e4⟩
  | .par, ls, _, ⟨e, a, e1, e2⟩ => ⟨e, a, e1, sqt_fr s n e2⟩
  | .args z c ds, ls, h, ⟨l, a, vs, e, e1, e2, e3, e4, e5, e6⟩ => ⟨l, a, vs, e, e1, sqt_fr s n e2, s _ _ (h l (by rw [e]; exact List.mem_singleton.mpr rfl)) e3, dps_fr s n e5 e4, e5, e6⟩
  | .sign z d, ls, _, ⟨e, a, v, e1, e2, e3, e4, e5⟩ => ⟨e, a, v, e1, sqt_fr s n e2, dp_fr s n e4 e3, e4, e5⟩
def WtsV (K : PySem.W.Frag) (H : Hp) : List V → List CwP.Wt → List Addr → Prop
  | [], [], ls => ls = []
  | x :: xs, w :: ws, ls => ∃ l1 l2, ls = l1 ++ l2 ∧ WtV K H x w l1 ∧ WtsV K H xs ws l2
  | _, _, _ => False
theorem WtsV.fr {K : PySem.W.Frag} {A : List Addr} {H H' : Hp} (s : Fr A H H') (n : NoTup A H) : ∀ {xs : List V} {ws : List CwP.Wt} {ls : List Addr}, (∀ l, l ∈ ls → l ∉ A) → WtsV K H xs ws ls → WtsV K H' xs ws ls
  | [], [], _, _, h => h
  | x :: xs, w :: ws, ls, d, ⟨l1, l2, e, h, t⟩ => ⟨l1, l2, e, h.fr s n (fun l m => d l (by rw [e]; exact List.mem_append_left _ m)), t.fr s n (fun l m => d l (by rw [e]; exact List.mem_append_right _ m))⟩
  | [], _ :: _, _, _, h => by cases h
  | _ :: _, [], _, _, h => by cases h
theorem WtV.lst {K : PySem.W.Frag} {H : Hp} {x : V} : ∀ {w : CwP.Wt} {ls : List Addr}, WtV K H x w ls → ∀ l, l ∈ ls → ∃ vs, H l = some (.lst vs)
  | .ife, _, ⟨e, _⟩, l, m => by rw [e] at m; cases m
  | .then_ _, _, ⟨e, _⟩, l, m => by rw [e] at m; cases m
  | .else_ _ _, _, ⟨e, _⟩, l, m => by rw [e] at m; cases m
  | .let_ _, _, ⟨e, _⟩, l, m => by rw [e] at m; cases m
  | .in_ _ _, _, ⟨e, _⟩, l, m => by rw [e] at m; cases m
  | .par, _, ⟨e, _⟩, l, m => by rw [e] at m; cases m
  | .args _ _ _, _, ⟨l0, a, vs, e, _, _, e3, _⟩, l, m => by
    rw [e] at m
    rcases List.mem_singleton.mp m with rfl
    exact ⟨vs, e3⟩
  | .sign _ _, _, ⟨e, _⟩, l, m => by rw [e] at m; cases m
theorem WtsV.lst {K : PySem.W.Frag} {H : Hp} : ∀ {xs : List V} {ws : List CwP.Wt} {ls : List Addr}, WtsV K H xs ws ls → ∀ l, l ∈ ls → ∃ vs, H l = some (.lst vs)
  | [], [], _, h, l, m => by
    have h : _ = [] := h
    rw [h] at m
    cases m
  | x :: xs, w :: ws, ls, ⟨l1, l2, e, h, t⟩, l, m => by
    rw [e] at m
    rcases List.mem_append.mp m with m | m
    · exact h.lst l m
    · exact t.lst l m
  | [], _ :: _, _, h, _, _ => by cases h
  | _ :: _, [], _, h, _, _ => by cases h
theorem WtsV.len {K : PySem.W.Frag} {H : Hp} : ∀ {xs : List V} {ws : List CwP.Wt} {ls : List Addr}, WtsV K H xs ws ls → xs.length = ws.length
  | [], [], _, _ => rfl
  | x :: xs, w :: ws, ls, ⟨l1, l2, e, h, t⟩ => by rw [List.length_cons, List.length_cons, t.len]
  | [], _ :: _, _, h => by cases h
  | _ :: _, [], _, h => by cases h
/-- sizes: what waits, and what is to come -/
def Szw (W : List CwP.Wt) (ts : List CwP.KT) : Prop := W.length + ts.length ≤ 2000000 ∧ ∀ z c ds, CwP.Wt.args z c ds ∈ W → ds.length + ts.length ≤ 2000000
theorem Szw.mono {W : List CwP.Wt} {ts us : List CwP.KT} (h : Szw W ts) (l : us.length ≤ ts.length) : Szw W us := ⟨by have := h.1; omega, fun z c ds m => by have := h.2 z c ds m; omega⟩
/-- a reading: the cursor, the list of what waits, in a heap behind H0 -/
structure Rdg (K : PySem.W.Frag) (C : Addr) (H0 H : Hp) (c p wl : Addr) (ts : List CwP.KT) (W : List CwP.Wt) : Prop where
  fr : Fr [c] H0 H
  cur : Cur K C H c p ts
  old : ∃ o, H0 p = some o
  tk : Tk ts
  sz : Szw W ts
  new : H0 wl = none
  wt : ∃ vs ls, H wl = some (.lst vs.reverse) ∧ WtsV K H vs W ls ∧ (wl :: ls).Nodup ∧ ∀ l, l ∈ ls → H0 l = none
section
variable {K : PySem.W.Frag} {C : Addr} {H0 H H' : Hp} {c p wl : Addr} {ts us : List CwP.KT} {W : List CwP.Wt}
theorem Rdg.nc (r : Rdg K C H0 H c p wl ts W) : NoTup [c] H := by
  obtain ⟨dx, n, e⟩ := r.cur.ins
  exact ins_nt e
theorem Rdg.wc (r : Rdg K C H0 H c p wl ts W) : wl ≠ c := fun e => by
  obtain ⟨dx, n, e1⟩ := r.cur.ins
  obtain ⟨vs, ls, e2, _⟩ := r.wt
  rw [e, e1] at e2
  cases e2
/-- the cursor goes on -/
theorem Rdg.go (r : Rdg K C H0 H c p wl ts W) (f : Fr [c] H H') (cu : Cur K C H' c p us) (t : Tk us) (l : us.length ≤ ts.length) : Rdg K C H0 H' c p wl us W := by
  obtain ⟨dx, n, e1⟩ := r.cur.ins
  obtain ⟨vs, ls, e2, e3, e4, e5⟩ := r.wt
  have nl : ∀ l, l ∈ ls → l ∉ [c] := fun l m k => by
    rcases List.mem_singleton.mp k with rfl
    obtain ⟨vs, h⟩ := e3.lst l m
    rw [e1] at h
    cases h
  exact ⟨r.fr.trans f, cu, r.old, t, r.sz.mono l, r.new, vs, ls, f _ _ (fun m => r.wc (List.mem_singleton.mp m)) e2, e3.fr f r.nc nl, e4, e5⟩
theorem Cur.new {q : Addr} {o : HO} (h : Cur K C H c p ts) (hp : H q = none) : Cur K C (upd H q o) c p ts := by
  obtain ⟨dx, rows, all, n, e1, e2, e3, e4⟩ := h
  exact ⟨dx, rows, all, n, same_upd hp _ _ e1, same_upd hp _ _ e2, e3.fr (Fr.of (A := []) (same_upd hp)) (fun b m => by cases m), e4⟩
/-- something new -/
theorem Rdg.mk1 {q : Addr} {o : HO} (r : Rdg K C H0 H c p wl ts W) (hp : H q = none) : Rdg K C H0 (upd H q o) c p wl ts W := r.go (Fr.of (same_upd hp)) (r.cur.new hp) r.tk (Nat.le_refl _)
theorem Rdg.h0 {q : Addr} (r : Rdg K C H0 H c p wl ts W) (hp : H q = none) : H0 q = none := by
  cases e : H0 q with
  | none => rfl
  | some o =>
    by_cases k : q = c
    · obtain ⟨dx, n, e1⟩ := r.cur.ins
      rw [k, e1] at hp
      cases hp
    · rw [r.fr q o (fun m => k (List.mem_singleton.mp m)) e] at hp
      cases hp
/-- an entry is laid on the list -/
theorem Rdg.pushE {x : V} {w : CwP.Wt} {l0 ls : List Addr} {vs : List V} (r : Rdg K C H0 H c p wl ts W) (hx : WtV K H x w l0) (sz : Szw (w :: W) ts) (e2 : H wl = some (.lst vs.reverse)) (e3 : WtsV K H vs W ls) (dd : (wl :: (l0 ++ ls)).Nodup) (e5 : ∀ l, l ∈ l0 ++ ls → H0 l = none) :
    vs.reverse.length < sizeLine ∧ Rdg K C H0 (upd H wl (.lst (vs.reverse ++ [x]))) c p wl ts (w :: W) := by
  have nt : NoTup [wl] H := same_nt e2
  have fr : Fr [wl] H (upd H wl (.lst (vs.reverse ++ [x]))) := (Fr.refl H).set (List.mem_singleton.mpr rfl)
  have nw : ∀ l, l ∈ l0 ++ ls → l ∉ [wl] := fun l m k => by
    rcases List.mem_singleton.mp k with rfl
    exact (List.nodup_cons.mp dd).1 m
  refine ⟨?_, ?_⟩
  · rw [List.length_reverse, e3.len]
    exact Nat.lt_of_le_of_lt (by have := r.sz.1; omega : W.length ≤ 2000000) (by decide)
  · obtain ⟨dx, rows, all, n, a1, a2, a3, a4⟩ := r.cur
    obtain ⟨o0, ho⟩ := r.old
    have pw : p ≠ wl := fun k => by rw [k, r.new] at ho; cases ho
    refine ⟨fun b o m e => ?_, ⟨dx, rows, all, n, by rw [upd_ne (Ne.symm r.wc)]; exact a1, by rw [upd_ne pw]; exact a2, a3.fr fr nt, a4⟩, r.old, r.tk, sz, r.new, x :: vs, l0 ++ ls, by rw [upd_same, List.reverse_cons], ⟨l0, ls, rfl, hx.fr fr nt (fun l m => nw l (List.mem_append_left _ m)), e3.fr fr nt (fun l m => nw l (List.mem_append_right _ m))⟩, dd, e5⟩
    have : b ≠ wl := fun k => by rw [k, r.new] at e; cases e
    rw [upd_ne this]
    exact r.fr b o m e
theorem Rdg.push {x : V} {w : CwP.Wt} (r : Rdg K C H0 H c p wl ts W) (hx : WtV K H x w []) (sz : Szw (w :: W) ts) :
    ∃ xs, H wl = some (.lst xs) ∧ xs.length < sizeLine ∧ Rdg K C H0 (upd H wl (.lst (xs ++ [x]))) c p wl ts (w :: W) := by
  obtain ⟨vs, ls, e2, e3, e4, e5⟩ := r.wt
  obtain ⟨a, b⟩ := r.pushE hx sz e2 e3 e4 e5
  exact ⟨_, e2, a, b⟩
theorem Rdg.ty (r : Rdg K C H0 H c p wl ts W) : tyV K "list" (.ref wl) H := by
  obtain ⟨vs, ls, e2, _⟩ := r.wt
  exact .inl ⟨rfl, _, SqL.of e2⟩
/-- the cursor goes over one -/
theorem Rdg.go1 {t : CwP.KT} (r : Rdg K C H0 H c p wl (t :: us) W) (f : Fr [c] H H') (cu : Cur K C H' c p us) : Rdg K C H0 H' c p wl us W := r.go f cu r.tk.tail (Nat.le_succ _)
theorem Szw.cons {w : CwP.Wt} {t : CwP.KT} (h : Szw W (t :: ts)) (n : ∀ z c ds, w = .args z c ds → ds.length + ts.length ≤ 2000000) : Szw (w :: W) ts := ⟨by have := h.1; simp only [List.length_cons] at this ⊢; omega, fun z c ds m => by
  rcases List.mem_cons.mp m with e | m
  · exact n z c ds e.symm
  · have := h.2 z c ds m
    simp only [List.length_cons] at this
    omega⟩
theorem Rdg.pushA {l a : Addr} {z nm : Str} (r : Rdg K C H0 H c p wl ts W) (hl : H l = none) (ha : (upd H l (.lst [])) a = none) (hz : z = "new" ∨ z = "call") (sz : Szw (.args z nm [] :: W) ts) :
    ∃ xs, (upd (upd H l (.lst [])) a (.tup [.str z, .str nm, .ref l])) wl = some (.lst xs) ∧ xs.length < sizeLine ∧ Rdg K C H0 (upd (upd (upd H l (.lst [])) a (.tup [.str z, .str nm, .ref l])) wl (.lst (xs ++ [.ref a]))) c p wl ts (.args z nm [] :: W) := by
  obtain ⟨vs, ls, e2, e3, e4, e5⟩ := r.wt
  have s1 : Same H (upd H l (.lst [])) := same_upd hl
  have s2 : Same H (upd (upd H l (.lst [])) a (.tup [.str z, .str nm, .ref l])) := s1.trans (same_upd ha)
  have al : a ≠ l := fun e => by rw [e, upd_same] at ha; cases ha
  have lw : l ≠ wl := fun e => by rw [e, e2] at hl; cases hl
  have ll : l ∉ ls := fun m => by
    obtain ⟨ws, h⟩ := e3.lst l m
    rw [hl] at h
    cases h
  have hx : WtV K (upd (upd H l (.lst [])) a (.tup [.str z, .str nm, .ref l])) (.ref a) (.args z nm []) [l] := ⟨l, a, [], rfl, rfl, .inl (.inl upd_same), by rw [upd_ne (Ne.symm al), upd_same], .nil, (fun d m => by cases m), hz⟩
  have nd := List.nodup_cons.mp e4
  obtain ⟨x1, x2⟩ := ((r.mk1 hl).mk1 ha).pushE hx sz (s2 _ _ e2) (e3.fr (A := []) (Fr.of s2) (fun b m => by cases m) (fun _ _ m => by cases m)) (List.nodup_cons.mpr ⟨fun m => (List.mem_cons.mp m).elim (fun e => lw e.symm) nd.1, List.nodup_cons.mpr ⟨ll, nd.2⟩⟩) (fun x m => (List.mem_cons.mp m).elim (fun e => by rw [e]; exact r.h0 hl) (e5 x))
  exact ⟨_, s2 _ _ e2, x1, x2⟩
/-- what a step of the reading comes to -/
structure OutM (K : PySem.W.Frag) (C : Addr) (H0 : Hp) (c p wl : Addr) (md : CwP.Md) (Q : VK) : Prop where
  fp : ∀ r W H', md = .P r W → Rdg K C H0 H' c p wl r W → Q .non H'
  fo : ∀ r W m a H', md = .O r W m → Rdg K C H0 H' c p wl r W → Dp K H' (.ref a) m → OnT m → Q (.ref a) H'
  fd : ∀ r m a H', md = .D r m → Rdg K C H0 H' c p wl r [] → Dp K H' (.ref a) m → OnT m → Q (.ref a) H'
end
end Cw

set_option Elab.async false
set_option linter.all false
set_option maxRecDepth 100000
set_option maxHeartbeats 4000000
namespace Cw
open PySem PySem.Spec PyProof.Rows L2
def spChoice (K : PySem.W.Frag) (C : Addr) : Sp := fun vs H Q _ => ∃ (H0 : Hp) (c p wl : Addr) (k t : Str) (r : List CwP.KT) (W : List CwP.Wt) (md : CwP.Md), vs = [.ref c, .ref wl] ∧ Rdg K C H0 H c p wl ((k, t) :: r) W ∧ (k = "if" ∨ k = "let") ∧ (if k = "if" then some (.P r (.ife :: W)) else CwP.pLet r W) = some md ∧ OutM K C H0 c p wl md Q
def spSnew (K : PySem.W.Frag) (C : Addr) : Sp := fun vs H Q _ => ∃ (H0 : Hp) (c p wl : Addr) (t : Str) (r : List CwP.KT) (W : List CwP.Wt) (md : CwP.Md), vs = [.ref c, .ref wl] ∧ Rdg K C H0 H c p wl (("new", t) :: r) W ∧ CwP.pNew r W = some md ∧ OutM K C H0 c p wl md Q
def spSname (K : PySem.W.Frag) (C : Addr) : Sp := fun vs H Q _ => ∃ (H0 : Hp) (c p wl : Addr) (t : Str) (r : List CwP.KT) (W : List CwP.Wt) (md : CwP.Md), vs = [.ref c, .ref wl] ∧ Rdg K C H0 H c p wl (("name", t) :: r) W ∧ r ≠ [] ∧ CwP.pName t r W = some md ∧ OutM K C H0 c p wl md Q
theorem pn1 {t t1 : Str} {W : List CwP.Wt} : CwP.pName t [(".", t1)] W = none := by
  show (if (("." : Str) = ".") then none else some (CwP.Md.O [(".", t1)] W (CwP.eName t))) = none
  rw [if_pos rfl]
theorem pn2 {t t1 k2 t2 k3 t3 : Str} {r3 : List CwP.KT} {W : List CwP.Wt} (g : k2 ≠ "(") : CwP.pName t ((".", t1) :: (k2, t2) :: (k3, t3) :: r3) W = if k2 = "name" ∧ k3 = "(" then some (CwP.Md.P r3 (.args "call" (t ++ ("." : Str) ++ t2) [] :: W)) else none := by
  show (if (("." : Str) = "." ∧ k2 ≠ "(") then (if k2 = "name" ∧ k3 = "(" then some (CwP.Md.P r3 (.args "call" (t ++ ("." : Str) ++ t2) [] :: W)) else none) else some (.O ((".", t1) :: (k2, t2) :: (k3, t3) :: r3) W (CwP.eName t))) = _
  rw [if_pos ⟨rfl, g⟩]
theorem pn3 {t t1 k2 t2 : Str} {W : List CwP.Wt} (g : k2 ≠ "(") : CwP.pName t [(".", t1), (k2, t2)] W = none := by
  show (if (("." : Str) = "." ∧ k2 ≠ "(") then none else some (CwP.Md.O [(".", t1), (k2, t2)] W (CwP.eName t))) = _
  rw [if_pos ⟨rfl, g⟩]
theorem pn4 {t k1 t1 k2 t2 : Str} {r2 : List CwP.KT} {W : List CwP.Wt} (g : ¬ (k1 = "." ∧ k2 ≠ "(")) : CwP.pName t ((k1, t1) :: (k2, t2) :: r2) W = some (.O ((k1, t1) :: (k2, t2) :: r2) W (CwP.eName t)) := by
  unfold CwP.pName
  simp only [if_neg g]
theorem pn5 {t k1 t1 : Str} {W : List CwP.Wt} (g : ¬ k1 = ".") : CwP.pName t [(k1, t1)] W = some (.O [(k1, t1)] W (CwP.eName t)) := by
  show (if k1 = "." then none else some (CwP.Md.O [(k1, t1)] W (CwP.eName t))) = _
  rw [if_neg g]
section
variable {n k : Nat} {P : Program} {w : World} {K : PySem.W.Frag} {mg : Str → Option Value} {base : Heap} {S : Addr → Option Sp}
variable {C : Addr}
abbrev s_start_choice : Stmt := topS 64
theorem sc_start_choice : FnScope ["cursor", "waiting"] ["cursor", "waiting"] (defScope s_start_choice) := ⟨rfl, rfl, rfl, by decide +kernel, rfl, by decide +kernel, by decide +kernel⟩
theorem ok_start_choice {f : Addr} {fd : FuncData} (F : Fun K "start_choice" "start_choice" s_start_choice f fd) {u_NAME : Value} (h_NAME : Cst K mg "NAME" (.str "name") u_NAME) (M : CurM P w K mg base C) : FnOk P w K mg base CX0 3 f fd ["cursor", "waiting"] (spChoice K C) := by
  refine F.ok sc_start_choice (fun vs H Q E h => ?_) (fun cdv A outer s H vs Q E hr h => ?_)
  · obtain ⟨_, _, _, _, _, _, _, _, _, rfl, _⟩ := h
    rfl
  · obtain ⟨H0, c, p, wl, k, t, r, W, md, rfl, rd, hk, hm, q⟩ := h
    obtain ⟨T, fK, dK, mK, bK, GK, fB, dB, mB, bB, GB, fT, dT, mT, bT, GT, fS, dS, mS, bS, GS⟩ := M
    refine ⟨_, (pss_one (ps_if (pt_val (pe_meth (pv 0) T.cl mS GS (hr.mono (by decide)) bS .nil pass0 (pa_cons pe_str pa_nil))) (pss_one (ps_expr (pe_bm PySem.F.plainAttrs_list PySem.F.slot_list_append PySem.F.type_list_append mt_append (pv 1) (pa_cons (pe_tup (pa_cons pe_str pa_nil)) pa_nil)))) (pss_cons (ps_expr (pe_meth (pv 0) T.cl mT GT (hr.mono (by decide)) bT .nil pass0 (pa_cons pe_str pa_nil)))
  (pss_cons (ps_expr (pe_bm PySem.F.plainAttrs_list PySem.F.slot_list_append PySem.F.type_list_append mt_append (pv 1) (pa_cons (pe_tup (pa_cons pe_str (pa_cons (pe_meth (pv 0) T.cl mT GT (hr.mono (by decide)) bT .nil pass0 (pa_cons (pe_glob (v := .str "name") rfl h_NAME.g h_NAME.r) pa_nil)) pa_nil))) pa_nil)))
  (pss_one (ps_expr (pe_meth (pv 0) T.cl mT GT (hr.mono (by decide)) bT .nil pass0 (pa_cons pe_str pa_nil)))))))), ?_⟩
    refine ifA (cm_q (fun R r => ⟨_, rfl, r⟩) rd.cur ne3 ne4 ⟨c, p, "if", k, t, r, rfl, rd.cur, fun g H1 f1 c1 => ?_, fun g => ?_⟩)
    · have rd1 := rd.go1 f1 c1
      rw [if_pos g] at hm
      refine ⟨true, rfl, iteT ⟨_, rfl, rd1.ty, by decide, fun a ha => ?_⟩⟩
      obtain ⟨xs, ex, lx, rd2⟩ := (rd1.mk1 ha).push (w := .ife) (x := .ref a) ⟨rfl, a, rfl, .inl (.inl upd_same)⟩ (rd.sz.cons (fun _ _ _ e => by cases e))
      exact ⟨wl, xs, _, rfl, rfl, ex, lx, q.fp _ _ _ (Option.some.inj hm).symm rd2⟩
    · rw [if_neg g] at hm
      have g2 := hk.resolve_left g
      subst g2
      match r, rd, hm with
      | [], _, hm => cases hm
      | [_], _, hm => cases hm
      | (k1, w1) :: (k2, t2) :: r2, rd, hm =>
        have hm : (if k1 = "name" ∧ k2 = "=" then some (CwP.Md.P r2 (.let_ w1 :: W)) else none) = some md := hm
        by_cases g3 : k1 = "name" ∧ k2 = "="
        · rw [if_pos g3] at hm
          obtain ⟨rfl, rfl⟩ := g3
          refine ⟨false, rfl, iteF ?_⟩
          refine seqA (cm_q (fun R r => ⟨_, rfl, r⟩) rd.cur ne1 ne2 ⟨c, p, "let", t, _, rfl, rd.cur, fun H1 f1 c1 => ?_⟩)
          have rd1 := rd.go1 f1 c1
          dsimp only
          refine seqA ⟨_, rfl, rd1.ty, cm_q (fun R r => ⟨_, rfl, r⟩) c1 ne1 ne2 ⟨c, p, "name", w1, _, rfl, c1, fun H2 f2 c2 => ⟨Nat.le_of_ble_eq_true rfl, fun a ha => ?_⟩⟩⟩
          have rd2 := rd1.go1 f2 c2
          obtain ⟨xs, ex, lx, rd3⟩ := (rd2.mk1 ha).push (w := .let_ w1) (x := .ref a) ⟨rfl, a, rfl, .inl (.inl upd_same)⟩ ((rd1.sz.cons (fun _ _ _ e => by cases e)))
          refine ⟨wl, xs, _, rfl, rfl, ex, lx, ?_⟩
          dsimp only
          refine cm_q (fun R r => ⟨_, rfl, r⟩) rd3.cur ne1 ne2 ⟨c, p, "=", t2, _, rfl, rd3.cur, fun H4 f4 c4 => ?_⟩
          exact q.fp _ _ _ (Option.some.inj hm).symm (rd3.go1 f4 c4)
        · rw [if_neg g3] at hm
          cases hm
abbrev s_start_new : Stmt := topS 65
theorem sc_start_new : FnScope ["cursor", "waiting", "name"] ["cursor", "waiting"] (defScope s_start_new) := ⟨rfl, rfl, rfl, by decide +kernel, rfl, by decide +kernel, by decide +kernel⟩
theorem ok_start_new {f : Addr} {fd : FuncData} (F : Fun K "start_new" "start_new" s_start_new f fd) {f_read_class_name : Addr} {d_read_class_name : FuncData} (h_read_class_name : Hd K mg "read_class_name" s_read_class_name ["cursor"] f_read_class_name d_read_class_name) (G_read_class_name : FnOk P w K mg base CX0 2 f_read_class_name d_read_class_name ["cursor"] (spRcn K C)) (M : CurM P w K mg base C) : FnOk P w K mg base CX0 3 f fd ["cursor", "waiting"] (spSnew K C) := by
  refine F.ok sc_start_new (fun vs H Q E h => ?_) (fun cdv A outer s H vs Q E hr h => ?_)
  · obtain ⟨_, _, _, _, _, _, _, _, rfl, _⟩ := h
    rfl
  · obtain ⟨H0, c, p, wl, t, r, W, md, rfl, rd, hm, q⟩ := h
    obtain ⟨T, fK, dK, mK, bK, GK, fB, dB, mB, bB, GB, fT, dT, mT, bT, GT, fS, dS, mS, bS, GS⟩ := M
    refine ⟨_, (pss_cons (ps_expr (pe_meth (pv 0) T.cl mT GT (hr.mono (by decide)) bT .nil pass0 (pa_cons pe_str pa_nil)))
  (pss_cons (ps_set (i := 2) sc_start_new.nd rfl (.inl rfl) (pe_call G_read_class_name (hr.mono (by decide)) (by rfl) h_read_class_name.g h_read_class_name.F.kp h_read_class_name.b .nil pass0 (pa_cons (pv 0) pa_nil)))
  (pss_cons (ps_expr (pe_meth (pv 0) T.cl mT GT (hr.mono (by decide)) bT .nil pass0 (pa_cons pe_str pa_nil)))
  (pss_cons (ps_if (pt_val (pe_meth (pv 0) T.cl mS GS (hr.mono (by decide)) bS .nil pass0 (pa_cons pe_str pa_nil))) (pss_one (ps_ret (pe_tup (pa_cons pe_str (pa_cons (pv 2) (pa_cons (pe_tup pa_nil) pa_nil)))))) pss_nil)
  (pss_cons (ps_expr (pe_bm PySem.F.plainAttrs_list PySem.F.slot_list_append PySem.F.type_list_append mt_append (pv 1) (pa_cons (pe_tup (pa_cons pe_str (pa_cons (pv 2) (pa_cons (pe_lst pa_nil) pa_nil)))) pa_nil)))
  (pss_one (ps_ret pe_non))))))), ?_⟩
    refine seqA (cm_q (fun R r => ⟨_, rfl, r⟩) rd.cur ne1 ne2 ⟨c, p, "new", t, _, rfl, rd.cur, fun H1 f1 c1 => ?_⟩)
    have rd1 := rd.go1 f1 c1
    dsimp only
    match r, rd1, hm with
    | [], _, hm => cases hm
    | [_], _, hm => cases hm
    | [_, _], _, hm => cases hm
    | [_, _, _], _, hm => cases hm
    | [_, _, _, _], _, hm => cases hm
    | (k1, m) :: (k2, t2) :: (k3, d) :: (k4, t4) :: (k5, t5) :: r2, rd1, hm =>
      have hm2 : (if k1 = "name" ∧ k2 = "." ∧ k3 = "word" ∧ k4 = "(" then (if k5 = ")" then some (CwP.Md.O r2 W (CwP.eArgs "new" (m ++ ("." : Str) ++ d) [])) else some (.P ((k5, t5) :: r2) (.args "new" (m ++ ("." : Str) ++ d) [] :: W))) else none) = some md := hm
      by_cases g : k1 = "name" ∧ k2 = "." ∧ k3 = "word" ∧ k4 = "("
      · rw [if_pos g] at hm2
        obtain ⟨rfl, rfl, rfl, rfl⟩ := g
        refine seqA (asgA ⟨_, rfl, c, p, m, t2, d, _, rfl, rd1.cur, rd1.tk.len, rd1.tk.tail.tail.len, fun H2 f2 c2 => nameA ?_⟩)
        have rd2 := rd1.go f2 c2 rd1.tk.tail.tail.tail (by simp only [List.length_cons]; omega)
        dsimp only
        refine seqA (cm_q (fun R r => ⟨_, rfl, r⟩) rd2.cur ne1 ne2 ⟨c, p, "(", t4, _, rfl, rd2.cur, fun H3 f3 c3 => ?_⟩)
        have rd3 := rd2.go1 f3 c3
        dsimp only
        refine seqA (ifA (cm_q (fun R r => ⟨_, rfl, r⟩) rd3.cur ne3 ne4 ⟨c, p, ")", k5, t5, r2, rfl, rd3.cur, fun g H4 f4 c4 => ⟨true, rfl, iteT (retA ?_)⟩, fun g => ⟨false, rfl, iteF (nextA ?_)⟩⟩))
        · have rd4 := rd3.go1 f4 c4
          rw [if_pos g] at hm2
          refine ⟨_, rfl, by decide, fun a ha => ⟨Nat.le_of_ble_eq_true rfl, fun b hb => ?_⟩⟩
          refine q.fo _ _ _ _ _ (Option.some.inj hm2).symm ((rd4.mk1 ha).mk1 hb) ?_ ?_
          · exact .tup (.inl (.inl upd_same)) (.cons (.str _) (.cons (.str _) (.cons (.tup (.inl (.inl (same_upd hb _ _ upd_same))) .nil) .nil)))
          · exact .tuple _ (fun x m => by
              simp only [List.mem_cons, List.not_mem_nil, or_false] at m
              rcases m with rfl | rfl | rfl
              · exact .str _
              · exact .str _
              · exact .tuple _ (fun _ m => by cases m))
        · rw [if_neg g] at hm2
          dsimp only
          refine seqA ⟨_, rfl, rd3.ty, _, rfl, by decide, fun l hl => ⟨Nat.le_of_ble_eq_true rfl, fun a ha => ?_⟩⟩
          obtain ⟨xs, ex, lx, rd4⟩ := rd3.pushA hl ha (.inl rfl) ⟨by have := rd1.sz.1; simp only [List.length_cons] at this ⊢; omega, fun z e ds mm => by
            rcases List.mem_cons.mp mm with e | mm
            · cases e
              have := rd1.sz.1
              simp only [List.length_cons, List.length_nil] at this ⊢
              omega
            · exact rd3.sz.2 z e ds mm⟩
          refine ⟨wl, xs, _, rfl, rfl, ex, lx, ?_⟩
          dsimp only
          exact retA (q.fp _ _ _ (Option.some.inj hm2).symm rd4)
      · rw [if_neg g] at hm2
        cases hm2
abbrev s_start_name : Stmt := topS 66
theorem sc_start_name : FnScope ["cursor", "waiting", "name", "generic"] ["cursor", "waiting"] (defScope s_start_name) := ⟨rfl, rfl, rfl, by decide +kernel, rfl, by decide +kernel, by decide +kernel⟩
theorem ok_start_name {f : Addr} {fd : FuncData} (F : Fun K "start_name" "start_name" s_start_name f fd) {u_NAME : Value} (h_NAME : Cst K mg "NAME" (.str "name") u_NAME) (M : CurM P w K mg base C) : FnOk P w K mg base CX0 3 f fd ["cursor", "waiting"] (spSname K C) := by
  refine F.ok sc_start_name (fun vs H Q E h => ?_) (fun cdv A outer s H vs Q E hr h => ?_)
  · obtain ⟨_, _, _, _, _, _, _, _, rfl, _⟩ := h
    rfl
  · obtain ⟨H0, c, p, wl, t, r, W, md, rfl, rd, hr0, hm, q⟩ := h
    obtain ⟨T, fK, dK, mK, bK, GK, fB, dB, mB, bB, GB, fT, dT, mT, bT, GT, fS, dS, mS, bS, GS⟩ := M
    refine ⟨_, (pss_cons (ps_set (i := 2) sc_start_name.nd rfl (.inl rfl) (pe_meth (pv 0) T.cl mT GT (hr.mono (by decide)) bT .nil pass0 (pa_cons (pe_glob (v := .str "name") rfl h_NAME.g h_NAME.r) pa_nil)))
  (pss_cons (ps_if (PW.pt (pw_or (pt_cmpR op_ne (pe_meth0 (pv 0) T.cl mK GK (hr.mono (by decide)) bK .nil pass0) pe_str (nomark _)) (pw_or1 (pt_cmpR op_eq (pe_meth0 (pv 0) T.cl mB GB (hr.mono (by decide)) bB .nil pass0) pe_str (nomark _))))) (pss_one (ps_ret (pe_tup (pa_cons pe_str (pa_cons (pv 2) pa_nil))))) pss_nil)
  (pss_cons (ps_expr (pe_meth (pv 0) T.cl mT GT (hr.mono (by decide)) bT .nil pass0 (pa_cons pe_str pa_nil)))
  (pss_cons (ps_set (i := 3) sc_start_name.nd rfl (.inl rfl) (pe_op op_add_str (pe_op op_add_str (pv 2) pe_str) (pe_meth (pv 0) T.cl mT GT (hr.mono (by decide)) bT .nil pass0 (pa_cons (pe_glob (v := .str "name") rfl h_NAME.g h_NAME.r) pa_nil))))
  (pss_cons (ps_expr (pe_meth (pv 0) T.cl mT GT (hr.mono (by decide)) bT .nil pass0 (pa_cons pe_str pa_nil)))
  (pss_cons (ps_expr (pe_bm PySem.F.plainAttrs_list PySem.F.slot_list_append PySem.F.type_list_append mt_append (pv 1) (pa_cons (pe_tup (pa_cons pe_str (pa_cons (pv 3) (pa_cons (pe_lst pa_nil) pa_nil)))) pa_nil)))
  (pss_one (ps_ret pe_non)))))))), ?_⟩
    refine seqA (asgA (cm_q (fun R r => ⟨_, rfl, r⟩) rd.cur ne1 ne2 ⟨c, p, "name", t, _, rfl, rd.cur, fun H1 f1 c1 => nameA ?_⟩))
    have rd1 := rd.go1 f1 c1
    have lt := rd.tk.len
    dsimp only
    match r, hr0, rd1, hm with
    | [], h, _, _ => exact absurd rfl h
    | (k1, t1) :: rest, _, rd1, hm =>
      have fin : CwP.pName t ((k1, t1) :: rest) W = some (CwP.Md.O ((k1, t1) :: rest) W (CwP.eName t)) → tTup (tCons (tC (.str "name")) (tCons (tVar 2) tNil)) [some (.ref c), some (.ref wl), some (.str t), none] H1 Q := fun e => ⟨_, rfl, Nat.le_of_ble_eq_true rfl, fun a ha => q.fo _ _ _ _ _ (Option.some.inj (hm.symm.trans e)) (rd1.mk1 ha) (.tup (.inl (.inl upd_same)) (.cons (.str _) (.cons (.str _) .nil))) (.tuple _ (fun x m => by
          simp only [List.mem_cons, List.not_mem_nil, or_false] at m
          rcases m with rfl | rfl
          · exact .str _
          · exact .str _))⟩
      by_cases g : k1 = "."
      · subst g
        match rest, rd1, hm, fin with
        | [], _, hm, _ => rw [pn1] at hm; cases hm
        | (k2, t2) :: r2, rd1, hm, fin =>
          by_cases g2 : k2 = "("
          · subst g2
            refine seqA (ifA (or_q (b := false) (c := true) (fun R r => cm_q (fun R r => ⟨_, rfl, r⟩) rd1.cur ne5 ne6 ⟨c, p, ".", t1, _, rfl, rd1.cur, rfl, _, rfl, by rw [decide_eq_true rfl]; exact r⟩) (fun _ R r => cm_q (fun R r => ⟨_, rfl, r⟩) rd1.cur ne7 ne8 ⟨c, p, "(", t2, _, _, rfl, rd1.cur, rfl, _, rfl, by rw [decide_eq_true rfl]; exact r⟩) (iteT (retA (fin ?_)))))
            exact pn4 (fun e => e.2 rfl)
          · match r2, rd1, hm with
            | [], _, hm2 => rw [pn3 g2] at hm2; cases hm2
            | (k3, t3) :: r3, rd1, hm2 =>
              rw [pn2 g2] at hm2
              by_cases g3 : k2 = "name" ∧ k3 = "("
              · rw [if_pos g3] at hm2
                obtain ⟨rfl, rfl⟩ := g3
                refine seqA (ifA (or_q (b := false) (c := false) (fun R r => cm_q (fun R r => ⟨_, rfl, r⟩) rd1.cur ne5 ne6 ⟨c, p, ".", t1, _, rfl, rd1.cur, rfl, _, rfl, by rw [decide_eq_true rfl]; exact r⟩) (fun _ R r => cm_q (fun R r => ⟨_, rfl, r⟩) rd1.cur ne7 ne8 ⟨c, p, "name", t2, _, _, rfl, rd1.cur, rfl, _, rfl, by rw [decide_eq_false (by decide)]; exact r⟩) (iteF (nextA ?_))))
                dsimp only
                refine seqA (cm_q (fun R r => ⟨_, rfl, r⟩) rd1.cur ne1 ne2 ⟨c, p, ".", t1, _, rfl, rd1.cur, fun H2 f2 c2 => ?_⟩)
                have rd2 := rd1.go1 f2 c2
                have lt2 := rd2.tk.len
                dsimp only
                have l1 : (t ++ ("." : Str)).length = t.length + 1 := slen _ _
                refine seqA (asgA ⟨_, rfl, _, _, rfl, rfl, Nat.le_trans (by show t.length + 1 ≤ 2000000; dsimp only at lt; omega) (by decide), cm_q (fun R r => ⟨_, rfl, r⟩) rd2.cur ne1 ne2 ⟨c, p, "name", t2, _, rfl, rd2.cur, fun H3 f3 c3 => ⟨_, _, rfl, rfl, Nat.le_trans (by rw [l1]; dsimp only at lt lt2; omega : _ ≤ 3000000) (by decide), nameA ?_⟩⟩⟩)
                have rd3 := rd2.go1 f3 c3
                dsimp only
                refine seqA (cm_q (fun R r => ⟨_, rfl, r⟩) rd3.cur ne1 ne2 ⟨c, p, "(", t3, _, rfl, rd3.cur, fun H4 f4 c4 => ?_⟩)
                have rd4 := rd3.go1 f4 c4
                dsimp only
                refine seqA ⟨_, rfl, rd4.ty, _, rfl, by decide, fun l hl => ⟨Nat.le_of_ble_eq_true rfl, fun a ha => ?_⟩⟩
                obtain ⟨xs, ex, lx, rd5⟩ := rd4.pushA hl ha (.inr rfl) (rd3.sz.cons (fun z e ds e2 => by
                  cases e2
                  have := rd3.sz.1
                  simp only [List.length_cons, List.length_nil] at this ⊢
                  omega))
                refine ⟨wl, xs, _, rfl, rfl, ex, lx, ?_⟩
                dsimp only
                exact retA (q.fp _ _ _ (Option.some.inj hm2).symm rd5)
              · rw [if_neg g3] at hm2
                cases hm2
      · refine seqA (ifA (or_q (b := true) (c := true) (fun R r => cm_q (fun R r => ⟨_, rfl, r⟩) rd1.cur ne5 ne6 ⟨c, p, k1, t1, _, rfl, rd1.cur, rfl, _, rfl, by rw [decide_eq_false (fun e => g (V.str.inj e))]; exact r⟩) (fun h => by cases h) (iteT (retA (fin ?_)))))
        match rest with
        | [] => exact pn5 g
        | _ :: _ => exact pn4 (fun e => g e.1)
end
end Cw

set_option Elab.async false
set_option linter.all false
set_option maxRecDepth 100000
set_option maxHeartbeats 4000000
namespace Cw
open PySem PySem.Spec PyProof.Rows L2
def hdW : CwP.Wt → Str
  | .ife => "if" | .then_ _ => "then" | .else_ _ _ => "else" | .let_ _ => "let" | .in_ _ _ => "in" | .par => "(" | .args z _ _ => z | .sign s _ => s
theorem WtV.hd {K : PySem.W.Frag} {H : Hp} {x : V} : ∀ {w : CwP.Wt} {ls : List Addr}, WtV K H x w ls → ∃ a it, x = .ref a ∧ SqT K H a (.str (hdW w) :: it)
  | .ife, _, ⟨_, a, e1, e2⟩ => ⟨a, _, e1, e2⟩
  | .then_ _, _, ⟨_, a, v, e1, e2, _⟩ => ⟨a, _, e1, e2⟩
  | .else_ _ _, _, ⟨_, a, v, u, e1, e2, _⟩ => ⟨a, _, e1, e2⟩
  | .let_ _, _, ⟨_, a, e1, e2⟩ => ⟨a, _, e1, e2⟩
  | .in_ _ _, _, ⟨_, a, v, e1, e2, _⟩ => ⟨a, _, e1, e2⟩
  | .par, _, ⟨_, a, e1, e2⟩ => ⟨a, _, e1, e2⟩
  | .args _ _ _, _, ⟨l, a, vs, _, e1, e2, _⟩ => ⟨a, _, e1, e2⟩
  | .sign _ _, _, ⟨_, a, v, e1, e2, _⟩ => ⟨a, _, e1, e2⟩
theorem WtV.sg {K : PySem.W.Frag} {H : Hp} {x : V} {W : List CwP.Wt} : ∀ {w : CwP.Wt} {ls : List Addr}, WtV K H x w ls → CwP.topSg (w :: W) = decide (hdW w ∈ CwP.sgs)
  | .ife, _, _ => (decide_eq_false (by decide)).symm
  | .then_ _, _, _ => (decide_eq_false (by show ¬ ("then" : Str) ∈ CwP.sgs; decide)).symm
  | .else_ _ _, _, _ => (decide_eq_false (by show ¬ ("else" : Str) ∈ CwP.sgs; decide)).symm
  | .let_ _, _, _ => (decide_eq_false (by show ¬ ("let" : Str) ∈ CwP.sgs; decide)).symm
  | .in_ _ _, _, _ => (decide_eq_false (by show ¬ ("in" : Str) ∈ CwP.sgs; decide)).symm
  | .par, _, _ => (decide_eq_false (by decide)).symm
  | .args z _ _, _, ⟨l, a, vs, _, e1, e2, _, _, _, h⟩ => by
    rcases h with rfl | rfl
    · exact (decide_eq_false (by show ¬ ("new" : Str) ∈ CwP.sgs; decide)).symm
    · exact (decide_eq_false (by show ¬ ("call" : Str) ∈ CwP.sgs; decide)).symm
  | .sign s _, _, ⟨_, a, v, e1, e2, _, _, h⟩ => (decide_eq_true h).symm
theorem strs_flat (l : List Str) : (l.map V.str).all flatV = true := by
  rw [List.all_map]
  exact List.all_eq_true.mpr (fun _ _ => rfl)
def topIn (l : List Str) : List CwP.Wt → Bool
  | [] => false
  | w :: _ => decide (hdW w ∈ l)
theorem top_q {K : PySem.W.Frag} {C : Addr} {H0 H : Hp} {c p wl : Addr} {ts : List CwP.KT} {W : List CwP.Wt} {tw : TE} {σ : L2.St} {aS : Addr} {l : List Str} (rd : Rdg K C H0 H c p wl ts W) (hσ : ∀ R : V → Hp → Prop, R (.ref wl) H → tw σ H R) (hS : SqT K H aS (l.map V.str)) {R : Bool → Hp → Prop} (r : R (topIn l W) H) :
    tAnd (fun σ H Q => tw σ H fun x H' => ∃ k, TruV K x H' k ∧ Q k H') (tTest (tOp (rIn K false) (tOp (rIxT K) (tOp (rIxL K) tw (tUn (rU fun i => V.int (-i)) (tC (V.int 1)))) (tC (V.int 0))) (tC (V.ref aS)))) σ H R := by
  obtain ⟨vs, ls, e2, e3, _⟩ := rd.wt
  match vs, W, e2, e3, r with
  | [], [], e2, _, r => exact hσ _ ⟨false, .inl ⟨[], SqL.of e2, rfl⟩, iteF r⟩
  | x :: vs, w :: W, e2, ⟨l1, l2, _, h, _⟩, r =>
    obtain ⟨a, it, rfl, sq⟩ := h.hd
    rw [List.reverse_cons] at e2
    refine hσ _ ⟨true, .inl ⟨_, SqL.of e2, by simp⟩, iteT (hσ _ ⟨1, rfl, wl, _, -1, _, rfl, rfl, SqL.of e2, atI_last _ _, a, _, 0, _, rfl, rfl, sq, atI_nat (j := 0) rfl, aS, _, rfl, .inr hS, rfl, strs_flat l, _, rfl, ?_⟩)⟩
    rw [if_neg (by decide), in_strs]
    exact r
  | [], _ :: _, _, h, _ => cases h
  | _ :: _, [], _, h, _ => cases h
theorem Rdg.top {K : PySem.W.Frag} {C : Addr} {H0 H : Hp} {c p wl : Addr} {ts : List CwP.KT} {W : List CwP.Wt} (rd : Rdg K C H0 H c p wl ts W) : topIn CwP.sgs W = CwP.topSg W := by
  obtain ⟨vs, ls, e2, e3, _⟩ := rd.wt
  match vs, W, e3 with
  | [], [], _ => rfl
  | x :: vs, w :: W, ⟨l1, l2, _, h, _⟩ => exact h.sg.symm
  | [], _ :: _, h => cases h
  | _ :: _, [], h => cases h
theorem andn_q {t u : TT} {b c : Bool} {σ : L2.St} {H : Hp} {Q : Bool → Hp → Prop} (G : Hp → Prop) (ht : ∀ R : Bool → Hp → Prop, (∀ H1, G H1 → R b H1) → t σ H R) (hu : ∀ H1, G H1 → ∀ R : Bool → Hp → Prop, R c H1 → u σ H1 R) (q : ∀ H1, G H1 → Q (b && !c) H1) : tAnd t (tNot u) σ H Q := ht _ fun H1 g => by
  cases b with
  | true => exact iteT (hu H1 g _ (q H1 g))
  | false => exact iteF (q H1 g)
theorem choice_P {k : Str} {r : List CwP.KT} {W : List CwP.Wt} {md : CwP.Md} (h : (if k = "if" then some (CwP.Md.P r (.ife :: W)) else CwP.pLet r W) = some md) : ∃ r' W', md = .P r' W' := by
  by_cases g : k = "if"
  · rw [if_pos g] at h
    exact ⟨_, _, (Option.some.inj h).symm⟩
  · rw [if_neg g] at h
    match r, h with
    | (k1, w) :: (k2, t2) :: r2, h =>
      have h : (if k1 = "name" ∧ k2 = "=" then some (CwP.Md.P r2 (.let_ w :: W)) else none) = some md := h
      by_cases g : k1 = "name" ∧ k2 = "="
      · rw [if_pos g] at h
        exact ⟨_, _, (Option.some.inj h).symm⟩
      · rw [if_neg g] at h
        cases h
    | [], h => cases h
    | [_], h => cases h
def spStart (K : PySem.W.Frag) (C : Addr) : Sp := fun vs H Q _ => ∃ (H0 : Hp) (c p wl : Addr) (ts : List CwP.KT) (W : List CwP.Wt) (md : CwP.Md), vs = [.ref c, .ref wl] ∧ Rdg K C H0 H c p wl ts W ∧ CwP.pStart valP ts W = some md ∧ (∀ W m, md ≠ .O [] W m) ∧ OutM K C H0 c p wl md Q
section
variable {n k : Nat} {P : Program} {w : World} {K : PySem.W.Frag} {mg : Str → Option Value} {base : Heap} {S : Addr → Option Sp}
variable {C : Addr}
abbrev s_read_start : Stmt := topS 63
theorem sc_read_start : FnScope ["cursor", "waiting", "kind"] ["cursor", "waiting"] (defScope s_read_start) := ⟨rfl, rfl, rfl, by decide +kernel, rfl, by decide +kernel, by decide +kernel⟩
theorem ok_read_start {f : Addr} {fd : FuncData} (F : Fun K "read_start" "read_start" s_read_start f fd) {f_start_choice : Addr} {d_start_choice : FuncData} (h_start_choice : Hd K mg "start_choice" s_start_choice ["cursor", "waiting"] f_start_choice d_start_choice) (G_start_choice : FnOk P w K mg base CX0 3 f_start_choice d_start_choice ["cursor", "waiting"] (spChoice K C)) {f_start_new : Addr} {d_start_new : FuncData} (h_start_new : Hd K mg "start_new" s_start_new ["cursor", "waiting"] f_start_new d_start_new) (G_start_new : FnOk P w K mg base CX0 3 f_start_new d_start_new ["cursor", "waiting"] (spSnew K C)) {f_start_name : Addr} {d_start_name : FuncData} (h_start_name : Hd K mg "start_name" s_start_name ["cursor", "waiting"] f_start_name d_start_name) (G_start_name : FnOk P w K mg base CX0 3 f_start_name d_start_name ["cursor", "waiting"] (spSname K C)) {a_SIGNS_bodies : Addr} {u_SIGNS_bodies : Value} (h_SIGNS_bodies : Cst K mg "SIGNS_bodies" (.ref a_SIGNS_bodies) u_SIGNS_bodies) (t_SIGNS_bodies : ∀ H : Hp, SqT K H a_SIGNS_bodies (CwP.sgs.map V.str)) {u_INTEGER : Value} (h_INTEGER : Cst K mg "INTEGER" (.str "integer") u_INTEGER) (m_int : mg "int" = none) (M : CurM P w K mg base C) : FnOk P w K mg base CX0 4 f fd ["cursor", "waiting"] (spStart K C) := by
  refine F.ok sc_read_start (fun vs H Q E h => ?_) (fun cdv A outer s H vs Q E hr h => ?_)
  · obtain ⟨_, _, _, _, _, _, _, rfl, _⟩ := h
    rfl
  · obtain ⟨H0, c, p, wl, ts, W, md, rfl, rd, hm, hn, q⟩ := h
    obtain ⟨T, fK, dK, mK, bK, GK, fB, dB, mB, bB, GB, fT, dT, mT, bT, GT, fS, dS, mS, bS, GS⟩ := M
    refine ⟨_, (pss_cons (ps_set (i := 2) sc_read_start.nd rfl (.inl rfl) (pe_meth0 (pv 0) T.cl mK GK (hr.mono (by decide)) bK .nil pass0))
  (pss_cons (ps_if (PW.pt (pw_and (pt_cmpR op_in_seq (pv 2) (pe_tup (pa_cons pe_str (pa_cons pe_str pa_nil))) (by rfl)) (pw_and1 (pt_not (PW.pt (pw_and (pt_truth (pv 1) (by intro _; rfl)) (pw_and1 (pt_cmpR op_in_seq (pe_ix ix_tup (pe_ix ix_list (pv 1) (pe_un un_neg pe_int) (fun _ _ => rfl)) pe_int (fun _ _ => rfl)) (pe_glob (v := .ref a_SIGNS_bodies) rfl h_SIGNS_bodies.g h_SIGNS_bodies.r) (by rfl))))))))) (pss_cons (ps_expr (pe_call G_start_choice (hr.mono (by decide)) (by rfl) h_start_choice.g h_start_choice.F.kp h_start_choice.b .nil pass0 (pa_cons (pv 0) (pa_cons (pv 1) pa_nil))))
  (pss_one (ps_ret pe_non))) pss_nil)
  (pss_cons (ps_if (pt_cmpR op_eq (pv 2) pe_str (nomark _)) (pss_cons (ps_expr (pe_bm PySem.F.plainAttrs_list PySem.F.slot_list_append PySem.F.type_list_append mt_append (pv 1) (pa_cons (pe_tup (pa_cons (pe_meth (pv 0) T.cl mT GT (hr.mono (by decide)) bT .nil pass0 (pa_cons pe_str pa_nil)) pa_nil)) pa_nil)))
  (pss_one (ps_ret pe_non))) pss_nil)
  (pss_cons (ps_if (pt_cmpR op_eq (pv 2) (pe_glob (v := .str "integer") rfl h_INTEGER.g h_INTEGER.r) (nomark _)) (pss_one (ps_ret (pe_tup (pa_cons pe_str (pa_cons (pe_callTy call_int_str (by rfl) m_int (by decide +kernel) (pa_cons (pe_meth (pv 0) T.cl mT GT (hr.mono (by decide)) bT .nil pass0 (pa_cons (pe_glob (v := .str "integer") rfl h_INTEGER.g h_INTEGER.r) pa_nil)) pa_nil)) pa_nil))))) pss_nil)
  (pss_cons (ps_if (pt_cmpR op_eq (pv 2) pe_str (nomark _)) (pss_one (ps_ret (pe_tup (pa_cons (pe_meth (pv 0) T.cl mT GT (hr.mono (by decide)) bT .nil pass0 (pa_cons pe_str pa_nil)) pa_nil)))) pss_nil)
  (pss_cons (ps_if (pt_cmpR op_eq (pv 2) pe_str (nomark _)) (pss_one (ps_ret (pe_call G_start_new (hr.mono (by decide)) (by rfl) h_start_new.g h_start_new.F.kp h_start_new.b .nil pass0 (pa_cons (pv 0) (pa_cons (pv 1) pa_nil))))) pss_nil)
  (pss_one (ps_ret (pe_call G_start_name (hr.mono (by decide)) (by rfl) h_start_name.g h_start_name.F.kp h_start_name.b .nil pass0 (pa_cons (pv 0) (pa_cons (pv 1) pa_nil))))))))))), ?_⟩
    match ts, rd, hm with
    | [], _, hm => cases hm
    | (k, t) :: r, rd, hm =>
      refine seqA (asgA (cm_q (fun R r => ⟨_, rfl, r⟩) rd.cur ne5 ne6 ⟨c, p, k, t, r, rfl, rd.cur, nameA ?_⟩))
      dsimp only
      refine seqA (ifA (andn_q (b := decide (k ∈ (["if", "let"] : List Str))) (c := CwP.topSg W) (fun H1 => Rdg K C H0 H1 c p wl ((k, t) :: r) W) (fun R g => ⟨_, rfl, by decide, fun a ha => ⟨a, (["if", "let"] : List Str).map V.str, rfl, .inr (.inl (.inl upd_same)), rfl, strs_flat _, _, rfl, by
        rw [if_neg (by decide), in_strs]
        exact g _ (rd.mk1 ha)⟩⟩) (fun H1 rd1 R g => top_q rd1 (fun R r => ⟨_, rfl, r⟩) (t_SIGNS_bodies H1) (by rw [rd1.top]; exact g)) (fun H1 rd1 => ite2 (fun g => ?_) (fun g => nextA ?_))))
      · rw [Bool.and_eq_true, decide_eq_true_iff, Bool.not_eq_true'] at g
        have hk : k = "if" ∨ k = "let" := by
          have := g.1
          simp only [List.mem_cons, List.not_mem_nil, or_false] at this
          exact this
        have hm2 : (if (k = "if" ∨ k = "let") ∧ CwP.topSg W = false then (if k = "if" then some (CwP.Md.P r (.ife :: W)) else CwP.pLet r W) else _) = some md := hm
        rw [if_pos ⟨hk, g.2⟩] at hm2
        refine seqA ⟨_, rfl, _, rfl, H0, c, p, wl, k, t, r, W, md, rfl, rd1, hk, hm2, ?_⟩
        obtain ⟨r', W', rfl⟩ := choice_P hm2
        refine ⟨fun r W H' e rd2 => ?_, (fun _ _ _ _ _ e => by cases e), (fun _ _ _ _ e => by cases e)⟩
        dsimp only
        exact retA (q.fp _ _ _ e rd2)
      · dsimp only
        have ng : ¬ ((k = "if" ∨ k = "let") ∧ CwP.topSg W = false) := fun m => g (by
          rw [Bool.and_eq_true, decide_eq_true_iff, Bool.not_eq_true']
          exact ⟨by simp only [List.mem_cons, List.not_mem_nil, or_false]; exact m.1, m.2⟩)
        have hm2 : (if (k = "if" ∨ k = "let") ∧ CwP.topSg W = false then (if k = "if" then some (CwP.Md.P r (.ife :: W)) else CwP.pLet r W)
          else if k = "(" then some (.P r (.par :: W))
          else if k = "integer" then some (.O r W (CwP.eInt (valP t)))
          else if k = "next" then some (.O r W CwP.eNext)
          else if k = "new" then CwP.pNew r W
          else if k = "name" then CwP.pName t r W
          else none) = some md := hm
        rw [if_neg ng] at hm2
        have tk0 := rd1.tk (k, t) (List.mem_cons_self ..)
        refine seqA (ifA (eqz_q rfl (ite2 (fun g => ?_) (fun g => nextA ?_))))
        · have g := of_decide_eq_true g
          subst g
          rw [if_pos rfl] at hm2
          have te : t = "(" := tk0.2.2 (by show ¬ ("(" : Str) ∈ (["name", "word", "integer", "strange", "end"] : List Str); decide)
          subst te
          refine seqA ⟨_, rfl, rd1.ty, cm_q (fun R r => ⟨_, rfl, r⟩) rd1.cur ne1 ne2 ⟨c, p, "(", "(", r, rfl, rd1.cur, fun H2 f2 c2 => ⟨Nat.le_of_ble_eq_true rfl, fun a ha => ?_⟩⟩⟩
          have rd2 := rd1.go1 f2 c2
          obtain ⟨xs, ex, lx, rd3⟩ := (rd2.mk1 ha).push (w := .par) (x := .ref a) ⟨rfl, a, rfl, .inl (.inl upd_same)⟩ (rd1.sz.cons (fun _ _ _ e => by cases e))
          refine ⟨wl, xs, _, rfl, rfl, ex, lx, ?_⟩
          dsimp only
          exact retA (q.fp _ _ _ (Option.some.inj hm2).symm rd3)
        have g := fun e => g (decide_eq_true e)
        rw [if_neg g] at hm2
        dsimp only
        refine seqA (ifA (eqz_q rfl (ite2 (fun g => retA ?_) (fun g => nextA ?_))))
        · have g := of_decide_eq_true g
          subst g
          rw [if_pos rfl] at hm2
          obtain ⟨d1, d2, d3⟩ := tk0.2.1 rfl
          refine cm_q (fun R r => ⟨_, rfl, r⟩) rd1.cur ne1 ne2 ⟨c, p, "integer", t, r, rfl, rd1.cur, fun H2 f2 c2 => ⟨t, _, rfl, int_p d1 d2 (by dsimp only at d3; omega), by dsimp only at d3; omega, Nat.le_of_ble_eq_true rfl, fun a ha => ?_⟩⟩
          have rd2 := rd1.go1 f2 c2
          exact q.fo _ _ _ _ _ (Option.some.inj hm2).symm (rd2.mk1 ha) (.tup (.inl (.inl upd_same)) (.cons (.str _) (.cons (.int _) .nil))) (.tuple _ (fun x m => by
            simp only [List.mem_cons, List.not_mem_nil, or_false] at m
            rcases m with rfl | rfl
            · exact .str _
            · exact .int _))
        have g := fun e => g (decide_eq_true e)
        rw [if_neg g] at hm2
        dsimp only
        refine seqA (ifA (eqz_q rfl (ite2 (fun g => retA ?_) (fun g => nextA ?_))))
        · have g := of_decide_eq_true g
          subst g
          rw [if_pos rfl] at hm2
          have te : t = "next" := tk0.2.2 (by show ¬ ("next" : Str) ∈ (["name", "word", "integer", "strange", "end"] : List Str); decide)
          subst te
          refine cm_q (fun R r => ⟨_, rfl, r⟩) rd1.cur ne1 ne2 ⟨c, p, "next", "next", r, rfl, rd1.cur, fun H2 f2 c2 => ⟨Nat.le_of_ble_eq_true rfl, fun a ha => ?_⟩⟩
          have rd2 := rd1.go1 f2 c2
          exact q.fo _ _ _ _ _ (Option.some.inj hm2).symm (rd2.mk1 ha) (.tup (.inl (.inl upd_same)) (.cons (.str _) .nil)) (.tuple _ (fun x m => by
            simp only [List.mem_cons, List.not_mem_nil, or_false] at m
            rcases m with rfl
            exact .str _))
        have g := fun e => g (decide_eq_true e)
        rw [if_neg g] at hm2
        dsimp only
        refine seqA (ifA (eqz_q rfl (ite2 (fun g => retA ?_) (fun g => nextA ?_))))
        · have g := of_decide_eq_true g
          subst g
          rw [if_pos rfl] at hm2
          exact ⟨_, rfl, _, rfl, H0, c, p, wl, t, r, W, md, rfl, rd1, hm2, q⟩
        have g := fun e => g (decide_eq_true e)
        rw [if_neg g] at hm2
        dsimp only
        by_cases g5 : k = "name"
        · subst g5
          rw [if_pos rfl] at hm2
          exact retA ⟨_, rfl, _, rfl, H0, c, p, wl, t, r, W, md, rfl, rd1, (fun e => by
            subst e
            exact hn _ _ (Option.some.inj hm2).symm), hm2, q⟩
        · rw [if_neg g5] at hm2
          cases hm2
end
end Cw

set_option Elab.async false
set_option linter.all false
set_option maxRecDepth 100000
set_option maxHeartbeats 4000000
namespace Cw
open PySem PySem.Spec PyProof.Rows L2
def ReN : Nat → CwP.Md → CwP.Md → Prop
  | 0, a, b => a = b
  | n + 1, a, b => ∃ c, CwP.step valP a = some c ∧ ReN n c b
theorem ReN.of {a b : CwP.Md} (h : CwP.Re valP a b) : ∃ n, ReN n a b := by
  induction h with
  | refl => exact ⟨0, rfl⟩
  | step h _ ih =>
    obtain ⟨n, g⟩ := ih
    exact ⟨n + 1, _, h, g⟩
theorem start_noD {ts r : List CwP.KT} {W : List CwP.Wt} {m : PyData} (h : CwP.pStart valP ts W = some (.D r m)) : False := by
  unfold CwP.pStart CwP.pLet CwP.pNew CwP.pName at h
  repeat' (split at h)
  all_goals cases h
def spPrimary (K : PySem.W.Frag) (C : Addr) : Sp := fun vs H Q _ => ∃ (H0 : Hp) (c p wl : Addr) (ts r : List CwP.KT) (W : List CwP.Wt) (n : Nat) (d : PyData), vs = [.ref c, .ref wl] ∧ Rdg K C H0 H c p wl ts W ∧ ReN n (.P ts W) (.D r d) ∧
  ∀ n' ts' W' m a H', n' < n → ReN n' (.O ts' W' m) (.D r d) → Rdg K C H0 H' c p wl ts' W' → Dp K H' (.ref a) m → OnT m → Q (.ref a) H'
section
variable {n k : Nat} {P : Program} {w : World} {K : PySem.W.Frag} {mg : Str → Option Value} {base : Heap} {S : Addr → Option Sp}
variable {C : Addr}
abbrev s_read_primary : Stmt := topS 62
theorem sc_read_primary : FnScope ["cursor", "waiting", "made"] ["cursor", "waiting"] (defScope s_read_primary) := ⟨rfl, rfl, rfl, by decide +kernel, rfl, by decide +kernel, by decide +kernel⟩
theorem ok_read_primary {f : Addr} {fd : FuncData} (F : Fun K "read_primary" "read_primary" s_read_primary f fd) {f_read_start : Addr} {d_read_start : FuncData} (h_read_start : Hd K mg "read_start" s_read_start ["cursor", "waiting"] f_read_start d_read_start) (G_read_start : FnOk P w K mg base CX0 4 f_read_start d_read_start ["cursor", "waiting"] (spStart K C)) : FnOk P w K mg base CX0 5 f fd ["cursor", "waiting"] (spPrimary K C) := by
  refine F.ok sc_read_primary (fun vs H Q E h => ?_) (fun cdv A outer s H vs Q E hr h => ?_)
  · obtain ⟨_, _, _, _, _, _, _, _, _, rfl, _⟩ := h
    rfl
  · obtain ⟨H0, c, p, wl, ts, r, W, n, d, rfl, rd, hn, q⟩ := h
    refine ⟨_, (pss_cons (ps_set (i := 2) sc_read_primary.nd rfl (.inl rfl) pe_non)
  (pss_cons (ps_while PassesOwn.never (pt_cmpR op_isN (pv 2) pe_non (nomark _)) (pss_one (ps_set (i := 2) sc_read_primary.nd rfl (.inl rfl) (pe_call G_read_start (hr.mono (by decide)) (by rfl) h_read_start.g h_read_start.F.kp h_read_start.b .nil pass0 (pa_cons (pv 0) (pa_cons (pv 1) pa_nil))))))
  (pss_one (ps_ret (pv 2))))), ?_⟩
    refine seqA (asgA (nameA ?_))
    dsimp only
    refine seqA ⟨fun m σ H' => (∃ ts' W' k, σ = [some (.ref c), some (.ref wl), some .non] ∧ m = k + 1 ∧ k ≤ n ∧ Rdg K C H0 H' c p wl ts' W' ∧ ReN k (.P ts' W') (.D r d)) ∨ (∃ ts' W' k mm a, σ = [some (.ref c), some (.ref wl), some (.ref a)] ∧ m = 0 ∧ k < n ∧ Rdg K C H0 H' c p wl ts' W' ∧ ReN k (.O ts' W' mm) (.D r d) ∧ Dp K H' (.ref a) mm ∧ OnT mm), ⟨_, .inl ⟨ts, W, n, rfl, rfl, Nat.le_refl _, rd, hn⟩⟩, ?_⟩
    rintro m σ H1 (⟨ts', W', k, rfl, rfl, hk, rd1, h1⟩ | ⟨ts', W', k, mm, a, rfl, rfl, hk, rd1, h1, h2, h3⟩)
    · refine ⟨_, rfl, rfl, _, rfl, iteT ?_⟩
      match k, hk, h1 with
      | 0, _, h1 => cases h1
      | k + 1, hk, ⟨md, hs, h1⟩ =>
        refine ⟨_, fun σ' H' h => h, ?_⟩
        refine asgA ⟨_, rfl, _, rfl, H0, c, p, wl, ts', W', md, rfl, rd1, hs, ?_, ?_, ?_, ?_⟩
        · intro W2 m2 e
          subst e
          match k, h1 with
          | 0, h1 => cases h1
          | k + 1, ⟨md2, hs2, _⟩ => cases hs2
        · intro r2 W2 H2 e rd2
          subst e
          exact nameA ⟨k + 1, Nat.lt_succ_self _, .inl ⟨r2, W2, k, rfl, rfl, Nat.le_of_succ_le hk, rd2, h1⟩⟩
        · intro r2 W2 m2 a H2 e rd2 d2 o2
          subst e
          exact nameA ⟨0, Nat.succ_pos _, .inr ⟨r2, W2, k, m2, a, rfl, rfl, hk, rd2, h1, d2, o2⟩⟩
        · intro r2 m2 a H2 e rd2 d2 o2
          subst e
          exact (start_noD hs).elim
    · refine ⟨_, rfl, rfl, _, rfl, iteF' (decide_eq_false (by simp)) ?_⟩
      dsimp only
      refine retA ?_
      exact ⟨_, rfl, q k ts' W' mm a H1 hk h1 rd1 h2 h3⟩
end
end Cw

set_option Elab.async false
set_option linter.all false
set_option maxRecDepth 100000
set_option maxHeartbeats 4000000
namespace Cw
open PySem PySem.Spec PyProof.Rows L2
def spField (K : PySem.W.Frag) (C : Addr) : Sp := fun vs H Q _ => ∃ (H0 : Hp) (c p wl : Addr) (t : Str) (r : List CwP.KT) (W : List CwP.Wt) (m : PyData) (a : Addr) (md : CwP.Md), vs = [.ref c, .ref a] ∧ Rdg K C H0 H c p wl ((".", t) :: r) W ∧ Dp K H (.ref a) m ∧ OnT m ∧ CwP.pField r W m = some md ∧
  ∀ r' m' a' H', md = .O r' W m' → Rdg K C H0 H' c p wl r' W → Dp K H' (.ref a') m' → OnT m' → Q (.ref a') H'
/-- the last entry is taken from the list -/
theorem Rdg.pop {K : PySem.W.Frag} {C : Addr} {H0 H : Hp} {c p wl : Addr} {ts : List CwP.KT} {w : CwP.Wt} {W : List CwP.Wt} (r : Rdg K C H0 H c p wl ts (w :: W)) : ∃ (x : V) (vs : List V) (l1 ls : List Addr), H wl = some (.lst (vs.reverse ++ [x])) ∧ WtV K (upd H wl (.lst vs.reverse)) x w l1 ∧ Rdg K C H0 (upd H wl (.lst vs.reverse)) c p wl ts W ∧
    WtsV K (upd H wl (.lst vs.reverse)) vs W ls ∧ (wl :: (l1 ++ ls)).Nodup ∧ (∀ l, l ∈ l1 ++ ls → H0 l = none) := by
  obtain ⟨vs0, ls0, e2, e3, e4, e5⟩ := r.wt
  match vs0, e2, e3 with
  | [], _, h => cases h
  | x :: vs, e2, ⟨l1, ls, e6, h1, h2⟩ =>
    subst e6
    have nt : NoTup [wl] H := same_nt e2
    have fr : Fr [wl] H (upd H wl (.lst vs.reverse)) := (Fr.refl H).set (List.mem_singleton.mpr rfl)
    have nw : ∀ l, l ∈ l1 ++ ls → l ∉ [wl] := fun l m k => by
      rcases List.mem_singleton.mp k with rfl
      exact (List.nodup_cons.mp e4).1 m
    obtain ⟨dx, rows, all, n, a1, a2, a3, a4⟩ := r.cur
    obtain ⟨o0, ho⟩ := r.old
    have pw : p ≠ wl := fun k => by rw [k, r.new] at ho; cases ho
    have h2' := h2.fr fr nt (fun l m => nw l (List.mem_append_right _ m))
    have nd := List.nodup_cons.mp e4
    refine ⟨x, vs, l1, ls, by rw [e2, List.reverse_cons], h1.fr fr nt (fun l m => nw l (List.mem_append_left _ m)), ⟨fun b o m e => ?_, ⟨dx, rows, all, n, by rw [upd_ne (Ne.symm r.wc)]; exact a1, by rw [upd_ne pw]; exact a2, a3.fr fr nt, a4⟩, r.old, r.tk, ⟨by have := r.sz.1; simp only [List.length_cons] at this; omega, fun z e ds m => r.sz.2 z e ds (List.mem_cons_of_mem _ m)⟩, r.new, vs, ls, upd_same, h2', List.nodup_cons.mpr ⟨fun m => nd.1 (List.mem_append_right _ m), (List.nodup_append.mp nd.2).2.1⟩, fun l m => e5 l (List.mem_append_right _ m)⟩, h2', e4, e5⟩
    have : b ≠ wl := fun k => by rw [k, r.new] at e; cases e
    rw [upd_ne this]
    exact r.fr b o m e
section
variable {n k : Nat} {P : Program} {w : World} {K : PySem.W.Frag} {mg : Str → Option Value} {base : Heap} {S : Addr → Option Sp}
variable {C : Addr}
abbrev s_read_field : Stmt := topS 68
theorem sc_read_field : FnScope ["cursor", "made", "name", "field"] ["cursor", "made"] (defScope s_read_field) := ⟨rfl, rfl, rfl, by decide +kernel, rfl, by decide +kernel, by decide +kernel⟩
theorem ok_read_field {f : Addr} {fd : FuncData} (F : Fun K "read_field" "read_field" s_read_field f fd) {f_read_class_name : Addr} {d_read_class_name : FuncData} (h_read_class_name : Hd K mg "read_class_name" s_read_class_name ["cursor"] f_read_class_name d_read_class_name) (G_read_class_name : FnOk P w K mg base CX0 2 f_read_class_name d_read_class_name ["cursor"] (spRcn K C)) {u_NAME : Value} (h_NAME : Cst K mg "NAME" (.str "name") u_NAME) (M : CurM P w K mg base C) : FnOk P w K mg base CX0 3 f fd ["cursor", "made"] (spField K C) := by
  refine F.ok sc_read_field (fun vs H Q E h => ?_) (fun cdv A outer s H vs Q E hr h => ?_)
  · obtain ⟨_, _, _, _, _, _, _, _, _, _, rfl, _⟩ := h
    rfl
  · obtain ⟨H0, c, p, wl, t, r, W, m, a, md, rfl, rd, dm, om, hm, q⟩ := h
    obtain ⟨T, fK, dK, mK, bK, GK, fB, dB, mB, bB, GB, fT, dT, mT, bT, GT, fS, dS, mS, bS, GS⟩ := M
    refine ⟨_, (pss_cons (ps_expr (pe_meth (pv 0) T.cl mT GT (hr.mono (by decide)) bT .nil pass0 (pa_cons pe_str pa_nil)))
  (pss_cons (ps_expr (pe_meth (pv 0) T.cl mT GT (hr.mono (by decide)) bT .nil pass0 (pa_cons pe_str pa_nil)))
  (pss_cons (ps_set (i := 2) sc_read_field.nd rfl (.inl rfl) (pe_call G_read_class_name (hr.mono (by decide)) (by rfl) h_read_class_name.g h_read_class_name.F.kp h_read_class_name.b .nil pass0 (pa_cons (pv 0) pa_nil)))
  (pss_cons (ps_expr (pe_meth (pv 0) T.cl mT GT (hr.mono (by decide)) bT .nil pass0 (pa_cons pe_str pa_nil)))
  (pss_cons (ps_set (i := 3) sc_read_field.nd rfl (.inl rfl) (pe_meth (pv 0) T.cl mT GT (hr.mono (by decide)) bT .nil pass0 (pa_cons (pe_glob (v := .str "name") rfl h_NAME.g h_NAME.r) pa_nil)))
  (pss_cons (ps_expr (pe_meth (pv 0) T.cl mT GT (hr.mono (by decide)) bT .nil pass0 (pa_cons pe_str pa_nil)))
  (pss_one (ps_ret (pe_tup (pa_cons pe_str (pa_cons (pv 1) (pa_cons (pv 2) (pa_cons (pv 3) pa_nil))))))))))))), ?_⟩
    refine seqA (cm_q (fun R r => ⟨_, rfl, r⟩) rd.cur ne1 ne2 ⟨c, p, ".", t, _, rfl, rd.cur, fun H1 f1 c1 => ?_⟩)
    have rd1 := rd.go1 f1 c1
    dsimp only
    match r, rd1, hm with
    | [], _, hm => cases hm
    | [_], _, hm => cases hm
    | [_, _], _, hm => cases hm
    | [_, _, _], _, hm => cases hm
    | [_, _, _, _], _, hm => cases hm
    | [_, _, _, _, _], _, hm => cases hm
    | [_, _, _, _, _, _], _, hm => cases hm
    | (k1, t1) :: (k2, x) :: (k3, t3) :: (k4, y) :: (k5, t5) :: (k6, v) :: (k7, t7) :: r2, rd1, hm =>
      have hm2 : (if k1 = "(" ∧ k2 = "name" ∧ k3 = "." ∧ k4 = "word" ∧ k5 = "." ∧ k6 = "name" ∧ k7 = ")" then some (CwP.Md.O r2 W (CwP.eField m (x ++ ("." : Str) ++ y) v)) else none) = some md := hm
      by_cases g : k1 = "(" ∧ k2 = "name" ∧ k3 = "." ∧ k4 = "word" ∧ k5 = "." ∧ k6 = "name" ∧ k7 = ")"
      · rw [if_pos g] at hm2
        obtain ⟨rfl, rfl, rfl, rfl, rfl, rfl, rfl⟩ := g
        refine seqA (cm_q (fun R r => ⟨_, rfl, r⟩) rd1.cur ne1 ne2 ⟨c, p, "(", t1, _, rfl, rd1.cur, fun H2 f2 c2 => ?_⟩)
        have rd2 := rd1.go1 f2 c2
        dsimp only
        refine seqA (asgA ⟨_, rfl, c, p, x, t3, y, _, rfl, rd2.cur, rd2.tk.len, rd2.tk.tail.tail.len, fun H3 f3 c3 => nameA ?_⟩)
        have rd3 := rd2.go f3 c3 rd2.tk.tail.tail.tail (by simp only [List.length_cons]; omega)
        dsimp only
        refine seqA (cm_q (fun R r => ⟨_, rfl, r⟩) rd3.cur ne1 ne2 ⟨c, p, ".", t5, _, rfl, rd3.cur, fun H4 f4 c4 => ?_⟩)
        have rd4 := rd3.go1 f4 c4
        dsimp only
        refine seqA (asgA (cm_q (fun R r => ⟨_, rfl, r⟩) rd4.cur ne1 ne2 ⟨c, p, "name", v, _, rfl, rd4.cur, fun H5 f5 c5 => nameA ?_⟩))
        have rd5 := rd4.go1 f5 c5
        dsimp only
        refine seqA (cm_q (fun R r => ⟨_, rfl, r⟩) rd5.cur ne1 ne2 ⟨c, p, ")", t7, _, rfl, rd5.cur, fun H6 f6 c6 => ?_⟩)
        have rd6 := rd5.go1 f6 c6
        have fa := f1.trans (f2.trans (f3.trans (f4.trans (f5.trans f6))))
        dsimp only
        refine retA ⟨_, rfl, _, rfl, _, rfl, Nat.le_of_ble_eq_true rfl, fun b hb => ?_⟩
        refine q _ _ _ _ (Option.some.inj hm2).symm (rd6.mk1 hb) ?_ ?_
        · exact .tup (.inl (.inl upd_same)) (.cons (.str _) (.cons (dp_keep (same_upd hb) (dp_fr fa rd.nc om dm)) (.cons (.str _) (.cons (.str _) .nil))))
        · exact .tuple _ (fun x mm => by
            simp only [List.mem_cons, List.not_mem_nil, or_false] at mm
            rcases mm with rfl | rfl | rfl | rfl
            · exact .str _
            · exact om
            · exact .str _
            · exact .str _)
      · rw [if_neg g] at hm2
        cases hm2
end
end Cw

set_option Elab.async false
set_option linter.all false
set_option maxRecDepth 100000
set_option maxHeartbeats 4000000
namespace Cw
open PySem PySem.Spec PyProof.Rows L2
def Words3 (K : PySem.W.Frag) (w : World) (a : Addr) : Prop := ∃ es n, KDict K w a es n ∧ ∀ z : Str, z ∈ CwP.sgs → ∃ t, PySem.W.nsIn K a z = some (some (.str (CwP.wordOf z) t))
theorem top_q2 {K : PySem.W.Frag} {C : Addr} {H0 H : Hp} {c p wl : Addr} {ts : List CwP.KT} {W : List CwP.Wt} {tw tl : TE} {σ : L2.St} {aS : Addr} {l : List Str} (rd : Rdg K C H0 H c p wl ts W) (hσ : ∀ R : V → Hp → Prop, R (.ref wl) H → tw σ H R) (hl : ∀ R : V → Hp → Prop, R (.ref aS) H → tl σ H R) (hS : SqT K H aS (l.map V.str)) {R : Bool → Hp → Prop} (r : R (topIn l W) H) :
    tAnd (fun σ H Q => tw σ H fun x H' => ∃ k, TruV K x H' k ∧ Q k H') (tTest (tOp (rIn K false) (tOp (rIxT K) (tOp (rIxL K) tw (tUn (rU fun i => V.int (-i)) (tC (V.int 1)))) (tC (V.int 0))) tl)) σ H R := by
  obtain ⟨vs, ls, e2, e3, _⟩ := rd.wt
  match vs, W, e2, e3, r with
  | [], [], e2, _, r => exact hσ _ ⟨false, .inl ⟨[], SqL.of e2, rfl⟩, iteF r⟩
  | x :: vs, w :: W, e2, ⟨l1, l2, _, h, _⟩, r =>
    obtain ⟨a, it, rfl, sq⟩ := h.hd
    rw [List.reverse_cons] at e2
    refine hσ _ ⟨true, .inl ⟨_, SqL.of e2, by simp⟩, iteT (hσ _ ⟨1, rfl, wl, _, -1, _, rfl, rfl, SqL.of e2, atI_last _ _, a, _, 0, _, rfl, rfl, sq, atI_nat (j := 0) rfl, hl _ ⟨aS, _, rfl, .inr hS, rfl, strs_flat l, _, rfl, ?_⟩⟩)⟩
    rw [if_neg (by decide), in_strs]
    exact r
  | [], _ :: _, _, h, _ => cases h
  | _ :: _, [], _, h, _ => cases h
theorem joined_stop {l : List Str} {m : PyData} : ∀ {W : List CwP.Wt}, topIn l W = false → CwP.joined W m l = (W, m)
  | [], _ => rfl
  | .ife :: _, _ => rfl
  | .then_ _ :: _, _ => rfl
  | .else_ _ _ :: _, _ => rfl
  | .let_ _ :: _, _ => rfl
  | .in_ _ _ :: _, _ => rfl
  | .par :: _, _ => rfl
  | .args _ _ _ :: _, _ => rfl
  | .sign s d :: W, h => by
    have h : decide (s ∈ l) = false := h
    show (if s ∈ l then CwP.joined W (.tuple [.str (CwP.wordOf s), d, m]) l else (.sign s d :: W, m)) = _
    rw [if_neg (of_decide_eq_false h)]
theorem sign_top {w : CwP.Wt} {W : List CwP.Wt} (h : CwP.topSg (w :: W) = true) : ∃ s d, w = .sign s d := by
  cases w with
  | sign s d => exact ⟨s, d, rfl⟩
  | _ => cases h
def spJoined (K : PySem.W.Frag) (C : Addr) : Sp := fun vs H Q _ => ∃ (H0 : Hp) (c p wl : Addr) (ts : List CwP.KT) (W : List CwP.Wt) (m : PyData) (a aS : Addr) (l : List Str), vs = [.ref wl, .ref a, .ref aS] ∧ (∀ H', SqT K H' aS (l.map V.str)) ∧ (∀ s, s ∈ l → s ∈ CwP.sgs) ∧ Rdg K C H0 H c p wl ts W ∧ Dp K H (.ref a) m ∧ OnT m ∧
  ∀ a' H', Rdg K C H0 H' c p wl ts (CwP.joined W m l).1 → Dp K H' (.ref a') (CwP.joined W m l).2 → OnT (CwP.joined W m l).2 → Q (.ref a') H'
section
variable {n k : Nat} {P : Program} {w : World} {K : PySem.W.Frag} {mg : Str → Option Value} {base : Heap} {S : Addr → Option Sp}
variable {C : Addr}
abbrev s_joined : Stmt := topS 69
theorem sc_joined : FnScope ["waiting", "made", "signs", "sign", "before"] ["waiting", "made", "signs"] (defScope s_joined) := ⟨rfl, rfl, rfl, by decide +kernel, rfl, by decide +kernel, by decide +kernel⟩
theorem ok_joined {f : Addr} {fd : FuncData} (F : Fun K "joined" "joined" s_joined f fd) {a_WORDS : Addr} {u_WORDS : Value} (h_WORDS : Cst K mg "WORDS" (.ref a_WORDS) u_WORDS) (t_WORDS : Words3 K w a_WORDS) : FnOk P w K mg base CX0 1 f fd ["waiting", "made", "signs"] (spJoined K C) := by
  refine F.ok sc_joined (fun vs H Q E h => ?_) (fun cdv A outer s H vs Q E hr h => ?_)
  · obtain ⟨_, _, _, _, _, _, _, _, _, _, rfl, _⟩ := h
    rfl
  · obtain ⟨H0, c, p, wl, ts, W, m, a, aS, l, rfl, hS, hl, rd, dm, om, q⟩ := h
    obtain ⟨es, en, DS, tS⟩ := t_WORDS
    refine ⟨_, (pss_cons (ps_while PassesOwn.never (PW.pt (pw_and (pt_truth (pv 0) (by intro _; rfl)) (pw_and1 (pt_cmpR op_in_seq (pe_ix ix_tup (pe_ix ix_list (pv 0) (pe_un un_neg pe_int) (fun _ _ => rfl)) pe_int (fun _ _ => rfl)) (pv 2) (by rfl))))) (pss_cons (ps_asg (pe_bm0 PySem.F.plainAttrs_list PySem.F.slot_list_pop PySem.F.type_list_pop mt_pop (pv 0)) (pg_tup (n := 2) (by rfl) (pgs_cons (pg_name (i := 3) sc_joined.nd rfl (.inl rfl)) (pgs_cons (pg_name (i := 4) sc_joined.nd rfl (.inl rfl)) pgs_nil))))
  (pss_one (ps_set (i := 1) sc_joined.nd rfl (.inl rfl) (pe_tup (pa_cons (pe_ix ix_kdict (pe_glob (v := .ref a_WORDS) rfl h_WORDS.g h_WORDS.r) (pv 3) (fun _ _ => rfl)) (pa_cons (pv 4) (pa_cons (pv 1) pa_nil))))))))
  (pss_one (ps_ret (pv 1)))), ?_⟩
    refine seqA ⟨fun n σ H' => ∃ W' m' a' c3 c4, σ = [some (.ref wl), some (.ref a'), some (.ref aS), c3, c4] ∧ n = W'.length ∧ CwP.joined W' m' l = CwP.joined W m l ∧ Rdg K C H0 H' c p wl ts W' ∧ Dp K H' (.ref a') m' ∧ OnT m', ⟨_, W, m, a, none, none, rfl, rfl, rfl, rd, dm, om⟩, ?_⟩
    rintro n σ H1 ⟨W', m', a', c3, c4, rfl, rfl, ej, rd1, dm1, om1⟩
    refine top_q2 rd1 (fun R r => ⟨_, rfl, r⟩) (fun R r => ⟨_, rfl, r⟩) (hS H1) (ite2 (fun g => ?_) (fun g => ?_))
    · refine ⟨_, fun σ' H' h => h, ?_⟩
      match W', g, rd1, ej with
      | [], g, _, _ => cases g
      | w0 :: W', g, rd1, ej =>
        have g : decide (hdW w0 ∈ l) = true := g
        have g := of_decide_eq_true g
        obtain ⟨s, d, rfl⟩ := sign_top (w := w0) (W := W') (by rw [← rd1.top]; exact decide_eq_true (hl _ g))
        have g : s ∈ l := g
        obtain ⟨x, vs, l1, ls, e2, hx, rd2, _⟩ := rd1.pop
        obtain ⟨_, b, v, rfl, sq, dv, ov, _⟩ := hx
        refine seqA ⟨_, rfl, rd1.ty, wl, _, .ref b, rfl, rfl, e2, by simp, ?_⟩
        rw [List.dropLast_concat]
        refine ⟨b, _, rfl, sq, rfl, _, _, rfl, nameA ⟨_, _, rfl, nameA ⟨rfl, ?_⟩⟩⟩
        dsimp only
        obtain ⟨tk, ht⟩ := tS s (hl s g)
        have dm2 : Dp K (upd H1 wl (.lst vs.reverse)) (.ref a') m' := dp_fr (A := [wl]) ((Fr.refl H1).set (List.mem_singleton.mpr rfl)) (same_nt e2) om1 dm1
        refine asgA ⟨_, rfl, _, _, .str (CwP.wordOf s), rfl, rfl, ⟨es, en, _, DS.at_, DS.lit, ht, ⟨tk, rfl⟩⟩, _, rfl, _, rfl, Nat.le_of_ble_eq_true rfl, fun q' hq => nameA ?_⟩
        refine ⟨W'.length, Nat.lt_succ_self _, W', .tuple [.str (CwP.wordOf s), d, m'], q', _, _, rfl, rfl, ?_, rd2.mk1 hq, .tup (.inl (.inl upd_same)) (.cons (.str _) (.cons (dp_keep (same_upd hq) dv) (.cons (dp_keep (same_upd hq) dm2) .nil))), .tuple _ (fun x mm => by
            simp only [List.mem_cons, List.not_mem_nil, or_false] at mm
            rcases mm with rfl | rfl | rfl
            · exact .str _
            · exact ov
            · exact om1)⟩
        rw [← ej]
        show _ = (if s ∈ l then CwP.joined W' (.tuple [.str (CwP.wordOf s), d, m']) l else _)
        rw [if_pos g]
    · have g := Bool.eq_false_iff.mpr g
      dsimp only
      rw [joined_stop g] at ej
      refine retA ?_
      refine ⟨_, rfl, q a' H1 ?_ ?_ ?_⟩
      · rw [← ej]; exact rd1
      · rw [← ej]; exact dm1
      · rw [← ej]; exact om1
end
end Cw

set_option Elab.async false
set_option linter.all false
set_option maxRecDepth 100000
set_option maxHeartbeats 4000000
namespace Cw
open PySem PySem.Spec PyProof.Rows L2
theorem Dps.snoc {K : PySem.W.Frag} {H : Hp} {x : V} {d : PyData} (h : Dp K H x d) : ∀ {xs : List V} {ds : List PyData}, DpAll K H xs ds → DpAll K H (xs ++ [x]) (ds ++ [d])
  | _, _, .nil => .cons h .nil
  | _, _, .cons a t => .cons a (Dps.snoc h t)
/-- the list of an entry's own changes -/
theorem Rdg.own {K : PySem.W.Frag} {C : Addr} {H0 H : Hp} {c p wl l : Addr} {ts : List CwP.KT} {W : List CwP.Wt} {vs us us' : List V} {ls : List Addr} (r : Rdg K C H0 H c p wl ts W) (e2 : H wl = some (.lst vs.reverse)) (e3 : WtsV K H vs W ls) (nd : (wl :: ([l] ++ ls)).Nodup) (hn : ∀ x, x ∈ [l] ++ ls → H0 x = none) (el : H l = some (.lst us)) :
    Rdg K C H0 (upd H l (.lst us')) c p wl ts W ∧ upd H l (.lst us') wl = some (.lst vs.reverse) ∧ WtsV K (upd H l (.lst us')) vs W ls := by
  have nt : NoTup [l] H := same_nt el
  have fr : Fr [l] H (upd H l (.lst us')) := (Fr.refl H).set (List.mem_singleton.mpr rfl)
  have n1 := List.nodup_cons.mp nd
  have n2 := List.nodup_cons.mp n1.2
  have lw : wl ≠ l := fun e => n1.1 (by rw [e]; exact List.mem_cons_self ..)
  have nw : ∀ x, x ∈ ls → x ∉ [l] := fun x m k => by
    rcases List.mem_singleton.mp k with rfl
    exact n2.1 m
  have l0 : H0 l = none := hn l (List.mem_cons_self ..)
  obtain ⟨dx, rows, all, n, a1, a2, a3, a4⟩ := r.cur
  obtain ⟨o0, ho⟩ := r.old
  have pl : p ≠ l := fun k => by rw [k, l0] at ho; cases ho
  have cl : c ≠ l := fun k => by rw [k, el] at a1; cases a1
  have e2' : upd H l (.lst us') wl = some (.lst vs.reverse) := by rw [upd_ne lw]; exact e2
  have e3' := e3.fr fr nt nw
  refine ⟨⟨fun b o m e => ?_, ⟨dx, rows, all, n, by rw [upd_ne cl]; exact a1, by rw [upd_ne pl]; exact a2, a3.fr fr nt, a4⟩, r.old, r.tk, r.sz, r.new, vs, ls, e2', e3', List.nodup_cons.mpr ⟨fun m => n1.1 (List.mem_append_right _ m), n2.2⟩, fun x m => hn x (List.mem_append_right _ m)⟩, e2', e3'⟩
  have : b ≠ l := fun k => by rw [k, l0] at e; cases e
  rw [upd_ne this]
  exact r.fr b o m e
def spWith (K : PySem.W.Frag) (C : Addr) : Sp := fun vs H Q _ => ∃ (H0 : Hp) (c p wl : Addr) (k t : Str) (r : List CwP.KT) (W : List CwP.Wt) (z nm : Str) (ds : List PyData) (m : PyData) (a b l : Addr) (xs : List V) (ls : List Addr) (md : CwP.Md), vs = [.ref c, .ref wl, .ref b, .ref a] ∧ Rdg K C H0 H c p wl ((k, t) :: r) W ∧
  H wl = some (.lst xs.reverse) ∧ WtsV K H xs W ls ∧ (wl :: ([l] ++ ls)).Nodup ∧ (∀ x, x ∈ [l] ++ ls → H0 x = none) ∧ WtV K H (.ref b) (.args z nm ds) [l] ∧ Dp K H (.ref a) m ∧ OnT m ∧ ds.length + 1 + r.length ≤ 2000000 ∧ W.length + 2 + r.length ≤ 2000000 ∧
  (if k = "," then some (CwP.Md.P r (.args z nm (ds ++ [m]) :: W)) else if k = ")" then some (.O r W (CwP.eArgs z nm (ds ++ [m]))) else none) = some md ∧ OutM K C H0 c p wl md Q
section
variable {n k : Nat} {P : Program} {w : World} {K : PySem.W.Frag} {mg : Str → Option Value} {base : Heap} {S : Addr → Option Sp}
variable {C : Addr}
abbrev s_with_argument : Stmt := topS 71
theorem sc_with_argument : FnScope ["cursor", "waiting", "inner", "made", "word", "name", "arguments"] ["cursor", "waiting", "inner", "made"] (defScope s_with_argument) := ⟨rfl, rfl, rfl, by decide +kernel, rfl, by decide +kernel, by decide +kernel⟩
theorem ok_with_argument {f : Addr} {fd : FuncData} (F : Fun K "with_argument" "with_argument" s_with_argument f fd) (m_tuple : mg "tuple" = none) (M : CurM P w K mg base C) : FnOk P w K mg base CX0 3 f fd ["cursor", "waiting", "inner", "made"] (spWith K C) := by
  refine F.ok sc_with_argument (fun vs H Q E h => ?_) (fun cdv A outer s H vs Q E hr h => ?_)
  · obtain ⟨_, _, _, _, _, _, _, _, _, _, _, _, _, _, _, _, _, _, rfl, _⟩ := h
    rfl
  · obtain ⟨H0, c, p, wl, k, t, r, W, z, nm, ds, m, a, b, l, xs, ls, md, rfl, rd, e2, e3, nd, hn, hx, dm, om, z1, z2, hm, q⟩ := h
    obtain ⟨T, fK, dK, mK, bK, GK, fB, dB, mB, bB, GB, fT, dT, mT, bT, GT, fS, dS, mS, bS, GS⟩ := M
    refine ⟨_, (pss_cons (ps_asg (pv 2) (pg_tup (n := 3) (by rfl) (pgs_cons (pg_name (i := 4) sc_with_argument.nd rfl (.inl rfl)) (pgs_cons (pg_name (i := 5) sc_with_argument.nd rfl (.inl rfl)) (pgs_cons (pg_name (i := 6) sc_with_argument.nd rfl (.inl rfl)) pgs_nil)))))
  (pss_cons (ps_expr (pe_bm PySem.F.plainAttrs_list PySem.F.slot_list_append PySem.F.type_list_append mt_append (pv 6) (pa_cons (pv 3) pa_nil)))
  (pss_cons (ps_if (pt_val (pe_meth (pv 0) T.cl mS GS (hr.mono (by decide)) bS .nil pass0 (pa_cons pe_str pa_nil))) (pss_cons (ps_expr (pe_bm PySem.F.plainAttrs_list PySem.F.slot_list_append PySem.F.type_list_append mt_append (pv 1) (pa_cons (pv 2) pa_nil)))
  (pss_one (ps_ret pe_non))) pss_nil)
  (pss_cons (ps_expr (pe_meth (pv 0) T.cl mT GT (hr.mono (by decide)) bT .nil pass0 (pa_cons pe_str pa_nil)))
  (pss_one (ps_ret (pe_tup (pa_cons (pv 4) (pa_cons (pv 5) (pa_cons (pe_callTy call_tuple_of (by rfl) m_tuple (by decide +kernel) (pa_cons (pv 6) pa_nil)) pa_nil)))))))))), ?_⟩
    obtain ⟨l', b', us, el', eb, sq, el, du, ou, hz⟩ := hx
    obtain rfl : l = l' := (List.cons.inj el').1
    obtain rfl : b = b' := V.ref.inj eb
    refine seqA (asgA ⟨_, rfl, b, _, rfl, sq, rfl, _, _, rfl, nameA ⟨_, _, rfl, nameA ⟨_, _, rfl, nameA ⟨rfl, ?_⟩⟩⟩⟩)
    dsimp only
    have ul : us.length = ds.length := (dp_get du).1
    refine seqA ⟨_, rfl, .inl ⟨rfl, us, SqL.of el⟩, _, rfl, l, us, .ref a, rfl, rfl, el, Nat.lt_of_le_of_lt (by omega : us.length ≤ 2000000) (by decide), ?_⟩
    obtain ⟨rd1, e2', e3'⟩ := rd.own (us' := us ++ [.ref a]) e2 e3 nd hn el
    have fr0 : Fr [l] H (upd H l (.lst (us ++ [.ref a]))) := (Fr.refl H).set (List.mem_singleton.mpr rfl)
    have hx1 : WtV K (upd H l (.lst (us ++ [.ref a]))) (.ref b) (.args z nm (ds ++ [m])) [l] := ⟨l, b, us ++ [.ref a], rfl, rfl, sqt_fr fr0 (same_nt el) sq, upd_same, Dps.snoc (dp_fr fr0 (same_nt el) om dm) (dps_fr fr0 (same_nt el) ou du), (fun d mm => by
      rcases List.mem_append.mp mm with mm | mm
      · exact ou d mm
      · rcases List.mem_singleton.mp mm with rfl
        exact om), hz⟩
    have lc : ∀ x, x ∈ [l] ++ ls → x ∉ [c] := fun x mm k => by
      rcases List.mem_singleton.mp k with rfl
      obtain ⟨dx, n, ec⟩ := rd1.cur.ins
      rcases List.mem_append.mp mm with mm | mm
      · obtain ⟨ys, h⟩ := hx1.lst x mm
        rw [ec] at h
        cases h
      · obtain ⟨ys, h⟩ := e3'.lst x mm
        rw [ec] at h
        cases h
    dsimp only
    refine seqA (ifA (cm_q (fun R r => ⟨_, rfl, r⟩) rd1.cur ne3 ne4 ⟨c, p, ",", k, t, r, rfl, rd1.cur, fun g H2 f2 c2 => ⟨true, rfl, iteT ?_⟩, fun g => ⟨false, rfl, iteF (nextA ?_)⟩⟩))
    · have rd2 := rd1.go1 f2 c2
      rw [if_pos g] at hm
      have e2'' := f2 _ _ (fun m => rd1.wc (List.mem_singleton.mp m)) e2'
      have e3'' := e3'.fr f2 rd1.nc (fun x mm => lc x (List.mem_append_right _ mm))
      have hx2 := hx1.fr f2 rd1.nc (fun x mm => lc x (List.mem_append_left _ mm))
      obtain ⟨lx, rd3⟩ := rd2.pushE hx2 ⟨by simp only [List.length_cons]; omega, fun z' e' ds' mm => by
        rcases List.mem_cons.mp mm with e | mm
        · cases e
          rw [List.length_append, List.length_singleton]
          omega
        · exact rd2.sz.2 z' e' ds' mm⟩ e2'' e3'' nd hn
      refine seqA ⟨_, rfl, rd2.ty, _, rfl, wl, _, .ref b, rfl, rfl, e2'', lx, ?_⟩
      dsimp only
      exact retA (q.fp _ _ _ (Option.some.inj hm).symm rd3)
    · rw [if_neg g] at hm
      by_cases g2 : k = ")"
      · subst g2
        rw [if_pos rfl] at hm
        dsimp only
        refine seqA (cm_q (fun R r => ⟨_, rfl, r⟩) rd1.cur ne1 ne2 ⟨c, p, ")", t, r, rfl, rd1.cur, fun H2 f2 c2 => ?_⟩)
        have rd2 := rd1.go1 f2 c2
        obtain ⟨l2, b2, us2, q1, q2, q3, q4, q5, q6, _⟩ := hx1.fr f2 rd1.nc (fun x mm => lc x (List.mem_append_left _ mm))
        obtain rfl : l = l2 := (List.cons.inj q1).1
        dsimp only
        refine retA ⟨_, rfl, _, rfl, _, rfl, l, us2, rfl, .inl ⟨SqL.of q4, fun u hu => ⟨Nat.le_of_ble_eq_true rfl, fun b' hb => ?_⟩⟩⟩
        refine q.fo _ _ _ _ _ (Option.some.inj hm).symm ((rd2.mk1 hu).mk1 hb) ?_ ?_
        · exact .tup (.inl (.inl upd_same)) (.cons (.str _) (.cons (.str _) (.cons (.tup (.inl (.inl (same_upd hb _ _ upd_same))) (dps_keep ((same_upd hu).trans (same_upd hb)) q5)) .nil)))
        · exact .tuple _ (fun x mm => by
            simp only [List.mem_cons, List.not_mem_nil, or_false] at mm
            rcases mm with rfl | rfl | rfl
            · exact .str _
            · exact .str _
            · exact .tuple _ q6)
      · rw [if_neg g2] at hm
        cases hm
end
end Cw

set_option Elab.async false
set_option linter.all false
set_option maxRecDepth 100000
set_option maxHeartbeats 4000000
namespace Cw
open PySem PySem.Spec PyProof.Rows L2
theorem Rdg.same {K : PySem.W.Frag} {C : Addr} {H0 H H' : Hp} {c p wl : Addr} {ts : List CwP.KT} {W : List CwP.Wt} (r : Rdg K C H0 H c p wl ts W) (s : Same H H') : Rdg K C H0 H' c p wl ts W := by
  obtain ⟨dx, rows, all, n, e1, e2, e3, e4⟩ := r.cur
  exact r.go (Fr.of s) ⟨dx, rows, all, n, s _ _ e1, s _ _ e2, e3.fr (Fr.of (A := []) s) (fun b m => by cases m), e4⟩ r.tk (Nat.le_refl _)
theorem cutV_one (x : V) (it : List V) : cutV (x :: it) (some 1) none = it := by
  unfold cutV
  have e1 : HT.sIx (x :: it).length 0 (some 1) = 1 := by
    rw [show HT.sIx (x :: it).length 0 (some 1) = min 1 (x :: it).length from HT.sIx_nat _ 0 1, List.length_cons]
    omega
  rw [e1, HT.sIx_none, List.length_cons, Nat.add_sub_cancel]
  show it.take it.length = it
  rw [List.take_length]
theorem same_sq {K : PySem.W.Frag} {H H' : Hp} (s : Same H H') {a : Addr} {xs : List V} (h : SqT K H a xs) : SqT K H' a xs := sqt_keep s h
/-- (word,) + inner[1:] + (made,) -/
theorem cat3_q {K : PySem.W.Frag} {σ : L2.St} {H : Hp} {Q : VK} {th ti tm : TE} {a b : Addr} {z s : Str} {it : List V} (G : Hp → Prop) (ht : ∀ R : V → Hp → Prop, (∀ H1, G H1 → R (.str s) H1) → th σ H R) (hi : ∀ H (R : V → Hp → Prop), R (.ref b) H → ti σ H R) (hm : ∀ H (R : V → Hp → Prop), R (.ref a) H → tm σ H R)
    (hsq : ∀ H1, G H1 → SqT K H1 b (.str z :: it)) (hl : it.length ≤ 10) (q : ∀ H1 H2 p, G H1 → Same H1 H2 → SqT K H2 p (.str s :: (it ++ [.ref a])) → Q (.ref p) H2) :
    tOp (rCatA K) (tOp (rCatA K) (tTup (tCons th tNil)) (tSl (rSlA K) ti (tPart (tC (.int 1))) tNoPart)) (tTup (tCons tm tNil)) σ H Q := by
  refine ht _ fun H1 g => ⟨Nat.le_of_ble_eq_true rfl, fun p1 h1 => ?_⟩
  have s1 : Same H1 (upd H1 p1 (.tup [.str s])) := same_upd h1
  refine hi _ _ ⟨1, rfl, ?_⟩
  dsimp only [tNoPart]
  have z1 : ¬ (HT.sIx (V.str z :: it).length 0 (some 1) = 0 ∧ HT.sIx (V.str z :: it).length (V.str z :: it).length none = (V.str z :: it).length) := fun e => by
    have e1 := e.1
    rw [show HT.sIx (V.str z :: it).length 0 (some 1) = min 1 (V.str z :: it).length from HT.sIx_nat _ 0 1, List.length_cons] at e1
    omega
  refine ⟨b, _, rfl, same_sq s1 (hsq H1 g), fun e => absurd e z1, fun _ p2 h2 => ?_⟩
  rw [cutV_one]
  have s2 : Same H1 (upd (upd H1 p1 (.tup [.str s])) p2 (.tup it)) := s1.trans (same_upd h2)
  have big : ∀ {n : Nat}, n ≤ 100 → n ≤ sizeLine := fun h => Nat.le_trans h (by decide)
  have q1 : SqT K (upd (upd H1 p1 (.tup [.str s])) p2 (.tup it)) p1 [.str s] := .inl (.inl (same_upd h2 _ _ upd_same))
  have fin : ∀ (H2 : Hp) (p3 : Addr), Same H1 H2 → SqT K H2 p3 (.str s :: it) → tTup (tCons tm tNil) σ H2 (fun y H3 => rCatA K (.ref p3) y H3 Q) := fun H2 p3 s3 q3 => by
    refine hm _ _ ⟨Nat.le_of_ble_eq_true rfl, fun p4 h4 => ?_⟩
    refine ⟨p3, p4, _, _, rfl, rfl, same_sq (same_upd h4) q3, .inl (.inl upd_same), big (by simp only [List.length_cons, List.length_nil]; omega), (fun e => by cases e), (fun _ e => by cases e), fun _ _ p5 h5 => ?_⟩
    exact q H1 _ p5 g (s3.trans ((same_upd h4).trans (same_upd h5))) (.inl (.inl upd_same))
  refine ⟨p1, p2, _, _, rfl, rfl, q1, .inl (.inl upd_same), big (by simp only [List.length_cons, List.length_nil]; omega), (fun e => by cases e), fun _ e => ?_, fun _ _ p3 h3 => ?_⟩
  · subst e
    exact fin _ p1 s2 q1
  · exact fin _ p3 (s2.trans (same_upd h3)) (.inl (.inl upd_same))
end Cw

set_option Elab.async false
set_option linter.all false
set_option maxRecDepth 100000
set_option maxHeartbeats 4000000
namespace Cw
open PySem PySem.Spec PyProof.Rows L2
def Ends2 (K : PySem.W.Frag) (w : World) (a : Addr) : Prop := ∃ es n, KDict K w a es n ∧ (∃ t, PySem.W.nsIn K a "else" = some (some (.str "if" t))) ∧ (∃ t, PySem.W.nsIn K a "in" = some (some (.str "let" t))) ∧ ∀ z : Str, z ≠ "else" → z ≠ "in" → PySem.W.nsIn K a z = some none
def Foll3 (K : PySem.W.Frag) (w : World) (a : Addr) : Prop := ∃ es n, KDict K w a es n ∧ (∃ t, PySem.W.nsIn K a "if" = some (some (.str "then" t))) ∧ (∃ t, PySem.W.nsIn K a "then" = some (some (.str "else" t))) ∧ (∃ t, PySem.W.nsIn K a "let" = some (some (.str "in" t)))
def spComplete (K : PySem.W.Frag) (C : Addr) : Sp := fun vs H Q _ => ∃ (H0 : Hp) (c p wl : Addr) (k t : Str) (r : List CwP.KT) (w : CwP.Wt) (W : List CwP.Wt) (m : PyData) (a : Addr) (md : CwP.Md), vs = [.ref c, .ref wl, .ref a] ∧ Rdg K C H0 H c p wl ((k, t) :: r) (w :: W) ∧ Dp K H (.ref a) m ∧ OnT m ∧ CwP.comp k t r (w :: W) m = some md ∧ OutM K C H0 c p wl md Q
theorem iteT' {p : Bool} {A B : Prop} (h : p = true) (b : A) : if p = true then A else B := by
  rw [if_pos h]
  exact b
section
variable {n k : Nat} {P : Program} {w : World} {K : PySem.W.Frag} {mg : Str → Option Value} {base : Heap} {S : Addr → Option Sp}
variable {C : Addr}
abbrev s_complete : Stmt := topS 70
theorem sc_complete : FnScope ["cursor", "waiting", "made", "inner", "word"] ["cursor", "waiting", "made"] (defScope s_complete) := ⟨rfl, rfl, rfl, by decide +kernel, rfl, by decide +kernel, by decide +kernel⟩
theorem ok_complete {f : Addr} {fd : FuncData} (F : Fun K "complete" "complete" s_complete f fd) {f_with_argument : Addr} {d_with_argument : FuncData} (h_with_argument : Hd K mg "with_argument" s_with_argument ["cursor", "waiting", "inner", "made"] f_with_argument d_with_argument) (G_with_argument : FnOk P w K mg base CX0 3 f_with_argument d_with_argument ["cursor", "waiting", "inner", "made"] (spWith K C)) {a_ENDINGS : Addr} {u_ENDINGS : Value} (h_ENDINGS : Cst K mg "ENDINGS" (.ref a_ENDINGS) u_ENDINGS) (t_ENDINGS : Ends2 K w a_ENDINGS) {a_FOLLOWERS : Addr} {u_FOLLOWERS : Value} (h_FOLLOWERS : Cst K mg "FOLLOWERS" (.ref a_FOLLOWERS) u_FOLLOWERS) (t_FOLLOWERS : Foll3 K w a_FOLLOWERS) (M : CurM P w K mg base C) : FnOk P w K mg base CX0 4 f fd ["cursor", "waiting", "made"] (spComplete K C) := by
  refine F.ok sc_complete (fun vs H Q E h => ?_) (fun cdv A outer s H vs Q E hr h => ?_)
  · obtain ⟨_, _, _, _, _, _, _, _, _, _, _, _, rfl, _⟩ := h
    rfl
  · obtain ⟨H0, c, p, wl, k, t, r, w0, W, m, a, md, rfl, rd, dm, om, hm, q⟩ := h
    obtain ⟨T, fK, dK, mK, bK, GK, fB, dB, mB, bB, GB, fT, dT, mT, bT, GT, fS, dS, mS, bS, GS⟩ := M
    obtain ⟨ee, ne, DE, ⟨tk1, E1⟩, ⟨tk2, E2⟩, E3⟩ := t_ENDINGS
    obtain ⟨ef, nf, DF, ⟨tk3, F1⟩, ⟨tk4, F2⟩, ⟨tk5, F3⟩⟩ := t_FOLLOWERS
    refine ⟨_, (pss_cons (ps_set (i := 3) sc_complete.nd rfl (.inl rfl) (pe_bm0 PySem.F.plainAttrs_list PySem.F.slot_list_pop PySem.F.type_list_pop mt_pop (pv 1)))
  (pss_cons (ps_set (i := 4) sc_complete.nd rfl (.inl rfl) (pe_ix ix_tup (pv 3) pe_int (fun _ _ => rfl)))
  (pss_cons (ps_if (pt_cmpR op_eq (pv 4) pe_str (nomark _)) (pss_cons (ps_expr (pe_meth (pv 0) T.cl mT GT (hr.mono (by decide)) bT .nil pass0 (pa_cons pe_str pa_nil)))
  (pss_one (ps_ret (pv 2)))) pss_nil)
  (pss_cons (ps_if (pt_cmpR op_in_seq (pv 4) (pe_tup (pa_cons pe_str (pa_cons pe_str pa_nil))) (by rfl)) (pss_one (ps_ret (pe_call G_with_argument (hr.mono (by decide)) (by rfl) h_with_argument.g h_with_argument.F.kp h_with_argument.b .nil pass0 (pa_cons (pv 0) (pa_cons (pv 1) (pa_cons (pv 3) (pa_cons (pv 2) pa_nil))))))) pss_nil)
  (pss_cons (ps_if (pt_cmpR (op_in_kd DE) (pv 4) (pe_glob (v := .ref a_ENDINGS) rfl h_ENDINGS.g h_ENDINGS.r) (by rfl)) (pss_one (ps_ret (pe_op op_catA (pe_op op_catA (pe_tup (pa_cons (pe_ix ix_kdict (pe_glob (v := .ref a_ENDINGS) rfl h_ENDINGS.g h_ENDINGS.r) (pv 4) (fun _ _ => rfl)) pa_nil)) (pe_slice sl_tupA (pv 3) (po_some pe_int) po_none)) (pe_tup (pa_cons (pv 2) pa_nil))))) pss_nil)
  (pss_cons (ps_expr (pe_bm PySem.F.plainAttrs_list PySem.F.slot_list_append PySem.F.type_list_append mt_append (pv 1) (pa_cons (pe_op op_catA (pe_op op_catA (pe_tup (pa_cons (pe_meth (pv 0) T.cl mT GT (hr.mono (by decide)) bT .nil pass0 (pa_cons (pe_ix ix_kdict (pe_glob (v := .ref a_FOLLOWERS) rfl h_FOLLOWERS.g h_FOLLOWERS.r) (pv 4) (fun _ _ => rfl)) pa_nil)) pa_nil)) (pe_slice sl_tupA (pv 3) (po_some pe_int) po_none)) (pe_tup (pa_cons (pv 2) pa_nil))) pa_nil)))
  (pss_one (ps_ret pe_non)))))))), ?_⟩
    obtain ⟨x, vs, l1, ls, e2, hx, rd1, e3, nd, hn⟩ := rd.pop
    have dm1 : Dp K (upd H wl (.lst vs.reverse)) (.ref a) m := dp_fr (A := [wl]) ((Fr.refl H).set (List.mem_singleton.mpr rfl)) (same_nt e2) om dm
    have e2' : upd H wl (.lst vs.reverse) wl = some (.lst vs.reverse) := upd_same
    refine seqA (asgA ⟨_, rfl, rd.ty, wl, _, x, rfl, rfl, e2, by simp, ?_⟩)
    rw [List.dropLast_concat]
    generalize upd H wl (.lst vs.reverse) = H1 at hx rd1 e3 dm1 e2'
    obtain ⟨b, it, rfl, sq⟩ := hx.hd
    refine nameA ?_
    dsimp only
    refine seqA (asgA ⟨_, rfl, b, _, 0, _, rfl, rfl, sq, atI_nat (j := 0) rfl, nameA ?_⟩)
    dsimp only
    have tk0 := rd1.tk (k, t) (List.mem_cons_self ..)
    have sz0 := rd.sz
    have pick : ∀ (z : Str) {σ : L2.St} {R : Bool → Hp → Prop}, σ[4]? = some (some (.str z)) → (∀ H2, Same H1 H2 → R (decide (z ∈ (["new", "call"] : List Str))) H2) → tTest (tOp (rIn K false) (tVar 4) (tTup (tCons (tC (.str "new")) (tCons (tC (.str "call")) tNil)))) σ H1 R := fun z σ R e g => ⟨_, e, Nat.le_of_ble_eq_true rfl, fun a ha => ⟨a, (["new", "call"] : List Str).map V.str, rfl, .inr (.inl (.inl upd_same)), rfl, strs_flat _, _, rfl, by
        rw [if_neg (by decide), in_strs]
        exact g _ (same_upd ha)⟩⟩
    cases w0 with
    | par =>
      have hm2 : (if k = ")" then some (CwP.Md.O r W m) else none) = some md := hm
      by_cases g : k = ")"
      · subst g
        rw [if_pos rfl] at hm2
        refine seqA (ifA (eqz_q rfl (ite2 (fun g => ?_) (fun g => absurd (by decide) g))))
        refine seqA (cm_q (fun R r => ⟨_, rfl, r⟩) rd1.cur ne1 ne2 ⟨c, p, ")", t, r, rfl, rd1.cur, fun H2 f2 c2 => ?_⟩)
        have rd2 := rd1.go1 f2 c2
        dsimp only
        exact retA ⟨_, rfl, q.fo _ _ _ _ _ (Option.some.inj hm2).symm rd2 (dp_fr f2 rd1.nc om dm1) om⟩
      · rw [if_neg g] at hm2
        cases hm2
    | args z nm ds =>
      obtain ⟨l, b', us, el, eb, sq', g1, g2, g3, hz⟩ := hx
      obtain rfl : b = b' := V.ref.inj eb
      subst el
      have zz := sz0.2 z nm ds (List.mem_cons_self ..)
      have zw := sz0.1
      simp only [List.length_cons] at zz zw
      have hw : ∀ H2, Same H1 H2 → spWith K C [.ref c, .ref wl, .ref b, .ref a] H2 Q E0 := fun H2 s2 =>
        ⟨H0, c, p, wl, k, t, r, W, z, nm, ds, m, a, b, l, vs, ls, md, rfl, rd1.same s2, s2 _ _ e2', e3.fr (A := []) (Fr.of s2) (fun _ m => by cases m) (fun _ _ m => by cases m), nd, hn, ⟨l, b, us, rfl, rfl, same_sq s2 sq', s2 _ _ g1, dps_keep s2 g2, g3, hz⟩, dp_keep s2 dm1, om, by omega, by omega, hm, q⟩
      rcases hz with rfl | rfl
      · dsimp only [hdW]
        (refine seqA (ifA (eqz_q rfl (ite2 (fun g => absurd g (by decide)) (fun g => nextA ?_)))); dsimp only)
        refine seqA (ifA (pick "new" rfl fun H2 s2 => iteT' (by decide) (retA ⟨_, rfl, _, rfl, _, rfl, _, rfl, hw H2 s2⟩)))
      · dsimp only [hdW]
        (refine seqA (ifA (eqz_q rfl (ite2 (fun g => absurd g (by decide)) (fun g => nextA ?_)))); dsimp only)
        refine seqA (ifA (pick "call" rfl fun H2 s2 => iteT' (by decide) (retA ⟨_, rfl, _, rfl, _, rfl, _, rfl, hw H2 s2⟩)))
    | else_ d1 d2 =>
      have hm2 : some (CwP.Md.O ((k, t) :: r) W (CwP.eIf d1 d2 m)) = some md := hm
      obtain ⟨_, b', v1, v2, eb, sq', g1, g2, g3, g4⟩ := hx
      obtain rfl : b = b' := V.ref.inj eb
      dsimp only [hdW]
      (refine seqA (ifA (eqz_q rfl (ite2 (fun g => absurd g (by decide)) (fun g => nextA ?_)))); dsimp only)
      refine seqA (ifA (pick "else" rfl fun H2 s2 => iteF' (by decide) (nextA ?_)))
      dsimp only
      refine seqA (ifA ⟨_, rfl, _, some _, rfl, rfl, E1, _, rfl, iteT (retA ?_)⟩)
      refine cat3_q (z := "else") (s := "if") (it := [v1, v2]) (fun H3 => Same H2 H3) (fun R g => ⟨_, rfl, _, _, .str "if", rfl, rfl, ⟨ee, ne, _, DE.at_, DE.lit, E1, ⟨tk1, rfl⟩⟩, g _ (Same.refl _)⟩) (fun H R r => ⟨_, rfl, r⟩) (fun H R r => ⟨_, rfl, r⟩) (fun H3 s3 => same_sq (s2.trans s3) sq') (Nat.le_of_ble_eq_true rfl) (fun H3 H4 p' s3 s4 sqp => ?_)
      have ss := s2.trans (s3.trans s4)
      exact q.fo _ _ _ _ _ (Option.some.inj hm2).symm (rd1.same ss) (.tup sqp (.cons (.str _) (.cons (dp_keep ss g1) (.cons (dp_keep ss g3) (.cons (dp_keep ss dm1) .nil))))) (.tuple _ (fun x mm => by
            simp only [List.mem_cons, List.not_mem_nil, or_false] at mm
            rcases mm with rfl | rfl | rfl | rfl
            · exact .str _
            · exact g2
            · exact g4
            · exact om))
    | in_ wd d1 =>
      have hm2 : some (CwP.Md.O ((k, t) :: r) W (CwP.eLet wd d1 m)) = some md := hm
      obtain ⟨_, b', v1, eb, sq', g1, g2⟩ := hx
      obtain rfl : b = b' := V.ref.inj eb
      dsimp only [hdW]
      (refine seqA (ifA (eqz_q rfl (ite2 (fun g => absurd g (by decide)) (fun g => nextA ?_)))); dsimp only)
      refine seqA (ifA (pick "in" rfl fun H2 s2 => iteF' (by decide) (nextA ?_)))
      dsimp only
      refine seqA (ifA ⟨_, rfl, _, some _, rfl, rfl, E2, _, rfl, iteT (retA ?_)⟩)
      refine cat3_q (z := "in") (s := "let") (it := [.str wd, v1]) (fun H3 => Same H2 H3) (fun R g => ⟨_, rfl, _, _, .str "let", rfl, rfl, ⟨ee, ne, _, DE.at_, DE.lit, E2, ⟨tk2, rfl⟩⟩, g _ (Same.refl _)⟩) (fun H R r => ⟨_, rfl, r⟩) (fun H R r => ⟨_, rfl, r⟩) (fun H3 s3 => same_sq (s2.trans s3) sq') (Nat.le_of_ble_eq_true rfl) (fun H3 H4 p' s3 s4 sqp => ?_)
      have ss := s2.trans (s3.trans s4)
      exact q.fo _ _ _ _ _ (Option.some.inj hm2).symm (rd1.same ss) (.tup sqp (.cons (.str _) (.cons (.str _) (.cons (dp_keep ss g1) (.cons (dp_keep ss dm1) .nil))))) (.tuple _ (fun x mm => by
            simp only [List.mem_cons, List.not_mem_nil, or_false] at mm
            rcases mm with rfl | rfl | rfl | rfl
            · exact .str _
            · exact .str _
            · exact g2
            · exact om))
    | ife =>
      have hm2 : (if k = "then" then some (CwP.Md.P r ((.then_ m) :: W)) else none) = some md := hm
      by_cases gk : k = "then"
      · subst gk
        rw [if_pos rfl] at hm2
        obtain ⟨_, b', eb, sq'⟩ := hx
        obtain rfl : b = b' := V.ref.inj eb
        have te : t = "then" := tk0.2.2 (by show ¬ ("then" : Str) ∈ (["name", "word", "integer", "strange", "end"] : List Str); decide)
        subst te
        dsimp only [hdW]
        (refine seqA (ifA (eqz_q rfl (ite2 (fun g => absurd g (by decide)) (fun g => nextA ?_)))); dsimp only)
        refine seqA (ifA (pick "if" rfl fun H2 s2 => iteF' (by decide) (nextA ?_)))
        have rd2 := rd1.same s2
        dsimp only
        refine seqA (ifA ⟨_, rfl, _, none, rfl, rfl, E3 _ (by decide) (by decide), _, rfl, iteF (nextA ?_)⟩)
        dsimp only
        refine seqA ⟨_, rfl, rd2.ty, ?_⟩
        refine cat3_q (z := "if") (s := "then") (it := []) (fun H3 => Fr [c] H2 H3 ∧ Cur K C H3 c p r) (fun R g => cm_q (fun R r => ⟨_, rfl, r⟩) rd2.cur ne1 ne2 ⟨_, rfl, _, _, .str "then", rfl, rfl, ⟨ef, nf, _, DF.at_, DF.lit, F1, ⟨tk3, rfl⟩⟩, c, p, "then", "then", r, rfl, rd2.cur, fun H3 f3 c3 => g _ ⟨f3, c3⟩⟩) (fun H R r => ⟨_, rfl, r⟩) (fun H R r => ⟨_, rfl, r⟩) (fun H3 g => sqt_fr g.1 rd2.nc (same_sq s2 sq')) (Nat.le_of_ble_eq_true rfl) (fun H3 H4 p' g3 s4 sqp => ?_)
        have rd4 := (rd2.go1 g3.1 g3.2).same s4
        have dm4 := dp_keep s4 (dp_fr g3.1 rd2.nc om (dp_keep s2 dm1))
        obtain ⟨xs, ex, lx, rd5⟩ := rd4.push (w := (.then_ m)) (x := .ref p') ⟨rfl, p', _, rfl, sqp, dm4, om⟩ ((rd1.sz.cons (w := (.then_ m)) (fun _ _ _ e => by cases e)))
        refine ⟨wl, xs, _, rfl, rfl, ex, lx, ?_⟩
        dsimp only
        exact retA (q.fp _ _ _ (Option.some.inj hm2).symm rd5)
      · rw [if_neg gk] at hm2
        cases hm2
    | then_ d1 =>
      have hm2 : (if k = "else" then some (CwP.Md.P r ((.else_ d1 m) :: W)) else none) = some md := hm
      by_cases gk : k = "else"
      · subst gk
        rw [if_pos rfl] at hm2
        obtain ⟨_, b', v1, eb, sq', g1, g2⟩ := hx
        obtain rfl : b = b' := V.ref.inj eb
        have te : t = "else" := tk0.2.2 (by show ¬ ("else" : Str) ∈ (["name", "word", "integer", "strange", "end"] : List Str); decide)
        subst te
        dsimp only [hdW]
        (refine seqA (ifA (eqz_q rfl (ite2 (fun g => absurd g (by decide)) (fun g => nextA ?_)))); dsimp only)
        refine seqA (ifA (pick "then" rfl fun H2 s2 => iteF' (by decide) (nextA ?_)))
        have rd2 := rd1.same s2
        dsimp only
        refine seqA (ifA ⟨_, rfl, _, none, rfl, rfl, E3 _ (by decide) (by decide), _, rfl, iteF (nextA ?_)⟩)
        dsimp only
        refine seqA ⟨_, rfl, rd2.ty, ?_⟩
        refine cat3_q (z := "then") (s := "else") (it := [v1]) (fun H3 => Fr [c] H2 H3 ∧ Cur K C H3 c p r) (fun R g => cm_q (fun R r => ⟨_, rfl, r⟩) rd2.cur ne1 ne2 ⟨_, rfl, _, _, .str "else", rfl, rfl, ⟨ef, nf, _, DF.at_, DF.lit, F2, ⟨tk4, rfl⟩⟩, c, p, "else", "else", r, rfl, rd2.cur, fun H3 f3 c3 => g _ ⟨f3, c3⟩⟩) (fun H R r => ⟨_, rfl, r⟩) (fun H R r => ⟨_, rfl, r⟩) (fun H3 g => sqt_fr g.1 rd2.nc (same_sq s2 sq')) (Nat.le_of_ble_eq_true rfl) (fun H3 H4 p' g3 s4 sqp => ?_)
        have rd4 := (rd2.go1 g3.1 g3.2).same s4
        have dm4 := dp_keep s4 (dp_fr g3.1 rd2.nc om (dp_keep s2 dm1))
        obtain ⟨xs, ex, lx, rd5⟩ := rd4.push (w := (.else_ d1 m)) (x := .ref p') ⟨rfl, p', v1, _, rfl, sqp, dp_keep s4 (dp_fr g3.1 rd2.nc g2 (dp_keep s2 g1)), g2, dm4, om⟩ ((rd1.sz.cons (w := (.else_ d1 m)) (fun _ _ _ e => by cases e)))
        refine ⟨wl, xs, _, rfl, rfl, ex, lx, ?_⟩
        dsimp only
        exact retA (q.fp _ _ _ (Option.some.inj hm2).symm rd5)
      · rw [if_neg gk] at hm2
        cases hm2
    | let_ wd =>
      have hm2 : (if k = "in" then some (CwP.Md.P r ((.in_ wd m) :: W)) else none) = some md := hm
      by_cases gk : k = "in"
      · subst gk
        rw [if_pos rfl] at hm2
        obtain ⟨_, b', eb, sq'⟩ := hx
        obtain rfl : b = b' := V.ref.inj eb
        have te : t = "in" := tk0.2.2 (by show ¬ ("in" : Str) ∈ (["name", "word", "integer", "strange", "end"] : List Str); decide)
        subst te
        dsimp only [hdW]
        (refine seqA (ifA (eqz_q rfl (ite2 (fun g => absurd g (by decide)) (fun g => nextA ?_)))); dsimp only)
        refine seqA (ifA (pick "let" rfl fun H2 s2 => iteF' (by decide) (nextA ?_)))
        have rd2 := rd1.same s2
        dsimp only
        refine seqA (ifA ⟨_, rfl, _, none, rfl, rfl, E3 _ (by decide) (by decide), _, rfl, iteF (nextA ?_)⟩)
        dsimp only
        refine seqA ⟨_, rfl, rd2.ty, ?_⟩
        refine cat3_q (z := "let") (s := "in") (it := [.str wd]) (fun H3 => Fr [c] H2 H3 ∧ Cur K C H3 c p r) (fun R g => cm_q (fun R r => ⟨_, rfl, r⟩) rd2.cur ne1 ne2 ⟨_, rfl, _, _, .str "in", rfl, rfl, ⟨ef, nf, _, DF.at_, DF.lit, F3, ⟨tk5, rfl⟩⟩, c, p, "in", "in", r, rfl, rd2.cur, fun H3 f3 c3 => g _ ⟨f3, c3⟩⟩) (fun H R r => ⟨_, rfl, r⟩) (fun H R r => ⟨_, rfl, r⟩) (fun H3 g => sqt_fr g.1 rd2.nc (same_sq s2 sq')) (Nat.le_of_ble_eq_true rfl) (fun H3 H4 p' g3 s4 sqp => ?_)
        have rd4 := (rd2.go1 g3.1 g3.2).same s4
        have dm4 := dp_keep s4 (dp_fr g3.1 rd2.nc om (dp_keep s2 dm1))
        obtain ⟨xs, ex, lx, rd5⟩ := rd4.push (w := (.in_ wd m)) (x := .ref p') ⟨rfl, p', _, rfl, sqp, dm4, om⟩ ((rd1.sz.cons (w := (.in_ wd m)) (fun _ _ _ e => by cases e)))
        refine ⟨wl, xs, _, rfl, rfl, ex, lx, ?_⟩
        dsimp only
        exact retA (q.fp _ _ _ (Option.some.inj hm2).symm rd5)
      · rw [if_neg gk] at hm2
        cases hm2
    | sign z d1 => cases hm
end
end Cw

set_option Elab.async false
set_option linter.all false
set_option maxRecDepth 100000
set_option maxHeartbeats 4000000
namespace Cw
open PySem PySem.Spec PyProof.Rows L2
def Near3 (K : PySem.W.Frag) (w : World) (a : Addr) : Prop := ∃ es n, KDict K w a es n ∧ ∀ z : Str, z ∈ CwP.sgs → ∃ b, PySem.W.nsIn K a z = some (some (.ref b)) ∧ ∀ H, SqT K H b ((CwP.nearer z).map V.str)
def spOn (K : PySem.W.Frag) (C : Addr) : Sp := fun vs H Q _ => ∃ (H0 : Hp) (c p wl : Addr) (ts r : List CwP.KT) (W : List CwP.Wt) (m d : PyData) (n : Nat) (a : Addr), vs = [.ref c, .ref wl, .ref a] ∧ Rdg K C H0 H c p wl ts W ∧ Dp K H (.ref a) m ∧ OnT m ∧ ReN n (.O ts W m) (.D r d) ∧
  (∀ n' ts' W' H', n' < n → ReN n' (.P ts' W') (.D r d) → Rdg K C H0 H' c p wl ts' W' → Q .non H') ∧ (∀ a' H', Rdg K C H0 H' c p wl r [] → Dp K H' (.ref a') d → OnT d → Q (.ref a') H')
theorem ren_D {n : Nat} {r r' : List CwP.KT} {d d' : PyData} (h : ReN n (.D r d) (.D r' d')) : n = 0 ∧ r = r' ∧ d = d' := by
  cases n with
  | zero =>
    have h : CwP.Md.D r d = CwP.Md.D r' d' := h
    cases h
    exact ⟨rfl, rfl, rfl⟩
  | succ n =>
    obtain ⟨c, h, _⟩ := h
    cases h
theorem comp_noD {k t : Str} {r r' : List CwP.KT} {w : CwP.Wt} {W : List CwP.Wt} {m m' : PyData} (h : CwP.comp k t r (w :: W) m = some (.D r' m')) : False := by
  cases w <;> (unfold CwP.comp at h; (repeat' (split at h)); all_goals (first | contradiction | (cases h; done) | (cases h; contradiction)))
theorem near_sub {k z : Str} (h : z ∈ CwP.nearer k) : z ∈ CwP.sgs := by
  unfold CwP.nearer at h
  split at h
  · rcases List.mem_singleton.mp h with rfl
    decide
  · exact h
section
variable {n k : Nat} {P : Program} {w : World} {K : PySem.W.Frag} {mg : Str → Option Value} {base : Heap} {S : Addr → Option Sp}
variable {C : Addr}
abbrev s_read_on : Stmt := topS 67
theorem sc_read_on : FnScope ["cursor", "waiting", "made", "kind"] ["cursor", "waiting", "made"] (defScope s_read_on) := ⟨rfl, rfl, rfl, by decide +kernel, rfl, by decide +kernel, by decide +kernel⟩
theorem ok_read_on {f : Addr} {fd : FuncData} (F : Fun K "read_on" "read_on" s_read_on f fd) {f_read_field : Addr} {d_read_field : FuncData} (h_read_field : Hd K mg "read_field" s_read_field ["cursor", "made"] f_read_field d_read_field) (G_read_field : FnOk P w K mg base CX0 3 f_read_field d_read_field ["cursor", "made"] (spField K C)) {f_joined : Addr} {d_joined : FuncData} (h_joined : Hd K mg "joined" s_joined ["waiting", "made", "signs"] f_joined d_joined) (G_joined : FnOk P w K mg base CX0 1 f_joined d_joined ["waiting", "made", "signs"] (spJoined K C)) {f_complete : Addr} {d_complete : FuncData} (h_complete : Hd K mg "complete" s_complete ["cursor", "waiting", "made"] f_complete d_complete) (G_complete : FnOk P w K mg base CX0 4 f_complete d_complete ["cursor", "waiting", "made"] (spComplete K C)) {a_SIGNS_bodies : Addr} {u_SIGNS_bodies : Value} (h_SIGNS_bodies : Cst K mg "SIGNS_bodies" (.ref a_SIGNS_bodies) u_SIGNS_bodies) (t_SIGNS_bodies : ∀ H : Hp, SqT K H a_SIGNS_bodies (CwP.sgs.map V.str)) {a_NEARER : Addr} {u_NEARER : Value} (h_NEARER : Cst K mg "NEARER" (.ref a_NEARER) u_NEARER) (t_NEARER : Near3 K w a_NEARER) (M : CurM P w K mg base C) : FnOk P w K mg base CX0 5 f fd ["cursor", "waiting", "made"] (spOn K C) := by
  refine F.ok sc_read_on (fun vs H Q E h => ?_) (fun cdv A outer s H vs Q E hr h => ?_)
  · obtain ⟨_, _, _, _, _, _, _, _, _, _, _, rfl, _⟩ := h
    rfl
  · obtain ⟨H0, c, p, wl, ts, r, W, m, d, n, a, rfl, rd, dm, om, hn, q1, q2⟩ := h
    obtain ⟨T, fK, dK, mK, bK, GK, fB, dB, mB, bB, GB, fT, dT, mT, bT, GT, fS, dS, mS, bS, GS⟩ := M
    obtain ⟨en, nn, DN, N1⟩ := t_NEARER
    refine ⟨_, (pss_one (ps_while PassesOwn.never (pt_val pe_bl) (pss_cons (ps_set (i := 3) sc_read_on.nd rfl (.inl rfl) (pe_meth0 (pv 0) T.cl mK GK (hr.mono (by decide)) bK .nil pass0))
  (pss_one (ps_if (pt_cmpR op_eq (pv 3) pe_str (nomark _)) (pss_one (ps_set (i := 2) sc_read_on.nd rfl (.inl rfl) (pe_call G_read_field (hr.mono (by decide)) (by rfl) h_read_field.g h_read_field.F.kp h_read_field.b .nil pass0 (pa_cons (pv 0) (pa_cons (pv 2) pa_nil))))) (pss_one (ps_if (pt_cmpR op_in_seq (pv 3) (pe_glob (v := .ref a_SIGNS_bodies) rfl h_SIGNS_bodies.g h_SIGNS_bodies.r) (by rfl)) (pss_cons (ps_set (i := 2) sc_read_on.nd rfl (.inl rfl) (pe_call G_joined (hr.mono (by decide)) (by rfl) h_joined.g h_joined.F.kp h_joined.b .nil pass0 (pa_cons (pv 1) (pa_cons (pv 2) (pa_cons (pe_ix ix_kdict (pe_glob (v := .ref a_NEARER) rfl h_NEARER.g h_NEARER.r) (pv 3) (fun _ _ => rfl)) pa_nil)))))
  (pss_cons (ps_expr (pe_bm PySem.F.plainAttrs_list PySem.F.slot_list_append PySem.F.type_list_append mt_append (pv 1) (pa_cons (pe_tup (pa_cons (pe_meth (pv 0) T.cl mT GT (hr.mono (by decide)) bT .nil pass0 (pa_cons (pv 3) pa_nil)) (pa_cons (pv 2) pa_nil))) pa_nil)))
  (pss_one (ps_ret pe_non)))) (pss_cons (ps_set (i := 2) sc_read_on.nd rfl (.inl rfl) (pe_call G_joined (hr.mono (by decide)) (by rfl) h_joined.g h_joined.F.kp h_joined.b .nil pass0 (pa_cons (pv 1) (pa_cons (pv 2) (pa_cons (pe_glob (v := .ref a_SIGNS_bodies) rfl h_SIGNS_bodies.g h_SIGNS_bodies.r) pa_nil)))))
  (pss_cons (ps_if (pt_not (pt_truth (pv 1) (by intro _; rfl))) (pss_one (ps_ret (pv 2))) pss_nil)
  (pss_cons (ps_set (i := 2) sc_read_on.nd rfl (.inl rfl) (pe_call G_complete (hr.mono (by decide)) (by rfl) h_complete.g h_complete.F.kp h_complete.b .nil pass0 (pa_cons (pv 0) (pa_cons (pv 1) (pa_cons (pv 2) pa_nil)))))
  (pss_one (ps_if (pt_cmpR op_isN (pv 2) pe_non (nomark _)) (pss_one (ps_ret pe_non)) pss_nil)))))))))))), ?_⟩
    refine ⟨fun k σ H' => ∃ ts' W' m' a' c3, σ = [some (.ref c), some (.ref wl), some (.ref a'), c3] ∧ k ≤ n ∧ Rdg K C H0 H' c p wl ts' W' ∧ Dp K H' (.ref a') m' ∧ OnT m' ∧ ReN k (.O ts' W' m') (.D r d), ⟨n, ts, W, m, a, none, rfl, Nat.le_refl _, rd, dm, om, hn⟩, ?_⟩
    rintro k σ H1 ⟨ts', W', m', a', c3, rfl, hk, rd1, dm1, om1, h1⟩
    match k, h1, hk with
    | 0, h1, _ => cases h1
    | k + 1, ⟨md, hs, h2⟩, hk =>
    match ts', rd1, hs with
    | [], _, hs => cases hs
    | (k1, t1) :: r1, rd1, hs =>
    refine ⟨_, rfl, iteT ⟨_, fun σ' H' h => h, ?_⟩⟩
    refine seqA (asgA (cm_q (fun R r => ⟨_, rfl, r⟩) rd1.cur ne5 ne6 ⟨c, p, k1, t1, r1, rfl, rd1.cur, nameA ?_⟩))
    dsimp only
    have hs2 : (if k1 = "." then CwP.pField r1 W' m'
      else if k1 ∈ CwP.sgs then some (.P r1 (.sign k1 (CwP.joined W' m' (CwP.nearer k1)).2 :: (CwP.joined W' m' (CwP.nearer k1)).1))
      else CwP.comp k1 t1 r1 (CwP.joined W' m' CwP.sgs).1 (CwP.joined W' m' CwP.sgs).2) = some md := hs
    refine ifA (eqz_q rfl (ite2 (fun g => ?_) (fun g => ?_)))
    · have g := of_decide_eq_true g
      subst g
      rw [if_pos rfl] at hs2
      refine asgA ⟨_, rfl, _, rfl, H0, c, p, wl, t1, r1, W', m', a', md, rfl, rd1, dm1, om1, hs2, fun r2 m2 a2 H2 e rd2 dm2 om2 => nameA ?_⟩
      subst e
      exact ⟨k, Nat.lt_succ_self _, r2, W', m2, a2, _, rfl, Nat.le_of_succ_le hk, rd2, dm2, om2, h2⟩
    · have g := fun e => g (decide_eq_true e)
      rw [if_neg g] at hs2
      refine ifA ⟨_, rfl, a_SIGNS_bodies, _, rfl, .inr (t_SIGNS_bodies H1), rfl, strs_flat _, _, rfl, ?_⟩
      rw [if_neg (by decide), in_strs]
      refine ite2 (fun g2 => ?_) (fun g2 => ?_)
      · have g2 := of_decide_eq_true g2
        rw [if_pos g2] at hs2
        obtain ⟨b, N2, N3⟩ := N1 k1 g2
        have te : t1 = k1 := (rd1.tk (k1, t1) (List.mem_cons_self ..)).2.2 (by
          show ¬ k1 ∈ (["name", "word", "integer", "strange", "end"] : List Str)
          have g3 := g2
          simp only [CwP.sgs, List.mem_cons, List.not_mem_nil, or_false] at g3
          rcases g3 with rfl | rfl | rfl <;> decide)
        subst te
        refine seqA (asgA ⟨_, rfl, _, rfl, _, rfl, a_NEARER, t1, .ref b, rfl, rfl, ⟨en, nn, _, DN.at_, DN.lit, N2, rfl⟩, H0, c, p, wl, _, W', m', a', b, CwP.nearer t1, rfl, N3, (fun _ h => near_sub h), rd1, dm1, om1, fun a2 H2 rd2 dm2 om2 => nameA ?_⟩)
        dsimp only
        refine seqA ⟨_, rfl, rd2.ty, cm_q (fun R r => ⟨_, rfl, r⟩) rd2.cur ne1 ne2 ⟨_, rfl, c, p, t1, t1, r1, rfl, rd2.cur, fun H3 f3 c3 => ⟨_, rfl, Nat.le_of_ble_eq_true rfl, fun q hq => ?_⟩⟩⟩
        have rd3 := (rd2.go1 f3 c3).mk1 (o := .tup [.str t1, .ref a2]) hq
        obtain ⟨xs, ex, lx, rd4⟩ := rd3.push (w := .sign t1 (CwP.joined W' m' (CwP.nearer t1)).2) (x := .ref q) ⟨rfl, q, _, rfl, .inl (.inl upd_same), dp_keep (same_upd hq) (dp_fr f3 rd2.nc om2 dm2), om2, g2⟩ (rd2.sz.cons (fun _ _ _ e => by cases e))
        refine ⟨wl, xs, _, rfl, rfl, ex, lx, ?_⟩
        dsimp only
        rw [← Option.some.inj hs2] at h2
        exact retA (q1 k _ _ _ hk h2 rd4)
      · have g2 := fun e => g2 (decide_eq_true e)
        rw [if_neg g2] at hs2
        refine seqA (asgA ⟨_, rfl, _, rfl, H0, c, p, wl, _, W', m', a', a_SIGNS_bodies, CwP.sgs, rfl, t_SIGNS_bodies, (fun _ h => h), rd1, dm1, om1, fun a2 H2 rd2 dm2 om2 => nameA ?_⟩)
        generalize CwP.joined W' m' CwP.sgs = J at hs2 rd2 dm2 om2
        obtain ⟨W2, m2⟩ := J
        dsimp only at hs2 rd2 dm2 om2 ⊢
        obtain ⟨vs, ls, e2, e3, _⟩ := rd2.wt
        match W2, vs, e3, e2, rd2, hs2 with
        | [], [], _, e2, rd2, hs2 =>
          refine seqA (ifA ⟨_, rfl, false, .inl ⟨[], SqL.of e2, rfl⟩, iteT (retA ?_)⟩)
          have e : CwP.Md.D ((k1, t1) :: r1) m2 = md := Option.some.inj hs2
          subst e
          obtain ⟨_, e4, e5⟩ := ren_D h2
          subst e4
          subst e5
          exact ⟨_, rfl, q2 a2 H2 rd2 dm2 om2⟩
        | w3 :: W3, x :: vs, _, e2, rd2, hs2 =>
          rw [List.reverse_cons] at e2
          refine seqA (ifA ⟨_, rfl, true, .inl ⟨_, SqL.of e2, by simp⟩, iteF (nextA ?_)⟩)
          dsimp only
          refine seqA (asgA ⟨_, rfl, _, rfl, _, rfl, H0, c, p, wl, k1, t1, r1, w3, W3, m2, a2, md, rfl, rd2, dm2, om2, hs2, ?_, ?_, ?_⟩)
          · intro r3 W4 H3 e rd3
            subst e
            refine nameA ?_
            dsimp only
            exact ifA ⟨_, rfl, rfl, _, rfl, iteT (retA (q1 k _ _ _ hk h2 rd3))⟩
          · intro r3 W4 m3 a3 H3 e rd3 dm3 om3
            subst e
            refine nameA ?_
            dsimp only
            exact ifA ⟨_, rfl, rfl, _, rfl, iteF' (decide_eq_false (by simp)) (nextA ⟨k, Nat.lt_succ_self _, r3, W4, m3, a3, _, rfl, Nat.le_of_succ_le hk, rd3, dm3, om3, h2⟩)⟩
          · intro r3 m3 a3 H3 e _ _ _
            subst e
            exact (comp_noD hs2).elim
        | [], _ :: _, h, _, _, _ => cases h
        | _ :: _, [], h, _, _, _ => cases h
end
end Cw

set_option Elab.async false
set_option linter.all false
set_option maxRecDepth 100000
set_option maxHeartbeats 4000000
namespace Cw
open PySem PySem.Spec PyProof.Rows L2
def spRead (K : PySem.W.Frag) (C : Addr) : Sp := fun vs H Q _ => ∃ (c p : Addr) (ts r : List CwP.KT) (d : PyData), vs = [.ref c] ∧ Cur K C H c p ts ∧ Tk ts ∧ ts.length ≤ 2000000 ∧ CwP.Re valP (.P ts []) (.D r d) ∧ ∀ a H', Fr [c] H H' → Cur K C H' c p r → Dp K H' (.ref a) d → OnT d → Q (.ref a) H'
theorem Rdg.first {K : PySem.W.Frag} {C : Addr} {H : Hp} {c p wl : Addr} {ts : List CwP.KT} (h : Cur K C H c p ts) (t : Tk ts) (l : ts.length ≤ 2000000) (hw : H wl = none) : Rdg K C H (upd H wl (.lst [])) c p wl ts [] := by
  have h' := h.new (o := .lst []) hw
  obtain ⟨dx, rows, all, n, e1, e2, e3, e4⟩ := h
  exact ⟨Fr.of (same_upd hw), h', ⟨_, e2⟩, t, ⟨by simp only [List.length_nil]; omega, fun _ _ _ m => by cases m⟩, hw, [], [], upd_same, rfl, List.nodup_cons.mpr ⟨(fun m => by cases m), List.nodup_nil⟩, fun _ m => by cases m⟩
section
variable {n k : Nat} {P : Program} {w : World} {K : PySem.W.Frag} {mg : Str → Option Value} {base : Heap} {S : Addr → Option Sp}
variable {C : Addr}
abbrev s_read_expression : Stmt := topS 61
theorem sc_read_expression : FnScope ["cursor", "waiting", "made"] ["cursor"] (defScope s_read_expression) := ⟨rfl, rfl, rfl, by decide +kernel, rfl, by decide +kernel, by decide +kernel⟩
theorem ok_read_expression {f : Addr} {fd : FuncData} (F : Fun K "read_expression" "read_expression" s_read_expression f fd) {f_read_primary : Addr} {d_read_primary : FuncData} (h_read_primary : Hd K mg "read_primary" s_read_primary ["cursor", "waiting"] f_read_primary d_read_primary) (G_read_primary : FnOk P w K mg base CX0 5 f_read_primary d_read_primary ["cursor", "waiting"] (spPrimary K C)) {f_read_on : Addr} {d_read_on : FuncData} (h_read_on : Hd K mg "read_on" s_read_on ["cursor", "waiting", "made"] f_read_on d_read_on) (G_read_on : FnOk P w K mg base CX0 5 f_read_on d_read_on ["cursor", "waiting", "made"] (spOn K C)) : FnOk P w K mg base CX0 6 f fd ["cursor"] (spRead K C) := by
  refine F.ok sc_read_expression (fun vs H Q E h => ?_) (fun cdv A outer s H vs Q E hr h => ?_)
  · obtain ⟨_, _, _, _, _, rfl, _⟩ := h
    rfl
  · obtain ⟨c, p, ts, r, d, rfl, hc, ht, hl, hr0, q⟩ := h
    obtain ⟨n, hn⟩ := ReN.of hr0
    refine ⟨_, (pss_cons (ps_set (i := 1) sc_read_expression.nd rfl (.inl rfl) (pe_lst pa_nil))
  (pss_one (ps_while PassesOwn.never (pt_val pe_bl) (pss_cons (ps_set (i := 2) sc_read_expression.nd rfl (.inl rfl) (pe_call G_read_primary (hr.mono (by decide)) (by rfl) h_read_primary.g h_read_primary.F.kp h_read_primary.b .nil pass0 (pa_cons (pv 0) (pa_cons (pv 1) pa_nil))))
  (pss_cons (ps_set (i := 2) sc_read_expression.nd rfl (.inl rfl) (pe_call G_read_on (hr.mono (by decide)) (by rfl) h_read_on.g h_read_on.F.kp h_read_on.b .nil pass0 (pa_cons (pv 0) (pa_cons (pv 1) (pa_cons (pv 2) pa_nil)))))
  (pss_one (ps_if (pt_cmpR op_notN (pv 2) pe_non (nomark _)) (pss_one (ps_ret (pv 2))) pss_nil))))))), ?_⟩
    refine seqA (asgA ⟨Nat.zero_le _, fun wl hw => nameA ?_⟩)
    dsimp only
    have rd0 := Rdg.first hc ht hl hw
    refine ⟨fun k σ H' => ∃ ts' W' c3, σ = [some (.ref c), some (.ref wl), c3] ∧ Rdg K C H H' c p wl ts' W' ∧ ReN k (.P ts' W') (.D r d), ⟨n, ts, [], none, rfl, rd0, hn⟩, ?_⟩
    rintro k σ H1 ⟨ts', W', c3, rfl, rd1, h1⟩
    refine ⟨_, rfl, iteT ⟨_, fun σ' H' h => h, ?_⟩⟩
    refine seqA (asgA ⟨_, rfl, _, rfl, H, c, p, wl, ts', r, W', k, d, rfl, rd1, h1, fun n2 ts2 W2 m2 a2 H2 l2 h2 rd2 dm2 om2 => nameA ?_⟩)
    dsimp only
    refine seqA (asgA ⟨_, rfl, _, rfl, _, rfl, H, c, p, wl, ts2, r, W2, m2, d, n2, a2, rfl, rd2, dm2, om2, h2, fun n3 ts3 W3 H3 l3 h3 rd3 => nameA ?_, fun a3 H3 rd3 dm3 om3 => nameA ?_⟩)
    · dsimp only
      exact ifA ⟨_, rfl, rfl, _, rfl, iteF' (by rfl) (nextA ⟨n3, by omega, ts3, W3, _, rfl, rd3, h3⟩)⟩
    · dsimp only
      refine ifA ⟨_, rfl, rfl, _, rfl, iteT' (by simp) ?_⟩
      exact retA ⟨_, rfl, q a3 H3 rd3.fr rd3.cur dm3 om3⟩
end
end Cw

set_option Elab.async false
set_option linter.all false
set_option maxRecDepth 100000
set_option maxHeartbeats 4000000
namespace Cw
open PySem PySem.Spec PyProof.Rows L2
theorem num_digits {z : Str} (h : numP z = true) : (L z).all digC = true ∧ L z ≠ [] ∧ z.length ≤ 5 := by
  unfold numP at h
  rw [Bool.and_eq_true, Bool.and_eq_true, decide_eq_true_iff, decide_eq_true_iff, decide_eq_true_iff] at h
  obtain ⟨h1, h2, h3⟩ := h
  obtain ⟨_, _, a, b⟩ := nv_p (valP z) (valP0 z) h2
  rw [← h3] at a b
  exact ⟨b, a, h1⟩
theorem kind_int {z : Str} (h : kindOf numP z = "integer") : numP z = true := by
  unfold kindOf at h
  split at h
  · rename_i k
    subst h
    exact absurd k (by decide)
  · split at h
    · exact absurd h (by decide)
    · split at h
      · exact absurd h (by decide)
      · split at h
        · rename_i k
          rw [Bool.and_eq_true] at k
          exact k.2
        · exact absurd h (by decide)
theorem kind_own {z : Str} (h : kindOf numP z ∉ (["name", "word", "integer", "strange", "end"] : List Str)) : z = kindOf numP z := by
  unfold kindOf at h ⊢
  split
  · rfl
  · rename_i k1
    rw [if_neg k1] at h
    split
    · rename_i k2
      rw [if_pos k2] at h
      exact absurd h (by decide)
    · rename_i k2
      rw [if_neg k2] at h
      split
      · rename_i k3
        rw [if_pos k3] at h
        exact absurd h (by decide)
      · rename_i k3
        rw [if_neg k3] at h
        split
        · rename_i k4
          rw [if_pos k4] at h
          exact absurd h (by decide)
        · rename_i k4
          rw [if_neg k4] at h
          exact absurd h (by decide)
theorem tk_kind {z : Str} (l : z.length ≤ 1000000) : ((kindOf numP z, z) : CwP.KT).2.length ≤ 1000000 ∧ (((kindOf numP z, z) : CwP.KT).1 = "integer" → (L ((kindOf numP z, z) : CwP.KT).2).all digC = true ∧ L ((kindOf numP z, z) : CwP.KT).2 ≠ [] ∧ ((kindOf numP z, z) : CwP.KT).2.length ≤ 5) ∧ (((kindOf numP z, z) : CwP.KT).1 ∉ (["name", "word", "integer", "strange", "end"] : List Str) → ((kindOf numP z, z) : CwP.KT).2 = ((kindOf numP z, z) : CwP.KT).1) :=
  ⟨l, fun e => num_digits (kind_int e), fun e => kind_own e⟩
theorem tk_cons {t : CwP.KT} {ts : List CwP.KT} (a : t.2.length ≤ 1000000 ∧ (t.1 = "integer" → (L t.2).all digC = true ∧ L t.2 ≠ [] ∧ t.2.length ≤ 5) ∧ (t.1 ∉ (["name", "word", "integer", "strange", "end"] : List Str) → t.2 = t.1)) (h : Tk ts) : Tk (t :: ts) := fun u m => by
  rcases List.mem_cons.mp m with rfl | m
  · exact a
  · exact h u m
theorem tk_sc {l : List Nat} {ts : List CwP.KT} (h : Sc numP l ts) : l.length ≤ 1000000 → Tk ts ∧ ts.length ≤ l.length + 1 := by
  induction h with
  | nil => exact fun _ => ⟨fun u m => by
      rcases List.mem_singleton.mp m with rfl
      exact ⟨by decide, fun e => absurd e (by decide), fun e => absurd (by decide) e⟩, Nat.le_refl _⟩
  | bla h t ih =>
    intro g
    rw [List.length_cons] at g ⊢
    obtain ⟨a, b⟩ := ih (by omega)
    exact ⟨a, by omega⟩
  | @dig a r ts n h g t ih =>
    intro k
    rw [List.length_append] at k ⊢
    obtain ⟨x, y⟩ := ih (by omega)
    have : 1 ≤ a.length := List.length_pos_iff.mpr n
    exact ⟨tk_cons (tk_kind (by rw [len_sOf]; omega)) x, by rw [List.length_cons]; omega⟩
  | @let_ a r ts n h g t ih =>
    intro k
    rw [List.length_append] at k ⊢
    obtain ⟨x, y⟩ := ih (by omega)
    have : 1 ≤ a.length := List.length_pos_iff.mpr n
    exact ⟨tk_cons (tk_kind (by rw [len_sOf]; omega)) x, by rw [List.length_cons]; omega⟩
  | @one c r ts h g t ih =>
    intro k
    rw [List.length_cons] at k ⊢
    obtain ⟨x, y⟩ := ih (by omega)
    exact ⟨tk_cons (tk_kind (by rw [len_sOf]; show 1 ≤ 1000000; decide)) x, by rw [List.length_cons]; omega⟩
/-- a text of an expression is read to it -/
theorem reads_of {t : Str} {d : PyData} {k : Nat} (hk : k ≤ 3) (h : Tr numP valP k d t) (l : t.length ≤ 1000000) : ∃ ts, Sc numP (L t) ts ∧ Tk ts ∧ ts.length ≤ 2000000 ∧ CwP.Re valP (.P ts []) (.D [((("end" : Str), ("" : Str)) : CwP.KT)] d) := by
  obtain ⟨ts, a, b⟩ := h.low hk (Nat.zero_le _)
  have s := b [] _ rfl .nil
  rw [List.append_nil] at s
  obtain ⟨t1, t2⟩ := tk_sc s (by rw [L_len]; exact l)
  rw [L_len] at t2
  exact ⟨_, s, t1, by omega, CwP.reads_all a⟩
end Cw

set_option Elab.async false
set_option linter.all false
set_option maxRecDepth 100000
set_option maxHeartbeats 4000000
namespace Cw
open PySem PySem.Spec PyProof.Rows L2
def spParse (K : PySem.W.Frag) : Sp := fun vs H Q _ => ∃ (z : Str) (d : PyData) (k : Nat), vs = [.str z] ∧ z.length ≤ 1000000 ∧ k ≤ 3 ∧ Tr numP valP k d z ∧ isExpr d = true ∧ Ok d ∧ ∀ a H', Same H H' → Dp K H' (.ref a) d → OnT d → Q (.ref a) H'
section
variable {n k : Nat} {P : Program} {w : World} {K : PySem.W.Frag} {mg : Str → Option Value} {base : Heap} {S : Addr → Option Sp}
variable {C : Addr}
abbrev s_parse_expression : Stmt := topS 73
theorem sc_parse_expression : FnScope ["text", "cursor", "expression"] ["text"] (defScope s_parse_expression) := ⟨rfl, rfl, rfl, by decide +kernel, rfl, by decide +kernel, by decide +kernel⟩
theorem ok_parse_expression {f : Addr} {fd : FuncData} (F : Fun K "parse_expression" "parse_expression" s_parse_expression f fd) {f_read_expression : Addr} {d_read_expression : FuncData} (h_read_expression : Hd K mg "read_expression" s_read_expression ["cursor"] f_read_expression d_read_expression) (G_read_expression : FnOk P w K mg base CX0 6 f_read_expression d_read_expression ["cursor"] (spRead K C)) {f_is_expression : Addr} {d_is_expression : FuncData} (h_is_expression : Hd K mg "is_expression" s_is_expression ["value"] f_is_expression d_is_expression) (G_is_expression : FnOk P w K mg base CX0 6 f_is_expression d_is_expression ["value"] (sp1 K isExpr)) {u_END : Value} (h_END : Cst K mg "END" (.str "end") u_END) (m_isinstance : mg "isinstance" = none) (m_str : mg "str" = none) (M : CurM P w K mg base C) {fI : Addr} {dI : FuncData} (MC : Mk K C fI) (GI : FnOk P w K mg base CX0 5 fI dI ["self", "text"] (spCinit K C)) (bI : Binds K dI ["self", "text"] []) : FnOk P w K mg base CX0 7 f fd ["text"] (spParse K) := by
  refine F.ok sc_parse_expression (fun vs H Q E h => ?_) (fun cdv A outer s H vs Q E hr h => ?_)
  · obtain ⟨_, _, _, rfl, _⟩ := h
    rfl
  · obtain ⟨z, d, k, rfl, hz, hk, ht, he, hok, q⟩ := h
    obtain ⟨T, fK, dK, mK, bK, GK, fB, dB, mB, bB, GB, fT, dT, mT, bT, GT, fS, dS, mS, bS, GS⟩ := M
    obtain ⟨ts, s1, s2, s3, s4⟩ := reads_of hk ht hz
    refine ⟨_, (pss_cons (ps_if (pt_not (pt_val (pe_callB call_isi (by rfl) m_isinstance (by decide +kernel) (pa_cons (pv 0) (pa_cons (pe_bltn (v := .ty "str") (by rfl) m_str (by decide +kernel) rfl) pa_nil))))) (pss_one ps_dead) pss_nil)
  (pss_cons (ps_set (i := 1) sc_parse_expression.nd rfl (.inl rfl) (pe_make MC GI (hr.mono (by decide)) rfl T.mgC bI .nil pass0 (pa_cons (pv 0) pa_nil)))
  (pss_cons (ps_set (i := 2) sc_parse_expression.nd rfl (.inl rfl) (pe_call G_read_expression (hr.mono (by decide)) (by rfl) h_read_expression.g h_read_expression.F.kp h_read_expression.b .nil pass0 (pa_cons (pv 1) pa_nil)))
  (pss_cons (ps_expr (pe_meth (pv 1) T.cl mT GT (hr.mono (by decide)) bT .nil pass0 (pa_cons (pe_glob (v := .str "end") rfl h_END.g h_END.r) pa_nil)))
  (pss_cons (ps_if (pt_not (pt_val (pe_call G_is_expression (hr.mono (by decide)) (by rfl) h_is_expression.g h_is_expression.F.kp h_is_expression.b .nil pass0 (pa_cons (pv 2) pa_nil)))) (pss_one ps_dead) pss_nil)
  (pss_one (ps_ret (pv 2)))))))), ?_⟩
    refine seqA (ifA (r_isi rfl (.str z) (kb_st (.str z)) ?_))
    refine iteF (nextA ?_)
    dsimp only
    refine seqA (asgA ⟨_, rfl, fun c dx hc hdx ne => ?_⟩)
    have hc0 : upd (upd H dx (.own c)) c (.ins C dx []) c = some (.ins C dx []) := upd_same
    have sm : Same H (upd (upd H dx (.own c)) c (.ins C dx [])) := fun b o e => by
      rw [upd_ne (ne_of_none e hc), upd_ne (ne_of_none e hdx)]
      exact e
    refine ⟨c, dx, z, ts, rfl, hz, s1, hc0, fun p H1 f1 c1 => ⟨rfl, nameA ?_⟩⟩
    dsimp only
    refine seqA (asgA ⟨_, rfl, c, p, ts, _, d, rfl, c1, s2, s3, s4, fun a H2 f2 c2 d2 o2 => nameA ?_⟩)
    dsimp only
    refine seqA (cm_q (fun R r => ⟨_, rfl, r⟩) c2 ne1 ne2 ⟨c, p, "end", "", _, rfl, c2, fun H3 f3 c3 => ?_⟩)
    obtain ⟨dx2, n2, e2⟩ := c2.ins
    have d3 : Dp K H3 (.ref a) d := dp_fr f3 (ins_nt e2) o2 d2
    have sH : Same H H3 := fun b o e => f3 b o (fun m => (ne_of_none e hc) (List.mem_singleton.mp m)) (f2 b o (fun m => (ne_of_none e hc) (List.mem_singleton.mp m)) (f1 b o (fun m => (ne_of_none e hc) (List.mem_singleton.mp m)) (sm b o e)))
    dsimp only
    refine seqA (ifA ⟨_, rfl, _, d, rfl, d3, hok, fun H4 s4 => ⟨_, rfl, ?_⟩⟩)
    rw [he]
    refine iteF (nextA ?_)
    dsimp only
    exact retA ⟨_, rfl, q a H4 (sH.trans s4) (dp_keep s4 d3) o2⟩
end
end Cw

set_option Elab.async false
set_option linter.all false
set_option maxRecDepth 100000
set_option maxHeartbeats 4000000
namespace Cw
open PySem PySem.Spec PyProof.Rows L2
def spPrd (K : PySem.W.Frag) : Sp := fun vs H Q _ => ∃ x d, vs = [x] ∧ Dp K H x d ∧ Ok d ∧ isExpr d = true ∧ ∀ H', Same H H' → Q (.str (etext 7 d)) H'
section
variable {n k : Nat} {P : Program} {w : World} {K : PySem.W.Frag} {mg : Str → Option Value} {base : Heap} {S : Addr → Option Sp}
variable {C : Addr}
abbrev s_printed_expression : Stmt := topS 32
theorem sc_printed_expression : FnScope ["expression"] ["expression"] (defScope s_printed_expression) := ⟨rfl, rfl, rfl, by decide +kernel, rfl, by decide +kernel, by decide +kernel⟩
theorem ok_printed_expression {f : Addr} {fd : FuncData} (F : Fun K "printed_expression" "printed_expression" s_printed_expression f fd) {f_is_expression : Addr} {d_is_expression : FuncData} (h_is_expression : Hd K mg "is_expression" s_is_expression ["value"] f_is_expression d_is_expression) (G_is_expression : FnOk P w K mg base CX0 6 f_is_expression d_is_expression ["value"] (sp1 K isExpr)) {f_expression_text : Addr} {d_expression_text : FuncData} (h_expression_text : Hd K mg "expression_text" s_expression_text ["expression"] f_expression_text d_expression_text) (G_expression_text : FnOk P w K mg base CX0 22 f_expression_text d_expression_text ["expression"] (spTx K 7)) : FnOk P w K mg base CX0 23 f fd ["expression"] (spPrd K) := by
  refine F.ok sc_printed_expression (fun vs H Q E h => ?_) (fun cdv A outer s H vs Q E hr h => ?_)
  · obtain ⟨_, _, rfl, _⟩ := h
    rfl
  · obtain ⟨x, d, rfl, hx, hok, he, q⟩ := h
    have hf := he
    rw [expr_form, Bool.and_eq_true, decide_eq_true_iff] at hf
    refine ⟨_, (pss_cons (ps_if (pt_not (pt_val (pe_call G_is_expression (hr.mono (by decide)) (by rfl) h_is_expression.g h_is_expression.F.kp h_is_expression.b .nil pass0 (pa_cons (pv 0) pa_nil)))) (pss_one ps_dead) pss_nil)
  (pss_one (ps_ret (pe_call G_expression_text (hr.mono (by decide)) (by rfl) h_expression_text.g h_expression_text.F.kp h_expression_text.b .nil pass0 (pa_cons (pv 0) pa_nil))))), ?_⟩
    refine seqA (ifA ⟨_, rfl, _, d, rfl, hx, hok, fun H1 s1 => ⟨_, rfl, ?_⟩⟩)
    rw [he]
    refine iteF (nextA ?_)
    dsimp only
    exact retA ⟨_, rfl, x, d, rfl, dp_keep s1 hx, hok, hf.1, hf.2, fun H2 s2 => q H2 (s1.trans s2)⟩
end
end Cw

set_option Elab.async false
set_option linter.all false
set_option maxRecDepth 100000
set_option maxHeartbeats 4000000
namespace Cw
open PySem PySem.Spec PyProof.Rows L2 CwP
variable {num : Str → Bool} {val : Str → Int}
/-! ### texts put together from any texts of the parts -/
def TrAll (num : Str → Bool) (val : Str → Int) : List PyData → List Str → Prop
  | [], [] => True
  | d :: ds, t :: ts => Tr num val 3 d t ∧ TrAll num val ds ts
  | _, _ => False
theorem Tr.at0 {d : PyData} {t : Str} (h : Tr num val 3 d t) : Tr num val 0 d t := h.low (Nat.le_refl _) (Nat.zero_le _)
theorem ta_joinL : ∀ (ds : List PyData) (ps : List Str), ds ≠ [] → TrAll num val ds ps → ∃ ts, Ta val ds ts ∧ Sx num (L (Str.join ", " ps)) ts
  | [], _, n, _ => absurd rfl n
  | [d], [t], _, ⟨h, _⟩ => by
    obtain ⟨ts, a, b⟩ := h.at0
    exact ⟨ts, .one a, b⟩
  | d :: e :: l, t :: u :: ps, _, ⟨h, h2⟩ => by
    obtain ⟨ts, a, b⟩ := h.at0
    obtain ⟨us, c, g⟩ := ta_joinL (e :: l) (u :: ps) (by simp) h2
    refine ⟨_, .cons a c, ?_⟩
    show Sx num (L (t ++ (", " : Str) ++ Str.join ", " (u :: ps))) _
    rw [L_app, L_app, show ts ++ tk "," :: us = (ts ++ [tk ","]) ++ us by rw [List.append_assoc]; rfl]
    exact (b.appa sa_com2 (by decide +kernel) (by decide +kernel)).appx g
  | [_], [], _, h => by cases h
  | [_], _ :: _ :: _, _, h => by cases h.2
  | _ :: _ :: _, [], _, h => by cases h
  | _ :: _ :: _, [_], _, h => by cases h.2
theorem args_headL (z : Str) : L (("(" : Str) ++ z ++ (")" : Str)) ≠ [] ∧ (L (("(" : Str) ++ z ++ (")" : Str))).head?.any alnC = false := by
  rw [L_app, L_app]
  have e : L "(" = [40] := by decide +kernel
  rw [e]
  refine ⟨?_, ?_⟩
  · intro e
    cases e
  · rfl
theorem sa_argsL {ds : List PyData} {ps : List Str} (h : TrAll num val ds ps) :
    (ds = [] ∧ Sa num (L (("(" : Str) ++ Str.join ", " ps ++ (")" : Str))) [tk "(", tk ")"]) ∨ (∃ ts, Ta val ds ts ∧ Sa num (L (("(" : Str) ++ Str.join ", " ps ++ (")" : Str))) (tk "(" :: ts ++ [tk ")"])) := by
  match ds, ps, h with
  | [], [], _ =>
    refine .inl ⟨rfl, ?_⟩
    rw [L_app, L_app]
    show Sa num (L "(" ++ [] ++ L ")") ([tk "("] ++ [tk ")"])
    rw [List.append_nil]
    exact sa_op.app sa_cl
  | d :: l, t :: ps, h =>
    obtain ⟨ts, a, b⟩ := ta_joinL (d :: l) (t :: ps) (by simp) h
    refine .inr ⟨ts, a, ?_⟩
    rw [L_app, L_app]
    exact (sa_op.appx b).appa sa_cl (by decide) (by decide)
  | [], _ :: _, h => cases h
  | _ :: _, [], h => cases h
theorem tr_new {m c : Str} (hm : isName (.str m) = true) (hc : isWord (.str c) = true) {ds : List PyData} {ps : List Str} (h : TrAll num val ds ps) : Tr num val 3 (eArgs "new" (m ++ ("." : Str) ++ c) ds) (("new " : Str) ++ (m ++ ("." : Str) ++ c) ++ (("(" : Str) ++ Str.join ", " ps ++ (")" : Str))) := by
  obtain ⟨q1, q2⟩ := args_headL (Str.join ", " ps)
  rcases sa_argsL h with ⟨n1, n2⟩ | ⟨ts, n1, n2⟩
  · subst n1
    refine ⟨_, Tx.new0 (val := val) m c, ?_⟩
    rw [L_app, L_app]
    exact (((sa_new.appx (sx_cname hm hc)).appa n2 q1 q2)).x
  · refine ⟨_, Tx.new (val := val) m c n1, ?_⟩
    rw [L_app, L_app]
    have := (((sa_new.appx (sx_cname hm hc)).appa n2 q1 q2)).x
    simp only [List.append_assoc, List.cons_append, List.nil_append] at this ⊢
    exact this
theorem tr_call {m c : Str} (hm : isName (.str m) = true) (hc : isName (.str c) = true) {ds : List PyData} {ps : List Str} (hn : ds ≠ []) (h : TrAll num val ds ps) : Tr num val 3 (eArgs "call" (m ++ ("." : Str) ++ c) ds) ((m ++ ("." : Str) ++ c) ++ (("(" : Str) ++ Str.join ", " ps ++ (")" : Str))) := by
  obtain ⟨q1, q2⟩ := args_headL (Str.join ", " ps)
  rcases sa_argsL h with ⟨n1, n2⟩ | ⟨ts, n1, n2⟩
  · exact absurd n1 hn
  · refine ⟨_, Tx.call (val := val) m c n1, ?_⟩
    rw [L_app]
    exact ((sx_gname hm hc).appa n2 q1 q2).x
theorem tr_field {m c v : Str} (hm : isName (.str m) = true) (hc : isWord (.str c) = true) (hv : isName (.str v) = true) {a : PyData} {t : Str} (h : Tr num val 3 a t) : Tr num val 3 (eField a (m ++ ("." : Str) ++ c) v) (t ++ (".(" : Str) ++ (m ++ ("." : Str) ++ c) ++ ("." : Str) ++ v ++ (")" : Str)) := by
  obtain ⟨ts, ha, hs⟩ := h
  refine ⟨_, .field m c v ha, ?_⟩
  rw [L_app, L_app, L_app, L_app, L_app]
  have x1 := (hs.appa sa_dot2 (by decide +kernel) (by decide +kernel)).appx (sx_cname (num := num) hm hc)
  have x2 := (x1.appa sa_dot (by decide +kernel) (by decide +kernel)).appx (sx_name hv)
  have x3 := (x2.appa sa_cl (by decide +kernel) (by decide +kernel)).x
  simp only [List.append_assoc] at x3 ⊢
  exact x3
theorem tr_if {a b c : PyData} {t u v : Str} (h1 : Tr num val 3 a t) (h2 : Tr num val 3 b u) (h3 : Tr num val 3 c v) : Tr num val 0 (eIf a b c) (("if " : Str) ++ t ++ (" then " : Str) ++ u ++ (" else " : Str) ++ v) := by
  obtain ⟨ts, h1, g1⟩ := h1.at0
  obtain ⟨us, h2, g2⟩ := h2.at0
  obtain ⟨vs, h3, g3⟩ := h3.at0
  refine ⟨_, .ife h1 h2 h3, ?_⟩
  rw [L_app, L_app, L_app, L_app, L_app]
  have x1 := ((sa_if.appx g1).appa sa_then (by decide +kernel) (by decide +kernel)).appx g2
  have x2 := (x1.appa sa_else (by decide +kernel) (by decide +kernel)).appx g3
  simp only [List.append_assoc, List.cons_append, List.nil_append] at x2 ⊢
  exact x2
theorem tr_let {w : Str} (hw : isName (.str w) = true) {b c : PyData} {u v : Str} (h2 : Tr num val 3 b u) (h3 : Tr num val 3 c v) : Tr num val 0 (eLet w b c) (("let " : Str) ++ w ++ (" = " : Str) ++ u ++ (" in " : Str) ++ v) := by
  obtain ⟨us, h2, g2⟩ := h2.at0
  obtain ⟨vs, h3, g3⟩ := h3.at0
  refine ⟨_, .let_ w h2 h3, ?_⟩
  rw [L_app, L_app, L_app, L_app, L_app]
  have x1 := ((sa_let.appx (sx_name hw)).appa sa_eq2 (by decide +kernel) (by decide +kernel)).appx g2
  have x2 := (x1.appa sa_in (by decide +kernel) (by decide +kernel)).appx g3
  simp only [List.append_assoc, List.cons_append, List.nil_append] at x2 ⊢
  exact x2
theorem tr_bin {z : Str} (hz : z = "add" ∨ z = "sub" ∨ z = "mul") {a b : PyData} {t u : Str} (h1 : Tr num val 3 a t) (h2 : Tr num val 3 b u) : Tr num val 0 (eBin z a b) (t ++ signOf z ++ u) := by
  rcases hz with rfl | rfl | rfl
  · obtain ⟨ts, h1, g1⟩ := h1.low (j := 1) (Nat.le_refl _) (by omega)
    obtain ⟨us, h2, g2⟩ := h2.low (j := 2) (Nat.le_refl _) (by omega)
    refine ⟨_, .up1 (.add h1 h2), ?_⟩
    show Sx num (L (t ++ (" + " : Str) ++ u)) _
    rw [L_app, L_app]
    have := (g1.appa sa_plus2 (by decide +kernel) (by decide +kernel)).appx g2
    simp only [List.append_assoc, List.cons_append, List.nil_append] at this ⊢
    exact this
  · obtain ⟨ts, h1, g1⟩ := h1.low (j := 1) (Nat.le_refl _) (by omega)
    obtain ⟨us, h2, g2⟩ := h2.low (j := 2) (Nat.le_refl _) (by omega)
    refine ⟨_, .up1 (.sub h1 h2), ?_⟩
    show Sx num (L (t ++ (" - " : Str) ++ u)) _
    rw [L_app, L_app]
    have := (g1.appa sa_min2 (by decide +kernel) (by decide +kernel)).appx g2
    simp only [List.append_assoc, List.cons_append, List.nil_append] at this ⊢
    exact this
  · obtain ⟨ts, h1, g1⟩ := h1.low (j := 2) (Nat.le_refl _) (by omega)
    obtain ⟨us, h2, g2⟩ := h2.low (j := 3) (Nat.le_refl _) (by omega)
    refine ⟨_, .up1 (.up2 (.mul h1 h2)), ?_⟩
    show Sx num (L (t ++ (" * " : Str) ++ u)) _
    rw [L_app, L_app]
    have := (g1.appa sa_mul2 (by decide +kernel) (by decide +kernel)).appx g2
    simp only [List.append_assoc, List.cons_append, List.nil_append] at this ⊢
    exact this
end Cw

set_option Elab.async false
set_option linter.all false
set_option maxRecDepth 100000
set_option maxHeartbeats 4000000
namespace Cw
open PySem PySem.Spec PyProof.Rows L2 CwP
def spWr (K : PySem.W.Frag) (n : Nat) : Sp := fun vs H Q _ => ∃ r sp x d, vs = [.ref r, .ref sp, x] ∧ Sta r sp H ∧ Dp K H x d ∧ OnT d ∧ Ok d ∧ formN n d = true ∧ ecnt n d ≤ 60 ∧ ∀ (t : Str) H', Tr numP valP 3 d t → t.length ≤ 200 * ecnt n d → Sta r sp H' → Fr [sp] H H' → Q (.str t) H'
theorem inner_parts {d : PyData} (h : Fm d) {z : Str} {r : List PyData} (e : d = .tuple (.str z :: r)) (o : OnT d) : innerL z r = partsOf d ∧ innerOk z r := by
  subst e
  have key : ∀ {z' : Str} {r' : List PyData}, items (.tuple (.str z :: r)) = .str z' :: r' → z = z' ∧ r = r' := fun e => by
    have e : PyData.str z :: r = _ := e
    obtain ⟨e1, e2⟩ := List.cons.inj e
    exact ⟨PyData.str.inj e1, e2⟩
  cases h with
  | int i e h0 h1 p => obtain ⟨rfl, rfl⟩ := key e; rw [p]; exact ⟨rfl, fun h => absurd h (by decide), fun h => absurd h (by decide), fun h => absurd h (by decide)⟩
  | name w e h p => obtain ⟨rfl, rfl⟩ := key e; rw [p]; exact ⟨rfl, fun h => absurd h (by decide), fun h => absurd h (by decide), fun h => absurd h (by decide)⟩
  | next e p => obtain ⟨rfl, rfl⟩ := key e; rw [p]; exact ⟨rfl, fun h => absurd h (by decide), fun h => absurd h (by decide), fun h => absurd h (by decide)⟩
  | new w b e h hb p =>
    obtain ⟨rfl, rfl⟩ := key e
    rw [p]
    obtain ⟨l, rfl⟩ := ont_sq (ont_mem o (d := b) (by simp)) hb
    exact ⟨rfl, fun _ => ⟨_, _, rfl⟩, fun h => absurd h (by decide), fun h => absurd h (by decide)⟩
  | field a w v e h hv p => obtain ⟨rfl, rfl⟩ := key e; rw [p]; exact ⟨rfl, fun h => absurd h (by decide), fun _ => rfl, fun h => absurd h (by decide)⟩
  | call w b e h hb p =>
    obtain ⟨rfl, rfl⟩ := key e
    rw [p]
    obtain ⟨l, rfl⟩ := ont_sq (ont_mem o (d := b) (by simp)) hb
    exact ⟨rfl, fun _ => ⟨_, _, rfl⟩, fun h => absurd h (by decide), fun h => absurd h (by decide)⟩
  | sign z2 hz a b e p =>
    obtain ⟨rfl, rfl⟩ := key e
    rw [p]
    rcases hz with rfl | rfl | rfl <;> exact ⟨rfl, fun h => absurd h (by decide), fun h => absurd h (by decide), fun h => absurd h (by decide)⟩
  | ife a b c e p => obtain ⟨rfl, rfl⟩ := key e; rw [p]; exact ⟨rfl, fun h => absurd h (by decide), fun h => absurd h (by decide), fun h => absurd h (by decide)⟩
  | let_ w b c e h p => obtain ⟨rfl, rfl⟩ := key e; rw [p]; exact ⟨rfl, fun h => absurd h (by decide), fun h => absurd h (by decide), fun _ => rfl⟩
theorem TrAll.snoc {num : Str → Bool} {val : Str → Int} : ∀ {ds : List PyData} {ts : List Str} {d : PyData} {t : Str}, TrAll num val ds ts → Tr num val 3 d t → TrAll num val (ds ++ [d]) (ts ++ [t])
  | [], [], _, _, _, h => ⟨h, True.intro⟩
  | _ :: _, _ :: _, _, _, ⟨h1, h2⟩, h => ⟨h1, h2.snoc h⟩
  | [], _ :: _, _, _, g, _ => g.elim
  | _ :: _, [], _, _, g, _ => g.elim
theorem TrAll.len {num : Str → Bool} {val : Str → Int} : ∀ {ds : List PyData} {ts : List Str}, TrAll num val ds ts → ts.length = ds.length
  | [], [], _ => rfl
  | _ :: _, _ :: _, ⟨_, h⟩ => by rw [List.length_cons, List.length_cons, h.len]
  | [], _ :: _, g => g.elim
  | _ :: _, [], g => g.elim
theorem TrAll.one {num : Str → Bool} {val : Str → Int} {a : PyData} {ts : List Str} (h : TrAll num val [a] ts) : ∃ t, ts = [t] ∧ Tr num val 3 a t := by
  match ts, h with
  | [t], ⟨h, _⟩ => exact ⟨t, rfl, h⟩
theorem TrAll.two {num : Str → Bool} {val : Str → Int} {a b : PyData} {ts : List Str} (h : TrAll num val [a, b] ts) : ∃ t u, ts = [t, u] ∧ Tr num val 3 a t ∧ Tr num val 3 b u := by
  match ts, h with
  | [t, u], ⟨h, g, _⟩ => exact ⟨t, u, rfl, h, g⟩
theorem TrAll.three {num : Str → Bool} {val : Str → Int} {a b c : PyData} {ts : List Str} (h : TrAll num val [a, b, c] ts) : ∃ t u v, ts = [t, u, v] ∧ Tr num val 3 a t ∧ Tr num val 3 b u ∧ Tr num val 3 c v := by
  match ts, h with
  | [t, u, v], ⟨h, g, i, _⟩ => exact ⟨t, u, v, rfl, h, g, i⟩
theorem in2_q {K : PySem.W.Frag} {i : Nat} {z x y : Str} {σ : L2.St} {H : Hp} {Q : Bool → Hp → Prop} (e : σ[i]? = some (some (.str z))) (q : ∀ H1, Same H H1 → Q (decide (z ∈ [x, y])) H1) : tTest (tOp (rIn K false) (tVar i) (tTup (tCons (tC (.str x)) (tCons (tC (.str y)) tNil)))) σ H Q :=
  ⟨.str z, e, by show 2 ≤ sizeLine; decide, fun tq ntq => ⟨tq, ([x, y] : List Str).map V.str, rfl, .inr (.inl (.inl upd_same)), rfl, rfl, _, rfl, by rw [inV_strs]; exact q _ (same_upd ntq)⟩⟩
theorem in3_q {K : PySem.W.Frag} {i : Nat} {z x y u : Str} {σ : L2.St} {H : Hp} {Q : Bool → Hp → Prop} (e : σ[i]? = some (some (.str z))) (q : ∀ H1, Same H H1 → Q (decide (z ∈ [x, y, u])) H1) : tTest (tOp (rIn K false) (tVar i) (tTup (tCons (tC (.str x)) (tCons (tC (.str y)) (tCons (tC (.str u)) tNil))))) σ H Q :=
  ⟨.str z, e, by show 3 ≤ sizeLine; decide, fun tq ntq => ⟨tq, ([x, y, u] : List Str).map V.str, rfl, .inr (.inl (.inl upd_same)), rfl, rfl, _, rfl, by rw [inV_strs]; exact q _ (same_upd ntq)⟩⟩
theorem jn_q {K : PySem.W.Frag} {i : Nat} {D : Addr} {ts : List Str} {σ : L2.St} {H : Hp} {R : VK} (e : σ[i]? = some (some (.ref D))) (h : H D = some (.lst (ts.map V.str))) (l1 : (ts.map (·.length)).sum ≤ 20000) (l2 : ts.length ≤ 39) (q : R (.str (Str.join ", " ts)) H) : tBM K "str" (rJn K) (tC (.str ", ")) (tCons (tVar i) tNil) σ H R :=
  ⟨rfl, .ref D, e, ", ", D, ts, rfl, rfl, .inl (SqL.of h), by rw [show (", " : Str).length = 2 from rfl]; omega, by rw [jn_eq]; exact q⟩
theorem seq_nonnil {bl : List PyData} (h : isSeq 1 3 (.tuple bl) = true) : bl ≠ [] := by
  rintro rfl
  revert h
  decide
section
variable {n k : Nat} {P : Program} {w : World} {K : PySem.W.Frag} {mg : Str → Option Value} {base : Heap} {S : Addr → Option Sp}
variable {C : Addr}
abbrev s__law_wrapped : Stmt := topS 96
theorem sc__law_wrapped : FnScope ["row", "spot", "value", "word", "parts", "made", "k", "part"] ["row", "spot", "value"] (defScope s__law_wrapped) := ⟨rfl, rfl, rfl, by decide +kernel, rfl, by decide +kernel, by decide +kernel⟩
theorem ok__law_wrapped {f : Addr} {fd : FuncData} (F : Fun K "_law_wrapped" "_law_wrapped" s__law_wrapped f fd) {f__law_inner_parts : Addr} {d__law_inner_parts : FuncData} (h__law_inner_parts : Hd K mg "_law_inner_parts" s__law_inner_parts ["value"] f__law_inner_parts d__law_inner_parts) (G__law_inner_parts : FnOk P w K mg base CX0 1 f__law_inner_parts d__law_inner_parts ["value"] (spInner K)) {f__law_expr_text : Addr} {d__law_expr_text : FuncData} (h__law_expr_text : Hd K mg "_law_expr_text" s__law_expr_text ["value", "rank"] f__law_expr_text d__law_expr_text) (G__law_expr_text : ∀ m, FnOk P w K mg base CX0 (2 + m) f__law_expr_text d__law_expr_text ["value", "rank"] (spLtx K m)) {f__law_take : Addr} {d__law_take : FuncData} (h__law_take : Hd K mg "_law_take" s__law_take ["row", "spot", "limit"] f__law_take d__law_take) (G__law_take : FnOk P w K mg base CX0 2 f__law_take d__law_take ["row", "spot", "limit"] (spTk K)) (m_range : mg "range" = none) (bF : Binds K fd ["row", "spot", "value"] []) (gF : mg "_law_wrapped" = some (.ref f)) : ∀ n, FnOk P w K mg base CX0 (20 + n) f fd ["row", "spot", "value"] (spWr K n)
  | 0 => ⟨fun _ _ _ _ h => (by obtain ⟨_, _, _, d, _, _, _, _, _, h, _⟩ := h; cases h), fun _ _ _ _ _ _ _ _ _ _ _ _ _ h => (by obtain ⟨_, _, _, d, _, _, _, _, _, h, _⟩ := h; cases h)⟩
  | n + 1 => by
    have G := ok__law_wrapped F h__law_inner_parts G__law_inner_parts h__law_expr_text G__law_expr_text h__law_take G__law_take m_range bF gF n
    refine F.ok sc__law_wrapped (fun vs H Q E h => ?_) (fun cdv A outer s H vs Q E hr h => ?_)
    · obtain ⟨_, _, _, _, rfl, _⟩ := h
      rfl
    · obtain ⟨r, sp, x, d, rfl, st, hx, ho, hok, hf, hc, q⟩ := h
      refine ⟨_, (pss_cons (ps_set (i := 3) sc__law_wrapped.nd rfl (.inl rfl) (pe_ix ix_tup (pv 2) pe_int (fun _ _ => rfl)))
  (pss_cons (ps_setLc (i := 4) (own := [("part", 7)]) rfl sc__law_wrapped.nd rfl rfl rfl (pi_list (pe_call G__law_inner_parts (hr.mono (Nat.le_trans (by decide) (Nat.le_add_right 20 n))) (by rfl) h__law_inner_parts.g h__law_inner_parts.F.kp h__law_inner_parts.b .nil pass0 (pa_cons (pv 2) pa_nil))) (blkOk_by (N := ["row", "spot", "value", "word", "parts", "made", "k", "part"]) (sc := defScope s__law_wrapped) (by decide +kernel)) (fun _ _ _ _ _ => by exact (pg_name (i := 7) sc__law_wrapped.nd rfl (.inl rfl))) (fun _ _ _ _ _ => by exact pts_nil) (fun _ _ _ _ _ => by exact (pe_call G hr (by rfl) gF F.kp bF .nil pass0 (pa_cons (pv 0) (pa_cons (pv 1) (pa_cons (pv 7) pa_nil))))))
  (pss_cons (ps_if (pt_cmpR op_in_seq (pv 3) (pe_tup (pa_cons pe_str (pa_cons pe_str pa_nil))) (by rfl)) (pss_one (ps_set (i := 5) sc__law_wrapped.nd rfl (.inl rfl) (pe_op op_add_str (pe_op op_add_str (pe_op op_add_str (pe_op op_add_str (pe_ifExp (pt_cmpR op_eq (pv 3) pe_str (nomark _)) pe_str pe_str) (pe_ix ix_tup (pv 2) pe_int (fun _ _ => rfl))) pe_str) (pe_bm PySem.F.plainAttrs_str PySem.F.slot_str_join PySem.F.type_str_join mt_join pe_str (pa_cons (pv 4) pa_nil))) pe_str))) (pss_one (ps_if (pt_cmpR op_eq (pv 3) pe_str (nomark _)) (pss_one (ps_set (i := 5) sc__law_wrapped.nd rfl (.inl rfl) (pe_op op_add_str (pe_op op_add_str (pe_op op_add_str (pe_op op_add_str (pe_op op_add_str (pe_ix ix_list (pv 4) pe_int (fun _ _ => rfl)) pe_str) (pe_ix ix_tup (pv 2) pe_int (fun _ _ => rfl))) pe_str) (pe_ix ix_tup (pv 2) pe_int (fun _ _ => rfl))) pe_str))) (pss_one (ps_if (pt_cmpR op_eq (pv 3) pe_str (nomark _)) (pss_one (ps_set (i := 5) sc__law_wrapped.nd rfl (.inl rfl) (pe_op op_add_str (pe_op op_add_str (pe_op op_add_str (pe_op op_add_str (pe_op op_add_str pe_str (pe_ix ix_list (pv 4) pe_int (fun _ _ => rfl))) pe_str) (pe_ix ix_list (pv 4) pe_int (fun _ _ => rfl))) pe_str) (pe_ix ix_list (pv 4) pe_int (fun _ _ => rfl))))) (pss_one (ps_if (pt_cmpR op_eq (pv 3) pe_str (nomark _)) (pss_one (ps_set (i := 5) sc__law_wrapped.nd rfl (.inl rfl) (pe_op op_add_str (pe_op op_add_str (pe_op op_add_str (pe_op op_add_str (pe_op op_add_str pe_str (pe_ix ix_tup (pv 2) pe_int (fun _ _ => rfl))) pe_str) (pe_ix ix_list (pv 4) pe_int (fun _ _ => rfl))) pe_str) (pe_ix ix_list (pv 4) pe_int (fun _ _ => rfl))))) (pss_one (ps_if (pt_cmpR op_in_seq (pv 3) (pe_tup (pa_cons pe_str (pa_cons pe_str (pa_cons pe_str pa_nil)))) (by rfl)) (pss_one (ps_set (i := 5) sc__law_wrapped.nd rfl (.inl rfl) (pe_op op_add_str (pe_op op_add_str (pe_ix ix_list (pv 4) pe_int (fun _ _ => rfl)) (pe_dget (hu_of hr) (pe_disp (pps_cons pe_str pe_str (pps_cons pe_str pe_str (pps_cons pe_str pe_str pps_nil))) rfl rfl (by decide) (by decide)) (pv 3) (fun _ _ => rfl))) (pe_ix ix_list (pv 4) pe_int (fun _ _ => rfl))))) (pss_one (ps_set (i := 5) sc__law_wrapped.nd rfl (.inl rfl) (pe_call (G__law_expr_text (n + 1)) (hr.mono (by show 2 + (n + 1) ≤ 20 + n; omega)) (by rfl) h__law_expr_text.g h__law_expr_text.F.kp h__law_expr_text.b .nil pass0 (pa_cons (pv 2) (pa_cons pe_int pa_nil))))))))))))))
  (pss_cons (ps_for PassesOwn.never rfl (pi_range1 rfl m_range (pa_cons (pe_op op_add pe_int (pe_call G__law_take (hr.mono (Nat.le_trans (by decide) (Nat.le_add_right 20 n))) (by rfl) h__law_take.g h__law_take.F.kp h__law_take.b .nil pass0 (pa_cons (pv 0) (pa_cons (pv 1) (pa_cons pe_int pa_nil))))) pa_nil)) (pg_name (i := 6) sc__law_wrapped.nd rfl (.inl rfl)) (pss_one (ps_set (i := 5) sc__law_wrapped.nd rfl (.inl rfl) (pe_op op_add_str (pe_op op_add_str pe_str (pv 5)) pe_str))))
  (pss_one (ps_ret (pv 5))))))), ?_⟩
      have zl : ∀ {x : Nat}, x ≤ 200000 → x ≤ sizeLine := fun h => Nat.le_trans h (by decide)
      have tl := tx_len hf hc
      obtain ⟨hform, hparts⟩ := parts_fm hf hc
      have fm := fm_of hform
      obtain ⟨zw, r1, e1, _⟩ := fm.head
      obtain ⟨b1, rfl⟩ : ∃ b1, d = .tuple b1 := by
        cases ho with
        | tuple l t => exact ⟨l, rfl⟩
        | _ => cases e1
      have hx' := hx
      obtain ⟨a, xs, _, rfl, e2, hq, hd⟩ := tu_of hx' rfl
      obtain rfl := PyData.tuple.inj e2
      have e1 : b1 = .str zw :: r1 := e1
      subst e1
      obtain ⟨hin, hio⟩ := inner_parts fm rfl ho
      have hec : ecnt (n + 1) (.tuple (.str zw :: r1)) = 1 + ((partsOf (.tuple (.str zw :: r1))).map (ecnt n)).sum := rfl
      rcases hd with _ | ⟨k0, kr⟩
      cases k0
      rename_i xr
      refine seqA (asgA ⟨.ref a, rfl, a, _, _, _, rfl, rfl, hq, atI_nat (j := 0) rfl, nameA ?_⟩)
      dsimp only
      have hpo : ∀ e, e ∈ partsOf (.tuple (.str zw :: r1)) → OnT e ∧ Ok e := fun e m => ⟨by rw [← hin] at m; exact ont_inner (fun d md => ont_mem ho (List.mem_cons_of_mem _ md)) _ m, parts_ok hform hok m⟩
      refine seqA (asgA ⟨_, rfl, .ref a, zw, r1, rfl, hx', hio, fun H1 L ys s1 hL1 hLH hdy => ⟨L, rfl, ⟨ys, SqL.of hL1⟩, fun D hD => ?_⟩⟩)
      rw [hin] at hdy
      have hly := (dp_get hdy).1
      have hLsp : L ≠ sp := st.sp_ne hLH
      have st1 := st.same s1
      have hDsp : D ≠ sp := st1.sp_ne hD
      generalize hps : partsOf (.tuple (.str zw :: r1)) = ps at *
      have hcnt : (ps.map (ecnt n)).sum ≤ 59 := by rw [hec] at hc; omega
      refine lc_it (walk_list (xs := ys)) (fun j H' => Sta r sp H' ∧ Fr [sp] H1 H' ∧ ∃ ts : List Str, H' D = some (.lst (ts.map V.str)) ∧ TrAll numP valP (ps.take j) ts ∧ (ts.map (·.length)).sum ≤ 200 * ((ps.take j).map (ecnt n)).sum) ⟨st1.new hD, Fr.of (same_upd hD), [], upd_same, True.intro, Nat.zero_le _⟩ (fun j H' _ p => SqL.of (p.2.1 L _ (fun m => hLsp (List.mem_singleton.mp m)) hL1)) ?_ ?_
      · rintro j y2 Hx H2 hj ⟨st2, f2, ts, h2, tr2, sm2⟩ ⟨rfl, hy2⟩
        have hjp : j < ps.length := by omega
        obtain ⟨y3, hy3, hy4⟩ := (dp_get hdy).2 j ps[j] (List.getElem?_eq_getElem hjp)
        obtain rfl : y3 = y2 := Option.some.inj (hy3.symm.trans hy2)
        have hm := List.getElem_mem hjp
        have stp : ps.take (j + 1) = ps.take j ++ [ps[j]] := by rw [List.take_add_one, List.getElem?_eq_getElem hjp]; rfl
        refine ⟨rfl, .ref r, rfl, .ref sp, rfl, y3, rfl, r, sp, y3, ps[j], rfl, st2, dp_fr f2 st1.nt (hpo _ hm).1 hy4, (hpo _ hm).1, (hpo _ hm).2, (hparts _ hm).1, Nat.le_succ_of_le (hparts _ hm).2, fun t H3 tr3 tl3 st3 f3 => ⟨_, f3 D _ (fun m => hDsp (List.mem_singleton.mp m)) h2, ?_, st3.set (fun e => ?_) hDsp, ?_, ts ++ [t], ?_, ?_, ?_⟩⟩
        · rw [List.length_map, tr2.len, List.length_take]
          exact Nat.lt_of_le_of_lt (Nat.le_trans (Nat.min_le_right _ _) (by rw [← hps]; exact parts_len hform)) (by decide)
        · obtain ⟨_, ⟨row, _, hrow⟩, _⟩ := st1
          rw [← e, hD] at hrow
          cases hrow
        · exact (f2.trans f3).upd hD
        · rw [upd_same, List.map_append]
          rfl
        · rw [stp]
          exact tr2.snoc tr3
        · rw [stp, List.map_append, List.sum_append, List.map_append, List.sum_append]
          show _ + (t.length + 0) ≤ 200 * (_ + (ecnt n ps[j] + 0))
          omega
      · rintro H2 ⟨st2, f2, ts, h2, tr2, sm2⟩
        have e9 : ps.take ys.length = ps := List.take_of_length_le (by omega)
        rw [e9] at tr2 sm2
        have fH : Fr [sp] H H2 := (Fr.of s1).trans f2
        have hq2 : SqT K H2 a (.str zw :: xr) := sqt_fr fH st.nt hq
        have hx2 : Dp K H2 (.ref a) (.tuple (.str zw :: r1)) := dp_fr fH st.nt ho hx
        have kr2 : DpAll K H2 xr r1 := by
          cases hx2 with
          | tup h1 h2 => exact dps_fr fH st.nt (fun d m => ont_mem ho (List.mem_cons_of_mem _ m)) kr
        refine nameA ?_
        dsimp only
        have hsum : (ts.map (·.length)).sum ≤ 11800 := by omega
        refine seq_merge (fun σ' H' => (∃ c6 c7 t, σ' = [some (.ref r), some (.ref sp), some (.ref a), some (.str zw), some (.ref D), some (.str t), c6, c7] ∧ Tr numP valP 0 (.tuple (.str zw :: r1)) t ∧ t.length ≤ 150 + (ts.map (·.length)).sum) ∧ Sta r sp H' ∧ Fr [sp] H H') ?_ (fun kont => ?_)
        · rintro σ' H3 ⟨⟨c6, c7, t, rfl, tr3, tl3⟩, st3, f3⟩
          refine seqA ?_
          refine rng1_q (nb := 3) rfl rfl (by decide) (by decide) (by decide) st3 _ (fun m H4 m1 m3 st4 f4 => ?_)
          refine for_range (fun j σ' H' => (∃ c6 t, σ' = [some (.ref r), some (.ref sp), some (.ref a), some (.str zw), some (.ref D), some (.str t), c6, c7] ∧ Tr numP valP (if j = 0 then 0 else 3) (.tuple (.str zw :: r1)) t ∧ t.length ≤ 150 + (ts.map (·.length)).sum + 2 * j) ∧ Sta r sp H' ∧ Fr [sp] H H') ⟨⟨_, t, rfl, tr3, tl3⟩, st4, f3.trans f4⟩ ?_ ?_
          · rintro j σ' H5 hj ⟨⟨c6, t, rfl, tr5, tl5⟩, st5, f5⟩
            have tr0 : Tr numP valP 0 (.tuple (.str zw :: r1)) t := by
              by_cases g : j = 0
              · rw [if_pos g] at tr5; exact tr5
              · rw [if_neg g] at tr5; exact tr5.low (Nat.le_refl _) (Nat.zero_le _)
            refine nameA ?_
            dsimp only
            refine asgA ⟨.str t, rfl, "(", t, rfl, rfl, zl (by show 1 + _ ≤ _; omega), _, ")", rfl, rfl, zl (by rw [slen]; show 1 + _ + 1 ≤ _; omega), nameA ?_⟩
            refine ⟨⟨_, _, rfl, ?_, ?_⟩, st5, f5⟩
            · rw [if_neg (Nat.succ_ne_zero j)]
              exact tr_par tr0
            · rw [slen, slen]
              show 1 + _ + 1 ≤ _
              omega
          · rintro σ' H5 ⟨⟨c6, t, rfl, tr5, tl5⟩, st5, f5⟩
            rw [if_neg (by omega)] at tr5
            exact ⟨.str t, rfl, q t H5 tr5 (by rw [hec]; omega) st5 f5⟩
        cases fm with
        | int i e2 i0 i1 p =>
          have e3 : PyData.str zw :: r1 = _ := e2
          obtain ⟨e4, e5⟩ := List.cons.inj e3
          obtain rfl := PyData.str.inj e4
          subst e5
          rw [p] at hps
          subst hps
          refine ifA (in2_q rfl fun Ha sa => ?_)
          refine ite2 (fun g => absurd g (by decide)) (fun g => ?_)
          refine ifA (eqz_q rfl ?_)
          refine ite2 (fun g => absurd g (by decide)) (fun g => ?_)
          refine ifA (eqz_q rfl ?_)
          refine ite2 (fun g => absurd g (by decide)) (fun g => ?_)
          refine ifA (eqz_q rfl ?_)
          refine ite2 (fun g => absurd g (by decide)) (fun g => ?_)
          refine ifA (in3_q rfl fun Hb sb => ?_)
          refine ite2 (fun g => absurd g (by decide)) (fun g => ?_)
          have sab := sa.trans sb
          refine asgA ⟨.ref a, rfl, .ref a, _, 0, rfl, dp_keep sab hx2, ho, hok, hf, hc, fun H3 s3 => ?_⟩
          rw [rank0]
          refine nameA (kont _ _ ⟨⟨none, none, _, rfl, (etx_tr nv_p (n + 1) _ hf ho).low (lev_le _) (Nat.zero_le _), ?_⟩, st2.same (sab.trans s3), fH.trans (Fr.of (sab.trans s3))⟩)
          have := etext_len (n + 1) _ hf
          rw [hec] at this
          have e8 : (([] : List PyData).map (ecnt n)).sum = 0 := rfl
          omega
        | name w e2 hw p =>
          have e3 : PyData.str zw :: r1 = _ := e2
          obtain ⟨e4, e5⟩ := List.cons.inj e3
          obtain rfl := PyData.str.inj e4
          subst e5
          rw [p] at hps
          subst hps
          refine ifA (in2_q rfl fun Ha sa => ?_)
          refine ite2 (fun g => absurd g (by decide)) (fun g => ?_)
          refine ifA (eqz_q rfl ?_)
          refine ite2 (fun g => absurd g (by decide)) (fun g => ?_)
          refine ifA (eqz_q rfl ?_)
          refine ite2 (fun g => absurd g (by decide)) (fun g => ?_)
          refine ifA (eqz_q rfl ?_)
          refine ite2 (fun g => absurd g (by decide)) (fun g => ?_)
          refine ifA (in3_q rfl fun Hb sb => ?_)
          refine ite2 (fun g => absurd g (by decide)) (fun g => ?_)
          have sab := sa.trans sb
          refine asgA ⟨.ref a, rfl, .ref a, _, 0, rfl, dp_keep sab hx2, ho, hok, hf, hc, fun H3 s3 => ?_⟩
          rw [rank0]
          refine nameA (kont _ _ ⟨⟨none, none, _, rfl, (etx_tr nv_p (n + 1) _ hf ho).low (lev_le _) (Nat.zero_le _), ?_⟩, st2.same (sab.trans s3), fH.trans (Fr.of (sab.trans s3))⟩)
          have := etext_len (n + 1) _ hf
          rw [hec] at this
          have e8 : (([] : List PyData).map (ecnt n)).sum = 0 := rfl
          omega
        | next e2 p =>
          have e3 : PyData.str zw :: r1 = _ := e2
          obtain ⟨e4, e5⟩ := List.cons.inj e3
          obtain rfl := PyData.str.inj e4
          subst e5
          rw [p] at hps
          subst hps
          refine ifA (in2_q rfl fun Ha sa => ?_)
          refine ite2 (fun g => absurd g (by decide)) (fun g => ?_)
          refine ifA (eqz_q rfl ?_)
          refine ite2 (fun g => absurd g (by decide)) (fun g => ?_)
          refine ifA (eqz_q rfl ?_)
          refine ite2 (fun g => absurd g (by decide)) (fun g => ?_)
          refine ifA (eqz_q rfl ?_)
          refine ite2 (fun g => absurd g (by decide)) (fun g => ?_)
          refine ifA (in3_q rfl fun Hb sb => ?_)
          refine ite2 (fun g => absurd g (by decide)) (fun g => ?_)
          have sab := sa.trans sb
          refine asgA ⟨.ref a, rfl, .ref a, _, 0, rfl, dp_keep sab hx2, ho, hok, hf, hc, fun H3 s3 => ?_⟩
          rw [rank0]
          refine nameA (kont _ _ ⟨⟨none, none, _, rfl, (etx_tr nv_p (n + 1) _ hf ho).low (lev_le _) (Nat.zero_le _), ?_⟩, st2.same (sab.trans s3), fH.trans (Fr.of (sab.trans s3))⟩)
          have := etext_len (n + 1) _ hf
          rw [hec] at this
          have e8 : (([] : List PyData).map (ecnt n)).sum = 0 := rfl
          omega
        | new w b e2 hw hb p =>
          have e3 : PyData.str zw :: r1 = _ := e2
          obtain ⟨e4, e5⟩ := List.cons.inj e3
          obtain rfl := PyData.str.inj e4
          subst e5
          rw [p] at hps
          subst hps
          obtain ⟨m, c, rfl, hm, hcw⟩ := cname_cut hw
          obtain ⟨bl, rfl⟩ := ont_sq (ont_mem ho (d := b) (by simp)) hb
          refine ifA (in2_q rfl fun Ha sa => ?_)
          refine ite2 (fun g => ?_) (fun g => absurd (by decide) g)
          have hqa := sqt_keep sa hq2
          have h2a := sa _ _ h2
          have sta := st2.same sa
          have fa := fH.trans (Fr.of sa)
          obtain ⟨_, hle, lw⟩ := cname_len hw
          cases hle
          rcases kr2 with _ | ⟨ka, _ | ⟨kb, _ | _⟩⟩
          cases ka
          have lj := join_len ", " ts
          rw [show (", " : Str).length = 2 from rfl] at lj
          have hbl : bl.length ≤ 12 := seq_lenM (hi := 12) hb
          have htl := tr2.len
          have htl : ts.length ≤ 12 := by rw [htl]; exact hbl
          refine asgA (args_q (pre := ("new " : Str) ++ (m ++ ("." : Str) ++ c)) (js := Str.join ", " ts) (fun R hR => ?_) (fun R hR => jn_q rfl h2a (by omega) (by omega) (hR _ (Same.refl _))) (by rw [slen]; show 4 + _ ≤ _; omega) (by omega) (fun H3 s3 => nameA (kont _ _ ⟨⟨none, none, _, rfl, (tr_new hm hcw tr2).low (Nat.le_refl _) (Nat.zero_le _), ?_⟩, sta.same s3, fa.trans (Fr.of s3)⟩)))
          · refine eqz_q rfl (ite2 (fun _ => ?_) (fun g => absurd (by decide) g))
            refine ⟨.ref a, rfl, a, _, _, _, rfl, rfl, hqa, atI_nat (j := 1) rfl, _, _, rfl, rfl, zl ?_, ?_⟩
            · show 4 + _ ≤ _
              omega
            exact hR
          · have k1 := slen (("new " : Str) ++ (m ++ ("." : Str) ++ c)) (("(" : Str) ++ Str.join ", " ts ++ (")" : Str))
            have k2 : (("new " : Str) ++ (m ++ ("." : Str) ++ c)).length = 4 + (m ++ ("." : Str) ++ c).length := slen _ _
            have k3 : (("(" : Str) ++ Str.join ", " ts ++ (")" : Str)).length = 1 + (Str.join ", " ts).length + 1 := by rw [slen, slen]; rfl
            omega
        | call w b e2 hw hb p =>
          have e3 : PyData.str zw :: r1 = _ := e2
          obtain ⟨e4, e5⟩ := List.cons.inj e3
          obtain rfl := PyData.str.inj e4
          subst e5
          rw [p] at hps
          subst hps
          obtain ⟨m, c, rfl, hm, hcw⟩ := gname_cut hw
          obtain ⟨bl, rfl⟩ := ont_sq (ont_mem ho (d := b) (by simp)) hb
          refine ifA (in2_q rfl fun Ha sa => ?_)
          refine ite2 (fun g => ?_) (fun g => absurd (by decide) g)
          have hqa := sqt_keep sa hq2
          have h2a := sa _ _ h2
          have sta := st2.same sa
          have fa := fH.trans (Fr.of sa)
          obtain ⟨_, hle, lw⟩ := gname_len hw
          cases hle
          rcases kr2 with _ | ⟨ka, _ | ⟨kb, _ | _⟩⟩
          cases ka
          have lj := join_len ", " ts
          rw [show (", " : Str).length = 2 from rfl] at lj
          have hbl : bl.length ≤ 12 := Nat.le_trans (seq_lenM (hi := 3) hb) (by decide)
          have htl := tr2.len
          have htl : ts.length ≤ 12 := by rw [htl]; exact hbl
          refine asgA (args_q (pre := m ++ ("." : Str) ++ c) (js := Str.join ", " ts) (fun R hR => ?_) (fun R hR => jn_q rfl h2a (by omega) (by omega) (hR _ (Same.refl _))) (by omega) (by omega) (fun H3 s3 => nameA (kont _ _ ⟨⟨none, none, _, rfl, (tr_call hm hcw (seq_nonnil hb) tr2).low (Nat.le_refl _) (Nat.zero_le _), ?_⟩, sta.same s3, fa.trans (Fr.of s3)⟩)))
          · refine eqz_q rfl (ite2 (fun g => absurd g (by decide)) (fun _ => ?_))
            refine ⟨.ref a, rfl, a, _, _, _, rfl, rfl, hqa, atI_nat (j := 1) rfl, _, _, rfl, rfl, zl ?_, ?_⟩
            · show 0 + _ ≤ _
              omega
            rw [sempty]; exact hR
          · have k1 := slen (m ++ ("." : Str) ++ c) (("(" : Str) ++ Str.join ", " ts ++ (")" : Str))
            have k3 : (("(" : Str) ++ Str.join ", " ts ++ (")" : Str)).length = 1 + (Str.join ", " ts).length + 1 := by rw [slen, slen]; rfl
            omega
        | field da w v e2 hw hv p =>
          have e3 : PyData.str zw :: r1 = _ := e2
          obtain ⟨e4, e5⟩ := List.cons.inj e3
          obtain rfl := PyData.str.inj e4
          subst e5
          rw [p] at hps
          subst hps
          refine ifA (in2_q rfl fun Ha sa => ?_)
          refine ite2 (fun g => absurd g (by decide)) (fun g => ?_)
          refine ifA (eqz_q rfl ?_)
          refine ite2 (fun g => ?_) (fun g => absurd (by decide) g)
          have hqa := sqt_keep sa hq2
          have h2a := sa _ _ h2
          have sta := st2.same sa
          have fa := fH.trans (Fr.of sa)
          obtain ⟨t1, rfl, q1⟩ := tr2.one
          obtain ⟨m, c, rfl, hm, hcw⟩ := cname_cut hw
          obtain ⟨_, hle, lw⟩ := cname_len hw
          cases hle
          obtain ⟨_, hle, _, lv⟩ := name_len hv
          cases hle
          rcases kr2 with _ | ⟨ka, _ | ⟨kw, _ | ⟨kv, _ | _⟩⟩⟩
          cases kw
          cases kv
          have hsm : t1.length ≤ 11800 := by have e8 : ([t1].map (·.length)).sum = t1.length + 0 := rfl; omega
          have k1 : (t1 ++ (".(" : Str)).length = t1.length + 2 := slen _ _
          have k2 := slen (t1 ++ (".(" : Str)) (m ++ ("." : Str) ++ c)
          have k3 : (t1 ++ (".(" : Str) ++ (m ++ ("." : Str) ++ c) ++ ("." : Str)).length = (t1 ++ (".(" : Str) ++ (m ++ ("." : Str) ++ c)).length + 1 := slen _ _
          have k4 := slen (t1 ++ (".(" : Str) ++ (m ++ ("." : Str) ++ c) ++ ("." : Str)) v
          have k5 : (t1 ++ (".(" : Str) ++ (m ++ ("." : Str) ++ c) ++ ("." : Str) ++ v ++ (")" : Str)).length = (t1 ++ (".(" : Str) ++ (m ++ ("." : Str) ++ c) ++ ("." : Str) ++ v).length + 1 := slen _ _
          refine asgA ⟨.ref D, rfl, D, _, _, _, rfl, rfl, SqL.of h2a, atI_nat (j := 0) rfl, _, ".(", rfl, rfl, zl (by show _ + 2 ≤ _; omega), .ref a, rfl, a, _, _, _, rfl, rfl, hqa, atI_nat (j := 2) rfl, _, _, rfl, rfl, zl (by omega), _, ".", rfl, rfl, zl (by show _ + 1 ≤ _; omega), .ref a, rfl, a, _, _, _, rfl, rfl, hqa, atI_nat (j := 3) rfl, _, v, rfl, rfl, zl (by omega), _, ")", rfl, rfl, zl (by show _ + 1 ≤ _; omega), nameA (kont _ _ ⟨⟨none, none, _, rfl, (tr_field hm hcw hv q1).low (Nat.le_refl _) (Nat.zero_le _), ?_⟩, sta, fa⟩)⟩
          show _ ≤ 150 + (t1.length + 0)
          omega
        | sign z2 hz da db e2 p =>
          have e3 : PyData.str zw :: r1 = _ := e2
          obtain ⟨e4, e5⟩ := List.cons.inj e3
          obtain rfl := PyData.str.inj e4
          subst e5
          rw [p] at hps
          subst hps
          obtain ⟨t1, t2, rfl, q1, q2⟩ := tr2.two
          have nz : zw ≠ "new" ∧ zw ≠ "call" ∧ zw ≠ "field" ∧ zw ≠ "if" ∧ zw ≠ "let" := by rcases hz with rfl | rfl | rfl <;> decide
          refine ifA (in2_q rfl fun Ha sa => ?_)
          refine ite2 (fun g => absurd (of_decide_eq_true g) (by simp [nz.1, nz.2.1])) (fun g => ?_)
          refine ifA (eqz_q rfl (ite2 (fun g => absurd (of_decide_eq_true g) nz.2.2.1) (fun g => ?_)))
          refine ifA (eqz_q rfl (ite2 (fun g => absurd (of_decide_eq_true g) nz.2.2.2.1) (fun g => ?_)))
          refine ifA (eqz_q rfl (ite2 (fun g => absurd (of_decide_eq_true g) nz.2.2.2.2) (fun g => ?_)))
          refine ifA (in3_q rfl fun Hb sb => ?_)
          refine ite2 (fun g => ?_) (fun g => absurd (decide_eq_true (by simp [hz])) g)
          have sab := sa.trans sb
          have h2a := sab _ _ h2
          have sta := st2.same sab
          have fa := fH.trans (Fr.of sab)
          have hsm : t1.length + t2.length ≤ 11800 := by have e8 : ([t1, t2].map (·.length)).sum = t1.length + (t2.length + 0) := rfl; omega
          have ls : (signOf zw).length = 3 := by rcases hz with rfl | rfl | rfl <;> rfl
          have k1 := slen t1 (signOf zw)
          have k2 := slen (t1 ++ signOf zw) t2
          refine asgA ⟨.ref D, rfl, D, _, _, _, rfl, rfl, SqL.of h2a, atI_nat (j := 0) rfl, fun p2 hp2 => ⟨upd_same, signKv, rfl, by decide, ?_⟩⟩
          rw [upd_upd, sign_merge]
          have s0 := same_upd (o := .dK signKv) hp2
          refine ⟨.str zw, rfl, p2, .str (signOf zw), rfl, ?_, _, _, rfl, rfl, zl (by omega), .ref D, rfl, D, _, _, _, rfl, rfl, SqL.of (s0 _ _ h2a), atI_nat (j := 1) rfl, _, _, rfl, rfl, zl (by omega), nameA (kont _ _ ⟨⟨none, none, _, rfl, tr_bin hz q1 q2, ?_⟩, sta.same s0, fa.trans (Fr.of s0)⟩)⟩
          · have h9 := DGet.k (H := upd Hb p2 (.dK signKv)) (a := p2) (kvs := signKv) (k := .inr zw) upd_same
            rcases hz with rfl | rfl | rfl
            · exact h9
            · exact h9
            · exact h9
          · show _ ≤ 150 + (t1.length + (t2.length + 0))
            omega
        | ife da db dc e2 p =>
          have e3 : PyData.str zw :: r1 = _ := e2
          obtain ⟨e4, e5⟩ := List.cons.inj e3
          obtain rfl := PyData.str.inj e4
          subst e5
          rw [p] at hps
          subst hps
          refine ifA (in2_q rfl fun Ha sa => ?_)
          refine ite2 (fun g => absurd g (by decide)) (fun g => ?_)
          refine ifA (eqz_q rfl ?_)
          refine ite2 (fun g => absurd g (by decide)) (fun g => ?_)
          refine ifA (eqz_q rfl ?_)
          refine ite2 (fun g => ?_) (fun g => absurd (by decide) g)
          have hqa := sqt_keep sa hq2
          have h2a := sa _ _ h2
          have sta := st2.same sa
          have fa := fH.trans (Fr.of sa)
          obtain ⟨t1, t2, t3, rfl, q1, q2, q3⟩ := tr2.three
          have hsm : t1.length + (t2.length + t3.length) ≤ 11800 := by have e8 : ([t1, t2, t3].map (·.length)).sum = t1.length + (t2.length + (t3.length + 0)) := rfl; omega
          have k1 : (("if " : Str) ++ t1).length = 3 + t1.length := slen _ _
          have k2 : (("if " : Str) ++ t1 ++ (" then " : Str)).length = (("if " : Str) ++ t1).length + 6 := slen _ _
          have k3 := slen (("if " : Str) ++ t1 ++ (" then " : Str)) t2
          have k4 : (("if " : Str) ++ t1 ++ (" then " : Str) ++ t2 ++ (" else " : Str)).length = (("if " : Str) ++ t1 ++ (" then " : Str) ++ t2).length + 6 := slen _ _
          have k5 := slen (("if " : Str) ++ t1 ++ (" then " : Str) ++ t2 ++ (" else " : Str)) t3
          refine asgA ⟨.ref D, rfl, D, _, _, _, rfl, rfl, SqL.of h2a, atI_nat (j := 0) rfl, _, _, rfl, rfl, zl (by show 3 + _ ≤ _; omega), _, " then ", rfl, rfl, zl (by show _ + 6 ≤ _; omega), .ref D, rfl, D, _, _, _, rfl, rfl, SqL.of h2a, atI_nat (j := 1) rfl, _, _, rfl, rfl, zl (by omega), _, " else ", rfl, rfl, zl (by show _ + 6 ≤ _; omega), .ref D, rfl, D, _, _, _, rfl, rfl, SqL.of h2a, atI_nat (j := 2) rfl, _, _, rfl, rfl, zl (by omega), nameA (kont _ _ ⟨⟨none, none, _, rfl, tr_if q1 q2 q3, ?_⟩, sta, fa⟩)⟩
          show _ ≤ 150 + (t1.length + (t2.length + (t3.length + 0)))
          omega
        | let_ w db dc e2 hw p =>
          have e3 : PyData.str zw :: r1 = _ := e2
          obtain ⟨e4, e5⟩ := List.cons.inj e3
          obtain rfl := PyData.str.inj e4
          subst e5
          rw [p] at hps
          subst hps
          refine ifA (in2_q rfl fun Ha sa => ?_)
          refine ite2 (fun g => absurd g (by decide)) (fun g => ?_)
          refine ifA (eqz_q rfl ?_)
          refine ite2 (fun g => absurd g (by decide)) (fun g => ?_)
          refine ifA (eqz_q rfl ?_)
          refine ite2 (fun g => absurd g (by decide)) (fun g => ?_)
          refine ifA (eqz_q rfl ?_)
          refine ite2 (fun g => ?_) (fun g => absurd (by decide) g)
          have hqa := sqt_keep sa hq2
          have h2a := sa _ _ h2
          have sta := st2.same sa
          have fa := fH.trans (Fr.of sa)
          obtain ⟨t1, t2, rfl, q1, q2⟩ := tr2.two
          obtain ⟨x1, x2, x3, d1, d2, d3, rfl, e9, ka, kb, kc⟩ := dps3 kr2 rfl
          cases e9
          cases ka
          obtain ⟨_, hle, _, lv⟩ := name_len hw
          cases hle
          have hsm : t1.length + t2.length ≤ 11800 := by have e8 : ([t1, t2].map (·.length)).sum = t1.length + (t2.length + 0) := rfl; omega
          have k1 : (("let " : Str) ++ w).length = 4 + w.length := slen _ _
          have k2 : (("let " : Str) ++ w ++ (" = " : Str)).length = (("let " : Str) ++ w).length + 3 := slen _ _
          have k3 := slen (("let " : Str) ++ w ++ (" = " : Str)) t1
          have k4 : (("let " : Str) ++ w ++ (" = " : Str) ++ t1 ++ (" in " : Str)).length = (("let " : Str) ++ w ++ (" = " : Str) ++ t1).length + 4 := slen _ _
          have k5 := slen (("let " : Str) ++ w ++ (" = " : Str) ++ t1 ++ (" in " : Str)) t2
          refine asgA ⟨.ref a, rfl, a, _, _, _, rfl, rfl, hqa, atI_nat (j := 1) rfl, _, _, rfl, rfl, zl (by show 4 + _ ≤ _; omega), _, " = ", rfl, rfl, zl (by show _ + 3 ≤ _; omega), .ref D, rfl, D, _, _, _, rfl, rfl, SqL.of h2a, atI_nat (j := 0) rfl, _, _, rfl, rfl, zl (by omega), _, " in ", rfl, rfl, zl (by show _ + 4 ≤ _; omega), .ref D, rfl, D, _, _, _, rfl, rfl, SqL.of h2a, atI_nat (j := 1) rfl, _, _, rfl, rfl, zl (by omega), nameA (kont _ _ ⟨⟨none, none, _, rfl, tr_let hw q1 q2, ?_⟩, sta, fa⟩)⟩
          show _ ≤ 150 + (t1.length + (t2.length + 0))
          omega
end
end Cw

set_option Elab.async false
set_option linter.all false
set_option maxRecDepth 100000
set_option maxHeartbeats 4000000
namespace L2
open PySem PySem.Spec PyProof.Rows
section
variable {X : Cx} {CX : CXT} {k n : Nat} {f : Addr} {fd : FuncData} {ps ks : List Str} {sp : Sp} {E : XK} {x : Str} {p pos : Pos} {kws : List Keyword} {tk : TA} {g : List Value → List Value → List Value} {gV : List V → List V → List V}
/-- f(k = v, ..) -/
theorem pe_callN0 (F : FnOk X.prog X.w X.K X.mg X.base CX k f fd ps sp) (hr : Room k X.A) (hg : Gl X x) (hm : X.mg x = some (.ref f)) (hk : PySem.W.keepIn X.K (.ref f) = true) (hb : KBn X.K fd ps 0 ks g gV) (hx : Passes CX X E) (hkw : PK X kws tk)
    (hall : (backToKw pos (keywordEach kws X.env)).all (·.1.isSome) = true := by rfl) (hks : (backToKw pos (keywordEach kws X.env)).filterMap (·.1) = ks := by rfl) (hdb : (x == ("__debug__" : Str)) = false := by decide)
    (hpl : ((backTo pos (starEach [] X.env)).any (·.1) || (backToKw pos (keywordEach kws X.env)).any (·.1.isNone)) = false := by rfl) :
    PE X (.Call (.Name x p) [] kws pos) (tCallN 0 ks.length sp gV E tNil tk) := by
  refine ⟨fun pins s σ H Q I h => ?_⟩
  refine wpAny_Call_Name_kw (ld_glob I hg hm ?_ hdb)
  refine PySem.W.callWith_KW0 (h₀ := X.base) I.ok.mod.kin hk hall ?_ hpl
  refine thn (hkw.run pos pins s σ H _ I h) fun ws s2 ⟨zs, H2, I2, rz, l1, l2, q2⟩ => ⟨I2.kIn, ?_⟩
  rw [hks]
  exact run_fnN (us := []) F hr hb hx I2 .nil rz rfl l2 q2
end
/-- a call of a plain def with its one parameter by name -/
theorem Fun.kb1 {K : PySem.W.Frag} {x qual v : Str} {st : Stmt} {f : Addr} {fd : FuncData} (F : Fun K x qual st f fd)
    (h : ∀ (kV doc pm : Value) (an : Option Addr) (cdv ct u : Value), bindArgs (PySem.W.fnOf x qual (defArgs st) (defBody st) (defScope st) .none kV doc pm an cdv ct) ⟨[], [(v, u)]⟩ = pure [(v, u)]) : KBn K fd [v] 0 [v] (fun _ ws => ws) (fun _ zs => zs) := by
  obtain ⟨oc, od, kV, doc, pm, an, cdv, ct, osl, rfl, lk, hcd⟩ := F.ex
  refine ⟨fun s us ws X l1 l2 => ?_, fun _ r => r⟩
  match us, l1, ws, l2 with
  | [], _, [u], _ => exact .of_eq (h kV doc pm an cdv ct u)
end L2
namespace Cw
open PySem PySem.Spec PyProof.Rows L2 CwP
theorem beq_str_refl (z : Str) : (z == z) = true := beq_self_eq_true z
theorem so_refl : ∀ (n : Nat) (d : PyData), OnT d → fits n d → so n d d = true := by
  intro n
  induction n with
  | zero =>
    intro d o h
    cases o with
    | tuple l t => exact h.elim
    | non => rfl
    | bool b => rw [so_bool]; exact beq_self_eq_true b
    | int i => rw [so_int]; exact beq_self_eq_true i
    | str z => rw [so_str]; exact beq_self_eq_true z
  | succ n ih =>
    intro d o h
    cases o with
    | tuple l t =>
      show (l.length == l.length && (List.range l.length).all (fun i => so n (l.getD i .none) (l.getD i .none))) = true
      rw [beq_self_eq_true, Bool.true_and, List.all_eq_true]
      intro i hi
      have hl : i < l.length := List.mem_range.mp hi
      rw [List.getD_eq_getElem?_getD, List.getElem?_eq_getElem hl]
      exact ih _ (t _ (List.getElem_mem hl)) (h.2 _ (List.getElem_mem hl))
    | non => rfl
    | bool b => rw [so_bool]; exact beq_self_eq_true b
    | int i => rw [so_int]; exact beq_self_eq_true i
    | str z => rw [so_str]; exact beq_self_eq_true z
theorem fits_of {k n : Nat} {d : PyData} (h : Sz k n d) (hk : k ≤ 1000) : fits n d := by
  induction h with
  | tuple n l h t ih => exact ⟨by omega, ih⟩
  | non n => cases n <;> trivial
  | bool n b => cases n <;> trivial
  | int n i => cases n <;> trivial
  | str n z _ => cases n <;> trivial
def spLaw (K : PySem.W.Frag) : Sp := fun vs H Q _ => ∃ (a : Addr) (ns : List Int), vs = [.ref a] ∧ SqL K H a (ns.map V.int) ∧ ns.length ≤ 63 ∧ ∀ H', Q (.bl true) H'
theorem ok_e {k n : Nat} {d e : PyData} (z : Sz k n d) (hk : k ≤ 100000) (h : e = d ∨ e = listed d) : Ok e := by
  rcases h with rfl | rfl
  · exact sz_ok z hk
  · exact sz_okl z hk
/-! ### the text of a value with lists in place of tuples -/
theorem strD_l {d : PyData} (h : OnT d) : strD (listed d) = strD d := by
  cases h with
  | tuple l t => rw [listed_tup]; rfl
  | _ => rfl
theorem intD_l {d : PyData} (h : OnT d) : intD (listed d) = intD d := by
  cases h with
  | tuple l t => rw [listed_tup]; rfl
  | _ => rfl
theorem headW_l {d : PyData} (h : OnT d) : headW (listed d) = headW d := by
  unfold headW
  rw [get_listed h, strD_l (ont_geti h _)]
theorem getD_l (r : List PyData) (i : Nat) : (r.map listed).getD i .none = listed (r.getD i .none) := by
  rw [List.getD_eq_getElem?_getD, List.getD_eq_getElem?_getD, List.getElem?_map]
  cases r[i]? with
  | none => rfl
  | some x => rfl
theorem ont_getD {r : List PyData} (h : ∀ d, d ∈ r → OnT d) (i : Nat) : OnT (r.getD i .none) := by
  rw [List.getD_eq_getElem?_getD]
  cases e : r[i]? with
  | none => exact .non
  | some x => exact h x (List.mem_of_getElem? e)
theorem etx_l {f : PyData → Str} (hf : ∀ d, OnT d → f (listed d) = f d) (z : Str) {r : List PyData} (h : ∀ d, d ∈ r → OnT d) : etx z (r.map listed) f = etx z r f := by
  have hp : ∀ ws i, partT f ws (listed (r.getD i .none)) = partT f ws (r.getD i .none) := fun ws i => by
    unfold partT
    rw [headW_l (ont_getD h i), hf _ (ont_getD h i)]
  have ha : ∀ i, argsT f (listed (r.getD i .none)) = argsT f (r.getD i .none) := fun i => by
    unfold argsT
    rw [items_listed (ont_getD h i), List.map_map]
    congr 3
    exact List.map_congr_left fun d m => hf d (ont_items (ont_getD h i) m)
  unfold etx
  simp only [getD_l, strD_l (ont_getD h _), intD_l (ont_getD h _), hp, ha, hf _ (ont_getD h _)]
theorem etext_l : ∀ (n : Nat) (d : PyData), OnT d → etext n (listed d) = etext n d
  | 0, _, _ => rfl
  | n + 1, d, h => by
    have hi := items_listed h
    have ho : ∀ e, e ∈ items d → OnT e := fun e m => ont_items h m
    unfold etext
    rw [hi]
    cases e : items d with
    | nil => rfl
    | cons x r =>
      rw [e] at ho
      have hx := ho x List.mem_cons_self
      rw [List.map_cons]
      cases hx with
      | tuple l t => rw [listed_tup]
      | str z => exact etx_l (etext_l n) z fun e m => ho e (List.mem_cons_of_mem _ m)
      | _ => rfl
theorem exp_eq {d e : PyData} (o : OnT d) (h : e = d ∨ e = listed d) : isExpr e = lawRx d ∧ etext 7 e = etext 7 d := by
  rcases h with rfl | rfl
  · exact ⟨expr_law o, rfl⟩
  · rw [expr_l o]; exact ⟨expr_law o, etext_l 7 _ o⟩
section
variable {n k : Nat} {P : Program} {w : World} {K : PySem.W.Frag} {mg : Str → Option Value} {base : Heap} {S : Addr → Option Sp}
variable {C : Addr}
abbrev s_law : Stmt := topS 97
theorem sc_law : FnScope ["script", "row", "spot", "again", "value", "text"] ["script"] (defScope s_law) := ⟨rfl, rfl, rfl, by decide +kernel, rfl, by decide +kernel, by decide +kernel⟩
theorem ok_law {f : Addr} {fd : FuncData} (F : Fun K "law" "law" s_law f fd) {f__law_numbers : Addr} {d__law_numbers : FuncData} (h__law_numbers : Hd K mg "_law_numbers" s__law_numbers ["script"] f__law_numbers d__law_numbers) (G__law_numbers : FnOk P w K mg base CX0 1 f__law_numbers d__law_numbers ["script"] (spNum K)) {f__law_free_expr : Addr} {d__law_free_expr : FuncData} (h__law_free_expr : Hd K mg "_law_free_expr" s__law_free_expr ["row", "spot", "deep"] f__law_free_expr d__law_free_expr) (G__law_free_expr : FnOk P w K mg base CX0 17 f__law_free_expr d__law_free_expr ["row", "spot", "deep"] (spFxA K)) {f__law_take : Addr} {d__law_take : FuncData} (h__law_take : Hd K mg "_law_take" s__law_take ["row", "spot", "limit"] f__law_take d__law_take) (G__law_take : FnOk P w K mg base CX0 2 f__law_take d__law_take ["row", "spot", "limit"] (spTk K)) {f__law_is_right_expr : Addr} {d__law_is_right_expr : FuncData} (h__law_is_right_expr : Hd K mg "_law_is_right_expr" s__law_is_right_expr ["value"] f__law_is_right_expr d__law_is_right_expr) (G__law_is_right_expr : FnOk P w K mg base CX0 14 f__law_is_right_expr d__law_is_right_expr ["value"] (sp1 K lawRx)) {f__law_expr_text : Addr} {d__law_expr_text : FuncData} (h__law_expr_text : Hd K mg "_law_expr_text" s__law_expr_text ["value", "rank"] f__law_expr_text d__law_expr_text) (G__law_expr_text : FnOk P w K mg base CX0 9 f__law_expr_text d__law_expr_text ["value", "rank"] (spLtx K 7)) {f__law_so : Addr} {d__law_so : FuncData} (h__law_so : Hd K mg "_law_so" s__law_so ["found", "meant"] f__law_so d__law_so) (G__law_so : FnOk P w K mg base CX0 13 f__law_so d__law_so ["found", "meant"] (spSo K 12)) {f_printed_expression : Addr} {d_printed_expression : FuncData} (h_printed_expression : Hd K mg "printed_expression" s_printed_expression ["expression"] f_printed_expression d_printed_expression) (G_printed_expression : FnOk P w K mg base CX0 23 f_printed_expression d_printed_expression ["expression"] (spPrd K)) {f__law_handed : Addr} {d__law_handed : FuncData} (h__law_handed : Hd K mg "_law_handed" s__law_handed ["row", "spot", "value"] f__law_handed d__law_handed) (G__law_handed : FnOk P w K mg base CX0 43 f__law_handed d__law_handed ["row", "spot", "value"] (spHanded K)) {f_parse_expression : Addr} {d_parse_expression : FuncData} (h_parse_expression : Hd K mg "parse_expression" s_parse_expression ["text"] f_parse_expression d_parse_expression) (G_parse_expression : FnOk P w K mg base CX0 7 f_parse_expression d_parse_expression ["text"] (spParse K)) {f__law_wrapped : Addr} {d__law_wrapped : FuncData} (h__law_wrapped : Hd K mg "_law_wrapped" s__law_wrapped ["row", "spot", "value"] f__law_wrapped d__law_wrapped) (G__law_wrapped : FnOk P w K mg base CX0 27 f__law_wrapped d__law_wrapped ["row", "spot", "value"] (spWr K 7)) (m_range : mg "range" = none) (kb_printed_expression : KBn K d_printed_expression ["expression"] 0 ["expression"] (fun _ ws => ws) (fun _ zs => zs)) (kb_parse_expression : KBn K d_parse_expression ["text"] 0 ["text"] (fun _ ws => ws) (fun _ zs => zs)) : FnOk P w K mg base CX0 60 f fd ["script"] (spLaw K) := by
  refine F.ok sc_law (fun vs H Q E h => ?_) (fun cdv A outer s H vs Q E hr h => ?_)
  · obtain ⟨_, _, rfl, _⟩ := h
    rfl
  · obtain ⟨a, ns, rfl, hS, hlen, q⟩ := h
    refine ⟨_, (pss_cons (ps_set (i := 1) sc_law.nd rfl (.inl rfl) (pe_call G__law_numbers (hr.mono (by decide)) (by rfl) h__law_numbers.g h__law_numbers.F.kp h__law_numbers.b .nil pass0 (pa_cons (pv 0) pa_nil)))
  (pss_cons (ps_set (i := 2) sc_law.nd rfl (.inl rfl) (pe_lst (pa_cons pe_int pa_nil)))
  (pss_cons (ps_for PassesOwn.never rfl (pi_range1 rfl m_range (pa_cons pe_int pa_nil)) (pg_name (i := 3) sc_law.nd rfl (.inl rfl)) (pss_cons (ps_set (i := 4) sc_law.nd rfl (.inl rfl) (pe_call G__law_free_expr (hr.mono (by decide)) (by rfl) h__law_free_expr.g h__law_free_expr.F.kp h__law_free_expr.b .nil pass0 (pa_cons (pv 1) (pa_cons (pv 2) (pa_cons (pe_call G__law_take (hr.mono (by decide)) (by rfl) h__law_take.g h__law_take.F.kp h__law_take.b .nil pass0 (pa_cons (pv 1) (pa_cons (pv 2) (pa_cons pe_int pa_nil)))) pa_nil)))))
  (pss_one (ps_if (pt_val (pe_call G__law_is_right_expr (hr.mono (by decide)) (by rfl) h__law_is_right_expr.g h__law_is_right_expr.F.kp h__law_is_right_expr.b .nil pass0 (pa_cons (pv 4) pa_nil))) (pss_cons (ps_set (i := 5) sc_law.nd rfl (.inl rfl) (pe_call G__law_expr_text (hr.mono (by decide)) (by rfl) h__law_expr_text.g h__law_expr_text.F.kp h__law_expr_text.b .nil pass0 (pa_cons (pv 4) (pa_cons pe_int pa_nil))))
  (pss_cons (ps_if (PW.pt (pw_or (pt_not (pt_val (pe_call G__law_so (hr.mono (by decide)) (by rfl) h__law_so.g h__law_so.F.kp h__law_so.b .nil pass0 (pa_cons (pe_callN0 G_printed_expression (hr.mono (by decide)) (by rfl) h_printed_expression.g h_printed_expression.F.kp kb_printed_expression pass0 (pk_cons (pe_call G__law_handed (hr.mono (by decide)) (by rfl) h__law_handed.g h__law_handed.F.kp h__law_handed.b .nil pass0 (pa_cons (pv 1) (pa_cons (pv 2) (pa_cons (pv 4) pa_nil)))) pk_nil)) (pa_cons (pv 5) pa_nil))))) (pw_or1 (pt_not (pt_val (pe_call G__law_so (hr.mono (by decide)) (by rfl) h__law_so.g h__law_so.F.kp h__law_so.b .nil pass0 (pa_cons (pe_callN0 G_parse_expression (hr.mono (by decide)) (by rfl) h_parse_expression.g h_parse_expression.F.kp kb_parse_expression pass0 (pk_cons (pv 5) pk_nil)) (pa_cons (pv 4) pa_nil)))))))) (pss_one (ps_ret pe_bl)) pss_nil)
  (pss_one (ps_if (pt_not (pt_val (pe_call G__law_so (hr.mono (by decide)) (by rfl) h__law_so.g h__law_so.F.kp h__law_so.b .nil pass0 (pa_cons (pe_call G_parse_expression (hr.mono (by decide)) (by rfl) h_parse_expression.g h_parse_expression.F.kp h_parse_expression.b .nil pass0 (pa_cons (pe_call G__law_wrapped (hr.mono (by decide)) (by rfl) h__law_wrapped.g h__law_wrapped.F.kp h__law_wrapped.b .nil pass0 (pa_cons (pv 1) (pa_cons (pv 2) (pa_cons (pv 4) pa_nil)))) pa_nil)) (pa_cons (pv 4) pa_nil))))) (pss_one (ps_ret pe_bl)) pss_nil)))) pss_nil))))
  (pss_one (ps_ret pe_bl))))), ?_⟩
    have zl : ∀ {x : Nat}, x ≤ 100000 → x ≤ sizeLine := fun h => Nat.le_trans h (by decide)
    refine seqA (asgA ⟨.ref a, rfl, a, ns, rfl, hS, hlen, fun H1 r row s1 hr0 hr1 hne hl => nameA ?_⟩)
    dsimp only
    refine seqA (asgA ⟨zl (Nat.le_of_ble_eq_true rfl), fun sp hsp => nameA ?_⟩)
    dsimp only
    have st : Sta r sp (upd H1 sp (.lst [.int 0])) := ⟨fun e => (by rw [← e, hr1] at hsp; cases hsp), ⟨row, hne, same_upd hsp _ _ hr1⟩, 0, upd_same⟩
    generalize upd H1 sp (.lst [.int 0]) = H2 at st ⊢
    refine seqA ⟨4, rfl, by decide, by decide, for_range (lo := 0) (n := 4) (fun i σ H' => (∃ c3 c4 c5, σ = [some (.ref a), some (.ref r), some (.ref sp), c3, c4, c5]) ∧ Sta r sp H') ⟨⟨_, _, _, rfl⟩, st⟩ ?_ ?_⟩
    · rintro i σ H6 hi ⟨⟨c3, c4, c5, rfl⟩, st6⟩
      refine nameA ?_
      dsimp only
      refine seqA (asgA ⟨.ref r, rfl, .ref sp, rfl, .ref r, rfl, .ref sp, rfl, r, sp, 6, rfl, st6, by decide, fun z H7 z0 z1 st7 f7 => ⟨z.toNat, r, sp, by omega, ?_, st7, fun xv dv H8 st8 f8 hv hzv _ => nameA ?_⟩⟩)
      · show [V.ref r, V.ref sp, V.int z] = [V.ref r, V.ref sp, V.int (z.toNat : Int)]
        rw [Int.toNat_of_nonneg z0]
      dsimp only
      have hzv : Sz 300 11 dv := sz_mono hzv (Nat.le_refl _) (by omega)
      have od := sz_ont hzv
      have hok := sz_ok hzv (by decide)
      have hfit := fits_of (sz_mono hzv (Nat.le_refl _) (by decide : 11 ≤ 11)) (by decide)
      refine ifA ⟨xv, rfl, xv, dv, rfl, hv, hok, fun H9 s9 => ⟨_, rfl, ite2 (fun e => ?_) (fun e => nextA ⟨⟨_, _, _, rfl⟩, st8.same s9⟩)⟩⟩
      have hE : isExpr dv = true := (expr_law od).trans e
      have hf := hE
      rw [expr_form, Bool.and_eq_true, decide_eq_true_iff] at hf
      obtain ⟨hf, hc⟩ := hf
      have hv9 := dp_keep s9 hv
      have hlt := tx_len hf hc
      have htr := etx_tr nv_p 7 dv hf od
      refine seqA (asgA ⟨xv, rfl, xv, dv, 0, rfl, hv9, od, hok, hf, hc, fun H10 s10 => ?_⟩)
      rw [rank0]
      refine nameA ?_
      dsimp only
      have s910 := s9.trans s10
      have st10 := st8.same s910
      have hv10 := dp_keep s910 hv
      have ss : ∀ z : Str, so 11 (.str z) (.str z) = true := fun z => by rw [so_str]; exact beq_str_refl z
      refine seqA (ifA ⟨.ref r, rfl, .ref sp, rfl, xv, rfl, r, sp, xv, dv, rfl, st10, hv10, sz_mono hzv (by decide) (by decide), fun xh eh H11 he st11 f11 hh => ⟨rfl, rfl, xh, eh, rfl, hh, ok_e hzv (by decide) he, (exp_eq od he).1.trans e, fun H12 s12 => ⟨.str (etext 7 dv), rfl, .str (etext 7 eh), .str (etext 7 dv), .str (etext 7 eh), .str (etext 7 dv), rfl, .str _, .str _, trivial, _, rfl, ?_⟩⟩⟩)
      rw [(exp_eq od he).2, ss]
      have hv12 : Dp K H12 xv dv := dp_keep s12 (dp_fr f11 st10.nt od hv10)
      have st12 := st11.same s12
      refine iteF ⟨.str (etext 7 dv), rfl, rfl, rfl, etext 7 dv, dv, lev (headW dv), rfl, by omega, lev_le _, htr, hE, hok, fun pa H13 s13 hp op => ⟨xv, rfl, .ref pa, xv, dv, dv, rfl, hp, dp_keep s13 hv12, hfit, _, rfl, ?_⟩⟩
      rw [so_refl 11 dv od hfit]
      refine iteF (nextA ?_)
      dsimp only
      have st13 := st12.same s13
      have hv13 := dp_keep s13 hv12
      refine ifA ⟨.ref r, rfl, .ref sp, rfl, xv, rfl, r, sp, xv, dv, rfl, st13, hv13, od, hok, hf, hc, fun t H14 tr14 tl14 st14 f14 => ⟨t, dv, 3, rfl, by omega, Nat.le_refl _, tr14, hE, hok, fun pb H15 s15 hp15 op15 => ⟨xv, rfl, .ref pb, xv, dv, dv, rfl, hp15, dp_keep s15 (dp_fr f14 st13.nt od hv13), hfit, _, rfl, ?_⟩⟩⟩
      rw [so_refl 11 dv od hfit]
      exact iteF (nextA ⟨⟨_, _, _, rfl⟩, st14.same s15⟩)
    · rintro σ H6 ⟨⟨c3, c4, c5, rfl⟩, st6⟩
      exact q H6
end
end Cw

set_option Elab.async false
set_option linter.all false
set_option maxRecDepth 100000
set_option maxHeartbeats 0
namespace Cw
open PySem PySem.Spec PyProof.Rows L2
/-! ### the written rows -/
def strOf : Value → Option Str
  | .str z _ => some z
  | _ => none
def tupStr (K : PySem.W.Frag) (p : Addr) : Option (List (Option Str)) := match K.lookup p with
  | some ⟨.type c, _, .seq its _, _⟩ => if c = "tuple" ∧ its.size ≤ 100 then some (its.toList.map strOf) else none
  | _ => none
theorem vals_strs : ∀ {l : List Value} {zs : List Str}, l.map strOf = zs.map some → Vals (zs.map V.str) l
  | [], [], _ => .nil
  | [], _ :: _, h => by cases h
  | _ :: _, [], h => by cases h
  | v :: l, z :: zs, h => by
    have h1 : strOf v :: l.map strOf = some z :: zs.map some := h
    injection h1 with h2 h3
    refine .cons ?_ (vals_strs h3)
    cases v with
    | str x t =>
      have e : x = z := Option.some.inj h2
      subst e
      exact ⟨t, rfl⟩
    | _ => cases h2
theorem tup_of {K : PySem.W.Frag} {p : Addr} {zs : List Str} (h : tupStr K p = some (zs.map some)) (H : Hp) : SqT K H p (zs.map V.str) := by
  unfold tupStr at h
  split at h
  · rename_i c d its n sl q
    split at h
    · rename_i hc
      have e := Option.some.inj h
      obtain ⟨e1, e2⟩ := hc
      exact .inr ⟨_, its, n, q, by rw [e1], rfl, Nat.le_trans e2 (by decide), vals_strs e⟩
    · cases h
  · cases h
def rowK (K : PySem.W.Frag) (e : DictEntry) : Option (Str × Option (List (Option Str))) := match e.key, e.val with
  | .str x _, .ref p => some (x, tupStr K p)
  | _, _ => none
def formRows : List (Str × List Str) := [("int", ["number"]), ("name", ["name"]), ("next", []), ("new", ["class", "values"]), ("field", ["part", "class", "name"]), ("call", ["generic", "arguments"]), ("add", ["part", "part"]), ("sub", ["part", "part"]), ("mul", ["part", "part"]), ("if", ["part", "part", "part"]), ("let", ["name", "part", "part"])]
def rowOfF (r : Str × List Str) : Option (Str × Option (List (Option Str))) := some (r.1, some (r.2.map some))
def formsB (K : PySem.W.Frag) (a : Addr) : Bool := match K.lookup a with
  | some ⟨_, _, .dict es _, _⟩ => decide (es.toList.map (rowK K) = formRows.map rowOfF)
  | _ => false
def lookR (z : Str) : List (Str × List Str) → Option (List Str)
  | [] => none
  | r :: l => if z = r.1 then some r.2 else lookR z l
theorem kinds_rows (z : Str) : kindsOf z = lookR z formRows := rfl
theorem find_rows {K : PySem.W.Frag} (z : Str) : ∀ (l : List DictEntry) (rows : List (Str × List Str)), l.map (rowK K) = rows.map rowOfF →
    (lookR z rows = none → l.find? (·.key.isStr z) = none) ∧ (l.any (·.refKey) = false) ∧ ∀ ks, lookR z rows = some ks → ∃ e p, l.find? (·.key.isStr z) = some e ∧ e.val = .ref p ∧ tupStr K p = some (ks.map some)
  | [], [], _ => ⟨fun _ => rfl, rfl, fun _ h => nomatch h⟩
  | [], _ :: _, h => by cases h
  | _ :: _, [], h => by cases h
  | e :: l, r :: rows, h => by
    have h1 : rowK K e :: l.map (rowK K) = rowOfF r :: rows.map rowOfF := h
    injection h1 with h2 h3
    obtain ⟨i1, i2, i3⟩ := find_rows z l rows h3
    obtain ⟨hh, ek, ev⟩ := e
    unfold rowK rowOfF at h2
    split at h2
    · rename_i x t p q1 q2
      have q1 : ek = .str x t := q1
      have q2 : ev = .ref p := q2
      subst q1 q2
      have h4 := Option.some.inj h2
      obtain ⟨h5, h6⟩ := Prod.mk.inj h4
      have ks : ∀ y : Str, (Value.str x t).isStr y = (x == y) := fun y => rfl
      refine ⟨fun g => ?_, ?_, fun ks' g => ?_⟩
      · unfold lookR at g
        by_cases c : z = r.1
        · rw [if_pos c] at g; cases g
        · rw [if_neg c] at g
          rw [List.find?_cons_of_neg]
          · exact i1 g
          · show ¬ (x == z) = true
            rw [beq_iff_eq]
            exact fun c2 => c (by rw [← c2, h5])
      · rw [List.any_cons, i2]
        rfl
      · unfold lookR at g
        by_cases c : z = r.1
        · rw [if_pos c] at g
          have g := Option.some.inj g
          subst g
          refine ⟨_, p, List.find?_cons_of_pos ?_, rfl, h6⟩
          show (x == z) = true
          rw [beq_iff_eq, h5, c]
        · rw [if_neg c] at g
          obtain ⟨e, p', j1, j2, j3⟩ := i3 ks' g
          refine ⟨e, p', ?_, j2, j3⟩
          rw [List.find?_cons_of_neg]
          · exact j1
          · show ¬ (x == z) = true
            rw [beq_iff_eq]
            exact fun c2 => c (by rw [← c2, h5])
    · cases h2
theorem forms_of {K : PySem.W.Frag} {w : World} {a : Addr} (hd : ∃ es n, KDict K w a es n) (h : formsB K a = true) : Forms K w a := by
  obtain ⟨es, n, D⟩ := hd
  refine ⟨es, n, D, fun z => ?_⟩
  unfold formsB at h
  rw [D.at_] at h
  have h1 : es.toList.map (rowK K) = formRows.map rowOfF := of_decide_eq_true h
  obtain ⟨i1, i2, i3⟩ := find_rows z es.toList formRows h1
  rw [kinds_rows]
  refine ⟨fun g => ?_, fun ks g => ?_⟩
  · unfold PySem.W.nsIn
    rw [D.at_]
    show (match es.toList.find? (·.key.isStr z) with | some e => some (some e.val) | none => if es.toList.any (·.refKey) then none else some none) = some none
    rw [i1 g, i2]
    rfl
  · obtain ⟨e, p, j1, j2, j3⟩ := i3 ks g
    refine ⟨p, ?_, tup_of j3⟩
    unfold PySem.W.nsIn
    rw [D.at_]
    show (match es.toList.find? (·.key.isStr z) with | some e => some (some e.val) | none => if es.toList.any (·.refKey) then none else some none) = some (some (.ref p))
    rw [j1, ← j2]
/-! ### written dicts of texts -/
def rowKS (e : DictEntry) : Option (Str × Str) := match e.key, e.val with
  | .str x _, .str y _ => some (x, y)
  | _, _ => none
def dictSB (K : PySem.W.Frag) (a : Addr) (rows : List (Str × Str)) : Bool := match K.lookup a with
  | some ⟨_, _, .dict es _, _⟩ => decide (es.toList.map rowKS = rows.map some)
  | _ => false
def lookS (z : Str) : List (Str × Str) → Option Str
  | [] => none
  | r :: l => if z = r.1 then some r.2 else lookS z l
theorem find_rowsS (z : Str) : ∀ (l : List DictEntry) (rows : List (Str × Str)), l.map rowKS = rows.map some →
    (lookS z rows = none → l.find? (·.key.isStr z) = none) ∧ (l.any (·.refKey) = false) ∧ ∀ y, lookS z rows = some y → ∃ e t, l.find? (·.key.isStr z) = some e ∧ e.val = .str y t
  | [], [], _ => ⟨fun _ => rfl, rfl, fun _ h => nomatch h⟩
  | [], _ :: _, h => by cases h
  | _ :: _, [], h => by cases h
  | e :: l, r :: rows, h => by
    have h1 : rowKS e :: l.map rowKS = some r :: rows.map some := h
    injection h1 with h2 h3
    obtain ⟨i1, i2, i3⟩ := find_rowsS z l rows h3
    obtain ⟨hh, ek, ev⟩ := e
    unfold rowKS at h2
    split at h2
    · rename_i x t p u q1 q2
      have q1 : ek = .str x t := q1
      have q2 : ev = .str p u := q2
      subst q1 q2
      have h4 := Option.some.inj h2
      subst h4
      refine ⟨fun g => ?_, ?_, fun y' g => ?_⟩
      · unfold lookS at g
        by_cases c : z = x
        · rw [if_pos c] at g; cases g
        · rw [if_neg c] at g
          rw [List.find?_cons_of_neg]
          · exact i1 g
          · show ¬ (x == z) = true
            rw [beq_iff_eq]
            exact fun c2 => c c2.symm
      · rw [List.any_cons, i2]
        rfl
      · unfold lookS at g
        by_cases c : z = x
        · rw [if_pos c] at g
          have g := Option.some.inj g
          subst g
          refine ⟨_, u, List.find?_cons_of_pos ?_, rfl⟩
          show (x == z) = true
          rw [beq_iff_eq, c]
        · rw [if_neg c] at g
          obtain ⟨e, p', j1, j2⟩ := i3 y' g
          refine ⟨e, p', ?_, j2⟩
          rw [List.find?_cons_of_neg]
          · exact j1
          · show ¬ (x == z) = true
            rw [beq_iff_eq]
            exact fun c2 => c c2.symm
    · cases h2
theorem dictS_of {K : PySem.W.Frag} {w : World} {a : Addr} {rows : List (Str × Str)} (hd : ∃ es n, KDict K w a es n) (h : dictSB K a rows = true) : ∃ es n, KDict K w a es n ∧ ∀ z : Str, (lookS z rows = none → PySem.W.nsIn K a z = some none) ∧ ∀ y, lookS z rows = some y → ∃ t, PySem.W.nsIn K a z = some (some (.str y t)) := by
  obtain ⟨es, n, D⟩ := hd
  refine ⟨es, n, D, fun z => ?_⟩
  unfold dictSB at h
  rw [D.at_] at h
  have h1 : es.toList.map rowKS = rows.map some := of_decide_eq_true h
  obtain ⟨i1, i2, i3⟩ := find_rowsS z es.toList rows h1
  refine ⟨fun g => ?_, fun y g => ?_⟩
  · unfold PySem.W.nsIn
    rw [D.at_]
    show (match es.toList.find? (·.key.isStr z) with | some e => some (some e.val) | none => if es.toList.any (·.refKey) then none else some none) = some none
    rw [i1 g, i2]
    rfl
  · obtain ⟨e, t, j1, j2⟩ := i3 y g
    refine ⟨t, ?_⟩
    unfold PySem.W.nsIn
    rw [D.at_]
    show (match es.toList.find? (·.key.isStr z) with | some e => some (some e.val) | none => if es.toList.any (·.refKey) then none else some none) = some (some (.str y t))
    rw [j1, ← j2]
/-! ### written dicts of rows of texts -/
def dictTB (K : PySem.W.Frag) (a : Addr) (rows : List (Str × List Str)) : Bool := match K.lookup a with
  | some ⟨_, _, .dict es _, _⟩ => decide (es.toList.map (rowK K) = rows.map rowOfF)
  | _ => false
theorem dictT_of {K : PySem.W.Frag} {w : World} {a : Addr} {rows : List (Str × List Str)} (hd : ∃ es n, KDict K w a es n) (h : dictTB K a rows = true) : ∃ es n, KDict K w a es n ∧ ∀ z : Str, (lookR z rows = none → PySem.W.nsIn K a z = some none) ∧ ∀ ks, lookR z rows = some ks → ∃ p, PySem.W.nsIn K a z = some (some (.ref p)) ∧ ∀ H : Hp, SqT K H p (ks.map V.str) := by
  obtain ⟨es, n, D⟩ := hd
  refine ⟨es, n, D, fun z => ?_⟩
  unfold dictTB at h
  rw [D.at_] at h
  have h1 : es.toList.map (rowK K) = rows.map rowOfF := of_decide_eq_true h
  obtain ⟨i1, i2, i3⟩ := find_rows z es.toList rows h1
  refine ⟨fun g => ?_, fun ks g => ?_⟩
  · unfold PySem.W.nsIn
    rw [D.at_]
    show (match es.toList.find? (·.key.isStr z) with | some e => some (some e.val) | none => if es.toList.any (·.refKey) then none else some none) = some none
    rw [i1 g, i2]
    rfl
  · obtain ⟨e, p, j1, j2, j3⟩ := i3 ks g
    refine ⟨p, ?_, tup_of j3⟩
    unfold PySem.W.nsIn
    rw [D.at_]
    show (match es.toList.find? (·.key.isStr z) with | some e => some (some e.val) | none => if es.toList.any (·.refKey) then none else some none) = some (some (.ref p))
    rw [j1, ← j2]
def RowsS (K : PySem.W.Frag) (w : World) (a : Addr) (rows : List (Str × Str)) : Prop := ∃ es n, KDict K w a es n ∧ ∀ z : Str, (lookS z rows = none → PySem.W.nsIn K a z = some none) ∧ ∀ y, lookS z rows = some y → ∃ t, PySem.W.nsIn K a z = some (some (.str y t))
theorem signs_of {K : PySem.W.Frag} {w : World} {a : Addr} (h : RowsS K w a [("add", " + "), ("sub", " - "), ("mul", " * ")]) : Signs K w a := by
  obtain ⟨es, n, D, h⟩ := h
  refine ⟨es, n, D, fun z => ⟨fun hz => ?_, fun hz => (h z).1 ?_⟩⟩
  · rcases hz with rfl | rfl | rfl <;> exact (h _).2 _ (by decide)
  · show (if z = "add" then some (" + " : Str) else if z = "sub" then some " - " else if z = "mul" then some " * " else none) = none
    rw [if_neg fun e => hz (.inl e), if_neg fun e => hz (.inr (.inl e)), if_neg fun e => hz (.inr (.inr e))]
theorem wordsd_of {K : PySem.W.Frag} {w : World} {a : Addr} (h : RowsS K w a [("+", "add"), ("-", "sub"), ("*", "mul")]) : Words3 K w a := by
  obtain ⟨es, n, D, h⟩ := h
  refine ⟨es, n, D, fun z hz => (h z).2 _ ?_⟩
  have hz : z ∈ (["+", "-", "*"] : List Str) := hz
  simp only [List.mem_cons, List.not_mem_nil, or_false] at hz
  rcases hz with rfl | rfl | rfl <;> decide
theorem foll_of {K : PySem.W.Frag} {w : World} {a : Addr} (h : RowsS K w a [("if", "then"), ("then", "else"), ("let", "in")]) : Foll3 K w a := by
  obtain ⟨es, n, D, h⟩ := h
  exact ⟨es, n, D, (h _).2 _ (by decide), (h _).2 _ (by decide), (h _).2 _ (by decide)⟩
theorem ends_of {K : PySem.W.Frag} {w : World} {a : Addr} (h : RowsS K w a [("else", "if"), ("in", "let")]) : Ends2 K w a := by
  obtain ⟨es, n, D, h⟩ := h
  refine ⟨es, n, D, (h _).2 _ (by decide), (h _).2 _ (by decide), fun z n1 n2 => (h z).1 ?_⟩
  show (if z = "else" then some ("if" : Str) else if z = "in" then some "let" else none) = none
  rw [if_neg n1, if_neg n2]
theorem near_of {K : PySem.W.Frag} {w : World} {a : Addr} (h : ∃ es n, KDict K w a es n ∧ ∀ z : Str, (lookR z [("+", ["+", "-", "*"]), ("-", ["+", "-", "*"]), ("*", ["*"])] = none → PySem.W.nsIn K a z = some none) ∧ ∀ ks, lookR z [("+", ["+", "-", "*"]), ("-", ["+", "-", "*"]), ("*", ["*"])] = some ks → ∃ p, PySem.W.nsIn K a z = some (some (.ref p)) ∧ ∀ H : Hp, SqT K H p (ks.map V.str)) : Near3 K w a := by
  obtain ⟨es, n, D, h⟩ := h
  refine ⟨es, n, D, fun z hz => (h z).2 _ ?_⟩
  have hz : z ∈ (["+", "-", "*"] : List Str) := hz
  simp only [List.mem_cons, List.not_mem_nil, or_false] at hz
  rcases hz with rfl | rfl | rfl <;> decide
end Cw
namespace Cw
open PySem PySem.Spec PyProof.Rows L2
theorem all_mk {l : PySem.W.OpenLaw} {w : World} {K : PySem.W.Frag} {h : Heap} {mg : Str → Option Value} {fa g_is_integer g_is_sequence g_are_lower g_is_name g_is_class_word g_is_class_name g_is_generic_name g_is_expression g_form_parts g_is_member g_printed_expression g_expression_text g_arguments_text g_field_text g_sign_text g_choice_text g_part_text g_tokens_of g_end_of_token g_end_of_run g_kind_of g_is_number g_read_class_name g_read_expression g_read_primary g_read_start g_start_choice g_start_new g_start_name g_read_on g_read_field g_joined g_complete g_with_argument g_parse_expression g__law_so g__law_numbers g__law_draw g__law_take g__law_wide g__law_whole g__law_listed g__law_handed g__law_letters g__law_name g__law_reserved g__law_word g__law_is_word g__law_is_class_name g__law_inner_parts g__law_is_expr g__law_count g__law_is_right_expr g__law_rank g__law_expr_text g__law_free_expr g__law_wrapped g_law a_CHOICES a_ENDINGS a_FOLLOWERS a_FORMS a_NEARER a_PRODUCTS a_RESERVED a_ROWS a_SIGNS_bodies a_SIGNS_printing a_SIGNS_scanning a_SUMS a_WORDS c_Cursor f_Cursor_I f_Cursor_K f_Cursor_B f_Cursor_T f_Cursor_S : Addr} (X : K.In h) (G : h.Ns mainGlobals mg) (hfa : mg "law" = some (.ref fa))
    {oc_is_integer : Value} {od_is_integer an_is_integer : Option Addr} {sl_is_integer : Array (Option Value)} {kV_is_integer doc_is_integer pm_is_integer cd_is_integer ct_is_integer : Value} (da_is_integer : PySem.W.nsIn K mainGlobals "is_integer" = some (some (.ref g_is_integer))) (dl_is_integer : K.lookup g_is_integer = some ⟨oc_is_integer, od_is_integer, .func (PySem.W.fnOf "is_integer" "is_integer" (defArgs s_is_integer) (defBody s_is_integer) (defScope s_is_integer) .none kV_is_integer doc_is_integer pm_is_integer an_is_integer cd_is_integer ct_is_integer), sl_is_integer⟩) (dc_is_integer : PySem.W.codeIn K cd_is_integer "is_integer" = true) (dk_is_integer : PySem.W.keepIn K (.ref g_is_integer) = true)
    {oc_is_sequence : Value} {od_is_sequence an_is_sequence : Option Addr} {sl_is_sequence : Array (Option Value)} {kV_is_sequence doc_is_sequence pm_is_sequence cd_is_sequence ct_is_sequence : Value} (da_is_sequence : PySem.W.nsIn K mainGlobals "is_sequence" = some (some (.ref g_is_sequence))) (dl_is_sequence : K.lookup g_is_sequence = some ⟨oc_is_sequence, od_is_sequence, .func (PySem.W.fnOf "is_sequence" "is_sequence" (defArgs s_is_sequence) (defBody s_is_sequence) (defScope s_is_sequence) .none kV_is_sequence doc_is_sequence pm_is_sequence an_is_sequence cd_is_sequence ct_is_sequence), sl_is_sequence⟩) (dc_is_sequence : PySem.W.codeIn K cd_is_sequence "is_sequence" = true) (dk_is_sequence : PySem.W.keepIn K (.ref g_is_sequence) = true)
    {oc_are_lower : Value} {od_are_lower an_are_lower : Option Addr} {sl_are_lower : Array (Option Value)} {kV_are_lower doc_are_lower pm_are_lower cd_are_lower ct_are_lower : Value} (da_are_lower : PySem.W.nsIn K mainGlobals "are_lower" = some (some (.ref g_are_lower))) (dl_are_lower : K.lookup g_are_lower = some ⟨oc_are_lower, od_are_lower, .func (PySem.W.fnOf "are_lower" "are_lower" (defArgs s_are_lower) (defBody s_are_lower) (defScope s_are_lower) .none kV_are_lower doc_are_lower pm_are_lower an_are_lower cd_are_lower ct_are_lower), sl_are_lower⟩) (dc_are_lower : PySem.W.codeIn K cd_are_lower "are_lower" = true) (dk_are_lower : PySem.W.keepIn K (.ref g_are_lower) = true)
    {oc_is_name : Value} {od_is_name an_is_name : Option Addr} {sl_is_name : Array (Option Value)} {kV_is_name doc_is_name pm_is_name cd_is_name ct_is_name : Value} (da_is_name : PySem.W.nsIn K mainGlobals "is_name" = some (some (.ref g_is_name))) (dl_is_name : K.lookup g_is_name = some ⟨oc_is_name, od_is_name, .func (PySem.W.fnOf "is_name" "is_name" (defArgs s_is_name) (defBody s_is_name) (defScope s_is_name) .none kV_is_name doc_is_name pm_is_name an_is_name cd_is_name ct_is_name), sl_is_name⟩) (dc_is_name : PySem.W.codeIn K cd_is_name "is_name" = true) (dk_is_name : PySem.W.keepIn K (.ref g_is_name) = true)
    {oc_is_class_word : Value} {od_is_class_word an_is_class_word : Option Addr} {sl_is_class_word : Array (Option Value)} {kV_is_class_word doc_is_class_word pm_is_class_word cd_is_class_word ct_is_class_word : Value} (da_is_class_word : PySem.W.nsIn K mainGlobals "is_class_word" = some (some (.ref g_is_class_word))) (dl_is_class_word : K.lookup g_is_class_word = some ⟨oc_is_class_word, od_is_class_word, .func (PySem.W.fnOf "is_class_word" "is_class_word" (defArgs s_is_class_word) (defBody s_is_class_word) (defScope s_is_class_word) .none kV_is_class_word doc_is_class_word pm_is_class_word an_is_class_word cd_is_class_word ct_is_class_word), sl_is_class_word⟩) (dc_is_class_word : PySem.W.codeIn K cd_is_class_word "is_class_word" = true) (dk_is_class_word : PySem.W.keepIn K (.ref g_is_class_word) = true)
    {oc_is_class_name : Value} {od_is_class_name an_is_class_name : Option Addr} {sl_is_class_name : Array (Option Value)} {kV_is_class_name doc_is_class_name pm_is_class_name cd_is_class_name ct_is_class_name : Value} (da_is_class_name : PySem.W.nsIn K mainGlobals "is_class_name" = some (some (.ref g_is_class_name))) (dl_is_class_name : K.lookup g_is_class_name = some ⟨oc_is_class_name, od_is_class_name, .func (PySem.W.fnOf "is_class_name" "is_class_name" (defArgs s_is_class_name) (defBody s_is_class_name) (defScope s_is_class_name) .none kV_is_class_name doc_is_class_name pm_is_class_name an_is_class_name cd_is_class_name ct_is_class_name), sl_is_class_name⟩) (dc_is_class_name : PySem.W.codeIn K cd_is_class_name "is_class_name" = true) (dk_is_class_name : PySem.W.keepIn K (.ref g_is_class_name) = true)
    {oc_is_generic_name : Value} {od_is_generic_name an_is_generic_name : Option Addr} {sl_is_generic_name : Array (Option Value)} {kV_is_generic_name doc_is_generic_name pm_is_generic_name cd_is_generic_name ct_is_generic_name : Value} (da_is_generic_name : PySem.W.nsIn K mainGlobals "is_generic_name" = some (some (.ref g_is_generic_name))) (dl_is_generic_name : K.lookup g_is_generic_name = some ⟨oc_is_generic_name, od_is_generic_name, .func (PySem.W.fnOf "is_generic_name" "is_generic_name" (defArgs s_is_generic_name) (defBody s_is_generic_name) (defScope s_is_generic_name) .none kV_is_generic_name doc_is_generic_name pm_is_generic_name an_is_generic_name cd_is_generic_name ct_is_generic_name), sl_is_generic_name⟩) (dc_is_generic_name : PySem.W.codeIn K cd_is_generic_name "is_generic_name" = true) (dk_is_generic_name : PySem.W.keepIn K (.ref g_is_generic_name) = true)
    {oc_is_expression : Value} {od_is_expression an_is_expression : Option Addr} {sl_is_expression : Array (Option Value)} {kV_is_expression doc_is_expression pm_is_expression cd_is_expression ct_is_expression : Value} (da_is_expression : PySem.W.nsIn K mainGlobals "is_expression" = some (some (.ref g_is_expression))) (dl_is_expression : K.lookup g_is_expression = some ⟨oc_is_expression, od_is_expression, .func (PySem.W.fnOf "is_expression" "is_expression" (defArgs s_is_expression) (defBody s_is_expression) (defScope s_is_expression) .none kV_is_expression doc_is_expression pm_is_expression an_is_expression cd_is_expression ct_is_expression), sl_is_expression⟩) (dc_is_expression : PySem.W.codeIn K cd_is_expression "is_expression" = true) (dk_is_expression : PySem.W.keepIn K (.ref g_is_expression) = true)
    {oc_form_parts : Value} {od_form_parts an_form_parts : Option Addr} {sl_form_parts : Array (Option Value)} {kV_form_parts doc_form_parts pm_form_parts cd_form_parts ct_form_parts : Value} (da_form_parts : PySem.W.nsIn K mainGlobals "form_parts" = some (some (.ref g_form_parts))) (dl_form_parts : K.lookup g_form_parts = some ⟨oc_form_parts, od_form_parts, .func (PySem.W.fnOf "form_parts" "form_parts" (defArgs s_form_parts) (defBody s_form_parts) (defScope s_form_parts) .none kV_form_parts doc_form_parts pm_form_parts an_form_parts cd_form_parts ct_form_parts), sl_form_parts⟩) (dc_form_parts : PySem.W.codeIn K cd_form_parts "form_parts" = true) (dk_form_parts : PySem.W.keepIn K (.ref g_form_parts) = true)
    {oc_is_member : Value} {od_is_member an_is_member : Option Addr} {sl_is_member : Array (Option Value)} {kV_is_member doc_is_member pm_is_member cd_is_member ct_is_member : Value} (da_is_member : PySem.W.nsIn K mainGlobals "is_member" = some (some (.ref g_is_member))) (dl_is_member : K.lookup g_is_member = some ⟨oc_is_member, od_is_member, .func (PySem.W.fnOf "is_member" "is_member" (defArgs s_is_member) (defBody s_is_member) (defScope s_is_member) .none kV_is_member doc_is_member pm_is_member an_is_member cd_is_member ct_is_member), sl_is_member⟩) (dc_is_member : PySem.W.codeIn K cd_is_member "is_member" = true) (dk_is_member : PySem.W.keepIn K (.ref g_is_member) = true)
    {oc_printed_expression : Value} {od_printed_expression an_printed_expression : Option Addr} {sl_printed_expression : Array (Option Value)} {kV_printed_expression doc_printed_expression pm_printed_expression cd_printed_expression ct_printed_expression : Value} (da_printed_expression : PySem.W.nsIn K mainGlobals "printed_expression" = some (some (.ref g_printed_expression))) (dl_printed_expression : K.lookup g_printed_expression = some ⟨oc_printed_expression, od_printed_expression, .func (PySem.W.fnOf "printed_expression" "printed_expression" (defArgs s_printed_expression) (defBody s_printed_expression) (defScope s_printed_expression) .none kV_printed_expression doc_printed_expression pm_printed_expression an_printed_expression cd_printed_expression ct_printed_expression), sl_printed_expression⟩) (dc_printed_expression : PySem.W.codeIn K cd_printed_expression "printed_expression" = true) (dk_printed_expression : PySem.W.keepIn K (.ref g_printed_expression) = true)
    {oc_expression_text : Value} {od_expression_text an_expression_text : Option Addr} {sl_expression_text : Array (Option Value)} {kV_expression_text doc_expression_text pm_expression_text cd_expression_text ct_expression_text : Value} (da_expression_text : PySem.W.nsIn K mainGlobals "expression_text" = some (some (.ref g_expression_text))) (dl_expression_text : K.lookup g_expression_text = some ⟨oc_expression_text, od_expression_text, .func (PySem.W.fnOf "expression_text" "expression_text" (defArgs s_expression_text) (defBody s_expression_text) (defScope s_expression_text) .none kV_expression_text doc_expression_text pm_expression_text an_expression_text cd_expression_text ct_expression_text), sl_expression_text⟩) (dc_expression_text : PySem.W.codeIn K cd_expression_text "expression_text" = true) (dk_expression_text : PySem.W.keepIn K (.ref g_expression_text) = true)
    {oc_arguments_text : Value} {od_arguments_text an_arguments_text : Option Addr} {sl_arguments_text : Array (Option Value)} {kV_arguments_text doc_arguments_text pm_arguments_text cd_arguments_text ct_arguments_text : Value} (da_arguments_text : PySem.W.nsIn K mainGlobals "arguments_text" = some (some (.ref g_arguments_text))) (dl_arguments_text : K.lookup g_arguments_text = some ⟨oc_arguments_text, od_arguments_text, .func (PySem.W.fnOf "arguments_text" "arguments_text" (defArgs s_arguments_text) (defBody s_arguments_text) (defScope s_arguments_text) .none kV_arguments_text doc_arguments_text pm_arguments_text an_arguments_text cd_arguments_text ct_arguments_text), sl_arguments_text⟩) (dc_arguments_text : PySem.W.codeIn K cd_arguments_text "arguments_text" = true) (dk_arguments_text : PySem.W.keepIn K (.ref g_arguments_text) = true)
    {oc_field_text : Value} {od_field_text an_field_text : Option Addr} {sl_field_text : Array (Option Value)} {kV_field_text doc_field_text pm_field_text cd_field_text ct_field_text : Value} (da_field_text : PySem.W.nsIn K mainGlobals "field_text" = some (some (.ref g_field_text))) (dl_field_text : K.lookup g_field_text = some ⟨oc_field_text, od_field_text, .func (PySem.W.fnOf "field_text" "field_text" (defArgs s_field_text) (defBody s_field_text) (defScope s_field_text) .none kV_field_text doc_field_text pm_field_text an_field_text cd_field_text ct_field_text), sl_field_text⟩) (dc_field_text : PySem.W.codeIn K cd_field_text "field_text" = true) (dk_field_text : PySem.W.keepIn K (.ref g_field_text) = true)
    {oc_sign_text : Value} {od_sign_text an_sign_text : Option Addr} {sl_sign_text : Array (Option Value)} {kV_sign_text doc_sign_text pm_sign_text cd_sign_text ct_sign_text : Value} (da_sign_text : PySem.W.nsIn K mainGlobals "sign_text" = some (some (.ref g_sign_text))) (dl_sign_text : K.lookup g_sign_text = some ⟨oc_sign_text, od_sign_text, .func (PySem.W.fnOf "sign_text" "sign_text" (defArgs s_sign_text) (defBody s_sign_text) (defScope s_sign_text) .none kV_sign_text doc_sign_text pm_sign_text an_sign_text cd_sign_text ct_sign_text), sl_sign_text⟩) (dc_sign_text : PySem.W.codeIn K cd_sign_text "sign_text" = true) (dk_sign_text : PySem.W.keepIn K (.ref g_sign_text) = true)
    {oc_choice_text : Value} {od_choice_text an_choice_text : Option Addr} {sl_choice_text : Array (Option Value)} {kV_choice_text doc_choice_text pm_choice_text cd_choice_text ct_choice_text : Value} (da_choice_text : PySem.W.nsIn K mainGlobals "choice_text" = some (some (.ref g_choice_text))) (dl_choice_text : K.lookup g_choice_text = some ⟨oc_choice_text, od_choice_text, .func (PySem.W.fnOf "choice_text" "choice_text" (defArgs s_choice_text) (defBody s_choice_text) (defScope s_choice_text) .none kV_choice_text doc_choice_text pm_choice_text an_choice_text cd_choice_text ct_choice_text), sl_choice_text⟩) (dc_choice_text : PySem.W.codeIn K cd_choice_text "choice_text" = true) (dk_choice_text : PySem.W.keepIn K (.ref g_choice_text) = true)
    {oc_part_text : Value} {od_part_text an_part_text : Option Addr} {sl_part_text : Array (Option Value)} {kV_part_text doc_part_text pm_part_text cd_part_text ct_part_text : Value} (da_part_text : PySem.W.nsIn K mainGlobals "part_text" = some (some (.ref g_part_text))) (dl_part_text : K.lookup g_part_text = some ⟨oc_part_text, od_part_text, .func (PySem.W.fnOf "part_text" "part_text" (defArgs s_part_text) (defBody s_part_text) (defScope s_part_text) .none kV_part_text doc_part_text pm_part_text an_part_text cd_part_text ct_part_text), sl_part_text⟩) (dc_part_text : PySem.W.codeIn K cd_part_text "part_text" = true) (dk_part_text : PySem.W.keepIn K (.ref g_part_text) = true)
    {oc_tokens_of : Value} {od_tokens_of an_tokens_of : Option Addr} {sl_tokens_of : Array (Option Value)} {kV_tokens_of doc_tokens_of pm_tokens_of cd_tokens_of ct_tokens_of : Value} (da_tokens_of : PySem.W.nsIn K mainGlobals "tokens_of" = some (some (.ref g_tokens_of))) (dl_tokens_of : K.lookup g_tokens_of = some ⟨oc_tokens_of, od_tokens_of, .func (PySem.W.fnOf "tokens_of" "tokens_of" (defArgs s_tokens_of) (defBody s_tokens_of) (defScope s_tokens_of) .none kV_tokens_of doc_tokens_of pm_tokens_of an_tokens_of cd_tokens_of ct_tokens_of), sl_tokens_of⟩) (dc_tokens_of : PySem.W.codeIn K cd_tokens_of "tokens_of" = true) (dk_tokens_of : PySem.W.keepIn K (.ref g_tokens_of) = true)
    {oc_end_of_token : Value} {od_end_of_token an_end_of_token : Option Addr} {sl_end_of_token : Array (Option Value)} {kV_end_of_token doc_end_of_token pm_end_of_token cd_end_of_token ct_end_of_token : Value} (da_end_of_token : PySem.W.nsIn K mainGlobals "end_of_token" = some (some (.ref g_end_of_token))) (dl_end_of_token : K.lookup g_end_of_token = some ⟨oc_end_of_token, od_end_of_token, .func (PySem.W.fnOf "end_of_token" "end_of_token" (defArgs s_end_of_token) (defBody s_end_of_token) (defScope s_end_of_token) .none kV_end_of_token doc_end_of_token pm_end_of_token an_end_of_token cd_end_of_token ct_end_of_token), sl_end_of_token⟩) (dc_end_of_token : PySem.W.codeIn K cd_end_of_token "end_of_token" = true) (dk_end_of_token : PySem.W.keepIn K (.ref g_end_of_token) = true)
    {oc_end_of_run : Value} {od_end_of_run an_end_of_run : Option Addr} {sl_end_of_run : Array (Option Value)} {kV_end_of_run doc_end_of_run pm_end_of_run cd_end_of_run ct_end_of_run : Value} (da_end_of_run : PySem.W.nsIn K mainGlobals "end_of_run" = some (some (.ref g_end_of_run))) (dl_end_of_run : K.lookup g_end_of_run = some ⟨oc_end_of_run, od_end_of_run, .func (PySem.W.fnOf "end_of_run" "end_of_run" (defArgs s_end_of_run) (defBody s_end_of_run) (defScope s_end_of_run) .none kV_end_of_run doc_end_of_run pm_end_of_run an_end_of_run cd_end_of_run ct_end_of_run), sl_end_of_run⟩) (dc_end_of_run : PySem.W.codeIn K cd_end_of_run "end_of_run" = true) (dk_end_of_run : PySem.W.keepIn K (.ref g_end_of_run) = true)
    {oc_kind_of : Value} {od_kind_of an_kind_of : Option Addr} {sl_kind_of : Array (Option Value)} {kV_kind_of doc_kind_of pm_kind_of cd_kind_of ct_kind_of : Value} (da_kind_of : PySem.W.nsIn K mainGlobals "kind_of" = some (some (.ref g_kind_of))) (dl_kind_of : K.lookup g_kind_of = some ⟨oc_kind_of, od_kind_of, .func (PySem.W.fnOf "kind_of" "kind_of" (defArgs s_kind_of) (defBody s_kind_of) (defScope s_kind_of) .none kV_kind_of doc_kind_of pm_kind_of an_kind_of cd_kind_of ct_kind_of), sl_kind_of⟩) (dc_kind_of : PySem.W.codeIn K cd_kind_of "kind_of" = true) (dk_kind_of : PySem.W.keepIn K (.ref g_kind_of) = true)
    {oc_is_number : Value} {od_is_number an_is_number : Option Addr} {sl_is_number : Array (Option Value)} {kV_is_number doc_is_number pm_is_number cd_is_number ct_is_number : Value} (da_is_number : PySem.W.nsIn K mainGlobals "is_number" = some (some (.ref g_is_number))) (dl_is_number : K.lookup g_is_number = some ⟨oc_is_number, od_is_number, .func (PySem.W.fnOf "is_number" "is_number" (defArgs s_is_number) (defBody s_is_number) (defScope s_is_number) .none kV_is_number doc_is_number pm_is_number an_is_number cd_is_number ct_is_number), sl_is_number⟩) (dc_is_number : PySem.W.codeIn K cd_is_number "is_number" = true) (dk_is_number : PySem.W.keepIn K (.ref g_is_number) = true)
    {oc_read_class_name : Value} {od_read_class_name an_read_class_name : Option Addr} {sl_read_class_name : Array (Option Value)} {kV_read_class_name doc_read_class_name pm_read_class_name cd_read_class_name ct_read_class_name : Value} (da_read_class_name : PySem.W.nsIn K mainGlobals "read_class_name" = some (some (.ref g_read_class_name))) (dl_read_class_name : K.lookup g_read_class_name = some ⟨oc_read_class_name, od_read_class_name, .func (PySem.W.fnOf "read_class_name" "read_class_name" (defArgs s_read_class_name) (defBody s_read_class_name) (defScope s_read_class_name) .none kV_read_class_name doc_read_class_name pm_read_class_name an_read_class_name cd_read_class_name ct_read_class_name), sl_read_class_name⟩) (dc_read_class_name : PySem.W.codeIn K cd_read_class_name "read_class_name" = true) (dk_read_class_name : PySem.W.keepIn K (.ref g_read_class_name) = true)
    {oc_read_expression : Value} {od_read_expression an_read_expression : Option Addr} {sl_read_expression : Array (Option Value)} {kV_read_expression doc_read_expression pm_read_expression cd_read_expression ct_read_expression : Value} (da_read_expression : PySem.W.nsIn K mainGlobals "read_expression" = some (some (.ref g_read_expression))) (dl_read_expression : K.lookup g_read_expression = some ⟨oc_read_expression, od_read_expression, .func (PySem.W.fnOf "read_expression" "read_expression" (defArgs s_read_expression) (defBody s_read_expression) (defScope s_read_expression) .none kV_read_expression doc_read_expression pm_read_expression an_read_expression cd_read_expression ct_read_expression), sl_read_expression⟩) (dc_read_expression : PySem.W.codeIn K cd_read_expression "read_expression" = true) (dk_read_expression : PySem.W.keepIn K (.ref g_read_expression) = true)
    {oc_read_primary : Value} {od_read_primary an_read_primary : Option Addr} {sl_read_primary : Array (Option Value)} {kV_read_primary doc_read_primary pm_read_primary cd_read_primary ct_read_primary : Value} (da_read_primary : PySem.W.nsIn K mainGlobals "read_primary" = some (some (.ref g_read_primary))) (dl_read_primary : K.lookup g_read_primary = some ⟨oc_read_primary, od_read_primary, .func (PySem.W.fnOf "read_primary" "read_primary" (defArgs s_read_primary) (defBody s_read_primary) (defScope s_read_primary) .none kV_read_primary doc_read_primary pm_read_primary an_read_primary cd_read_primary ct_read_primary), sl_read_primary⟩) (dc_read_primary : PySem.W.codeIn K cd_read_primary "read_primary" = true) (dk_read_primary : PySem.W.keepIn K (.ref g_read_primary) = true)
    {oc_read_start : Value} {od_read_start an_read_start : Option Addr} {sl_read_start : Array (Option Value)} {kV_read_start doc_read_start pm_read_start cd_read_start ct_read_start : Value} (da_read_start : PySem.W.nsIn K mainGlobals "read_start" = some (some (.ref g_read_start))) (dl_read_start : K.lookup g_read_start = some ⟨oc_read_start, od_read_start, .func (PySem.W.fnOf "read_start" "read_start" (defArgs s_read_start) (defBody s_read_start) (defScope s_read_start) .none kV_read_start doc_read_start pm_read_start an_read_start cd_read_start ct_read_start), sl_read_start⟩) (dc_read_start : PySem.W.codeIn K cd_read_start "read_start" = true) (dk_read_start : PySem.W.keepIn K (.ref g_read_start) = true)
    {oc_start_choice : Value} {od_start_choice an_start_choice : Option Addr} {sl_start_choice : Array (Option Value)} {kV_start_choice doc_start_choice pm_start_choice cd_start_choice ct_start_choice : Value} (da_start_choice : PySem.W.nsIn K mainGlobals "start_choice" = some (some (.ref g_start_choice))) (dl_start_choice : K.lookup g_start_choice = some ⟨oc_start_choice, od_start_choice, .func (PySem.W.fnOf "start_choice" "start_choice" (defArgs s_start_choice) (defBody s_start_choice) (defScope s_start_choice) .none kV_start_choice doc_start_choice pm_start_choice an_start_choice cd_start_choice ct_start_choice), sl_start_choice⟩) (dc_start_choice : PySem.W.codeIn K cd_start_choice "start_choice" = true) (dk_start_choice : PySem.W.keepIn K (.ref g_start_choice) = true)
    {oc_start_new : Value} {od_start_new an_start_new : Option Addr} {sl_start_new : Array (Option Value)} {kV_start_new doc_start_new pm_start_new cd_start_new ct_start_new : Value} (da_start_new : PySem.W.nsIn K mainGlobals "start_new" = some (some (.ref g_start_new))) (dl_start_new : K.lookup g_start_new = some ⟨oc_start_new, od_start_new, .func (PySem.W.fnOf "start_new" "start_new" (defArgs s_start_new) (defBody s_start_new) (defScope s_start_new) .none kV_start_new doc_start_new pm_start_new an_start_new cd_start_new ct_start_new), sl_start_new⟩) (dc_start_new : PySem.W.codeIn K cd_start_new "start_new" = true) (dk_start_new : PySem.W.keepIn K (.ref g_start_new) = true)
    {oc_start_name : Value} {od_start_name an_start_name : Option Addr} {sl_start_name : Array (Option Value)} {kV_start_name doc_start_name pm_start_name cd_start_name ct_start_name : Value} (da_start_name : PySem.W.nsIn K mainGlobals "start_name" = some (some (.ref g_start_name))) (dl_start_name : K.lookup g_start_name = some ⟨oc_start_name, od_start_name, .func (PySem.W.fnOf "start_name" "start_name" (defArgs s_start_name) (defBody s_start_name) (defScope s_start_name) .none kV_start_name doc_start_name pm_start_name an_start_name cd_start_name ct_start_name), sl_start_name⟩) (dc_start_name : PySem.W.codeIn K cd_start_name "start_name" = true) (dk_start_name : PySem.W.keepIn K (.ref g_start_name) = true)
    {oc_read_on : Value} {od_read_on an_read_on : Option Addr} {sl_read_on : Array (Option Value)} {kV_read_on doc_read_on pm_read_on cd_read_on ct_read_on : Value} (da_read_on : PySem.W.nsIn K mainGlobals "read_on" = some (some (.ref g_read_on))) (dl_read_on : K.lookup g_read_on = some ⟨oc_read_on, od_read_on, .func (PySem.W.fnOf "read_on" "read_on" (defArgs s_read_on) (defBody s_read_on) (defScope s_read_on) .none kV_read_on doc_read_on pm_read_on an_read_on cd_read_on ct_read_on), sl_read_on⟩) (dc_read_on : PySem.W.codeIn K cd_read_on "read_on" = true) (dk_read_on : PySem.W.keepIn K (.ref g_read_on) = true)
    {oc_read_field : Value} {od_read_field an_read_field : Option Addr} {sl_read_field : Array (Option Value)} {kV_read_field doc_read_field pm_read_field cd_read_field ct_read_field : Value} (da_read_field : PySem.W.nsIn K mainGlobals "read_field" = some (some (.ref g_read_field))) (dl_read_field : K.lookup g_read_field = some ⟨oc_read_field, od_read_field, .func (PySem.W.fnOf "read_field" "read_field" (defArgs s_read_field) (defBody s_read_field) (defScope s_read_field) .none kV_read_field doc_read_field pm_read_field an_read_field cd_read_field ct_read_field), sl_read_field⟩) (dc_read_field : PySem.W.codeIn K cd_read_field "read_field" = true) (dk_read_field : PySem.W.keepIn K (.ref g_read_field) = true)
    {oc_joined : Value} {od_joined an_joined : Option Addr} {sl_joined : Array (Option Value)} {kV_joined doc_joined pm_joined cd_joined ct_joined : Value} (da_joined : PySem.W.nsIn K mainGlobals "joined" = some (some (.ref g_joined))) (dl_joined : K.lookup g_joined = some ⟨oc_joined, od_joined, .func (PySem.W.fnOf "joined" "joined" (defArgs s_joined) (defBody s_joined) (defScope s_joined) .none kV_joined doc_joined pm_joined an_joined cd_joined ct_joined), sl_joined⟩) (dc_joined : PySem.W.codeIn K cd_joined "joined" = true) (dk_joined : PySem.W.keepIn K (.ref g_joined) = true)
    {oc_complete : Value} {od_complete an_complete : Option Addr} {sl_complete : Array (Option Value)} {kV_complete doc_complete pm_complete cd_complete ct_complete : Value} (da_complete : PySem.W.nsIn K mainGlobals "complete" = some (some (.ref g_complete))) (dl_complete : K.lookup g_complete = some ⟨oc_complete, od_complete, .func (PySem.W.fnOf "complete" "complete" (defArgs s_complete) (defBody s_complete) (defScope s_complete) .none kV_complete doc_complete pm_complete an_complete cd_complete ct_complete), sl_complete⟩) (dc_complete : PySem.W.codeIn K cd_complete "complete" = true) (dk_complete : PySem.W.keepIn K (.ref g_complete) = true)
    {oc_with_argument : Value} {od_with_argument an_with_argument : Option Addr} {sl_with_argument : Array (Option Value)} {kV_with_argument doc_with_argument pm_with_argument cd_with_argument ct_with_argument : Value} (da_with_argument : PySem.W.nsIn K mainGlobals "with_argument" = some (some (.ref g_with_argument))) (dl_with_argument : K.lookup g_with_argument = some ⟨oc_with_argument, od_with_argument, .func (PySem.W.fnOf "with_argument" "with_argument" (defArgs s_with_argument) (defBody s_with_argument) (defScope s_with_argument) .none kV_with_argument doc_with_argument pm_with_argument an_with_argument cd_with_argument ct_with_argument), sl_with_argument⟩) (dc_with_argument : PySem.W.codeIn K cd_with_argument "with_argument" = true) (dk_with_argument : PySem.W.keepIn K (.ref g_with_argument) = true)
    {oc_parse_expression : Value} {od_parse_expression an_parse_expression : Option Addr} {sl_parse_expression : Array (Option Value)} {kV_parse_expression doc_parse_expression pm_parse_expression cd_parse_expression ct_parse_expression : Value} (da_parse_expression : PySem.W.nsIn K mainGlobals "parse_expression" = some (some (.ref g_parse_expression))) (dl_parse_expression : K.lookup g_parse_expression = some ⟨oc_parse_expression, od_parse_expression, .func (PySem.W.fnOf "parse_expression" "parse_expression" (defArgs s_parse_expression) (defBody s_parse_expression) (defScope s_parse_expression) .none kV_parse_expression doc_parse_expression pm_parse_expression an_parse_expression cd_parse_expression ct_parse_expression), sl_parse_expression⟩) (dc_parse_expression : PySem.W.codeIn K cd_parse_expression "parse_expression" = true) (dk_parse_expression : PySem.W.keepIn K (.ref g_parse_expression) = true)
    {oc__law_so : Value} {od__law_so an__law_so : Option Addr} {sl__law_so : Array (Option Value)} {kV__law_so doc__law_so pm__law_so cd__law_so ct__law_so : Value} (da__law_so : PySem.W.nsIn K mainGlobals "_law_so" = some (some (.ref g__law_so))) (dl__law_so : K.lookup g__law_so = some ⟨oc__law_so, od__law_so, .func (PySem.W.fnOf "_law_so" "_law_so" (defArgs sSo) (defBody sSo) (defScope sSo) .none kV__law_so doc__law_so pm__law_so an__law_so cd__law_so ct__law_so), sl__law_so⟩) (dc__law_so : PySem.W.codeIn K cd__law_so "_law_so" = true) (dk__law_so : PySem.W.keepIn K (.ref g__law_so) = true)
    {oc__law_numbers : Value} {od__law_numbers an__law_numbers : Option Addr} {sl__law_numbers : Array (Option Value)} {kV__law_numbers doc__law_numbers pm__law_numbers cd__law_numbers ct__law_numbers : Value} (da__law_numbers : PySem.W.nsIn K mainGlobals "_law_numbers" = some (some (.ref g__law_numbers))) (dl__law_numbers : K.lookup g__law_numbers = some ⟨oc__law_numbers, od__law_numbers, .func (PySem.W.fnOf "_law_numbers" "_law_numbers" (defArgs sNum) (defBody sNum) (defScope sNum) .none kV__law_numbers doc__law_numbers pm__law_numbers an__law_numbers cd__law_numbers ct__law_numbers), sl__law_numbers⟩) (dc__law_numbers : PySem.W.codeIn K cd__law_numbers "_law_numbers" = true) (dk__law_numbers : PySem.W.keepIn K (.ref g__law_numbers) = true)
    {oc__law_draw : Value} {od__law_draw an__law_draw : Option Addr} {sl__law_draw : Array (Option Value)} {kV__law_draw doc__law_draw pm__law_draw cd__law_draw ct__law_draw : Value} (da__law_draw : PySem.W.nsIn K mainGlobals "_law_draw" = some (some (.ref g__law_draw))) (dl__law_draw : K.lookup g__law_draw = some ⟨oc__law_draw, od__law_draw, .func (PySem.W.fnOf "_law_draw" "_law_draw" (defArgs sDraw) (defBody sDraw) (defScope sDraw) .none kV__law_draw doc__law_draw pm__law_draw an__law_draw cd__law_draw ct__law_draw), sl__law_draw⟩) (dc__law_draw : PySem.W.codeIn K cd__law_draw "_law_draw" = true) (dk__law_draw : PySem.W.keepIn K (.ref g__law_draw) = true)
    {oc__law_take : Value} {od__law_take an__law_take : Option Addr} {sl__law_take : Array (Option Value)} {kV__law_take doc__law_take pm__law_take cd__law_take ct__law_take : Value} (da__law_take : PySem.W.nsIn K mainGlobals "_law_take" = some (some (.ref g__law_take))) (dl__law_take : K.lookup g__law_take = some ⟨oc__law_take, od__law_take, .func (PySem.W.fnOf "_law_take" "_law_take" (defArgs sTake) (defBody sTake) (defScope sTake) .none kV__law_take doc__law_take pm__law_take an__law_take cd__law_take ct__law_take), sl__law_take⟩) (dc__law_take : PySem.W.codeIn K cd__law_take "_law_take" = true) (dk__law_take : PySem.W.keepIn K (.ref g__law_take) = true)
    {oc__law_wide : Value} {od__law_wide an__law_wide : Option Addr} {sl__law_wide : Array (Option Value)} {kV__law_wide doc__law_wide pm__law_wide cd__law_wide ct__law_wide : Value} (da__law_wide : PySem.W.nsIn K mainGlobals "_law_wide" = some (some (.ref g__law_wide))) (dl__law_wide : K.lookup g__law_wide = some ⟨oc__law_wide, od__law_wide, .func (PySem.W.fnOf "_law_wide" "_law_wide" (defArgs s__law_wide) (defBody s__law_wide) (defScope s__law_wide) .none kV__law_wide doc__law_wide pm__law_wide an__law_wide cd__law_wide ct__law_wide), sl__law_wide⟩) (dc__law_wide : PySem.W.codeIn K cd__law_wide "_law_wide" = true) (dk__law_wide : PySem.W.keepIn K (.ref g__law_wide) = true)
    {oc__law_whole : Value} {od__law_whole an__law_whole : Option Addr} {sl__law_whole : Array (Option Value)} {kV__law_whole doc__law_whole pm__law_whole cd__law_whole ct__law_whole : Value} (da__law_whole : PySem.W.nsIn K mainGlobals "_law_whole" = some (some (.ref g__law_whole))) (dl__law_whole : K.lookup g__law_whole = some ⟨oc__law_whole, od__law_whole, .func (PySem.W.fnOf "_law_whole" "_law_whole" (defArgs s__law_whole) (defBody s__law_whole) (defScope s__law_whole) .none kV__law_whole doc__law_whole pm__law_whole an__law_whole cd__law_whole ct__law_whole), sl__law_whole⟩) (dc__law_whole : PySem.W.codeIn K cd__law_whole "_law_whole" = true) (dk__law_whole : PySem.W.keepIn K (.ref g__law_whole) = true)
    {oc__law_listed : Value} {od__law_listed an__law_listed : Option Addr} {sl__law_listed : Array (Option Value)} {kV__law_listed doc__law_listed pm__law_listed cd__law_listed ct__law_listed : Value} (da__law_listed : PySem.W.nsIn K mainGlobals "_law_listed" = some (some (.ref g__law_listed))) (dl__law_listed : K.lookup g__law_listed = some ⟨oc__law_listed, od__law_listed, .func (PySem.W.fnOf "_law_listed" "_law_listed" (defArgs s__law_listed) (defBody s__law_listed) (defScope s__law_listed) .none kV__law_listed doc__law_listed pm__law_listed an__law_listed cd__law_listed ct__law_listed), sl__law_listed⟩) (dc__law_listed : PySem.W.codeIn K cd__law_listed "_law_listed" = true) (dk__law_listed : PySem.W.keepIn K (.ref g__law_listed) = true)
    {oc__law_handed : Value} {od__law_handed an__law_handed : Option Addr} {sl__law_handed : Array (Option Value)} {kV__law_handed doc__law_handed pm__law_handed cd__law_handed ct__law_handed : Value} (da__law_handed : PySem.W.nsIn K mainGlobals "_law_handed" = some (some (.ref g__law_handed))) (dl__law_handed : K.lookup g__law_handed = some ⟨oc__law_handed, od__law_handed, .func (PySem.W.fnOf "_law_handed" "_law_handed" (defArgs s__law_handed) (defBody s__law_handed) (defScope s__law_handed) .none kV__law_handed doc__law_handed pm__law_handed an__law_handed cd__law_handed ct__law_handed), sl__law_handed⟩) (dc__law_handed : PySem.W.codeIn K cd__law_handed "_law_handed" = true) (dk__law_handed : PySem.W.keepIn K (.ref g__law_handed) = true)
    {oc__law_letters : Value} {od__law_letters an__law_letters : Option Addr} {sl__law_letters : Array (Option Value)} {kV__law_letters doc__law_letters pm__law_letters cd__law_letters ct__law_letters : Value} (da__law_letters : PySem.W.nsIn K mainGlobals "_law_letters" = some (some (.ref g__law_letters))) (dl__law_letters : K.lookup g__law_letters = some ⟨oc__law_letters, od__law_letters, .func (PySem.W.fnOf "_law_letters" "_law_letters" (defArgs s__law_letters) (defBody s__law_letters) (defScope s__law_letters) .none kV__law_letters doc__law_letters pm__law_letters an__law_letters cd__law_letters ct__law_letters), sl__law_letters⟩) (dc__law_letters : PySem.W.codeIn K cd__law_letters "_law_letters" = true) (dk__law_letters : PySem.W.keepIn K (.ref g__law_letters) = true)
    {oc__law_name : Value} {od__law_name an__law_name : Option Addr} {sl__law_name : Array (Option Value)} {kV__law_name doc__law_name pm__law_name cd__law_name ct__law_name : Value} (da__law_name : PySem.W.nsIn K mainGlobals "_law_name" = some (some (.ref g__law_name))) (dl__law_name : K.lookup g__law_name = some ⟨oc__law_name, od__law_name, .func (PySem.W.fnOf "_law_name" "_law_name" (defArgs s__law_name) (defBody s__law_name) (defScope s__law_name) .none kV__law_name doc__law_name pm__law_name an__law_name cd__law_name ct__law_name), sl__law_name⟩) (dc__law_name : PySem.W.codeIn K cd__law_name "_law_name" = true) (dk__law_name : PySem.W.keepIn K (.ref g__law_name) = true)
    {oc__law_reserved : Value} {od__law_reserved an__law_reserved : Option Addr} {sl__law_reserved : Array (Option Value)} {kV__law_reserved doc__law_reserved pm__law_reserved cd__law_reserved ct__law_reserved : Value} (da__law_reserved : PySem.W.nsIn K mainGlobals "_law_reserved" = some (some (.ref g__law_reserved))) (dl__law_reserved : K.lookup g__law_reserved = some ⟨oc__law_reserved, od__law_reserved, .func (PySem.W.fnOf "_law_reserved" "_law_reserved" (defArgs s__law_reserved) (defBody s__law_reserved) (defScope s__law_reserved) .none kV__law_reserved doc__law_reserved pm__law_reserved an__law_reserved cd__law_reserved ct__law_reserved), sl__law_reserved⟩) (dc__law_reserved : PySem.W.codeIn K cd__law_reserved "_law_reserved" = true) (dk__law_reserved : PySem.W.keepIn K (.ref g__law_reserved) = true)
    {oc__law_word : Value} {od__law_word an__law_word : Option Addr} {sl__law_word : Array (Option Value)} {kV__law_word doc__law_word pm__law_word cd__law_word ct__law_word : Value} (da__law_word : PySem.W.nsIn K mainGlobals "_law_word" = some (some (.ref g__law_word))) (dl__law_word : K.lookup g__law_word = some ⟨oc__law_word, od__law_word, .func (PySem.W.fnOf "_law_word" "_law_word" (defArgs s__law_word) (defBody s__law_word) (defScope s__law_word) .none kV__law_word doc__law_word pm__law_word an__law_word cd__law_word ct__law_word), sl__law_word⟩) (dc__law_word : PySem.W.codeIn K cd__law_word "_law_word" = true) (dk__law_word : PySem.W.keepIn K (.ref g__law_word) = true)
    {oc__law_is_word : Value} {od__law_is_word an__law_is_word : Option Addr} {sl__law_is_word : Array (Option Value)} {kV__law_is_word doc__law_is_word pm__law_is_word cd__law_is_word ct__law_is_word : Value} (da__law_is_word : PySem.W.nsIn K mainGlobals "_law_is_word" = some (some (.ref g__law_is_word))) (dl__law_is_word : K.lookup g__law_is_word = some ⟨oc__law_is_word, od__law_is_word, .func (PySem.W.fnOf "_law_is_word" "_law_is_word" (defArgs s__law_is_word) (defBody s__law_is_word) (defScope s__law_is_word) .none kV__law_is_word doc__law_is_word pm__law_is_word an__law_is_word cd__law_is_word ct__law_is_word), sl__law_is_word⟩) (dc__law_is_word : PySem.W.codeIn K cd__law_is_word "_law_is_word" = true) (dk__law_is_word : PySem.W.keepIn K (.ref g__law_is_word) = true)
    {oc__law_is_class_name : Value} {od__law_is_class_name an__law_is_class_name : Option Addr} {sl__law_is_class_name : Array (Option Value)} {kV__law_is_class_name doc__law_is_class_name pm__law_is_class_name cd__law_is_class_name ct__law_is_class_name : Value} (da__law_is_class_name : PySem.W.nsIn K mainGlobals "_law_is_class_name" = some (some (.ref g__law_is_class_name))) (dl__law_is_class_name : K.lookup g__law_is_class_name = some ⟨oc__law_is_class_name, od__law_is_class_name, .func (PySem.W.fnOf "_law_is_class_name" "_law_is_class_name" (defArgs s__law_is_class_name) (defBody s__law_is_class_name) (defScope s__law_is_class_name) .none kV__law_is_class_name doc__law_is_class_name pm__law_is_class_name an__law_is_class_name cd__law_is_class_name ct__law_is_class_name), sl__law_is_class_name⟩) (dc__law_is_class_name : PySem.W.codeIn K cd__law_is_class_name "_law_is_class_name" = true) (dk__law_is_class_name : PySem.W.keepIn K (.ref g__law_is_class_name) = true)
    {oc__law_inner_parts : Value} {od__law_inner_parts an__law_inner_parts : Option Addr} {sl__law_inner_parts : Array (Option Value)} {kV__law_inner_parts doc__law_inner_parts pm__law_inner_parts cd__law_inner_parts ct__law_inner_parts : Value} (da__law_inner_parts : PySem.W.nsIn K mainGlobals "_law_inner_parts" = some (some (.ref g__law_inner_parts))) (dl__law_inner_parts : K.lookup g__law_inner_parts = some ⟨oc__law_inner_parts, od__law_inner_parts, .func (PySem.W.fnOf "_law_inner_parts" "_law_inner_parts" (defArgs s__law_inner_parts) (defBody s__law_inner_parts) (defScope s__law_inner_parts) .none kV__law_inner_parts doc__law_inner_parts pm__law_inner_parts an__law_inner_parts cd__law_inner_parts ct__law_inner_parts), sl__law_inner_parts⟩) (dc__law_inner_parts : PySem.W.codeIn K cd__law_inner_parts "_law_inner_parts" = true) (dk__law_inner_parts : PySem.W.keepIn K (.ref g__law_inner_parts) = true)
    {oc__law_is_expr : Value} {od__law_is_expr an__law_is_expr : Option Addr} {sl__law_is_expr : Array (Option Value)} {kV__law_is_expr doc__law_is_expr pm__law_is_expr cd__law_is_expr ct__law_is_expr : Value} (da__law_is_expr : PySem.W.nsIn K mainGlobals "_law_is_expr" = some (some (.ref g__law_is_expr))) (dl__law_is_expr : K.lookup g__law_is_expr = some ⟨oc__law_is_expr, od__law_is_expr, .func (PySem.W.fnOf "_law_is_expr" "_law_is_expr" (defArgs s__law_is_expr) (defBody s__law_is_expr) (defScope s__law_is_expr) .none kV__law_is_expr doc__law_is_expr pm__law_is_expr an__law_is_expr cd__law_is_expr ct__law_is_expr), sl__law_is_expr⟩) (dc__law_is_expr : PySem.W.codeIn K cd__law_is_expr "_law_is_expr" = true) (dk__law_is_expr : PySem.W.keepIn K (.ref g__law_is_expr) = true)
    {oc__law_count : Value} {od__law_count an__law_count : Option Addr} {sl__law_count : Array (Option Value)} {kV__law_count doc__law_count pm__law_count cd__law_count ct__law_count : Value} (da__law_count : PySem.W.nsIn K mainGlobals "_law_count" = some (some (.ref g__law_count))) (dl__law_count : K.lookup g__law_count = some ⟨oc__law_count, od__law_count, .func (PySem.W.fnOf "_law_count" "_law_count" (defArgs s__law_count) (defBody s__law_count) (defScope s__law_count) .none kV__law_count doc__law_count pm__law_count an__law_count cd__law_count ct__law_count), sl__law_count⟩) (dc__law_count : PySem.W.codeIn K cd__law_count "_law_count" = true) (dk__law_count : PySem.W.keepIn K (.ref g__law_count) = true)
    {oc__law_is_right_expr : Value} {od__law_is_right_expr an__law_is_right_expr : Option Addr} {sl__law_is_right_expr : Array (Option Value)} {kV__law_is_right_expr doc__law_is_right_expr pm__law_is_right_expr cd__law_is_right_expr ct__law_is_right_expr : Value} (da__law_is_right_expr : PySem.W.nsIn K mainGlobals "_law_is_right_expr" = some (some (.ref g__law_is_right_expr))) (dl__law_is_right_expr : K.lookup g__law_is_right_expr = some ⟨oc__law_is_right_expr, od__law_is_right_expr, .func (PySem.W.fnOf "_law_is_right_expr" "_law_is_right_expr" (defArgs s__law_is_right_expr) (defBody s__law_is_right_expr) (defScope s__law_is_right_expr) .none kV__law_is_right_expr doc__law_is_right_expr pm__law_is_right_expr an__law_is_right_expr cd__law_is_right_expr ct__law_is_right_expr), sl__law_is_right_expr⟩) (dc__law_is_right_expr : PySem.W.codeIn K cd__law_is_right_expr "_law_is_right_expr" = true) (dk__law_is_right_expr : PySem.W.keepIn K (.ref g__law_is_right_expr) = true)
    {oc__law_rank : Value} {od__law_rank an__law_rank : Option Addr} {sl__law_rank : Array (Option Value)} {kV__law_rank doc__law_rank pm__law_rank cd__law_rank ct__law_rank : Value} (da__law_rank : PySem.W.nsIn K mainGlobals "_law_rank" = some (some (.ref g__law_rank))) (dl__law_rank : K.lookup g__law_rank = some ⟨oc__law_rank, od__law_rank, .func (PySem.W.fnOf "_law_rank" "_law_rank" (defArgs s__law_rank) (defBody s__law_rank) (defScope s__law_rank) .none kV__law_rank doc__law_rank pm__law_rank an__law_rank cd__law_rank ct__law_rank), sl__law_rank⟩) (dc__law_rank : PySem.W.codeIn K cd__law_rank "_law_rank" = true) (dk__law_rank : PySem.W.keepIn K (.ref g__law_rank) = true)
    {oc__law_expr_text : Value} {od__law_expr_text an__law_expr_text : Option Addr} {sl__law_expr_text : Array (Option Value)} {kV__law_expr_text doc__law_expr_text pm__law_expr_text cd__law_expr_text ct__law_expr_text : Value} (da__law_expr_text : PySem.W.nsIn K mainGlobals "_law_expr_text" = some (some (.ref g__law_expr_text))) (dl__law_expr_text : K.lookup g__law_expr_text = some ⟨oc__law_expr_text, od__law_expr_text, .func (PySem.W.fnOf "_law_expr_text" "_law_expr_text" (defArgs s__law_expr_text) (defBody s__law_expr_text) (defScope s__law_expr_text) .none kV__law_expr_text doc__law_expr_text pm__law_expr_text an__law_expr_text cd__law_expr_text ct__law_expr_text), sl__law_expr_text⟩) (dc__law_expr_text : PySem.W.codeIn K cd__law_expr_text "_law_expr_text" = true) (dk__law_expr_text : PySem.W.keepIn K (.ref g__law_expr_text) = true)
    {oc__law_free_expr : Value} {od__law_free_expr an__law_free_expr : Option Addr} {sl__law_free_expr : Array (Option Value)} {kV__law_free_expr doc__law_free_expr pm__law_free_expr cd__law_free_expr ct__law_free_expr : Value} (da__law_free_expr : PySem.W.nsIn K mainGlobals "_law_free_expr" = some (some (.ref g__law_free_expr))) (dl__law_free_expr : K.lookup g__law_free_expr = some ⟨oc__law_free_expr, od__law_free_expr, .func (PySem.W.fnOf "_law_free_expr" "_law_free_expr" (defArgs s__law_free_expr) (defBody s__law_free_expr) (defScope s__law_free_expr) .none kV__law_free_expr doc__law_free_expr pm__law_free_expr an__law_free_expr cd__law_free_expr ct__law_free_expr), sl__law_free_expr⟩) (dc__law_free_expr : PySem.W.codeIn K cd__law_free_expr "_law_free_expr" = true) (dk__law_free_expr : PySem.W.keepIn K (.ref g__law_free_expr) = true)
    {oc__law_wrapped : Value} {od__law_wrapped an__law_wrapped : Option Addr} {sl__law_wrapped : Array (Option Value)} {kV__law_wrapped doc__law_wrapped pm__law_wrapped cd__law_wrapped ct__law_wrapped : Value} (da__law_wrapped : PySem.W.nsIn K mainGlobals "_law_wrapped" = some (some (.ref g__law_wrapped))) (dl__law_wrapped : K.lookup g__law_wrapped = some ⟨oc__law_wrapped, od__law_wrapped, .func (PySem.W.fnOf "_law_wrapped" "_law_wrapped" (defArgs s__law_wrapped) (defBody s__law_wrapped) (defScope s__law_wrapped) .none kV__law_wrapped doc__law_wrapped pm__law_wrapped an__law_wrapped cd__law_wrapped ct__law_wrapped), sl__law_wrapped⟩) (dc__law_wrapped : PySem.W.codeIn K cd__law_wrapped "_law_wrapped" = true) (dk__law_wrapped : PySem.W.keepIn K (.ref g__law_wrapped) = true)
    {oc_law : Value} {od_law an_law : Option Addr} {sl_law : Array (Option Value)} {kV_law doc_law pm_law cd_law ct_law : Value} (da_law : PySem.W.nsIn K mainGlobals "law" = some (some (.ref g_law))) (dl_law : K.lookup g_law = some ⟨oc_law, od_law, .func (PySem.W.fnOf "law" "law" (defArgs s_law) (defBody s_law) (defScope s_law) .none kV_law doc_law pm_law an_law cd_law ct_law), sl_law⟩) (dc_law : PySem.W.codeIn K cd_law "law" = true) (dk_law : PySem.W.keepIn K (.ref g_law) = true)
    {t_BLANKS : Tok} (ca_BLANKS : PySem.W.nsIn K mainGlobals "BLANKS" = some (some (.str " \n" t_BLANKS)))
    (ca_CHOICES : PySem.W.nsIn K mainGlobals "CHOICES" = some (some (.ref a_CHOICES)))
    {t_DIGITS : Tok} (ca_DIGITS : PySem.W.nsIn K mainGlobals "DIGITS" = some (some (.str "0123456789" t_DIGITS)))
    {t_END : Tok} (ca_END : PySem.W.nsIn K mainGlobals "END" = some (some (.str "end" t_END)))
    (ca_ENDINGS : PySem.W.nsIn K mainGlobals "ENDINGS" = some (some (.ref a_ENDINGS)))
    (ca_FOLLOWERS : PySem.W.nsIn K mainGlobals "FOLLOWERS" = some (some (.ref a_FOLLOWERS)))
    (ca_FORMS : PySem.W.nsIn K mainGlobals "FORMS" = some (some (.ref a_FORMS)))
    {t_INTEGER : Tok} (ca_INTEGER : PySem.W.nsIn K mainGlobals "INTEGER" = some (some (.str "integer" t_INTEGER)))
    {t_LARGEST : Tok} (ca_LARGEST : PySem.W.nsIn K mainGlobals "LARGEST" = some (some (.int 65535 t_LARGEST)))
    {t_LOWER : Tok} (ca_LOWER : PySem.W.nsIn K mainGlobals "LOWER" = some (some (.str "abcdefghijklmnopqrstuvwxyz" t_LOWER)))
    {t_MOST_EXPRESSIONS : Tok} (ca_MOST_EXPRESSIONS : PySem.W.nsIn K mainGlobals "MOST_EXPRESSIONS" = some (some (.int 60 t_MOST_EXPRESSIONS)))
    {t_MOST_LETTERS : Tok} (ca_MOST_LETTERS : PySem.W.nsIn K mainGlobals "MOST_LETTERS" = some (some (.int 12 t_MOST_LETTERS)))
    {t_MOST_LEVELS : Tok} (ca_MOST_LEVELS : PySem.W.nsIn K mainGlobals "MOST_LEVELS" = some (some (.int 7 t_MOST_LEVELS)))
    {t_MOST_TAKES : Tok} (ca_MOST_TAKES : PySem.W.nsIn K mainGlobals "MOST_TAKES" = some (some (.int 3 t_MOST_TAKES)))
    {t_MOST_VALUES : Tok} (ca_MOST_VALUES : PySem.W.nsIn K mainGlobals "MOST_VALUES" = some (some (.int 12 t_MOST_VALUES)))
    {t_NAME : Tok} (ca_NAME : PySem.W.nsIn K mainGlobals "NAME" = some (some (.str "name" t_NAME)))
    (ca_NEARER : PySem.W.nsIn K mainGlobals "NEARER" = some (some (.ref a_NEARER)))
    (ca_PRODUCTS : PySem.W.nsIn K mainGlobals "PRODUCTS" = some (some (.ref a_PRODUCTS)))
    (ca_RESERVED : PySem.W.nsIn K mainGlobals "RESERVED" = some (some (.ref a_RESERVED)))
    (ca_ROWS : PySem.W.nsIn K mainGlobals "ROWS" = some (some (.ref a_ROWS)))
    (ca_SIGNS_bodies : PySem.W.nsIn K mainGlobals "SIGNS_bodies" = some (some (.ref a_SIGNS_bodies)))
    (ca_SIGNS_printing : PySem.W.nsIn K mainGlobals "SIGNS_printing" = some (some (.ref a_SIGNS_printing)))
    (ca_SIGNS_scanning : PySem.W.nsIn K mainGlobals "SIGNS_scanning" = some (some (.ref a_SIGNS_scanning)))
    {t_STRANGE : Tok} (ca_STRANGE : PySem.W.nsIn K mainGlobals "STRANGE" = some (some (.str "strange" t_STRANGE)))
    (ca_SUMS : PySem.W.nsIn K mainGlobals "SUMS" = some (some (.ref a_SUMS)))
    {t_UPPER : Tok} (ca_UPPER : PySem.W.nsIn K mainGlobals "UPPER" = some (some (.str "ABCDEFGHIJKLMNOPQRSTUVWXYZ" t_UPPER)))
    {t_WORD : Tok} (ca_WORD : PySem.W.nsIn K mainGlobals "WORD" = some (some (.str "word" t_WORD)))
    (ca_WORDS : PySem.W.nsIn K mainGlobals "WORDS" = some (some (.ref a_WORDS)))
    (z_bool : PySem.W.nsIn K mainGlobals "bool" = some none)
    (z_int : PySem.W.nsIn K mainGlobals "int" = some none)
    (z_isinstance : PySem.W.nsIn K mainGlobals "isinstance" = some none)
    (z_len : PySem.W.nsIn K mainGlobals "len" = some none)
    (z_list : PySem.W.nsIn K mainGlobals "list" = some none)
    (z_max : PySem.W.nsIn K mainGlobals "max" = some none)
    (z_range : PySem.W.nsIn K mainGlobals "range" = some none)
    (z_str : PySem.W.nsIn K mainGlobals "str" = some none)
    (z_sum : PySem.W.nsIn K mainGlobals "sum" = some none)
    (z_tuple : PySem.W.nsIn K mainGlobals "tuple" = some none)
    (z_zip : PySem.W.nsIn K mainGlobals "zip" = some none)
    (b_RESERVED : tupStr K a_RESERVED = some ((reserved).map some))
    (b_ROWS : tupStr K a_ROWS = some (((["values", "arguments"] : List Str)).map some))
    (b_CHOICES : tupStr K a_CHOICES = some ((choicesW).map some))
    (b_SUMS : tupStr K a_SUMS = some ((sumsW).map some))
    (b_PRODUCTS : tupStr K a_PRODUCTS = some ((productsW).map some))
    (b_SIGNS_scanning : tupStr K a_SIGNS_scanning = some ((signs11).map some))
    (b_SIGNS_bodies : tupStr K a_SIGNS_bodies = some ((CwP.sgs).map some))
    (b_FORMS : formsB K a_FORMS = true) (d_FORMS : He.dicW K a_FORMS = some (He.keysIn w.params (formRows.map (·.1))))
    (b_SIGNS_printing : dictSB K a_SIGNS_printing ([("add", " + "), ("sub", " - "), ("mul", " * ")] : List (Str × Str)) = true) (d_SIGNS_printing : He.dicW K a_SIGNS_printing = some (He.keysIn w.params (([("add", " + "), ("sub", " - "), ("mul", " * ")] : List (Str × Str)).map (·.1))))
    (b_WORDS : dictSB K a_WORDS ([("+", "add"), ("-", "sub"), ("*", "mul")] : List (Str × Str)) = true) (d_WORDS : He.dicW K a_WORDS = some (He.keysIn w.params (([("+", "add"), ("-", "sub"), ("*", "mul")] : List (Str × Str)).map (·.1))))
    (b_FOLLOWERS : dictSB K a_FOLLOWERS ([("if", "then"), ("then", "else"), ("let", "in")] : List (Str × Str)) = true) (d_FOLLOWERS : He.dicW K a_FOLLOWERS = some (He.keysIn w.params (([("if", "then"), ("then", "else"), ("let", "in")] : List (Str × Str)).map (·.1))))
    (b_ENDINGS : dictSB K a_ENDINGS ([("else", "if"), ("in", "let")] : List (Str × Str)) = true) (d_ENDINGS : He.dicW K a_ENDINGS = some (He.keysIn w.params (([("else", "if"), ("in", "let")] : List (Str × Str)).map (·.1))))
    (b_NEARER : dictTB K a_NEARER ([("+", ["+", "-", "*"]), ("-", ["+", "-", "*"]), ("*", ["*"])] : List (Str × List Str)) = true) (d_NEARER : He.dicW K a_NEARER = some (He.keysIn w.params ((([("+", ["+", "-", "*"]), ("-", ["+", "-", "*"]), ("*", ["*"])] : List (Str × List Str))).map (·.1))))
    (aC_Cursor : PySem.W.nsIn K mainGlobals "Cursor" = some (some (.ref c_Cursor)))
    {ocx_Cursor_I : Value} {odx_Cursor_I anx_Cursor_I : Option Addr} {slx_Cursor_I : Array (Option Value)} {kVx_Cursor_I docx_Cursor_I pmx_Cursor_I cdx_Cursor_I ctx_Cursor_I : Value} (ma_Cursor_I : PySem.W.findIn K (.ref c_Cursor) "__init__" = some (some (.ref f_Cursor_I))) (mi_Cursor_I : PySem.W.isFn K (.ref f_Cursor_I) = true) (ml_Cursor_I : K.lookup f_Cursor_I = some ⟨ocx_Cursor_I, odx_Cursor_I, .func (PySem.W.fnOf "__init__" "Cursor.__init__" (defArgs s_Cursor_init) (defBody s_Cursor_init) (defScope s_Cursor_init) .none kVx_Cursor_I docx_Cursor_I pmx_Cursor_I anx_Cursor_I cdx_Cursor_I ctx_Cursor_I), slx_Cursor_I⟩) (mc_Cursor_I : PySem.W.codeIn K cdx_Cursor_I "Cursor.__init__" = true) (mk_Cursor_I : PySem.W.keepIn K (.ref f_Cursor_I) = true)
    {ocx_Cursor_K : Value} {odx_Cursor_K anx_Cursor_K : Option Addr} {slx_Cursor_K : Array (Option Value)} {kVx_Cursor_K docx_Cursor_K pmx_Cursor_K cdx_Cursor_K ctx_Cursor_K : Value} (ma_Cursor_K : PySem.W.findIn K (.ref c_Cursor) "kind" = some (some (.ref f_Cursor_K))) (mi_Cursor_K : PySem.W.isFn K (.ref f_Cursor_K) = true) (ml_Cursor_K : K.lookup f_Cursor_K = some ⟨ocx_Cursor_K, odx_Cursor_K, .func (PySem.W.fnOf "kind" "Cursor.kind" (defArgs s_Cursor_kind) (defBody s_Cursor_kind) (defScope s_Cursor_kind) .none kVx_Cursor_K docx_Cursor_K pmx_Cursor_K anx_Cursor_K cdx_Cursor_K ctx_Cursor_K), slx_Cursor_K⟩) (mc_Cursor_K : PySem.W.codeIn K cdx_Cursor_K "Cursor.kind" = true) (mk_Cursor_K : PySem.W.keepIn K (.ref f_Cursor_K) = true)
    {ocx_Cursor_B : Value} {odx_Cursor_B anx_Cursor_B : Option Addr} {slx_Cursor_B : Array (Option Value)} {kVx_Cursor_B docx_Cursor_B pmx_Cursor_B cdx_Cursor_B ctx_Cursor_B : Value} (ma_Cursor_B : PySem.W.findIn K (.ref c_Cursor) "kind_behind" = some (some (.ref f_Cursor_B))) (mi_Cursor_B : PySem.W.isFn K (.ref f_Cursor_B) = true) (ml_Cursor_B : K.lookup f_Cursor_B = some ⟨ocx_Cursor_B, odx_Cursor_B, .func (PySem.W.fnOf "kind_behind" "Cursor.kind_behind" (defArgs s_Cursor_behind) (defBody s_Cursor_behind) (defScope s_Cursor_behind) .none kVx_Cursor_B docx_Cursor_B pmx_Cursor_B anx_Cursor_B cdx_Cursor_B ctx_Cursor_B), slx_Cursor_B⟩) (mc_Cursor_B : PySem.W.codeIn K cdx_Cursor_B "Cursor.kind_behind" = true) (mk_Cursor_B : PySem.W.keepIn K (.ref f_Cursor_B) = true)
    {ocx_Cursor_T : Value} {odx_Cursor_T anx_Cursor_T : Option Addr} {slx_Cursor_T : Array (Option Value)} {kVx_Cursor_T docx_Cursor_T pmx_Cursor_T cdx_Cursor_T ctx_Cursor_T : Value} (ma_Cursor_T : PySem.W.findIn K (.ref c_Cursor) "take" = some (some (.ref f_Cursor_T))) (mi_Cursor_T : PySem.W.isFn K (.ref f_Cursor_T) = true) (ml_Cursor_T : K.lookup f_Cursor_T = some ⟨ocx_Cursor_T, odx_Cursor_T, .func (PySem.W.fnOf "take" "Cursor.take" (defArgs s_Cursor_take) (defBody s_Cursor_take) (defScope s_Cursor_take) .none kVx_Cursor_T docx_Cursor_T pmx_Cursor_T anx_Cursor_T cdx_Cursor_T ctx_Cursor_T), slx_Cursor_T⟩) (mc_Cursor_T : PySem.W.codeIn K cdx_Cursor_T "Cursor.take" = true) (mk_Cursor_T : PySem.W.keepIn K (.ref f_Cursor_T) = true)
    {ocx_Cursor_S : Value} {odx_Cursor_S anx_Cursor_S : Option Addr} {slx_Cursor_S : Array (Option Value)} {kVx_Cursor_S docx_Cursor_S pmx_Cursor_S cdx_Cursor_S ctx_Cursor_S : Value} (ma_Cursor_S : PySem.W.findIn K (.ref c_Cursor) "skip" = some (some (.ref f_Cursor_S))) (mi_Cursor_S : PySem.W.isFn K (.ref f_Cursor_S) = true) (ml_Cursor_S : K.lookup f_Cursor_S = some ⟨ocx_Cursor_S, odx_Cursor_S, .func (PySem.W.fnOf "skip" "Cursor.skip" (defArgs s_Cursor_skip) (defBody s_Cursor_skip) (defScope s_Cursor_skip) .none kVx_Cursor_S docx_Cursor_S pmx_Cursor_S anx_Cursor_S cdx_Cursor_S ctx_Cursor_S), slx_Cursor_S⟩) (mc_Cursor_S : PySem.W.codeIn K cdx_Cursor_S "Cursor.skip" = true) (mk_Cursor_S : PySem.W.keepIn K (.ref f_Cursor_S) = true)
    (pg_Cursor : PySem.W.plainGet K c_Cursor Str.empty = true) (hd_Cursor : PySem.W.hasDictIn K c_Cursor = true) (po_Cursor : PySem.W.plainOver K c_Cursor = true) (sa_Cursor : PySem.W.findIn K (.ref c_Cursor) "__setattr__" = some (some (.builtin "object.__setattr__"))) (mks_Cursor : PySem.W.makesIn K c_Cursor = true) (kc_Cursor : PySem.W.keepIn K (.ref c_Cursor) = true)
    (nf_Cursor_tokens : PySem.W.findIn K (.ref c_Cursor) "tokens" = some none)
    (nf_Cursor_place : PySem.W.findIn K (.ref c_Cursor) "place" = some none) :
    ∃ fd : FuncData, (∀ (s : Shared) (v : Value), BindsTo s fd ⟨[v], []⟩ [("script", v)]) ∧ ∀ base : Heap, K.In base → base.Ns mainGlobals mg → FnOk l.prog w K mg base CX0 60 fa fd ["script"] (spLaw K) := by
  have e := hfa.symm.trans (PySem.W.mg_of X G da_law)
  cases e
  have F_is_integer := fun_mk (st := s_is_integer) dl_is_integer dc_is_integer dk_is_integer
  have h_is_integer : Hd K mg "is_integer" s_is_integer ["value", "least", "most"] _ _ := ⟨F_is_integer, F_is_integer.binds fun _ _ _ _ _ _ us hl => match us, hl with | [_, _, _], _ => rfl, PySem.W.mg_of X G da_is_integer⟩
  have F_is_sequence := fun_mk (st := s_is_sequence) dl_is_sequence dc_is_sequence dk_is_sequence
  have h_is_sequence : Hd K mg "is_sequence" s_is_sequence ["value", "least", "most"] _ _ := ⟨F_is_sequence, F_is_sequence.binds fun _ _ _ _ _ _ us hl => match us, hl with | [_, _, _], _ => rfl, PySem.W.mg_of X G da_is_sequence⟩
  have F_are_lower := fun_mk (st := s_are_lower) dl_are_lower dc_are_lower dk_are_lower
  have h_are_lower : Hd K mg "are_lower" s_are_lower ["text"] _ _ := ⟨F_are_lower, F_are_lower.binds fun _ _ _ _ _ _ us hl => match us, hl with | [_], _ => rfl, PySem.W.mg_of X G da_are_lower⟩
  have F_is_name := fun_mk (st := s_is_name) dl_is_name dc_is_name dk_is_name
  have h_is_name : Hd K mg "is_name" s_is_name ["value"] _ _ := ⟨F_is_name, F_is_name.binds fun _ _ _ _ _ _ us hl => match us, hl with | [_], _ => rfl, PySem.W.mg_of X G da_is_name⟩
  have F_is_class_word := fun_mk (st := s_is_class_word) dl_is_class_word dc_is_class_word dk_is_class_word
  have h_is_class_word : Hd K mg "is_class_word" s_is_class_word ["value"] _ _ := ⟨F_is_class_word, F_is_class_word.binds fun _ _ _ _ _ _ us hl => match us, hl with | [_], _ => rfl, PySem.W.mg_of X G da_is_class_word⟩
  have F_is_class_name := fun_mk (st := s_is_class_name) dl_is_class_name dc_is_class_name dk_is_class_name
  have h_is_class_name : Hd K mg "is_class_name" s_is_class_name ["value"] _ _ := ⟨F_is_class_name, F_is_class_name.binds fun _ _ _ _ _ _ us hl => match us, hl with | [_], _ => rfl, PySem.W.mg_of X G da_is_class_name⟩
  have F_is_generic_name := fun_mk (st := s_is_generic_name) dl_is_generic_name dc_is_generic_name dk_is_generic_name
  have h_is_generic_name : Hd K mg "is_generic_name" s_is_generic_name ["value"] _ _ := ⟨F_is_generic_name, F_is_generic_name.binds fun _ _ _ _ _ _ us hl => match us, hl with | [_], _ => rfl, PySem.W.mg_of X G da_is_generic_name⟩
  have F_is_expression := fun_mk (st := s_is_expression) dl_is_expression dc_is_expression dk_is_expression
  have h_is_expression : Hd K mg "is_expression" s_is_expression ["value"] _ _ := ⟨F_is_expression, F_is_expression.binds fun _ _ _ _ _ _ us hl => match us, hl with | [_], _ => rfl, PySem.W.mg_of X G da_is_expression⟩
  have F_form_parts := fun_mk (st := s_form_parts) dl_form_parts dc_form_parts dk_form_parts
  have h_form_parts : Hd K mg "form_parts" s_form_parts ["value"] _ _ := ⟨F_form_parts, F_form_parts.binds fun _ _ _ _ _ _ us hl => match us, hl with | [_], _ => rfl, PySem.W.mg_of X G da_form_parts⟩
  have F_is_member := fun_mk (st := s_is_member) dl_is_member dc_is_member dk_is_member
  have h_is_member : Hd K mg "is_member" s_is_member ["kind", "value"] _ _ := ⟨F_is_member, F_is_member.binds fun _ _ _ _ _ _ us hl => match us, hl with | [_, _], _ => rfl, PySem.W.mg_of X G da_is_member⟩
  have F_printed_expression := fun_mk (st := s_printed_expression) dl_printed_expression dc_printed_expression dk_printed_expression
  have h_printed_expression : Hd K mg "printed_expression" s_printed_expression ["expression"] _ _ := ⟨F_printed_expression, F_printed_expression.binds fun _ _ _ _ _ _ us hl => match us, hl with | [_], _ => rfl, PySem.W.mg_of X G da_printed_expression⟩
  have F_expression_text := fun_mk (st := s_expression_text) dl_expression_text dc_expression_text dk_expression_text
  have h_expression_text : Hd K mg "expression_text" s_expression_text ["expression"] _ _ := ⟨F_expression_text, F_expression_text.binds fun _ _ _ _ _ _ us hl => match us, hl with | [_], _ => rfl, PySem.W.mg_of X G da_expression_text⟩
  have F_arguments_text := fun_mk (st := s_arguments_text) dl_arguments_text dc_arguments_text dk_arguments_text
  have h_arguments_text : Hd K mg "arguments_text" s_arguments_text ["arguments"] _ _ := ⟨F_arguments_text, F_arguments_text.binds fun _ _ _ _ _ _ us hl => match us, hl with | [_], _ => rfl, PySem.W.mg_of X G da_arguments_text⟩
  have F_field_text := fun_mk (st := s_field_text) dl_field_text dc_field_text dk_field_text
  have h_field_text : Hd K mg "field_text" s_field_text ["expression"] _ _ := ⟨F_field_text, F_field_text.binds fun _ _ _ _ _ _ us hl => match us, hl with | [_], _ => rfl, PySem.W.mg_of X G da_field_text⟩
  have F_sign_text := fun_mk (st := s_sign_text) dl_sign_text dc_sign_text dk_sign_text
  have h_sign_text : Hd K mg "sign_text" s_sign_text ["expression"] _ _ := ⟨F_sign_text, F_sign_text.binds fun _ _ _ _ _ _ us hl => match us, hl with | [_], _ => rfl, PySem.W.mg_of X G da_sign_text⟩
  have F_choice_text := fun_mk (st := s_choice_text) dl_choice_text dc_choice_text dk_choice_text
  have h_choice_text : Hd K mg "choice_text" s_choice_text ["expression"] _ _ := ⟨F_choice_text, F_choice_text.binds fun _ _ _ _ _ _ us hl => match us, hl with | [_], _ => rfl, PySem.W.mg_of X G da_choice_text⟩
  have F_part_text := fun_mk (st := s_part_text) dl_part_text dc_part_text dk_part_text
  have h_part_text : Hd K mg "part_text" s_part_text ["part", "words"] _ _ := ⟨F_part_text, F_part_text.binds fun _ _ _ _ _ _ us hl => match us, hl with | [_, _], _ => rfl, PySem.W.mg_of X G da_part_text⟩
  have F_tokens_of := fun_mk (st := s_tokens_of) dl_tokens_of dc_tokens_of dk_tokens_of
  have h_tokens_of : Hd K mg "tokens_of" s_tokens_of ["text"] _ _ := ⟨F_tokens_of, F_tokens_of.binds fun _ _ _ _ _ _ us hl => match us, hl with | [_], _ => rfl, PySem.W.mg_of X G da_tokens_of⟩
  have F_end_of_token := fun_mk (st := s_end_of_token) dl_end_of_token dc_end_of_token dk_end_of_token
  have h_end_of_token : Hd K mg "end_of_token" s_end_of_token ["text", "at"] _ _ := ⟨F_end_of_token, F_end_of_token.binds fun _ _ _ _ _ _ us hl => match us, hl with | [_, _], _ => rfl, PySem.W.mg_of X G da_end_of_token⟩
  have F_end_of_run := fun_mk (st := s_end_of_run) dl_end_of_run dc_end_of_run dk_end_of_run
  have h_end_of_run : Hd K mg "end_of_run" s_end_of_run ["text", "at", "characters"] _ _ := ⟨F_end_of_run, F_end_of_run.binds fun _ _ _ _ _ _ us hl => match us, hl with | [_, _, _], _ => rfl, PySem.W.mg_of X G da_end_of_run⟩
  have F_kind_of := fun_mk (st := s_kind_of) dl_kind_of dc_kind_of dk_kind_of
  have h_kind_of : Hd K mg "kind_of" s_kind_of ["token"] _ _ := ⟨F_kind_of, F_kind_of.binds fun _ _ _ _ _ _ us hl => match us, hl with | [_], _ => rfl, PySem.W.mg_of X G da_kind_of⟩
  have F_is_number := fun_mk (st := s_is_number) dl_is_number dc_is_number dk_is_number
  have h_is_number : Hd K mg "is_number" s_is_number ["digits"] _ _ := ⟨F_is_number, F_is_number.binds fun _ _ _ _ _ _ us hl => match us, hl with | [_], _ => rfl, PySem.W.mg_of X G da_is_number⟩
  have F_read_class_name := fun_mk (st := s_read_class_name) dl_read_class_name dc_read_class_name dk_read_class_name
  have h_read_class_name : Hd K mg "read_class_name" s_read_class_name ["cursor"] _ _ := ⟨F_read_class_name, F_read_class_name.binds fun _ _ _ _ _ _ us hl => match us, hl with | [_], _ => rfl, PySem.W.mg_of X G da_read_class_name⟩
  have F_read_expression := fun_mk (st := s_read_expression) dl_read_expression dc_read_expression dk_read_expression
  have h_read_expression : Hd K mg "read_expression" s_read_expression ["cursor"] _ _ := ⟨F_read_expression, F_read_expression.binds fun _ _ _ _ _ _ us hl => match us, hl with | [_], _ => rfl, PySem.W.mg_of X G da_read_expression⟩
  have F_read_primary := fun_mk (st := s_read_primary) dl_read_primary dc_read_primary dk_read_primary
  have h_read_primary : Hd K mg "read_primary" s_read_primary ["cursor", "waiting"] _ _ := ⟨F_read_primary, F_read_primary.binds fun _ _ _ _ _ _ us hl => match us, hl with | [_, _], _ => rfl, PySem.W.mg_of X G da_read_primary⟩
  have F_read_start := fun_mk (st := s_read_start) dl_read_start dc_read_start dk_read_start
  have h_read_start : Hd K mg "read_start" s_read_start ["cursor", "waiting"] _ _ := ⟨F_read_start, F_read_start.binds fun _ _ _ _ _ _ us hl => match us, hl with | [_, _], _ => rfl, PySem.W.mg_of X G da_read_start⟩
  have F_start_choice := fun_mk (st := s_start_choice) dl_start_choice dc_start_choice dk_start_choice
  have h_start_choice : Hd K mg "start_choice" s_start_choice ["cursor", "waiting"] _ _ := ⟨F_start_choice, F_start_choice.binds fun _ _ _ _ _ _ us hl => match us, hl with | [_, _], _ => rfl, PySem.W.mg_of X G da_start_choice⟩
  have F_start_new := fun_mk (st := s_start_new) dl_start_new dc_start_new dk_start_new
  have h_start_new : Hd K mg "start_new" s_start_new ["cursor", "waiting"] _ _ := ⟨F_start_new, F_start_new.binds fun _ _ _ _ _ _ us hl => match us, hl with | [_, _], _ => rfl, PySem.W.mg_of X G da_start_new⟩
  have F_start_name := fun_mk (st := s_start_name) dl_start_name dc_start_name dk_start_name
  have h_start_name : Hd K mg "start_name" s_start_name ["cursor", "waiting"] _ _ := ⟨F_start_name, F_start_name.binds fun _ _ _ _ _ _ us hl => match us, hl with | [_, _], _ => rfl, PySem.W.mg_of X G da_start_name⟩
  have F_read_on := fun_mk (st := s_read_on) dl_read_on dc_read_on dk_read_on
  have h_read_on : Hd K mg "read_on" s_read_on ["cursor", "waiting", "made"] _ _ := ⟨F_read_on, F_read_on.binds fun _ _ _ _ _ _ us hl => match us, hl with | [_, _, _], _ => rfl, PySem.W.mg_of X G da_read_on⟩
  have F_read_field := fun_mk (st := s_read_field) dl_read_field dc_read_field dk_read_field
  have h_read_field : Hd K mg "read_field" s_read_field ["cursor", "made"] _ _ := ⟨F_read_field, F_read_field.binds fun _ _ _ _ _ _ us hl => match us, hl with | [_, _], _ => rfl, PySem.W.mg_of X G da_read_field⟩
  have F_joined := fun_mk (st := s_joined) dl_joined dc_joined dk_joined
  have h_joined : Hd K mg "joined" s_joined ["waiting", "made", "signs"] _ _ := ⟨F_joined, F_joined.binds fun _ _ _ _ _ _ us hl => match us, hl with | [_, _, _], _ => rfl, PySem.W.mg_of X G da_joined⟩
  have F_complete := fun_mk (st := s_complete) dl_complete dc_complete dk_complete
  have h_complete : Hd K mg "complete" s_complete ["cursor", "waiting", "made"] _ _ := ⟨F_complete, F_complete.binds fun _ _ _ _ _ _ us hl => match us, hl with | [_, _, _], _ => rfl, PySem.W.mg_of X G da_complete⟩
  have F_with_argument := fun_mk (st := s_with_argument) dl_with_argument dc_with_argument dk_with_argument
  have h_with_argument : Hd K mg "with_argument" s_with_argument ["cursor", "waiting", "inner", "made"] _ _ := ⟨F_with_argument, F_with_argument.binds fun _ _ _ _ _ _ us hl => match us, hl with | [_, _, _, _], _ => rfl, PySem.W.mg_of X G da_with_argument⟩
  have F_parse_expression := fun_mk (st := s_parse_expression) dl_parse_expression dc_parse_expression dk_parse_expression
  have h_parse_expression : Hd K mg "parse_expression" s_parse_expression ["text"] _ _ := ⟨F_parse_expression, F_parse_expression.binds fun _ _ _ _ _ _ us hl => match us, hl with | [_], _ => rfl, PySem.W.mg_of X G da_parse_expression⟩
  have F__law_so := fun_mk (st := sSo) dl__law_so dc__law_so dk__law_so
  have h__law_so : Hd K mg "_law_so" sSo ["found", "meant"] _ _ := ⟨F__law_so, F__law_so.binds fun _ _ _ _ _ _ us hl => match us, hl with | [_, _], _ => rfl, PySem.W.mg_of X G da__law_so⟩
  have F__law_numbers := fun_mk (st := sNum) dl__law_numbers dc__law_numbers dk__law_numbers
  have h__law_numbers : Hd K mg "_law_numbers" sNum ["script"] _ _ := ⟨F__law_numbers, F__law_numbers.binds fun _ _ _ _ _ _ us hl => match us, hl with | [_], _ => rfl, PySem.W.mg_of X G da__law_numbers⟩
  have F__law_draw := fun_mk (st := sDraw) dl__law_draw dc__law_draw dk__law_draw
  have h__law_draw : Hd K mg "_law_draw" sDraw ["row", "at", "limit"] _ _ := ⟨F__law_draw, F__law_draw.binds fun _ _ _ _ _ _ us hl => match us, hl with | [_, _, _], _ => rfl, PySem.W.mg_of X G da__law_draw⟩
  have F__law_take := fun_mk (st := sTake) dl__law_take dc__law_take dk__law_take
  have h__law_take : Hd K mg "_law_take" sTake ["row", "spot", "limit"] _ _ := ⟨F__law_take, F__law_take.binds fun _ _ _ _ _ _ us hl => match us, hl with | [_, _, _], _ => rfl, PySem.W.mg_of X G da__law_take⟩
  have F__law_wide := fun_mk (st := s__law_wide) dl__law_wide dc__law_wide dk__law_wide
  have h__law_wide : Hd K mg "_law_wide" s__law_wide ["row", "spot", "limit"] _ _ := ⟨F__law_wide, F__law_wide.binds fun _ _ _ _ _ _ us hl => match us, hl with | [_, _, _], _ => rfl, PySem.W.mg_of X G da__law_wide⟩
  have F__law_whole := fun_mk (st := s__law_whole) dl__law_whole dc__law_whole dk__law_whole
  have h__law_whole : Hd K mg "_law_whole" s__law_whole ["value"] _ _ := ⟨F__law_whole, F__law_whole.binds fun _ _ _ _ _ _ us hl => match us, hl with | [_], _ => rfl, PySem.W.mg_of X G da__law_whole⟩
  have F__law_listed := fun_mk (st := s__law_listed) dl__law_listed dc__law_listed dk__law_listed
  have h__law_listed : Hd K mg "_law_listed" s__law_listed ["value"] _ _ := ⟨F__law_listed, F__law_listed.binds fun _ _ _ _ _ _ us hl => match us, hl with | [_], _ => rfl, PySem.W.mg_of X G da__law_listed⟩
  have F__law_handed := fun_mk (st := s__law_handed) dl__law_handed dc__law_handed dk__law_handed
  have h__law_handed : Hd K mg "_law_handed" s__law_handed ["row", "spot", "value"] _ _ := ⟨F__law_handed, F__law_handed.binds fun _ _ _ _ _ _ us hl => match us, hl with | [_, _, _], _ => rfl, PySem.W.mg_of X G da__law_handed⟩
  have F__law_letters := fun_mk (st := s__law_letters) dl__law_letters dc__law_letters dk__law_letters
  have h__law_letters : Hd K mg "_law_letters" s__law_letters ["row", "spot", "many"] _ _ := ⟨F__law_letters, F__law_letters.binds fun _ _ _ _ _ _ us hl => match us, hl with | [_, _, _], _ => rfl, PySem.W.mg_of X G da__law_letters⟩
  have F__law_name := fun_mk (st := s__law_name) dl__law_name dc__law_name dk__law_name
  have h__law_name : Hd K mg "_law_name" s__law_name ["row", "spot", "used"] _ _ := ⟨F__law_name, F__law_name.binds fun _ _ _ _ _ _ us hl => match us, hl with | [_, _, _], _ => rfl, PySem.W.mg_of X G da__law_name⟩
  have F__law_reserved := fun_mk (st := s__law_reserved) dl__law_reserved dc__law_reserved dk__law_reserved
  have h__law_reserved : Hd K mg "_law_reserved" s__law_reserved [] _ _ := ⟨F__law_reserved, F__law_reserved.binds fun _ _ _ _ _ _ us hl => match us, hl with | [], _ => rfl, PySem.W.mg_of X G da__law_reserved⟩
  have F__law_word := fun_mk (st := s__law_word) dl__law_word dc__law_word dk__law_word
  have h__law_word : Hd K mg "_law_word" s__law_word ["row", "spot", "used"] _ _ := ⟨F__law_word, F__law_word.binds fun _ _ _ _ _ _ us hl => match us, hl with | [_, _, _], _ => rfl, PySem.W.mg_of X G da__law_word⟩
  have F__law_is_word := fun_mk (st := s__law_is_word) dl__law_is_word dc__law_is_word dk__law_is_word
  have h__law_is_word : Hd K mg "_law_is_word" s__law_is_word ["value", "capital"] _ _ := ⟨F__law_is_word, F__law_is_word.binds fun _ _ _ _ _ _ us hl => match us, hl with | [_, _], _ => rfl, PySem.W.mg_of X G da__law_is_word⟩
  have F__law_is_class_name := fun_mk (st := s__law_is_class_name) dl__law_is_class_name dc__law_is_class_name dk__law_is_class_name
  have h__law_is_class_name : Hd K mg "_law_is_class_name" s__law_is_class_name ["value", "capital"] _ _ := ⟨F__law_is_class_name, F__law_is_class_name.binds fun _ _ _ _ _ _ us hl => match us, hl with | [_, _], _ => rfl, PySem.W.mg_of X G da__law_is_class_name⟩
  have F__law_inner_parts := fun_mk (st := s__law_inner_parts) dl__law_inner_parts dc__law_inner_parts dk__law_inner_parts
  have h__law_inner_parts : Hd K mg "_law_inner_parts" s__law_inner_parts ["value"] _ _ := ⟨F__law_inner_parts, F__law_inner_parts.binds fun _ _ _ _ _ _ us hl => match us, hl with | [_], _ => rfl, PySem.W.mg_of X G da__law_inner_parts⟩
  have F__law_is_expr := fun_mk (st := s__law_is_expr) dl__law_is_expr dc__law_is_expr dk__law_is_expr
  have h__law_is_expr : Hd K mg "_law_is_expr" s__law_is_expr ["value", "deep"] _ _ := ⟨F__law_is_expr, F__law_is_expr.binds fun _ _ _ _ _ _ us hl => match us, hl with | [_, _], _ => rfl, PySem.W.mg_of X G da__law_is_expr⟩
  have F__law_count := fun_mk (st := s__law_count) dl__law_count dc__law_count dk__law_count
  have h__law_count : Hd K mg "_law_count" s__law_count ["value"] _ _ := ⟨F__law_count, F__law_count.binds fun _ _ _ _ _ _ us hl => match us, hl with | [_], _ => rfl, PySem.W.mg_of X G da__law_count⟩
  have F__law_is_right_expr := fun_mk (st := s__law_is_right_expr) dl__law_is_right_expr dc__law_is_right_expr dk__law_is_right_expr
  have h__law_is_right_expr : Hd K mg "_law_is_right_expr" s__law_is_right_expr ["value"] _ _ := ⟨F__law_is_right_expr, F__law_is_right_expr.binds fun _ _ _ _ _ _ us hl => match us, hl with | [_], _ => rfl, PySem.W.mg_of X G da__law_is_right_expr⟩
  have F__law_rank := fun_mk (st := s__law_rank) dl__law_rank dc__law_rank dk__law_rank
  have h__law_rank : Hd K mg "_law_rank" s__law_rank ["value"] _ _ := ⟨F__law_rank, F__law_rank.binds fun _ _ _ _ _ _ us hl => match us, hl with | [_], _ => rfl, PySem.W.mg_of X G da__law_rank⟩
  have F__law_expr_text := fun_mk (st := s__law_expr_text) dl__law_expr_text dc__law_expr_text dk__law_expr_text
  have h__law_expr_text : Hd K mg "_law_expr_text" s__law_expr_text ["value", "rank"] _ _ := ⟨F__law_expr_text, F__law_expr_text.binds fun _ _ _ _ _ _ us hl => match us, hl with | [_, _], _ => rfl, PySem.W.mg_of X G da__law_expr_text⟩
  have F__law_free_expr := fun_mk (st := s__law_free_expr) dl__law_free_expr dc__law_free_expr dk__law_free_expr
  have h__law_free_expr : Hd K mg "_law_free_expr" s__law_free_expr ["row", "spot", "deep"] _ _ := ⟨F__law_free_expr, F__law_free_expr.binds fun _ _ _ _ _ _ us hl => match us, hl with | [_, _, _], _ => rfl, PySem.W.mg_of X G da__law_free_expr⟩
  have F__law_wrapped := fun_mk (st := s__law_wrapped) dl__law_wrapped dc__law_wrapped dk__law_wrapped
  have h__law_wrapped : Hd K mg "_law_wrapped" s__law_wrapped ["row", "spot", "value"] _ _ := ⟨F__law_wrapped, F__law_wrapped.binds fun _ _ _ _ _ _ us hl => match us, hl with | [_, _, _], _ => rfl, PySem.W.mg_of X G da__law_wrapped⟩
  have F_law := fun_mk (st := s_law) dl_law dc_law dk_law
  have h_BLANKS : Cst K mg "BLANKS" (.str " \n") _ := ⟨PySem.W.mg_of X G ca_BLANKS, ⟨_, rfl⟩⟩
  have h_CHOICES : Cst K mg "CHOICES" (.ref a_CHOICES) _ := ⟨PySem.W.mg_of X G ca_CHOICES, rfl⟩
  have h_DIGITS : Cst K mg "DIGITS" (.str "0123456789") _ := ⟨PySem.W.mg_of X G ca_DIGITS, ⟨_, rfl⟩⟩
  have h_END : Cst K mg "END" (.str "end") _ := ⟨PySem.W.mg_of X G ca_END, ⟨_, rfl⟩⟩
  have h_ENDINGS : Cst K mg "ENDINGS" (.ref a_ENDINGS) _ := ⟨PySem.W.mg_of X G ca_ENDINGS, rfl⟩
  have h_FOLLOWERS : Cst K mg "FOLLOWERS" (.ref a_FOLLOWERS) _ := ⟨PySem.W.mg_of X G ca_FOLLOWERS, rfl⟩
  have h_FORMS : Cst K mg "FORMS" (.ref a_FORMS) _ := ⟨PySem.W.mg_of X G ca_FORMS, rfl⟩
  have h_INTEGER : Cst K mg "INTEGER" (.str "integer") _ := ⟨PySem.W.mg_of X G ca_INTEGER, ⟨_, rfl⟩⟩
  have h_LARGEST : Cst K mg "LARGEST" (.int 65535) _ := ⟨PySem.W.mg_of X G ca_LARGEST, ⟨_, rfl⟩⟩
  have h_LOWER : Cst K mg "LOWER" (.str "abcdefghijklmnopqrstuvwxyz") _ := ⟨PySem.W.mg_of X G ca_LOWER, ⟨_, rfl⟩⟩
  have h_MOST_EXPRESSIONS : Cst K mg "MOST_EXPRESSIONS" (.int 60) _ := ⟨PySem.W.mg_of X G ca_MOST_EXPRESSIONS, ⟨_, rfl⟩⟩
  have h_MOST_LETTERS : Cst K mg "MOST_LETTERS" (.int 12) _ := ⟨PySem.W.mg_of X G ca_MOST_LETTERS, ⟨_, rfl⟩⟩
  have h_MOST_LEVELS : Cst K mg "MOST_LEVELS" (.int 7) _ := ⟨PySem.W.mg_of X G ca_MOST_LEVELS, ⟨_, rfl⟩⟩
  have h_MOST_TAKES : Cst K mg "MOST_TAKES" (.int 3) _ := ⟨PySem.W.mg_of X G ca_MOST_TAKES, ⟨_, rfl⟩⟩
  have h_MOST_VALUES : Cst K mg "MOST_VALUES" (.int 12) _ := ⟨PySem.W.mg_of X G ca_MOST_VALUES, ⟨_, rfl⟩⟩
  have h_NAME : Cst K mg "NAME" (.str "name") _ := ⟨PySem.W.mg_of X G ca_NAME, ⟨_, rfl⟩⟩
  have h_NEARER : Cst K mg "NEARER" (.ref a_NEARER) _ := ⟨PySem.W.mg_of X G ca_NEARER, rfl⟩
  have h_PRODUCTS : Cst K mg "PRODUCTS" (.ref a_PRODUCTS) _ := ⟨PySem.W.mg_of X G ca_PRODUCTS, rfl⟩
  have h_RESERVED : Cst K mg "RESERVED" (.ref a_RESERVED) _ := ⟨PySem.W.mg_of X G ca_RESERVED, rfl⟩
  have h_ROWS : Cst K mg "ROWS" (.ref a_ROWS) _ := ⟨PySem.W.mg_of X G ca_ROWS, rfl⟩
  have h_SIGNS_bodies : Cst K mg "SIGNS_bodies" (.ref a_SIGNS_bodies) _ := ⟨PySem.W.mg_of X G ca_SIGNS_bodies, rfl⟩
  have h_SIGNS_printing : Cst K mg "SIGNS_printing" (.ref a_SIGNS_printing) _ := ⟨PySem.W.mg_of X G ca_SIGNS_printing, rfl⟩
  have h_SIGNS_scanning : Cst K mg "SIGNS_scanning" (.ref a_SIGNS_scanning) _ := ⟨PySem.W.mg_of X G ca_SIGNS_scanning, rfl⟩
  have h_STRANGE : Cst K mg "STRANGE" (.str "strange") _ := ⟨PySem.W.mg_of X G ca_STRANGE, ⟨_, rfl⟩⟩
  have h_SUMS : Cst K mg "SUMS" (.ref a_SUMS) _ := ⟨PySem.W.mg_of X G ca_SUMS, rfl⟩
  have h_UPPER : Cst K mg "UPPER" (.str "ABCDEFGHIJKLMNOPQRSTUVWXYZ") _ := ⟨PySem.W.mg_of X G ca_UPPER, ⟨_, rfl⟩⟩
  have h_WORD : Cst K mg "WORD" (.str "word") _ := ⟨PySem.W.mg_of X G ca_WORD, ⟨_, rfl⟩⟩
  have h_WORDS : Cst K mg "WORDS" (.ref a_WORDS) _ := ⟨PySem.W.mg_of X G ca_WORDS, rfl⟩
  have m_bool := PySem.W.mg_none_of X G z_bool
  have m_int := PySem.W.mg_none_of X G z_int
  have m_isinstance := PySem.W.mg_none_of X G z_isinstance
  have m_len := PySem.W.mg_none_of X G z_len
  have m_list := PySem.W.mg_none_of X G z_list
  have m_max := PySem.W.mg_none_of X G z_max
  have m_range := PySem.W.mg_none_of X G z_range
  have m_str := PySem.W.mg_none_of X G z_str
  have m_sum := PySem.W.mg_none_of X G z_sum
  have m_tuple := PySem.W.mg_none_of X G z_tuple
  have m_zip := PySem.W.mg_none_of X G z_zip
  have t_RESERVED : ∀ H : Hp, SqT K H a_RESERVED ((reserved).map V.str) := tup_of b_RESERVED
  have t_ROWS : ∀ H : Hp, SqT K H a_ROWS (((["values", "arguments"] : List Str)).map V.str) := tup_of b_ROWS
  have t_CHOICES : ∀ H : Hp, SqT K H a_CHOICES ((choicesW).map V.str) := tup_of b_CHOICES
  have t_SUMS : ∀ H : Hp, SqT K H a_SUMS ((sumsW).map V.str) := tup_of b_SUMS
  have t_PRODUCTS : ∀ H : Hp, SqT K H a_PRODUCTS ((productsW).map V.str) := tup_of b_PRODUCTS
  have t_SIGNS_scanning : ∀ H : Hp, SqT K H a_SIGNS_scanning ((signs11).map V.str) := tup_of b_SIGNS_scanning
  have t_SIGNS_bodies : ∀ H : Hp, SqT K H a_SIGNS_bodies ((CwP.sgs).map V.str) := tup_of b_SIGNS_bodies
  have t_FORMS : Forms K w a_FORMS := forms_of (He.dicW_ok d_FORMS) b_FORMS
  have t_SIGNS_printing : Signs K w a_SIGNS_printing := signs_of (dictS_of (He.dicW_ok d_SIGNS_printing) b_SIGNS_printing)
  have t_WORDS : Words3 K w a_WORDS := wordsd_of (dictS_of (He.dicW_ok d_WORDS) b_WORDS)
  have t_FOLLOWERS : Foll3 K w a_FOLLOWERS := foll_of (dictS_of (He.dicW_ok d_FOLLOWERS) b_FOLLOWERS)
  have t_ENDINGS : Ends2 K w a_ENDINGS := ends_of (dictS_of (He.dicW_ok d_ENDINGS) b_ENDINGS)
  have t_NEARER : Near3 K w a_NEARER := near_of (dictT_of (He.dicW_ok d_NEARER) b_NEARER)
  have F_Cursor_I := fun_mk (st := s_Cursor_init) ml_Cursor_I mc_Cursor_I mk_Cursor_I
  have b_Cursor_I := F_Cursor_I.binds (ps := ["self", "text"]) fun _ _ _ _ _ _ us hl => match us, hl with | [_, _], _ => rfl
  have F_Cursor_K := fun_mk (st := s_Cursor_kind) ml_Cursor_K mc_Cursor_K mk_Cursor_K
  have b_Cursor_K := F_Cursor_K.binds (ps := ["self"]) fun _ _ _ _ _ _ us hl => match us, hl with | [_], _ => rfl
  have m_Cursor_K : Meth K c_Cursor "kind" f_Cursor_K := ⟨ma_Cursor_K, mi_Cursor_K, mk_Cursor_K⟩
  have F_Cursor_B := fun_mk (st := s_Cursor_behind) ml_Cursor_B mc_Cursor_B mk_Cursor_B
  have b_Cursor_B := F_Cursor_B.binds (ps := ["self"]) fun _ _ _ _ _ _ us hl => match us, hl with | [_], _ => rfl
  have m_Cursor_B : Meth K c_Cursor "kind_behind" f_Cursor_B := ⟨ma_Cursor_B, mi_Cursor_B, mk_Cursor_B⟩
  have F_Cursor_T := fun_mk (st := s_Cursor_take) ml_Cursor_T mc_Cursor_T mk_Cursor_T
  have b_Cursor_T := F_Cursor_T.binds (ps := ["self", "kind"]) fun _ _ _ _ _ _ us hl => match us, hl with | [_, _], _ => rfl
  have m_Cursor_T : Meth K c_Cursor "take" f_Cursor_T := ⟨ma_Cursor_T, mi_Cursor_T, mk_Cursor_T⟩
  have F_Cursor_S := fun_mk (st := s_Cursor_skip) ml_Cursor_S mc_Cursor_S mk_Cursor_S
  have b_Cursor_S := F_Cursor_S.binds (ps := ["self", "kind"]) fun _ _ _ _ _ _ us hl => match us, hl with | [_, _], _ => rfl
  have m_Cursor_S : Meth K c_Cursor "skip" f_Cursor_S := ⟨ma_Cursor_S, mi_Cursor_S, mk_Cursor_S⟩
  have T : TCur K mg c_Cursor := ⟨⟨pg_Cursor, hd_Cursor, po_Cursor, sa_Cursor⟩, nf_Cursor_tokens, nf_Cursor_place, PySem.W.mg_of X G aC_Cursor⟩
  refine ⟨PySem.W.fnOf "law" "law" (defArgs s_law) (defBody s_law) (defScope s_law) .none kV_law doc_law pm_law an_law cd_law ct_law, fun s v => .of_eq rfl, fun base _ _ => ?_⟩
  have G__law_numbers := ok_num (P := l.prog) (w := w) (base := base) (k := 0) F__law_numbers m_range m_int m_len
  have G_take0 := ok_take (P := l.prog) (w := w) (base := base) (k := 0) F__law_take F__law_draw h__law_draw.b h__law_draw.g m_int m_len
  have G__law_take := ok_tk G_take0
  have G__law_so : FnOk l.prog w K mg base CX0 13 _ _ ["found", "meant"] (spSo K 12) := ok_so (k := 1) F__law_so h__law_so.b h__law_so.g m_isinstance m_len m_range m_tuple m_bool m_int m_str 12
  have G_is_integer := ok_is_integer (P := l.prog) (w := w) (mg := mg) (base := base)  F_is_integer m_isinstance m_int m_bool
  have G_is_sequence := ok_is_sequence (P := l.prog) (w := w) (mg := mg) (base := base)  F_is_sequence m_isinstance m_list m_tuple m_len
  have G_are_lower := ok_are_lower (P := l.prog) (w := w) (mg := mg) (base := base)  F_are_lower h_LOWER
  have G_is_name := ok_is_name (P := l.prog) (w := w) (mg := mg) (base := base)  F_is_name h_are_lower G_are_lower h_MOST_LETTERS h_RESERVED t_RESERVED m_isinstance m_str m_len
  have G_is_class_word := ok_is_class_word (P := l.prog) (w := w) (mg := mg) (base := base)  F_is_class_word h_are_lower G_are_lower h_MOST_LETTERS h_UPPER m_isinstance m_str m_len
  have G_is_class_name := ok_is_class_name (P := l.prog) (w := w) (mg := mg) (base := base)  F_is_class_name h_is_name G_is_name h_is_class_word G_is_class_word m_isinstance m_str
  have G_is_generic_name := ok_is_generic_name (P := l.prog) (w := w) (mg := mg) (base := base)  F_is_generic_name h_is_name G_is_name m_isinstance m_str
  have G_is_member := ok_is_member (P := l.prog) (w := w) (mg := mg) (base := base)  F_is_member h_is_integer G_is_integer h_is_name G_is_name h_is_class_name G_is_class_name h_is_generic_name G_is_generic_name h_is_sequence G_is_sequence h_LARGEST h_MOST_VALUES h_MOST_TAKES
  have G_form_parts := ok_form_parts (P := l.prog) (w := w) (mg := mg) (base := base)  F_form_parts h_is_member G_is_member h_FORMS t_FORMS h_ROWS t_ROWS m_isinstance m_list m_tuple m_len m_str m_zip
  have G_is_expression := ok_is_expression (P := l.prog) (w := w) (mg := mg) (base := base)  F_is_expression h_form_parts G_form_parts h_MOST_LEVELS h_MOST_EXPRESSIONS m_range m_len
  have G__law_whole := ok__law_whole (P := l.prog) (w := w) (mg := mg) (base := base)  F__law_whole m_isinstance m_int m_bool
  have G__law_reserved := ok__law_reserved (P := l.prog) (w := w) (mg := mg) (base := base)  F__law_reserved
  have G__law_is_word := ok__law_is_word (P := l.prog) (w := w) (mg := mg) (base := base)  F__law_is_word h__law_reserved G__law_reserved m_isinstance m_str m_len m_range
  have G__law_is_class_name := ok__law_is_class_name (P := l.prog) (w := w) (mg := mg) (base := base)  F__law_is_class_name h__law_is_word G__law_is_word m_isinstance m_str
  have G__law_inner_parts := ok__law_inner_parts (P := l.prog) (w := w) (mg := mg) (base := base)  F__law_inner_parts m_list
  have G__law_is_expr : FnOk l.prog w K mg base CX0 12 _ _ ["value", "deep"] (spExpr K 8) := ok__law_is_expr (P := l.prog) (w := w) (mg := mg) (base := base)  F__law_is_expr h__law_whole G__law_whole h__law_is_word G__law_is_word h__law_is_class_name G__law_is_class_name h__law_inner_parts G__law_inner_parts m_isinstance m_tuple m_len m_str h__law_is_expr.b h__law_is_expr.g 8
  have G__law_count : FnOk l.prog w K mg base CX0 9 _ _ ["value"] (spCount K 7) := ok__law_count (P := l.prog) (w := w) (mg := mg) (base := base)  F__law_count h__law_inner_parts G__law_inner_parts m_sum h__law_count.b h__law_count.g 7
  have G__law_is_right_expr := ok__law_is_right_expr (P := l.prog) (w := w) (mg := mg) (base := base)  F__law_is_right_expr h__law_is_expr G__law_is_expr h__law_count G__law_count
  have G__law_wide := ok__law_wide (P := l.prog) (w := w) (mg := mg) (base := base)  F__law_wide h__law_take G__law_take m_int
  have G__law_letters := ok__law_letters (P := l.prog) (w := w) (mg := mg) (base := base)  F__law_letters h__law_take G__law_take m_range
  have G__law_name := ok__law_name (P := l.prog) (w := w) (mg := mg) (base := base)  F__law_name h__law_letters G__law_letters h__law_take G__law_take h__law_reserved G__law_reserved m_range
  have G__law_word := ok__law_word (P := l.prog) (w := w) (mg := mg) (base := base)  F__law_word h__law_take G__law_take h__law_letters G__law_letters m_range
  have G__law_listed : FnOk l.prog w K mg base CX0 42 _ _ ["value"] (spListed K 41) := ok__law_listed (P := l.prog) (w := w) (mg := mg) (base := base)  F__law_listed m_isinstance m_tuple h__law_listed.b h__law_listed.g 41
  have G__law_handed := ok__law_handed (P := l.prog) (w := w) (mg := mg) (base := base)  F__law_handed h__law_take G__law_take h__law_listed G__law_listed
  have G__law_free_expr := ok_fxa (ok__law_free_expr (P := l.prog) (w := w) (mg := mg) (base := base)  F__law_free_expr h__law_take G__law_take h__law_wide G__law_wide h__law_name G__law_name h__law_word G__law_word m_range m_max m_tuple h__law_free_expr.b h__law_free_expr.g)
  have G_expression_text : FnOk l.prog w K mg base CX0 22 _ _ ["expression"] (spTx K 7) := ok_expression_text (P := l.prog) (w := w) (mg := mg) (base := base)  h_expression_text h_arguments_text h_part_text h_field_text h_sign_text h_choice_text h_CHOICES t_CHOICES h_SUMS t_SUMS h_PRODUCTS t_PRODUCTS h_SIGNS_printing t_SIGNS_printing m_str 7
  have G_printed_expression := ok_printed_expression (P := l.prog) (w := w) (mg := mg) (base := base)  F_printed_expression h_is_expression G_is_expression h_expression_text G_expression_text
  have G_end_of_run := ok_end_of_run (P := l.prog) (w := w) (mg := mg) (base := base)  F_end_of_run m_len
  have G_end_of_token := ok_end_of_token (P := l.prog) (w := w) (mg := mg) (base := base)  F_end_of_token h_end_of_run G_end_of_run h_DIGITS h_LOWER h_UPPER
  have G_is_number := ok_is_number (P := l.prog) (w := w) (mg := mg) (base := base)  F_is_number h_LARGEST m_len m_str m_int
  have G_kind_of := ok_kind_of (P := l.prog) (w := w) (mg := mg) (base := base)  F_kind_of h_is_name G_is_name h_is_class_word G_is_class_word h_is_number G_is_number h_SIGNS_scanning t_SIGNS_scanning h_RESERVED t_RESERVED h_NAME h_WORD h_DIGITS h_INTEGER h_STRANGE
  have G_tokens_of := ok_tokens_of (P := l.prog) (w := w) (mg := mg) (base := base)  F_tokens_of h_end_of_token G_end_of_token h_kind_of G_kind_of h_BLANKS h_END m_len
  have GI := ok_Cinit (P := l.prog) (w := w) (mg := mg) (base := base) F_Cursor_I T h_tokens_of G_tokens_of
  have GK := ok_Ckind (P := l.prog) (w := w) (mg := mg) (base := base) F_Cursor_K T
  have GB := ok_Cbehind (P := l.prog) (w := w) (mg := mg) (base := base) F_Cursor_B T
  have GT := ok_Ctake (P := l.prog) (w := w) (mg := mg) (base := base) F_Cursor_T T
  have GS := ok_Cskip (P := l.prog) (w := w) (mg := mg) (base := base) F_Cursor_S T b_Cursor_K m_Cursor_K GK b_Cursor_T m_Cursor_T GT
  have M : CurM l.prog w K mg base c_Cursor := ⟨T, _, _, m_Cursor_K, b_Cursor_K, GK, _, _, m_Cursor_B, b_Cursor_B, GB, _, _, m_Cursor_T, b_Cursor_T, GT, _, _, m_Cursor_S, b_Cursor_S, GS⟩
  have MC : Mk K c_Cursor f_Cursor_I := ⟨mks_Cursor, ma_Cursor_I, mi_Cursor_I, kc_Cursor⟩
  have bI := b_Cursor_I
  have G_read_class_name := ok_read_class_name (P := l.prog) (w := w) (mg := mg) (base := base)  F_read_class_name h_NAME h_WORD M
  have G_start_choice := ok_start_choice (P := l.prog) (w := w) (mg := mg) (base := base)  F_start_choice h_NAME M
  have G_start_new := ok_start_new (P := l.prog) (w := w) (mg := mg) (base := base)  F_start_new h_read_class_name G_read_class_name M
  have G_start_name := ok_start_name (P := l.prog) (w := w) (mg := mg) (base := base)  F_start_name h_NAME M
  have G_read_start := ok_read_start (P := l.prog) (w := w) (mg := mg) (base := base)  F_read_start h_start_choice G_start_choice h_start_new G_start_new h_start_name G_start_name h_SIGNS_bodies t_SIGNS_bodies h_INTEGER m_int M
  have G_read_primary := ok_read_primary (P := l.prog) (w := w) (mg := mg) (base := base)  F_read_primary h_read_start G_read_start
  have G_read_field := ok_read_field (P := l.prog) (w := w) (mg := mg) (base := base)  F_read_field h_read_class_name G_read_class_name h_NAME M
  have G_joined := ok_joined (P := l.prog) (w := w) (mg := mg) (base := base) (C := c_Cursor) F_joined h_WORDS t_WORDS
  have G_with_argument := ok_with_argument (P := l.prog) (w := w) (mg := mg) (base := base)  F_with_argument m_tuple M
  have G_complete := ok_complete (P := l.prog) (w := w) (mg := mg) (base := base)  F_complete h_with_argument G_with_argument h_ENDINGS t_ENDINGS h_FOLLOWERS t_FOLLOWERS M
  have G_read_on := ok_read_on (P := l.prog) (w := w) (mg := mg) (base := base)  F_read_on h_read_field G_read_field h_joined G_joined h_complete G_complete h_SIGNS_bodies t_SIGNS_bodies h_NEARER t_NEARER M
  have G_read_expression := ok_read_expression (P := l.prog) (w := w) (mg := mg) (base := base)  F_read_expression h_read_primary G_read_primary h_read_on G_read_on
  have G_parse_expression := ok_parse_expression (P := l.prog) (w := w) (mg := mg) (base := base)  F_parse_expression h_read_expression G_read_expression h_is_expression G_is_expression h_END m_isinstance m_str M MC GI bI
  have G__law_rank := ok__law_rank (P := l.prog) (w := w) (mg := mg) (base := base)  F__law_rank
  have G__law_expr_text : FnOk l.prog w K mg base CX0 9 _ _ ["value", "rank"] (spLtx K 7) := ok__law_expr_text (P := l.prog) (w := w) (mg := mg) (base := base)  F__law_expr_text h__law_rank G__law_rank m_str h__law_expr_text.b h__law_expr_text.g 7
  have Gx := ok__law_expr_text (P := l.prog) (w := w) (mg := mg) (base := base) F__law_expr_text h__law_rank G__law_rank m_str h__law_expr_text.b h__law_expr_text.g
  have G__law_wrapped : FnOk l.prog w K mg base CX0 27 _ _ ["row", "spot", "value"] (spWr K 7) := ok__law_wrapped (P := l.prog) (w := w) (mg := mg) (base := base) F__law_wrapped h__law_inner_parts G__law_inner_parts h__law_expr_text Gx h__law_take G__law_take m_range h__law_wrapped.b h__law_wrapped.g 7
  have kb_printed_expression := F_printed_expression.kb1 (v := "expression") fun _ _ _ _ _ _ _ => rfl
  have kb_parse_expression := F_parse_expression.kb1 (v := "text") fun _ _ _ _ _ _ _ => rfl
  exact ok_law (P := l.prog) (w := w) (mg := mg) (base := base) F_law h__law_numbers G__law_numbers h__law_free_expr G__law_free_expr h__law_take G__law_take h__law_is_right_expr G__law_is_right_expr h__law_expr_text G__law_expr_text h__law_so G__law_so h_printed_expression G_printed_expression h__law_handed G__law_handed h_parse_expression G_parse_expression h__law_wrapped G__law_wrapped m_range kb_printed_expression kb_parse_expression
end Cw

set_option Elab.async false
set_option linter.all false
set_option maxRecDepth 100000
set_option maxHeartbeats 0
open PySem PySem.W PyProof.Rows
theorem PySem.Challenge.cw_callwarrant_k64_expressions_printed_and_holds : PySem.Challenge.rw_callwarrant_k64_expressions_printed_and.Holds := by
  w_on; o_law; k_head; (case hw => w_witness2)
  k_fill
  refine L2.walk_of (l := PySem.Challenge.rw_callwarrant_k64_expressions_printed_and) (n := 63) (k := 60) (x := "script") (CX := fun _ => L2.CX0) (sp := fun w => Cw.spLaw _) rfl (by decide) rfl ⟨rfl, by decide, by decide⟩ (fun w h Y => PySem.W.kIn_of Y) ?F (fun _ _ a ns hl _ hS => ⟨a, ns, rfl, hS, hl, fun _ => rfl⟩) (fun _ _ _ _ _ h => h)
  case F =>
    intro w mg fa h KX G hmg
    refine' Cw.all_mk KX G hmg ?da_is_integer ?dl_is_integer ?dc_is_integer ?dk_is_integer ?da_is_sequence ?dl_is_sequence ?dc_is_sequence ?dk_is_sequence ?da_are_lower ?dl_are_lower ?dc_are_lower ?dk_are_lower ?da_is_name ?dl_is_name ?dc_is_name ?dk_is_name ?da_is_class_word ?dl_is_class_word ?dc_is_class_word ?dk_is_class_word ?da_is_class_name ?dl_is_class_name ?dc_is_class_name ?dk_is_class_name ?da_is_generic_name ?dl_is_generic_name ?dc_is_generic_name ?dk_is_generic_name ?da_is_expression ?dl_is_expression ?dc_is_expression ?dk_is_expression ?da_form_parts ?dl_form_parts ?dc_form_parts ?dk_form_parts ?da_is_member ?dl_is_member ?dc_is_member ?dk_is_member ?da_printed_expression ?dl_printed_expression ?dc_printed_expression ?dk_printed_expression ?da_expression_text ?dl_expression_text ?dc_expression_text ?dk_expression_text ?da_arguments_text ?dl_arguments_text ?dc_arguments_text ?dk_arguments_text ?da_field_text ?dl_field_text ?dc_field_text ?dk_field_text ?da_sign_text ?dl_sign_text ?dc_sign_text ?dk_sign_text ?da_choice_text ?dl_choice_text ?dc_choice_text ?dk_choice_text ?da_part_text ?dl_part_text ?dc_part_text ?dk_part_text ?da_tokens_of ?dl_tokens_of ?dc_tokens_of ?dk_tokens_of ?da_end_of_token ?dl_end_of_token ?dc_end_of_token ?dk_end_of_token ?da_end_of_run ?dl_end_of_run ?dc_end_of_run ?dk_end_of_run ?da_kind_of ?dl_kind_of ?dc_kind_of ?dk_kind_of ?da_is_number ?dl_is_number ?dc_is_number ?dk_is_number ?da_read_class_name ?dl_read_class_name ?dc_read_class_name ?dk_read_class_name ?da_read_expression ?dl_read_expression ?dc_read_expression ?dk_read_expression ?da_read_primary ?dl_read_primary ?dc_read_primary ?dk_read_primary ?da_read_start ?dl_read_start ?dc_read_start ?dk_read_start ?da_start_choice ?dl_start_choice ?dc_start_choice ?dk_start_choice ?da_start_new ?dl_start_new ?dc_start_new ?dk_start_new ?da_start_name ?dl_start_name ?dc_start_name ?dk_start_name ?da_read_on ?dl_read_on ?dc_read_on ?dk_read_on ?da_read_field ?dl_read_field ?dc_read_field ?dk_read_field ?da_joined ?dl_joined ?dc_joined ?dk_joined ?da_complete ?dl_complete ?dc_complete ?dk_complete ?da_with_argument ?dl_with_argument ?dc_with_argument ?dk_with_argument ?da_parse_expression ?dl_parse_expression ?dc_parse_expression ?dk_parse_expression ?da__law_so ?dl__law_so ?dc__law_so ?dk__law_so ?da__law_numbers ?dl__law_numbers ?dc__law_numbers ?dk__law_numbers ?da__law_draw ?dl__law_draw ?dc__law_draw ?dk__law_draw ?da__law_take ?dl__law_take ?dc__law_take ?dk__law_take ?da__law_wide ?dl__law_wide ?dc__law_wide ?dk__law_wide ?da__law_whole ?dl__law_whole ?dc__law_whole ?dk__law_whole ?da__law_listed ?dl__law_listed ?dc__law_listed ?dk__law_listed ?da__law_handed ?dl__law_handed ?dc__law_handed ?dk__law_handed ?da__law_letters ?dl__law_letters ?dc__law_letters ?dk__law_letters ?da__law_name ?dl__law_name ?dc__law_name ?dk__law_name ?da__law_reserved ?dl__law_reserved ?dc__law_reserved ?dk__law_reserved ?da__law_word ?dl__law_word ?dc__law_word ?dk__law_word ?da__law_is_word ?dl__law_is_word ?dc__law_is_word ?dk__law_is_word ?da__law_is_class_name ?dl__law_is_class_name ?dc__law_is_class_name ?dk__law_is_class_name ?da__law_inner_parts ?dl__law_inner_parts ?dc__law_inner_parts ?dk__law_inner_parts ?da__law_is_expr ?dl__law_is_expr ?dc__law_is_expr ?dk__law_is_expr ?da__law_count ?dl__law_count ?dc__law_count ?dk__law_count ?da__law_is_right_expr ?dl__law_is_right_expr ?dc__law_is_right_expr ?dk__law_is_right_expr ?da__law_rank ?dl__law_rank ?dc__law_rank ?dk__law_rank ?da__law_expr_text ?dl__law_expr_text ?dc__law_expr_text ?dk__law_expr_text ?da__law_free_expr ?dl__law_free_expr ?dc__law_free_expr ?dk__law_free_expr ?da__law_wrapped ?dl__law_wrapped ?dc__law_wrapped ?dk__law_wrapped ?da_law ?dl_law ?dc_law ?dk_law ?ca_BLANKS ?ca_CHOICES ?ca_DIGITS ?ca_END ?ca_ENDINGS ?ca_FOLLOWERS ?ca_FORMS ?ca_INTEGER ?ca_LARGEST ?ca_LOWER ?ca_MOST_EXPRESSIONS ?ca_MOST_LETTERS ?ca_MOST_LEVELS ?ca_MOST_TAKES ?ca_MOST_VALUES ?ca_NAME ?ca_NEARER ?ca_PRODUCTS ?ca_RESERVED ?ca_ROWS ?ca_SIGNS_bodies ?ca_SIGNS_printing ?ca_SIGNS_scanning ?ca_STRANGE ?ca_SUMS ?ca_UPPER ?ca_WORD ?ca_WORDS ?z_bool ?z_int ?z_isinstance ?z_len ?z_list ?z_max ?z_range ?z_str ?z_sum ?z_tuple ?z_zip ?b_RESERVED ?b_ROWS ?b_CHOICES ?b_SUMS ?b_PRODUCTS ?b_SIGNS_scanning ?b_SIGNS_bodies ?b_FORMS ?d_FORMS ?b_SIGNS_printing ?d_SIGNS_printing ?b_WORDS ?d_WORDS ?b_FOLLOWERS ?d_FOLLOWERS ?b_ENDINGS ?d_ENDINGS ?b_NEARER ?d_NEARER ?aC_Cursor ?ma_Cursor_I ?mi_Cursor_I ?ml_Cursor_I ?mc_Cursor_I ?mk_Cursor_I ?ma_Cursor_K ?mi_Cursor_K ?ml_Cursor_K ?mc_Cursor_K ?mk_Cursor_K ?ma_Cursor_B ?mi_Cursor_B ?ml_Cursor_B ?mc_Cursor_B ?mk_Cursor_B ?ma_Cursor_T ?mi_Cursor_T ?ml_Cursor_T ?mc_Cursor_T ?mk_Cursor_T ?ma_Cursor_S ?mi_Cursor_S ?ml_Cursor_S ?mc_Cursor_S ?mk_Cursor_S ?pg_Cursor ?hd_Cursor ?po_Cursor ?sa_Cursor ?mks_Cursor ?kc_Cursor ?nf_Cursor_tokens ?nf_Cursor_place
    (case da_is_integer => k_is)
    (case dl_is_integer => k_is)
    (case dc_is_integer => k_is)
    (case dk_is_integer => k_is)
    (case da_is_sequence => k_is)
    (case dl_is_sequence => k_is)
    (case dc_is_sequence => k_is)
    (case dk_is_sequence => k_is)
    (case da_are_lower => k_is)
    (case dl_are_lower => k_is)
    (case dc_are_lower => k_is)
    (case dk_are_lower => k_is)
    (case da_is_name => k_is)
    (case dl_is_name => k_is)
    (case dc_is_name => k_is)
    (case dk_is_name => k_is)
    (case da_is_class_word => k_is)
    (case dl_is_class_word => k_is)
    (case dc_is_class_word => k_is)
    (case dk_is_class_word => k_is)
    (case da_is_class_name => k_is)
    (case dl_is_class_name => k_is)
    (case dc_is_class_name => k_is)
    (case dk_is_class_name => k_is)
    (case da_is_generic_name => k_is)
    (case dl_is_generic_name => k_is)
    (case dc_is_generic_name => k_is)
    (case dk_is_generic_name => k_is)
    (case da_is_expression => k_is)
    (case dl_is_expression => k_is)
    (case dc_is_expression => k_is)
    (case dk_is_expression => k_is)
    (case da_form_parts => k_is)
    (case dl_form_parts => k_is)
    (case dc_form_parts => k_is)
    (case dk_form_parts => k_is)
    (case da_is_member => k_is)
    (case dl_is_member => k_is)
    (case dc_is_member => k_is)
    (case dk_is_member => k_is)
    (case da_printed_expression => k_is)
    (case dl_printed_expression => k_is)
    (case dc_printed_expression => k_is)
    (case dk_printed_expression => k_is)
    (case da_expression_text => k_is)
    (case dl_expression_text => k_is)
    (case dc_expression_text => k_is)
    (case dk_expression_text => k_is)
    (case da_arguments_text => k_is)
    (case dl_arguments_text => k_is)
    (case dc_arguments_text => k_is)
    (case dk_arguments_text => k_is)
    (case da_field_text => k_is)
    (case dl_field_text => k_is)
    (case dc_field_text => k_is)
    (case dk_field_text => k_is)
    (case da_sign_text => k_is)
    (case dl_sign_text => k_is)
    (case dc_sign_text => k_is)
    (case dk_sign_text => k_is)
    (case da_choice_text => k_is)
    (case dl_choice_text => k_is)
    (case dc_choice_text => k_is)
    (case dk_choice_text => k_is)
    (case da_part_text => k_is)
    (case dl_part_text => k_is)
    (case dc_part_text => k_is)
    (case dk_part_text => k_is)
    (case da_tokens_of => k_is)
    (case dl_tokens_of => k_is)
    (case dc_tokens_of => k_is)
    (case dk_tokens_of => k_is)
    (case da_end_of_token => k_is)
    (case dl_end_of_token => k_is)
    (case dc_end_of_token => k_is)
    (case dk_end_of_token => k_is)
    (case da_end_of_run => k_is)
    (case dl_end_of_run => k_is)
    (case dc_end_of_run => k_is)
    (case dk_end_of_run => k_is)
    (case da_kind_of => k_is)
    (case dl_kind_of => k_is)
    (case dc_kind_of => k_is)
    (case dk_kind_of => k_is)
    (case da_is_number => k_is)
    (case dl_is_number => k_is)
    (case dc_is_number => k_is)
    (case dk_is_number => k_is)
    (case da_read_class_name => k_is)
    (case dl_read_class_name => k_is)
    (case dc_read_class_name => k_is)
    (case dk_read_class_name => k_is)
    (case da_read_expression => k_is)
    (case dl_read_expression => k_is)
    (case dc_read_expression => k_is)
    (case dk_read_expression => k_is)
    (case da_read_primary => k_is)
    (case dl_read_primary => k_is)
    (case dc_read_primary => k_is)
    (case dk_read_primary => k_is)
    (case da_read_start => k_is)
    (case dl_read_start => k_is)
    (case dc_read_start => k_is)
    (case dk_read_start => k_is)
    (case da_start_choice => k_is)
    (case dl_start_choice => k_is)
    (case dc_start_choice => k_is)
    (case dk_start_choice => k_is)
    (case da_start_new => k_is)
    (case dl_start_new => k_is)
    (case dc_start_new => k_is)
    (case dk_start_new => k_is)
    (case da_start_name => k_is)
    (case dl_start_name => k_is)
    (case dc_start_name => k_is)
    (case dk_start_name => k_is)
    (case da_read_on => k_is)
    (case dl_read_on => k_is)
    (case dc_read_on => k_is)
    (case dk_read_on => k_is)
    (case da_read_field => k_is)
    (case dl_read_field => k_is)
    (case dc_read_field => k_is)
    (case dk_read_field => k_is)
    (case da_joined => k_is)
    (case dl_joined => k_is)
    (case dc_joined => k_is)
    (case dk_joined => k_is)
    (case da_complete => k_is)
    (case dl_complete => k_is)
    (case dc_complete => k_is)
    (case dk_complete => k_is)
    (case da_with_argument => k_is)
    (case dl_with_argument => k_is)
    (case dc_with_argument => k_is)
    (case dk_with_argument => k_is)
    (case da_parse_expression => k_is)
    (case dl_parse_expression => k_is)
    (case dc_parse_expression => k_is)
    (case dk_parse_expression => k_is)
    (case da__law_so => k_is)
    (case dl__law_so => k_is)
    (case dc__law_so => k_is)
    (case dk__law_so => k_is)
    (case da__law_numbers => k_is)
    (case dl__law_numbers => k_is)
    (case dc__law_numbers => k_is)
    (case dk__law_numbers => k_is)
    (case da__law_draw => k_is)
    (case dl__law_draw => k_is)
    (case dc__law_draw => k_is)
    (case dk__law_draw => k_is)
    (case da__law_take => k_is)
    (case dl__law_take => k_is)
    (case dc__law_take => k_is)
    (case dk__law_take => k_is)
    (case da__law_wide => k_is)
    (case dl__law_wide => k_is)
    (case dc__law_wide => k_is)
    (case dk__law_wide => k_is)
    (case da__law_whole => k_is)
    (case dl__law_whole => k_is)
    (case dc__law_whole => k_is)
    (case dk__law_whole => k_is)
    (case da__law_listed => k_is)
    (case dl__law_listed => k_is)
    (case dc__law_listed => k_is)
    (case dk__law_listed => k_is)
    (case da__law_handed => k_is)
    (case dl__law_handed => k_is)
    (case dc__law_handed => k_is)
    (case dk__law_handed => k_is)
    (case da__law_letters => k_is)
    (case dl__law_letters => k_is)
    (case dc__law_letters => k_is)
    (case dk__law_letters => k_is)
    (case da__law_name => k_is)
    (case dl__law_name => k_is)
    (case dc__law_name => k_is)
    (case dk__law_name => k_is)
    (case da__law_reserved => k_is)
    (case dl__law_reserved => k_is)
    (case dc__law_reserved => k_is)
    (case dk__law_reserved => k_is)
    (case da__law_word => k_is)
    (case dl__law_word => k_is)
    (case dc__law_word => k_is)
    (case dk__law_word => k_is)
    (case da__law_is_word => k_is)
    (case dl__law_is_word => k_is)
    (case dc__law_is_word => k_is)
    (case dk__law_is_word => k_is)
    (case da__law_is_class_name => k_is)
    (case dl__law_is_class_name => k_is)
    (case dc__law_is_class_name => k_is)
    (case dk__law_is_class_name => k_is)
    (case da__law_inner_parts => k_is)
    (case dl__law_inner_parts => k_is)
    (case dc__law_inner_parts => k_is)
    (case dk__law_inner_parts => k_is)
    (case da__law_is_expr => k_is)
    (case dl__law_is_expr => k_is)
    (case dc__law_is_expr => k_is)
    (case dk__law_is_expr => k_is)
    (case da__law_count => k_is)
    (case dl__law_count => k_is)
    (case dc__law_count => k_is)
    (case dk__law_count => k_is)
    (case da__law_is_right_expr => k_is)
    (case dl__law_is_right_expr => k_is)
    (case dc__law_is_right_expr => k_is)
    (case dk__law_is_right_expr => k_is)
    (case da__law_rank => k_is)
    (case dl__law_rank => k_is)
    (case dc__law_rank => k_is)
    (case dk__law_rank => k_is)
    (case da__law_expr_text => k_is)
    (case dl__law_expr_text => k_is)
    (case dc__law_expr_text => k_is)
    (case dk__law_expr_text => k_is)
    (case da__law_free_expr => k_is)
    (case dl__law_free_expr => k_is)
    (case dc__law_free_expr => k_is)
    (case dk__law_free_expr => k_is)
    (case da__law_wrapped => k_is)
    (case dl__law_wrapped => k_is)
    (case dc__law_wrapped => k_is)
    (case dk__law_wrapped => k_is)
    (case da_law => k_is)
    (case dl_law => k_is)
    (case dc_law => k_is)
    (case dk_law => k_is)
    (case ca_BLANKS => k_is)
    (case ca_CHOICES => k_is)
    (case ca_DIGITS => k_is)
    (case ca_END => k_is)
    (case ca_ENDINGS => k_is)
    (case ca_FOLLOWERS => k_is)
    (case ca_FORMS => k_is)
    (case ca_INTEGER => k_is)
    (case ca_LARGEST => k_is)
    (case ca_LOWER => k_is)
    (case ca_MOST_EXPRESSIONS => k_is)
    (case ca_MOST_LETTERS => k_is)
    (case ca_MOST_LEVELS => k_is)
    (case ca_MOST_TAKES => k_is)
    (case ca_MOST_VALUES => k_is)
    (case ca_NAME => k_is)
    (case ca_NEARER => k_is)
    (case ca_PRODUCTS => k_is)
    (case ca_RESERVED => k_is)
    (case ca_ROWS => k_is)
    (case ca_SIGNS_bodies => k_is)
    (case ca_SIGNS_printing => k_is)
    (case ca_SIGNS_scanning => k_is)
    (case ca_STRANGE => k_is)
    (case ca_SUMS => k_is)
    (case ca_UPPER => k_is)
    (case ca_WORD => k_is)
    (case ca_WORDS => k_is)
    (case z_bool => k_is)
    (case z_int => k_is)
    (case z_isinstance => k_is)
    (case z_len => k_is)
    (case z_list => k_is)
    (case z_max => k_is)
    (case z_range => k_is)
    (case z_str => k_is)
    (case z_sum => k_is)
    (case z_tuple => k_is)
    (case z_zip => k_is)
    (case b_RESERVED => kernel_rfl)
    (case b_ROWS => kernel_rfl)
    (case b_CHOICES => kernel_rfl)
    (case b_SUMS => kernel_rfl)
    (case b_PRODUCTS => kernel_rfl)
    (case b_SIGNS_scanning => kernel_rfl)
    (case b_SIGNS_bodies => kernel_rfl)
    (case b_FORMS => kernel_rfl)
    (case d_FORMS => kernel_rfl)
    (case b_SIGNS_printing => kernel_rfl)
    (case d_SIGNS_printing => kernel_rfl)
    (case b_WORDS => kernel_rfl)
    (case d_WORDS => kernel_rfl)
    (case b_FOLLOWERS => kernel_rfl)
    (case d_FOLLOWERS => kernel_rfl)
    (case b_ENDINGS => kernel_rfl)
    (case d_ENDINGS => kernel_rfl)
    (case b_NEARER => kernel_rfl)
    (case d_NEARER => kernel_rfl)
    (case aC_Cursor => k_is)
    (case ma_Cursor_I => k_is)
    (case mi_Cursor_I => k_is)
    (case ml_Cursor_I => k_is)
    (case mc_Cursor_I => k_is)
    (case mk_Cursor_I => k_is)
    (case ma_Cursor_K => k_is)
    (case mi_Cursor_K => k_is)
    (case ml_Cursor_K => k_is)
    (case mc_Cursor_K => k_is)
    (case mk_Cursor_K => k_is)
    (case ma_Cursor_B => k_is)
    (case mi_Cursor_B => k_is)
    (case ml_Cursor_B => k_is)
    (case mc_Cursor_B => k_is)
    (case mk_Cursor_B => k_is)
    (case ma_Cursor_T => k_is)
    (case mi_Cursor_T => k_is)
    (case ml_Cursor_T => k_is)
    (case mc_Cursor_T => k_is)
    (case mk_Cursor_T => k_is)
    (case ma_Cursor_S => k_is)
    (case mi_Cursor_S => k_is)
    (case ml_Cursor_S => k_is)
    (case mc_Cursor_S => k_is)
    (case mk_Cursor_S => k_is)
    (case pg_Cursor => k_is)
    (case hd_Cursor => k_is)
    (case po_Cursor => k_is)
    (case sa_Cursor => k_is)
    (case mks_Cursor => k_is)
    (case kc_Cursor => k_is)
    (case nf_Cursor_tokens => k_is)
    (case nf_Cursor_place => k_is)
